import PyProof.Rows.All
import Wide.All
import OpenK.AllK
import Wide.FinOn
import Lean
import PyProof.EqAt
import PyProof.EqKinds
import PyProof.TupleCall
import KE.KRevIter
import PyProof.CallType
import PyProof.EnumMake
import PyProof.EnumFor
import PyProof.Draws
import PyProof.Rows.CallKwBuiltin
import PyProof.StrBlockH
import KE.KIntText
import PyProof.Rows.SortStr
import PyProof.TupleIter
import PyProof.ZipIter
import PyProof.Rows.ZipGen
import PyProof.Rows.TupAdd
import KE.KLcPair
import PyProof.IsRules
import PyProof.ListRange
import PyProof.NeKinds
import KE.KTryMore
import OpenK.KOwn
import PyProof.ExcInit
import PyProof.FString
import PyProof.ReprStr
import PyProof.StrLawsRepr
import PyProof.CallStr
import OpenK.KCls
import PyProof.ExcArgsOwn
import PyProof.Rows.StrJoin2
import PyProof.FactsAll.set_2
import PyProof.MeetsSeq2
import PyProof.Rows.Range3
import PyProof.Rows.ChunkLeaf
import PyProof.DictWalks
import PyProof.ListMulRoad
import PyProof.ListCopy
import PyProof.Rows.SumAny
import PyProof.ListIndex
import PySem.Challenge.RW_stirround_k76_ways_and_rings
def AE:=@List.length_map
def Ad:=@List.getElem?_eq_getElem
def Ae:=@Nat.le_refl
def Ag:=@List.getElem?_map
def Ai:=@List.not_mem_nil
def B0:=@PySem.Heap.lt_size
def BG:=@Option.some.inj
def BI:=@PySem.W.mg_of
def BK:=@List.length_append
def BL:=@List.map_cons
def BZ:=@List.length_cons
def Bh:=@List.size_toArray
def Bi:=@Ne.symm
def Br:=@PySem.Heap.get?_push_of_some
def C7:=@List.length_take
def C8:=@Nat.ne_of_lt
def CB:=@List.getElem?_set_ne
def CC:=@List.mem_of_getElem?
def CH:=@List.append_assoc
def CI:=@List.nodup_append
def CJ:=@Nat.zero_le
def CQ:=@Bool.false_ne_true
def CS:=@List.getElem?_set_self
def CZ:=@List.getElem?_append_left
def Cw:=@Array.length_toList
def Cy:=@Nat.lt_of_lt_of_le
def DD:=@PySem.Heap.get?_push_size
def DE:=@List.map_append
def DF:=@List.map_map
def Dh:=@List.getElem?_append_right
def Di:=@List.mem_append_right
def Dj:=@Nat.le_trans
def Dk:=@PySem.PassesOwn.never
def E9:=@List.append_nil
def EW:=@List.mem_cons
def Ek:=@Bool.and_eq_true
def FL:=@List.take_length
def FN:=@PySem.mem_of_lookup
def Fu:=@List.getElem_of_mem
def Fw:=@List.mem_append
def Fx:=@List.mem_cons_of_mem
def GS:=@List.lookup_cons
def GU:=@PySem.F.plainAttrs_list
def HD:=@List.all_eq_true
def HE:=@List.getElem_mem
def HF:=@List.length_drop
def HG:=@List.length_set
def HH:=@List.mem_cons_self
def HI:=@List.take_append_drop
def HJ:=@PySem.W.kia_one
def HK:=@PySem.W.mg_none_of
def IF:=@Int.toNat_natCast
def IG:=@List.getElem_idxOf
def IH:=@List.length_singleton
def II:=@List.map_nil
def JH:=@PySem.Heap.size_push
def JI:=@Int.emod_nonneg
def JJ:=@List.drop_zero
def JK:=@List.getElem_take
def JL:=@List.nil_append
def JM:=@Nat.lt_irrefl
def JN:=@Option.map_some
def Ko:=@Int.emod_lt_of_pos
def Kp:=@List.getD_eq_getElem?_getD
def Kq:=@List.take_of_length_le
def Kr:=@List.zip_cons_cons
def MG:=@Bool.true_and
def MH:=@List.any_cons
def MI:=@List.filter_append
def MJ:=@List.nodup_nil
def MK:=@Option.some.injEq
def OU:=@Bool.eq_iff_iff
def OW:=@PySem.Heap.SameBut.update
def OX:=@PySem.Heap.get?_update_self
def OY:=@List.drop_append
def OZ:=@List.find?_cons
def Oa:=@List.foldl_cons
def Ob:=@List.getElem?_range
def Oc:=@List.getElem_map
def Od:=@List.length_nil
def Oe:=@List.mem_append_left
def Of:=@Nat.le_succ
def Og:=@Nat.min_eq_left
def Oh:=@Nat.ne_of_gt
def Ri:=@Bool.and_false
def Rj:=@PySem.Heap.get?_update_other
def Rk:=@List.all_cons
def Rm:=@List.length_filter_le
def Rn:=@List.length_range
def Ro:=@List.mem_of_mem_drop
def Rp:=@List.mem_of_mem_take
def Rq:=@List.set_cons_succ
def Rr:=@List.take_succ_eq_append_getElem
def Rt:=@Nat.lt_of_le_of_lt
def Ru:=@Nat.sub_zero
def Rv:=@Nat.succ.inj
def Rw:=@PySem.F.slot_list_append
def Rx:=@PySem.F.type_list_append
def Xc:=@PySem.F.slot_tuple_iterator_next
def Xd:=@Int.eq_ofNat_of_zero_le
def Xe:=@List.cons_lt_cons_iff
def Xf:=@List.drop_eq_getElem_cons
def Xg:=@List.drop_of_length_le
def Xh:=@List.flatten_cons
def Xi:=@List.getElem?_take
def Xj:=@List.length_zip
def Xk:=@List.map_congr_left
def Xl:=@List.map_take
def Xm:=@List.replicate_succ
def Xn:=@List.reverse_cons
def Xo:=@List.set_cons_zero
def Xp:=@List.set_set
def Xq:=@List.take_sublist
def Xr:=@Nat.le_of_lt
def Xs:=@Nat.le_total
def Xt:=@Nat.lt_succ_of_lt
def Xu:=@Nat.min_eq_right
def Xv:=@Option.isSome_map
def Xx:=@PyProof.Rows.callWith_type1
def gN:=@Array.getElem?_toList
def gO:=@Bool.and_true
def gP:=@Int.le_refl
def gQ:=@Int.lt_of_le_of_lt
def gR:=@List.cons_append
def gS:=@List.dropLast_concat_getLast
def gT:=@List.drop_drop
def gU:=@List.drop_length
def gW:=@List.eraseIdx_sublist
def gX:=@List.filterMap_cons
def gY:=@List.filter_cons
def gZ:=@List.forIn_nil
def gb:=@List.getElem?_drop
def gc:=@List.getElem?_replicate
def gf:=@List.map_drop
def gg:=@List.mem_filter
def gh:=@List.of_mem_zip
def gi:=@List.perm_append_comm
def gj:=@Nat.le_of_eq
def gk:=@Nat.lt_succ_self
def gm:=@Nat.lt_trans
def gn:=@Nat.lt_trichotomy
def gp:=@Nat.min_self
def gq:=@PySem.Paired.length
def gs:=@PySem.F.slot_list_index
def gu:=@PySem.W.callWith_K
def gx:=@PySem.W.plainGet_of
def zE:=@Array.toList_push
def zF:=@PySem.Calls.Name_function_global
def zG:=@PySem.Calls.callWith_builtin
def zH:=@Classical.choose_spec
def zI:=@Decidable.byContradiction
def zJ:=@PySem.F.args_tuple_iterator_next_1
def zK:=@PySem.F.entry_tuple_iterator_next
def zL:=@List.Pairwise.imp
def zM:=@List.Pairwise.map
def zN:=@List.Pairwise.sublist
def zO:=@List.any_eq_false
def zP:=@List.dropLast_eq_take
def zQ:=@List.drop_sublist
def zR:=@List.ext_getElem
def zS:=@List.ext_getElem?
def zT:=@List.foldl_append
def zU:=@List.getElem_drop
def zV:=@List.getElem_inj
def zW:=@List.idxOf_append
def zX:=@List.length_eraseIdx_of_lt
def zY:=@List.length_erase_of_mem
def zZ:=@List.length_pos_of_mem
def za:=@List.length_replicate
def zb:=@List.mem_erase_of_ne
def zc:=@List.mem_of_mem_head?
def zd:=@List.pairwise_lt_range
def ze:=@List.perm_middle
def zf:=@List.take_append_of_le_length
def zg:=@Nat.le_add_right
def zh:=@Nat.le_of_not_lt
def zi:=@Nat.not_lt_of_le
def zj:=@Option.getD_none
def zk:=@Option.isSome_some
def zl:=@PySem.F.slot_list_clear
def zm:=@PySem.F.slot_list_insert
def zo:=@PySem.F.type_list_clear
def zp:=@PySem.F.type_list_index
def zq:=@PySem.W.cellsFrom_some
def zr:=@PySem.W.kitx_dict
def zt:=@PySem.W.kitx_list
def zu:=@PySem.W.methodCall_KW
def zv:=@PySem.SeqAt.RcNeAt.lists_lengths
open PySem PySem.Spec PyProof.Rows
abbrev ZAY:=PySem.W.Frag
abbrev ZAZ:=(List (Addr×Obj))
abbrev ZAa:=(Str->Option Value)
namespace PySem.W.Fast
def tw11324058522634887902:=0
def tw13527235522564935550:=0
def tw3796130422423080202:=0
def tw11960057965024610193:=0
def tw8394141055681428483:=0
def tw12964592445540286993:=0
def tw16609348881414621207:=0
def tw466988831633885640:=0
def tw10325702362594003381:=0
def tw14146429789322321342:=0
def tw6972335277639092968:=0
def tw3976429177597547226:=0
def tw1150136942880857373:=0
def tw4752535056453927553:=0
def tw2386166338824837313:=0
def tw14059441749926134446:=0
def tw15030880492455314955:=0
def tw11440965208235807861:=0
def tw6342483882531765775:=0
def tw9106262098557366233:=0
def tw2175830841221743634:=0
def tw12911597219670931390:=0
def tw13484433378724975291:=0
def tw18332446522566300401:=0
def tw4238237481051658157:=0
def tw17925089842694817734:=0
def tw13612475408801576961:=0
def tw15836452778594691827:=0
def tw555157364998326286:=0
def tw13910182469772354792:=0
def tw5110355800898355705:=0
def tw15346782884627037238:=0
def tw14740202116113690538:=0
def tw18395092004755014494:=0
def tw14662565284632193858:=0
def tw604300697890861671:=0
def tw6288598310667980245:=0
def tw15662649310210163805:=0
def tw1315337002863116292:=0
def tw10599391511630012357:=0
def tw1232015720076345238:=0
def tw7216598036813033139:=0
def tw17660646274547027753:=0
def tw2746136683753887487:=0
def tw16880854942640415040:=0
def tw15663140234696170402:=0
def tw6362131210889474765:=0
def tw11626223468555742099:=0
def tw5862578001119979283:=0
def tw9851338714941213050:=0
def tw6781103809861215860:=0
def tw10575512403827142842:=0
def tw1328488472432976888:=0
def tw4386287095961099447:=0
def tw16681101113022913589:=0
def tw9279123081935273843:=0
def tw18430085632398572313:=0
def tw3815969896302485242:=0
def tw5963308675619910015:=0
def tw4177200245677505432:=0
def tw3584911703009057941:=0
def tw11009659350055575188:=0
def tw15663344034463239701:=0
def tw3396033524164570163:=0
def tw685429103705376030:=0
def tw17584695801469711770:=0
def tw963753145024462349:=0
def tw2276901956013322986:=0
def tw16286489454291452114:=0
def tw8782935998260510497:=0
def tw4367372592022239329:=0
def tw5990589150959936512:=0
def tw15364559372733068362:=0
def tw8013868157878147429:=0
def tw12305831988665723503:=0
def tw8463294179880199589:=0
end PySem.W.Fast
set_option bootstrap.genMatcherCode false
set_option Elab.async false
set_option linter.all false
set_option maxRecDepth 100000
namespace L2
abbrev Key:=Sum Int Str
def KW:Key->Value->Bool
 | .inl k,v=>Value.isInt k v
 | .inr x,v=>Value.isStrOf x v
def tQ (w:World):Key->Int
 | .inl k=>hashInt k
 | .inr x=>hashStr w x
def Gi:∀ {k:Key}{v:Value},KW k v=true->(∃ i t,k=Sum.inl i/\v=Value.int i t)∨(∃ x t,k=Sum.inr x/\v=Value.str x t)
 | .inl i,v,h=>by
  obtain ⟨t,e⟩:=Value.isInt_shape (k:=i) (v:=v) h
  exact .inl ⟨i,t,rfl,e⟩
 | .inr x,v,h=>by
  obtain ⟨t,e⟩:=Value.isStrOf_shape (x:=x) (v:=v) h
  exact .inr ⟨x,t,rfl,e⟩
def oo (i:Int) (t:Tok):KW (.inl i) (.int i t)=true:=by simp [KW,Value.isInt]
def vE (x:Str) (t:Tok):KW (.inr x) (.str x t)=true:=by simp [KW,Value.isStrOf]
def y4 (a b:Int):decide ((Sum.inl a:Key)=Sum.inl b)=(a == b):=by
 by_cases e:a=b
 ·subst e;simp
 ·have h:¬ (Sum.inl a:Key)=Sum.inl b:=fun q=>e (Sum.inl.inj q)
  rw [decide_eq_false h]
  exact (beq_eq_false_iff_ne.mpr e).symm
def ij (a b:Str):decide ((Sum.inr a:Key)=Sum.inr b)=decide (a=b):=by
 by_cases e:a=b
 ·subst e;simp
 ·have h:¬ (Sum.inr a:Key)=Sum.inr b:=fun q=>e (Sum.inr.inj q)
  rw [decide_eq_false h,decide_eq_false e]
def yI (a:Int) (b:Str):decide ((Sum.inl a:Key)=Sum.inr b)=false:=decide_eq_false (fun q=>nomatch q)
def vb (a:Str) (b:Int):decide ((Sum.inr a:Key)=Sum.inl b)=false:=decide_eq_false (fun q=>nomatch q)
def Cq (prog:Program) (w:World):PySem.KeyKind prog w Key where
 is:=KW
 hash:=tQ w
 inj:=fun v a b ha hb=>by
  rcases Gi ha with ⟨i,t,rfl,rfl⟩ | ⟨x,t,rfl,rfl⟩
  ·rcases Gi hb with ⟨j,u,rfl,e⟩ | ⟨y,u,rfl,e⟩
   ·injection e with e1 _;rw [e1]
   ·exact nomatch e
  ·rcases Gi hb with ⟨j,u,rfl,e⟩ | ⟨y,u,rfl,e⟩
   ·exact nomatch e
   ·injection e with e1 _;rw [e1]
 byValue:=fun k v h=>by
  rcases Gi h with ⟨i,t,rfl,rfl⟩ | ⟨x,t,rfl,rfl⟩ <;> rfl
 pyHash:=fun hv h=>by
  rcases Gi hv with ⟨i,t,rfl,rfl⟩ | ⟨x,t,rfl,rfl⟩
  ·exact wpAny_pyHash_int h
  ·exact wpAny_pyHash_str h
 eqBool:=fun hu hv h=>by
  rcases Gi hu with ⟨i,t,rfl,rfl⟩ | ⟨x,t,rfl,rfl⟩
  ·rcases Gi hv with ⟨j,u,rfl,rfl⟩ | ⟨y,u,rfl,rfl⟩
   ·rw [y4] at h;exact wpAny_eqBool_int h
   ·rw [yI] at h;exact SeqAt.EqAt.int_str i t y u _ _ _ _ h
  ·rcases Gi hv with ⟨j,u,rfl,rfl⟩ | ⟨y,u,rfl,rfl⟩
   ·rw [vb] at h;exact SeqAt.EqAt.str_int x t j u _ _ _ _ h
   ·rw [ij] at h;exact wpAny_eqBool_str h
 «strs»:=fun k x t v h=>by
  rcases Gi h with ⟨i,u,rfl,e⟩ | ⟨y,u,rfl,e⟩
  ·exact nomatch e
  ·injection e with e1 _
   subst e1
   cases v <;> rfl
def mV (prog:Program) (w:World) (i:Int) (t:Tok):(Cq prog w).is (.inl i) (.int i t)=true:=oo i t
def mQ (prog:Program) (w:World) (x:Str) (t:Tok):(Cq prog w).is (.inr x) (.str x t)=true:=vE x t
inductive V where
 | A5 | bl (b:Bool) | int (i:Int) | str (x:Str) | FW (b:Array UInt8) | Im (b:UInt64) | ref (a:Addr) | ty (n:String)
 deriving DecidableEq
def RelV:V->Value->Prop
 | .A5,u=>u=Value.none
 | .bl b,u=>u=Value.bool b
 | .int i,u=>∃ t,u=Value.int i t
 | .str x,u=>∃ t,u=Value.str x t
 | .FW b,u=>∃ t,u=Value.bytes b t
 | .Im b,u=>∃ t,u=Value.float b t
 | .ref a,u=>u=Value.ref a
 | .ty n,u=>u=Value.type n
abbrev Vals:List V->List Value->Prop:=Paired RelV
theorem Vals.length {xs:List V}{us:List Value}(r:Vals xs us):xs.length=us.length:=gq r
theorem Vals.get:∀ {xs:List V}{us:List Value}{i:Nat}{x:V},Vals xs us->xs[i]?=some x->∃ u,us[i]?=some u/\RelV x u
 | _,_,_,_,.nil,e=>by simp at e
 | _,_,0,_,.cons r _,e=>by simp at e;subst e;exact ⟨_,rfl,r⟩
 | _,_,i+1,x,.cons _ t,e=>by
  obtain ⟨u,h1,h2⟩:=Vals.get (i:=i) (x:=x) t (by simpa using e)
  exact ⟨u,by simpa using h1,h2⟩
theorem Vals.set {x:V}{u:Value}(r:RelV x u):∀ {xs:List V}{us:List Value}(i:Nat),Vals xs us->Vals (xs.set i x) (us.set i u)
 | _,_,_,.nil=>.nil
 | _,_,0,.cons _ t=>.cons r t
 | _,_,i+1,.cons q t=>.cons q (Vals.set r i t)
theorem Vals.append:∀ {xs ys:List V}{us ws:List Value},Vals xs us->Vals ys ws->Vals (xs++ys) (us++ws)
 | _,_,_,_,.nil,s=>s
 | _,_,_,_,.cons r t,s=>.cons r (Vals.append t s)
theorem Vals.take:∀ {xs:List V}{us:List Value}(n:Nat),Vals xs us->Vals (xs.take n) (us.take n)
 | _,_,0,_=>.nil
 | _,_,_+1,.nil=>.nil
 | _,_,n+1,.cons r t=>.cons r (Vals.take n t)
theorem Vals.drop:∀ {xs:List V}{us:List Value}(n:Nat),Vals xs us->Vals (xs.drop n) (us.drop n)
 | _,_,0,r=>r
 | _,_,_+1,.nil=>.nil
 | _,_,n+1,.cons _ t=>Vals.drop n t
def Dq:Option V->Option Value->Prop
 | some v,some u=>RelV v u
 | none,none=>True
 | _,_=>False
def KV {κ:Type}:List (κ×V)->List (κ×Value)->Prop:=Paired fun (p:κ×V) (q:κ×Value)=>p.1=q.1/\RelV p.2 q.2
def kV:Key->V
 | .inl i=>.int i
 | .inr x=>.str x
inductive HO where
 /-- a list -/
 | lst (xs:List V)
 /-- a tuple (never changes) -/
 | tup (xs:List V)
 /-- a dict tD keys are ints and texts;one tD keys are tuples of ints and texts (G5 empty one is both) -/
 | dK (A3:List (Key×V)) | dT (A3:List (List Key×V))
 /-- a set of ints: A1 members,A1 size -/
 | set (S:Int->Bool) (n:Nat)
 /-- an instance of G5 class at C,A1 dict at dx,A1 attributes -/
 | ins (C dx:Addr) (fs:List (Str×V))
 /-- G5 dict of G5 instance at x -/
 | own (x:Addr)
 /-- G5 dict of an exception -/
 | xd (fs:List (Str×V))
 /-- a bound method,f of x -/
 | met (f x:Addr)
 /-- a range object lo,lo+1,.. below hi -/
 | Vd (lo hi:Int)
 /-- a xn ZA6 is known to G5 object (G5 Zy;a dict while a loop walks it): read,never written while it is so -/
 | DR (o:Obj) (u:HO)
 /-- a code ZA7 table -/
 | JQ (ps:Array Value)
 /-- any other xn,by m6 is true of A1 one object (a def of ZAM own: Ra a S n:=HO.ext fun h=>..) -/
 | ext (φ:Heap->Prop)
abbrev Hp:=Addr->Option HO
def upd (H:Hp) (a:Addr) (o:HO):Hp:=fun b=>if b=a then some o else H b
def Aa {H:Hp}{a:Addr}{o:HO}:upd H a o a=some o:=by unfold upd;rw [if_pos rfl]
def AR {H:Hp}{a b:Addr}{o:HO}(h:b≠a):upd H a o b=H b:=by unfold upd;rw [if_neg h]
def rK {H:Hp}{a b:Addr}{o u:HO}(h:H a=some o) (h':H b=some u) (d:o≠u):a≠b:=by
 intro e;subst e;rw [h] at h';exact d (BG h')
def DA {H:Hp}{a b:Addr}{o:HO}(h:H a=some o) (h':H b=none):a≠b:=by
 intro e;subst e;rw [h] at h';cases h'
section
variable (P:Program) (w:World)
def C4 (H:Hp) (h:Heap) (a:Addr):HO->Prop
 | .lst xs=>xs.length<=sizeLine/\∃ (A1:List Value) (n:Nat),Vals xs A1/\h.get? a=some { cls:=.type "list", data:=.seq A1.toArray n }
 | .tup xs=>xs.length<=sizeLine/\∃ A1:List Value,Vals xs A1/\(IsTup h a A1.toArray/\∀ ob,h.get? a=some ob->ob.dict=none)
 | .dK A3=>A3.length<=sizeLine/\(a == sysModules)=false/\∃ vs,KV A3 vs/\h.DictOf (Cq P w) a vs
 | .dT A3=>A3.length<=sizeLine/\(a == sysModules)=false/\∃ xs:List (List Key×Addr×Value),
   Paired (fun (p:List Key×V) (q:List Key×Addr×Value)=>p.1=q.1/\H q.2.1=some (.tup (p.1.map kV))/\RelV p.2 q.2.2) A3 xs/\
   ∃ o es ep,h.get? a=some o/\o.ExactDict/\o.data=.dict es ep/\es.toList=xs.map (entryOfKey (tupleKind (Cq P w)))/\(xs.map (·.1)).Nodup
 | .set S n=>h.SetOf (intKind P w) a S n
 | .ins C dx fs=>H dx=some (.own a)/\fs.length<=1000/\dx≠a/\h.get? a=some (PySem.W.instObj C dx)/\
   ∃ mA,h.Ns1 dx mA/\(∀ f,Dq (fs.lookup f) (mA f))/\PySem.Within mA (fs.map (·.1))
 | .own _=>∃ o,h.get? a=some o
 | .xd fs=>∃ mA,h.Ns1 a mA/\∀ f,Dq (fs.lookup f) (mA f)
 | .Vd lo hi=>∃ t u v,h.get? a=some { cls:=.type "range", data:=.fields #[.int lo t,.int hi u,.int 1 v] }
 | .DR o u=>h.get? a=some o/\C4 H h a u
 | .JQ ps=>h.get? a=some { cls:=.none,data:=.fields ps }
 | .met f x=>h.get? a=some (PySem.W.methodObj (.ref f) (.ref x))
 | .ext φ=>φ h/\(∃ o,h.get? a=some o)/\∀ h1 h2:Heap,φ h1->(∀ o,h1.get? a=some o->h2.get? a=some o)->φ h2
def Bj (H:Hp) (h:Heap):Prop:=∀ a o,H a=some o->C4 P w H h a o
end
section
variable {P:Program}{w:World}{H H':Hp}{h h':Heap}{a:Addr}{o:HO}
theorem C4.lt (x:C4 P w H h a o):a < h.objs.size:=by
 cases o with
 | lst xs=>obtain ⟨_,_,_,_,e⟩:=x;exact B0 e
 | tup xs=>obtain ⟨_,_,_,p⟩:=x;exact p.1.lt
 | dK A3=>obtain ⟨_,_,_,_,o,_,_,e,_⟩:=x;exact B0 e
 | dT A3=>obtain ⟨_,_,_,_,o,_,_,e,_⟩:=x;exact B0 e
 | set S n=>obtain ⟨o,_,_,_,e,_⟩:=x;exact B0 e
 | ins C dx fs=>obtain ⟨_,_,_,e,_⟩:=x;exact B0 e
 | own y=>obtain ⟨_,e⟩:=x;exact B0 e
 | xd fs=>obtain ⟨_,⟨_,_,_,e,_⟩,_⟩:=x;exact B0 e
 | Vd lo hi=>obtain ⟨_,_,_,e⟩:=x;exact B0 e
 | DR ob u=>obtain ⟨e,_⟩:=x;exact B0 e
 | JQ ps=>exact B0 (show h.get? a=some _ from x)
 | met f y=>exact B0 (show h.get? a=some _ from x)
 | ext φ=>obtain ⟨_,⟨_,e⟩,_⟩:=x;exact B0 e
theorem Paired.Py {α β:Type} {F G:α->β->Prop}:∀ {l₁:List α}{l₂:List β},Paired F l₁ l₂->(∀ a b,F a b->G a b)->Paired G l₁ l₂
 | _,_,.nil,_=>.nil
 | _,_,.cons r t,f=>.cons (f _ _ r) (Paired.Py t f)
def C4.Kj (x:C4 P w H h a o) (k:∀ b u,(b=a∨H b=some (.own a))->h.get? b=some u->h'.get? b=some u)
  (ho:∀ b,H b=some (.own a)->H' b=some (.own a)) (ht:∀ b xs,H b=some (.tup xs)->H' b=some (.tup xs)):C4 P w H' h' a o:=by
 induction o with
 | lst xs=>obtain ⟨z,A1,n,r,e⟩:=x;exact ⟨z,A1,n,r,k _ _ (.inl rfl) e⟩
 | tup xs=>obtain ⟨z,A1,r,⟨ob,e,c⟩,dn⟩:=x;exact ⟨z,A1,r,⟨ob,k _ _ (.inl rfl) e,c⟩,fun ZE e'=>by rw [k _ _ (.inl rfl) e] at e';cases e';exact dn _ e⟩
 | dK A3=>obtain ⟨z,y,vs,r,ob,es,ep,e,c⟩:=x;exact ⟨z,y,vs,r,ob,es,ep,k _ _ (.inl rfl) e,c⟩
 | dT A3=>
  obtain ⟨z,y,xs,r,ob,es,ep,e,c⟩:=x
  exact ⟨z,y,xs,Paired.Py r fun p q z=>⟨z.1,ht _ _ z.2.1,z.2.2⟩,ob,es,ep,k _ _ (.inl rfl) e,c⟩
 | set S n=>obtain ⟨ob,es,ep,t,e,c⟩:=x;exact ⟨ob,es,ep,t,k _ _ (.inl rfl) e,c⟩
 | ins C dx fs=>
  obtain ⟨d,z,ne,e,mA,⟨od,es,ep,e2,c⟩,r⟩:=x
  exact ⟨ho _ d,z,ne,k _ _ (.inl rfl) e,mA,⟨od,es,ep,k _ _ (.inr d) e2,c⟩,r⟩
 | own y=>obtain ⟨ob,e⟩:=x;exact ⟨ob,k _ _ (.inl rfl) e⟩
 | xd fs=>obtain ⟨mA,⟨od,es,ep,e,c⟩,r⟩:=x;exact ⟨mA,⟨od,es,ep,k _ _ (.inl rfl) e,c⟩,r⟩
 | Vd lo hi=>obtain ⟨t,u,v,e⟩:=x;exact ⟨t,u,v,k _ _ (.inl rfl) e⟩
 | DR ob u ih=>obtain ⟨e,q⟩:=x;exact ⟨k _ _ (.inl rfl) e,ih q⟩
 | JQ ps=>
  have e:h.get? a=some { cls:=.none,data:=.fields ps }:=x
  show h'.get? a=some { cls:=.none,data:=.fields ps }
  exact k a _ (.inl rfl) e
 | met f y=>
  have e:h.get? a=some (PySem.W.methodObj (.ref f) (.ref y)):=x
  show h'.get? a=some (PySem.W.methodObj (.ref f) (.ref y))
  exact k a _ (.inl rfl) e
 | ext φ=>obtain ⟨p,⟨o,e⟩,st⟩:=x;exact ⟨st _ _ p fun o q=>k _ _ (.inl rfl) q,⟨o,k _ _ (.inl rfl) e⟩,st⟩
theorem Bj.lt (x:Bj P w H h) (e:H a=some o):a < h.objs.size:=(x a o e).lt
def Bj.fresh (x:Bj P w H h) (e:h.objs.size<=a):H a=none:=by
 cases q:H a with
 | none=>rfl
 | some u=>exact absurd (Cy (x.lt q) e) (JM _)
def Bj.kept (x:Bj P w H h) (k:∀ b u,h.get? b=some u->h'.get? b=some u):Bj P w H h':=fun a o e=>
 (x a o e).Kj (fun b u _ q=>k b u q) (fun _ q=>q) fun _ _ q=>q
def Bj.laid (x:Bj P w H h) (k:∀ b u,h.get? b=some u->h'.get? b=some u) (hp:h.objs.size<=a) (new:C4 P w (upd H a o) h' a o):Bj P w (upd H a o) h':=fun b u e=>by
 have hn:=x.fresh hp
 by_cases hb:b=a
 ·subst hb;rw [Aa] at e;cases e;exact new
 ·rw [AR hb] at e
  exact (x b u e).Kj (fun c v _ q=>k c v q) (fun c q=>by rw [AR (DA q hn)];exact q) fun c xs q=>by rw [AR (DA q hn)];exact q
end
def Rd (H:Hp) (a:Addr) (u:HO):Prop:=H a=some u∨∃ o,H a=some (.DR o u)
def Rd.of {H:Hp}{a:Addr}{u:HO}(h:H a=some u):Rd H a u:=.inl h
def Rd.ok {P:Program}{w:World}{H:Hp}{h:Heap}{a:Addr}{u:HO}(r:Rd H a u) (x:Bj P w H h):C4 P w H h a u:=by
 rcases r with r | ⟨o,r⟩
 ·exact x a u r
 ·obtain ⟨_,q⟩:=x a _ r
  exact q
def MX:Option HO->Prop
 | some (.lst _)=>True
 | some (.dK _)=>True
 | some (.dT _)=>True
 | some (.set _ _)=>True
 | some (.ins _ _ _)=>True
 | some (.ext _)=>True
 | _=>False
section
variable {P:Program}{w:World}{H:Hp}{h h':Heap}{x e:Addr}{o':HO}
def Bj.write (ok:Bj P w H h) (mu:MX (H x)) (he:e=x∨H e=some (.own x)) (k:∀ b u,b≠e->h.get? b=some u->h'.get? b=some u) (Ge:∃ u,h'.get? e=some u)
  (new:C4 P w (upd H x o') h' x o'):Bj P w (upd H x o') h':=fun b u q=>by
 have cB:∀ c y,H c=some (.own y)->c≠x:=fun c y r z=>by subst z;rw [r] at mu;exact mu
 have ko:∀ c xs,H c=some (.tup xs)->c≠x:=fun c xs r z=>by subst z;rw [r] at mu;exact mu
 by_cases hb:b=x
 ·subst hb;rw [Aa] at q;cases q;exact new
 ·rw [AR hb] at q
  by_cases K0:b=e
  ·have q':H b=some (.own x):=by
    rcases he with z | z
    ·exact absurd (K0.trans z) hb
    ·rw [K0];exact z
   rw [q] at q';cases q'
   obtain ⟨v,hv⟩:=Ge
   exact ⟨v,by rw [K0];exact hv⟩
  ·refine (ok b u q).Kj (fun c v hc r=>k c v ?_ r) (fun c r=>by rw [AR (cB c b r)];exact r) fun c xs r=>by rw [AR (ko c xs r)];exact r
   rcases hc with rfl | hc
   ·exact K0
   ·rintro rfl
    rcases he with z | z
    ·exact cB c b hc z
    ·rw [hc] at z;cases z;exact hb rfl
end
structure Un (fs ex:List Addr) (H H':Hp) (h h':Heap):Prop where
 keep:∀ b o,h.get? b=some o->H b=none->b∉fs->b∉ex->h'.get? b=some o
 slot:∀ b o,h.get? b=some o->H b=none->b∈fs->b∉ex->∃ sl,h'.get? b=some { o with slots:=sl }
 free:∀ b o,h.get? b=some o->H b=none->b∉ex->H' b=none
 there:∀ b o,h.get? b=some o->b∉ex->∃ o',h'.get? b=some o'
 HS:∀ b xs,H b=some (.tup xs)->H' b=some (.tup xs)
 Gv:∀ b o u,H b=some (.DR o u)->H' b=some (.DR o u)
 IA:∀ b ps,H b=some (.JQ ps)->∃ more,H' b=some (.JQ (ps++more))
section
variable {fs Ua ex aF:List Addr}{H H1 H2:Hp}{h h1 h2 h':Heap}{a x e:Addr}{o:HO}
def Un.any (u:Un fs ex H H1 h h1){b:Addr}{ob:Obj}(q:h.get? b=some ob) (n:H b=none) (hx:b∉ex):∃ sl,h1.get? b=some { ob with slots:=sl }:=by
 by_cases hb:b∈fs
 ·exact u.slot b ob q n hb hx
 ·exact ⟨ob.slots,u.keep b ob q n hb hx⟩
def Un.kept (k:∀ b u,h.get? b=some u->h'.get? b=some u):Un fs ex H H h h':=
 ⟨fun b ob q _ _ _=>k b ob q,fun b ob q _ _ _=>⟨ob.slots,k b ob q⟩,fun _ _ _ n _=>n,fun b ob q _=>⟨ob,k b ob q⟩,fun _ _ q=>q,fun _ _ _ q=>q,fun _ ps q=>⟨#[],by rw [q];simp⟩⟩
def Un.refl:Un fs ex H H h h:=Un.kept fun _ _ q=>q
def Un.laid (k:∀ b u,h.get? b=some u->h'.get? b=some u) (hp:h.objs.size<=a) (hn:H a=none):Un fs ex H (upd H a o) h h' where
 keep:=fun b u q _ _ _=>k b u q
 slot:=fun b u q _ _ _=>⟨u.slots,k b u q⟩
 free:=fun b u q n _=>by rw [AR (C8 (Cy (B0 q) hp))];exact n
 there:=fun b u q _=>⟨u,k b u q⟩
 HS:=fun b xs q=>by rw [AR (DA q hn)];exact q
 Gv:=fun b u xs q=>by rw [AR (DA q hn)];exact q
 IA:=fun b ps q=>⟨#[],by rw [AR (DA q hn),q];simp⟩
def Un.write (mu:MX (H x)) (he:e=x∨H e=some (.own x)) (k:∀ b u,b≠e->h.get? b=some u->h'.get? b=some u) (Ge:∃ u,h'.get? e=some u):Un fs ex H (upd H x o) h h':=by
 have hx:∀ b,H b=none->b≠x:=fun b n z=>by subst z;rw [n] at mu;exact mu
 have hb:∀ b,H b=none->b≠e:=fun b n z=>by
  subst z
  rcases he with r | r
  ·exact hx b n r
  ·rw [n] at r;cases r
 have hm:∀ b u,H b=some u->¬ MX (some u)->b≠x:=fun b u q nm z=>by subst z;rw [q] at mu;exact nm mu
 refine ⟨fun b u q n _ _=>k b u (hb b n) q,fun b u q n _ _=>⟨u.slots,k b u (hb b n) q⟩,fun b u q n _=>by rw [AR (hx b n)];exact n,fun b u q _=>?_,
  fun b xs q=>by rw [AR (hm b _ q fun z=>z)];exact q,fun b u xs q=>by rw [AR (hm b _ q fun z=>z)];exact q,fun b ps q=>⟨#[],by rw [AR (hm b _ q fun z=>z),q];simp⟩⟩
 by_cases K0:b=e
 ·subst K0;exact Ge
 ·exact ⟨u,k b u K0 q⟩
def Un.mono (u:Un fs ex H H1 h h1) (hs:∀ b∈fs,b∈Ua) (hx:∀ b∈ex,b∈aF):Un Ua aF H H1 h h1:=
 ⟨fun b ob q n hb he=>u.keep b ob q n (fun z=>hb (hs b z)) fun z=>he (hx b z),fun _ _ q n _ he=>u.any q n fun z=>he (hx _ z),fun b ob q n he=>u.free b ob q n fun z=>he (hx b z),fun b ob q he=>u.there b ob q fun z=>he (hx b z),u.HS,u.Gv,u.IA⟩
end
def Pd (h:Heap) (H:Hp):List Addr:=(List.range h.objs.size).filter fun a=>(H a).isSome
def HM (h:Heap) (H:Hp):Heap:=PySem.W.hideAll h (Pd h H)
def oF (h:Heap) (H:Hp):(HM h H).objs.size=h.objs.size:=PySem.W.hideAll_size _ _
def v7 {h:Heap}{H:Hp}{b:Addr}{o:Obj}(e:h.get? b=some o) (n:H b=none):(HM h H).get? b=some o:=
 PySem.W.hideAll_get _ e fun hm=>by
  have q:(H b).isSome=true:=(List.mem_filter.mp hm).2
  rw [n] at q;simp at q
def vq {h:Heap}{H:Hp}{b:Addr}{o:Obj}(e:(HM h H).get? b=some o):h.get? b=some o/\H b=none:=by
 have e':h.get? b=some o:=PySem.W.of_hideAll (Pd h H) e
 refine ⟨e',?_⟩
 cases q:H b with
 | none=>rfl
 | some x=>
  have hm:b∈Pd h H:=List.mem_filter.mpr ⟨List.mem_range.mpr (B0 e'),by simp [q]⟩
  have z:(HM h H).get? b=none:=PySem.W.hideAll_none (Pd h H) hm
  rw [z] at e;cases e
def jR (g h:Heap) (L:Addr):ZAZ:=(List.range h.objs.size).filterMap fun a=>if a=L∨(g.get? a).isSome=true then none else (h.get? a).map fun o=>(a,o)
def rest (g h:Heap) (L d:Addr):ZAZ:=(jR g h L).filter fun p=>decide (p.1≠d)
structure Mod (K:ZAY) (mg:ZAa) (base:Heap):Prop where
 Mx:K.In base
 glob:base.Ns mainGlobals mg
 blt:∃ mb,base.Ns builtinsNs mb/\∀ x:Str,x ≠ "__name__" -> mb x=bootBuiltins x
 nolimit:base.NoLimit
structure Cx where
 prog:Program
 w:World
 K:ZAY
 mg:ZAa
 base:Heap
 A:Around
 N:List Str
 s₀:Shared
 H₀:Hp
 env:Env
 outer:List Env
 stack:List Env
 ex:List Addr
 fn:Str->Bool
 calm:Bool
 pn:ZAZ
 xe:Value->Shared->Prop
def FX (l:List Env):List Addr:=l.filterMap (·.frame)
abbrev Cx.fs (X:Cx):List Addr:=FX X.outer
def Pr (sc:Scope) (x:Str):Prop:=sc.names.lookup x=some .local∨sc.names.lookup x=some .cell∨sc.names.lookup x=some .free
def Loc (sc:Scope) (x:Str):Prop:=sc.names.lookup x=some .local∨sc.names.lookup x=some .cell
def Look (env:Env) (h:Heap) (m:ZAa) (x:Str) (u:Value):Prop:=
 (env.kindOf x=some .local/\m x=some u)∨((env.kindOf x=some .cell∨env.kindOf x=some .free)/\∃ c,env.cells.lookup x=some c/\h.IsCell c (some u))
structure Cx.Ok (X:Cx):Prop where
 mod:Mod X.K X.mg X.base
 kind:X.env.scope.kind=.function
 glob:X.env.globals=mainGlobals
 blt:X.env.builtins=builtinsNs
 above:X.s₀.heap.objs.size<=X.env.locals
 inj:∀ x y c,X.env.cells.lookup x=some c->X.env.cells.lookup y=some c->x=y
 has:∀ x,(X.env.kindOf x=some .cell∨X.env.kindOf x=some .free)->∃ c,X.env.cells.lookup x=some c
 O9:∀ x c,X.fn x=true->X.env.cells.lookup x=some c->X.s₀.heap.objs.size<=c
 hd:X.calm=true->X.A.handled=none
 frames:X.A.frames=some X.stack
 Pm:X.stack=X.outer∨(X.stack=X.env :: X.outer/\X.env.frame=some X.env.locals)
 Ic:∀ b∈X.ex,b≠X.env.locals/\∀ x c,X.env.cells.lookup x=some c->c≠b
 bs:∀ b o,X.base.get? b=some o->X.s₀.heap.get? b=some o/\X.H₀ b=none
 Ew:X.base.objs.size<=X.s₀.heap.objs.size
 KN:∀ b o,X.base.get? b=some o->b∉X.ex
 K9:∀ b∈X.ex,b∉X.fs
 FU:X.s₀.heap.FunFrames X.base X.outer
 KZ:∀ b∈X.fs,X.H₀ b=none
structure Inv (X:Cx) (pins:ZAZ) (σ:List (Option V)) (H:Hp) (s:Shared):Prop where
 ok:X.Ok
 os:s.os=X.s₀.os
 bare:AllBare s.gens
 base:Un X.fs X.ex X.H₀ H X.s₀.heap s.heap
 loc:∃ m,s.heap.Ns X.env.locals m/\∀ (i:Nat) (x:Str) (v:V),X.N[i]?=some x->σ[i]?=some (some v)->Pr X.env.scope x->∃ u,RelV v u/\Look X.env s.heap m x u
 cell:∀ x c,X.env.cells.lookup x=some c->∃ v,s.heap.IsCell c v
 free:H X.env.locals=none
 FQ:∀ x c,X.env.cells.lookup x=some c->H c=none
 pin:∀ p∈X.pn++pins,s.heap.get? p.1=some p.2/\H p.1=none/\p.1≠X.env.locals/\p.1∉X.fs/\∀ v,p.2.data≠.cell v
 AF:Bj X.prog X.w H s.heap
 len:σ.length=X.N.length
section
variable {X:Cx}{pins:ZAZ}{σ:List (Option V)} {H H':Hp}{s:Shared}{h':Heap}
def Cx.Ok.ml (ok:X.Ok){b:Addr}{o:Obj}(e:X.base.get? b=some o):b∉X.fs:=fun hb=>by
 have:=(ok.FU.mem hb).1
 rw [e] at this;cases this
theorem Inv.bs (I:Inv X pins σ H s):∀ b o,X.base.get? b=some o->s.heap.get? b=some o/\H b=none:=fun b o e=>
 ⟨I.base.keep b o (I.ok.bs b o e).1 (I.ok.bs b o e).2 (I.ok.ml e) (I.ok.KN b o e),I.base.free b o (I.ok.bs b o e).1 (I.ok.bs b o e).2 (I.ok.KN b o e)⟩
def Inv.bk (I:Inv X pins σ H s):∀ b o,X.base.get? b=some o->s.heap.get? b=some o:=fun b o e=>(I.bs b o e).1
theorem Inv.mod (I:Inv X pins σ H s):Mod X.K X.mg X.base:=I.ok.mod
def Inv.CM (I:Inv X pins σ H s):X.K.In s.heap:=I.ok.mod.Mx.keeps I.bk
theorem Inv.lt (I:Inv X pins σ H s):X.env.locals < s.heap.objs.size:=let ⟨_,hn,_⟩:=I.loc;hn.lt
def Inv.sz (I:Inv X pins σ H s):X.s₀.heap.objs.size<=s.heap.objs.size:=Dj I.ok.above (Xr I.lt)
def Inv.uJ (I:Inv X pins σ H s){a:Addr}(h:s.heap.objs.size<=a):a∉X.fs:=fun hb=>by
 obtain ⟨_,o,ho,_⟩:=I.ok.FU.mem hb
 exact absurd (Cy (B0 ho) (Dj I.sz h)) (JM _)
def Inv.Ju (I:Inv X pins σ H s):∀ x c,X.env.cells.lookup x=some c->c≠X.env.locals:=fun x c e z=>by
 obtain ⟨v,o,ho,hd⟩:=I.cell x c e
 obtain ⟨m,⟨o',es,ep,EO,NC,_⟩,_⟩:=I.loc
 rw [z,EO] at ho;cases ho;rw [NC] at hd;cases hd
theorem Inv.FU (I:Inv X pins σ H s):s.heap.FunFrames X.base X.outer:=by
 have all:∀ (l:List Env),(∀ b∈FX l,b∈X.fs)->X.s₀.heap.FunFrames X.base l->s.heap.FunFrames X.base l:=by
  intro l
  induction l with
  | nil=>intro _ _;trivial
  | cons env r ih=>
   intro hs hl
   obtain ⟨hk,⟨L,o,hf,hn,ho,hd⟩,hr⟩:=hl
   have hL:L∈X.fs:=hs L (by unfold FX;rw [gX,hf];exact HH)
   obtain ⟨sl,e⟩:=I.base.slot L o ho (I.ok.KZ L hL) hL fun z=>I.ok.K9 L z hL
   exact ⟨hk,⟨L,_,hf,hn,e,hd⟩,ih (fun b hb=>hs b (by unfold FX;rw [gX,hf];exact Fx _ hb)) hr⟩
 exact all X.outer (fun _ hb=>hb) I.ok.FU
theorem Inv.stack (I:Inv X pins σ H s):s.heap.FunFrames X.base X.stack:=by
 rcases I.ok.Pm with e | ⟨e,hf⟩
 ·rw [e];exact I.FU
 ·rw [e]
  obtain ⟨m,hn,_⟩:=I.loc
  refine .cons (by rw [I.ok.kind];decide) hf hn ?_ I.FU
  exact Heap.get?_none_of_le (Dj I.ok.Ew I.ok.above)
def Inv.ON (I:Inv X pins σ H s):∀ b∈FX X.stack,b∈X.env.locals :: X.fs:=fun b hb=>by
 rcases I.ok.Pm with e | ⟨e,hf⟩
 ·rw [e] at hb;exact Fx _ hb
 ·rw [e] at hb
  unfold FX at hb
  rw [gX,hf] at hb
  exact hb
def Inv.RJ (I:Inv X pins σ H s):∀ b∈FX X.stack,H b=none:=fun b hb=>by
 rcases List.mem_cons.mp (I.ON b hb) with e | hb
 ·rw [e];exact I.free
 ·obtain ⟨_,o,ho,_⟩:=I.ok.FU.mem hb
  exact I.base.free b o ho (I.ok.KZ b hb) fun z=>I.ok.K9 b z hb
def Inv.step {g':Array GenState}{t':Nat}{d':Drawn}{ch:List Addr}(I:Inv X pins σ H s)
  (Gs:∀ b∈ch,(b∈X.ex∨X.s₀.heap.objs.size<=b)/\b≠X.env.locals/\(∀ x c,X.env.cells.lookup x=some c->c≠b)/\∀ p∈X.pn++pins,p.1≠b)
  (keep:∀ b o,b≠X.env.locals->b∉X.fs->b∉ch->s.heap.get? b=some o->H b=none->h'.get? b=some o)
  (slot:∀ b o,b≠X.env.locals->b∈X.fs->b∉ch->s.heap.get? b=some o->H b=none->∃ sl,h'.get? b=some { o with slots:=sl }) (free:∀ b o,b∉ch->s.heap.get? b=some o->H b=none->H' b=none)
  (there:∀ b o,b∉ch->s.heap.get? b=some o->∃ o',h'.get? b=some o')
  (HS:∀ b xs,H b=some (.tup xs)->H' b=some (.tup xs)) (Gv:∀ b o u,H b=some (.DR o u)->H' b=some (.DR o u)) (IA:∀ b ps,H b=some (.JQ ps)->∃ more,H' b=some (.JQ (ps++more)))
  (ns:∀ m,s.heap.Ns X.env.locals m->h'.Ns X.env.locals m) (AF:Bj X.prog X.w H' h') (hg:AllBare g') :
  Inv X pins σ H' { s with heap:=h',gens:=g',drawn:=d',toks:=t' }:=by
 have dy:∀ b o,X.s₀.heap.get? b=some o->b≠X.env.locals:=fun b o e=>C8 (Cy (B0 e) I.ok.above)
 have Oz:∀ b o,X.s₀.heap.get? b=some o->b∉X.ex->b∉ch:=fun b o e hx hb=>by
  rcases (Gs b hb).1 with z | z
  ·exact hx z
  ·exact absurd (Cy (B0 e) z) (JM _)
 have cellK:∀ x c,X.env.cells.lookup x=some c->∀ v,s.heap.IsCell c v->h'.IsCell c v:=fun x c e v ⟨o,ho,hd⟩=>by
  have N0:c∉ch:=fun z=>(Gs c z).2.2.1 x c e rfl
  by_cases hc:c∈X.fs
  ·obtain ⟨sl,q⟩:=slot c o (I.Ju x c e) hc N0 ho (I.FQ x c e)
   exact ⟨_,q,hd⟩
  ·exact ⟨o,keep c o (I.Ju x c e) hc N0 ho (I.FQ x c e),hd⟩
 refine ⟨I.ok,I.os,hg,⟨fun b o e n hb hx=>?_,fun b o e n hb hx=>?_,fun b o e n hx=>?_,fun b o e hx=>?_,fun b xs e=>HS b xs (I.base.HS b xs e),fun b o xs e=>Gv b o xs (I.base.Gv b o xs e),fun b ps e=>?_⟩,?_,fun x c e=>?_,?_,fun x c e=>?_,fun p hp=>?_,AF,I.len⟩
 ·exact keep b o (dy b o e) hb (Oz b o e hx) (I.base.keep b o e n hb hx) (I.base.free b o e n hx)
 ·obtain ⟨sl,e1⟩:=I.base.slot b o e n hb hx
  obtain ⟨y1,e2⟩:=slot b _ (dy b o e) hb (Oz b o e hx) e1 (I.base.free b o e n hx)
  exact ⟨y1,e2⟩
 ·obtain ⟨o',e1⟩:=I.base.there b o e hx
  exact free b o' (Oz b o e hx) e1 (I.base.free b o e n hx)
 ·obtain ⟨o',e1⟩:=I.base.there b o e hx
  exact there b o' (Oz b o e hx) e1
 ·obtain ⟨m1,e1⟩:=I.base.IA b ps e
  obtain ⟨m2,e2⟩:=IA b _ e1
  exact ⟨m1++m2,by rw [e2,Array.append_assoc]⟩
 ·obtain ⟨m,hn,hl⟩:=I.loc
  refine ⟨m,ns m hn,fun i x v e1 e2 e3=>?_⟩
  obtain ⟨u,r,l⟩:=hl i x v e1 e2 e3
  refine ⟨u,r,?_⟩
  rcases l with l | ⟨k,c,e,z⟩
  ·exact .inl l
  ·exact .inr ⟨k,c,e,cellK x c e _ z⟩
 ·obtain ⟨v,z⟩:=I.cell x c e
  exact ⟨v,cellK x c e v z⟩
 ·obtain ⟨m,⟨o,_,_,ho,_⟩,_⟩:=I.loc
  exact free _ o (fun z=>(Gs _ z).2.1 rfl) ho I.free
 ·obtain ⟨v,o,ho,hd⟩:=I.cell x c e
  exact free c o (fun z=>(Gs c z).2.2.1 x c e rfl) ho (I.FQ x c e)
 ·obtain ⟨e,n,ne,nf,d⟩:=I.pin p hp
  have N0:p.1∉ch:=fun z=>(Gs p.1 z).2.2.2 p hp rfl
  exact ⟨keep p.1 p.2 ne nf N0 e n,free p.1 p.2 N0 e n,ne,nf,d⟩
def Inv.un {t':Nat}(I:Inv X pins σ H s) (u:Un X.fs [] H H' s.heap h') (AF:Bj X.prog X.w H' h'):Inv X pins σ H' { s with heap:=h',toks:=t' }:=by
 obtain ⟨m,⟨o,es,ep,ho,r⟩,_⟩:=id I.loc
 obtain ⟨sl,hL⟩:=u.any ho I.free (by simp)
 exact I.step (g':=s.gens) (d':=s.drawn) (ch:=[]) (fun _ z=>nomatch z) (fun b o _ hb _ e n=>u.keep b o e n hb (by simp)) (fun b o _ hb _ e n=>u.slot b o e n hb (by simp)) (fun b o _ e n=>u.free b o e n (by simp)) (fun b o _ e=>u.there b o e (by simp)) u.HS u.Gv u.IA (fun m' hm=>by
  obtain ⟨o',Cd,GQ,EO,r'⟩:=hm
  rw [ho] at EO;cases EO
  exact ⟨_,Cd,GQ,hL,r'⟩) AF I.bare
def Inv.call {g':Array GenState}{t':Nat}{d':Drawn}{ch:List Addr}(I:Inv X pins σ H s) (u:Un (FX X.stack) ch H H' s.heap h') (AF:Bj X.prog X.w H' h') (hg:AllBare g')
  (Gs:∀ b∈ch,(b∈X.ex∨X.s₀.heap.objs.size<=b)/\b≠X.env.locals/\(∀ x c,X.env.cells.lookup x=some c->c≠b)/\∀ p∈X.pn++pins,p.1≠b) :
  Inv X pins σ H' { s with heap:=h',gens:=g',drawn:=d',toks:=t' }:=by
 obtain ⟨m,⟨o,es,ep,ho,r⟩,_⟩:=id I.loc
 obtain ⟨sl,hL⟩:=u.any ho I.free fun z=>(Gs _ z).2.1 rfl
 exact I.step (ch:=ch) Gs (fun b o hL hb hc e n=>u.keep b o e n (fun z=>(List.mem_cons.mp (I.ON b z)).elim hL hb) hc) (fun b o _ _ hc e n=>u.any e n hc) (fun b o hc e n=>u.free b o e n hc) (fun b o hc e=>u.there b o e hc) u.HS u.Gv u.IA (fun m' hm=>by
  obtain ⟨o',Cd,GQ,EO,r'⟩:=hm
  rw [ho] at EO;cases EO
  exact ⟨_,Cd,GQ,hL,r'⟩) AF hg
def Inv.turned {t':Nat}{it:Addr}(I:Inv X pins σ H s) (k:∀ b o,b≠it->s.heap.get? b=some o->h'.get? b=some o) (hn:H it=none) (hL:it≠X.env.locals)
  (h1:it∈X.ex∨X.s₀.heap.objs.size<=it) (h2:∀ x c,X.env.cells.lookup x=some c->c≠it) (h3:∀ p∈X.pn++pins,p.1≠it):Inv X pins σ H { s with heap:=h',toks:=t' }:=by
 have IV:∀ b u,H b=some u->b≠it:=fun b u e z=>by rw [z,hn] at e;cases e
 refine I.step (g':=s.gens) (d':=s.drawn) (ch:=[it]) (fun b hb=>?_) (fun b o _ _ hc e _=>k b o (fun z=>hc (by simp [z])) e) (fun b o _ _ hc e _=>⟨o.slots,k b o (fun z=>hc (by simp [z])) e⟩) (fun _ _ _ _ n=>n)
  (fun b o hc e=>⟨o,k b o (fun z=>hc (by simp [z])) e⟩) (fun _ _ e=>e) (fun _ _ _ e=>e) (fun b ps e=>⟨#[],by rw [e];simp⟩) (fun m hm=>?_) (fun b u e=>?_) I.bare
 ·have e:b=it:=by simpa using hb
  subst e
  exact ⟨h1,hL,h2,h3⟩
 ·obtain ⟨o,es,ep,ho,r⟩:=hm
  exact ⟨o,es,ep,k _ o (Bi hL) ho,r⟩
 ·refine (I.AF b u e).Kj (fun c v hc q=>k c v ?_ q) (fun _ q=>q) fun _ _ q=>q
  rcases hc with z | z
  ·rw [z];exact IV b u e
  ·exact IV c _ z
def Inv.tok (I:Inv X pins σ H s) (t:Nat):Inv X pins σ H { s with toks:=t }:=I.un (h':=s.heap) (t':=t) Un.refl I.AF
theorem Inv.kept {t':Nat}(I:Inv X pins σ H s) (k:∀ b u,s.heap.get? b=some u->h'.get? b=some u):Inv X pins σ H { s with heap:=h',toks:=t' }:=I.un (Un.kept k) (I.AF.kept k)
theorem Inv.laid {a:Addr}{o:HO}{t':Nat}(I:Inv X pins σ H s) (k:∀ b u,s.heap.get? b=some u->h'.get? b=some u) (hp:s.heap.objs.size<=a) (new:C4 X.prog X.w (upd H a o) h' a o) :
  Inv X pins σ (upd H a o) { s with heap:=h',toks:=t' }:=I.un (Un.laid k hp (I.AF.fresh hp)) (I.AF.laid k hp new)
theorem Inv.write {x e:Addr}{o:HO}{t':Nat}(I:Inv X pins σ H s) (mu:MX (H x)) (he:e=x∨H e=some (.own x)) (k:∀ b u,b≠e->s.heap.get? b=some u->h'.get? b=some u) (Ge:∃ u,h'.get? e=some u)
  (new:C4 X.prog X.w (upd H x o) h' x o):Inv X pins σ (upd H x o) { s with heap:=h',toks:=t' }:=I.un (Un.write mu he k Ge) (I.AF.write mu he k Ge new)
def Inv.Zm {YW:ZAZ}(I:Inv X pins σ H s) (h:∀ p∈YW,s.heap.get? p.1=some p.2/\H p.1=none/\p.1≠X.env.locals/\p.1∉X.fs/\∀ v,p.2.data≠.cell v):Inv X YW σ H s:=
 ⟨I.ok,I.os,I.bare,I.base,I.loc,I.cell,I.free,I.FQ,fun p hp=>(List.mem_append.mp hp).elim (fun z=>I.pin p (Oe _ z)) (h p),I.AF,I.len⟩
def eA {N:List Str}(hN:N.Nodup){i j:Nat}{x:Str}(a:N[i]?=some x) (b:N[j]?=some x):i=j:=by
 obtain ⟨h1,e1⟩:=List.getElem?_eq_some_iff.mp a
 obtain ⟨h2,e2⟩:=List.getElem?_eq_some_iff.mp b
 exact (zV hN).mp (e1.trans e2.symm)
def VJ {M:Model}{A:Around}{E:Value->Shared->Prop}{i:Nat}{x:Str}{v:V}{u:Value}{Q:Unit->Shared->Prop}(I:Inv X pins σ H s) (hN:X.N.Nodup) (hi:X.N[i]?=some x) (hx:Loc X.env.scope x) (r:RelV v u)
  (h:∀ s',Inv X pins (σ.set i (some v)) H s'->(∃ a,Heap.SameBut a s.heap s'.heap/\(a=X.env.locals∨X.env.cells.lookup x=some a))->Q () s') (hf:X.fn x=true∨X.env.scope.names.lookup x=some .local:=by first | exact .inl rfl | exact .inr rfl | assumption):wpAny M A (storeName X.env x u) Q E s:=by
 obtain ⟨m,hn,hl⟩:=id I.loc
 have sO:(X.env.scope.kind == .class || (X.env.scope.kind == .module && X.env.locals != X.env.globals))=false:=by rw [I.ok.kind];rfl
 have hiσ:i < σ.length:=by rw [I.len];exact (List.getElem?_eq_some_iff.mp hi).1
 have Ju:=I.Ju
 have tracked:∀ {a:Addr}{h':Heap},(∃ o,s.heap.get? a=some o/\H a=none)->Heap.SameBut a s.heap h'->Bj X.prog X.w H h':=fun {a h'} ha hs b ob e=>by
  obtain ⟨_,_,eM⟩:=ha
  refine (I.AF b ob e).Kj (fun c w' hc q=>(hs.2 c ?_).trans q) (fun _ q=>q) fun _ _ q=>q
  rintro rfl
  rcases hc with rfl | hc
  ·rw [eM] at e;cases e
  ·rw [eM] at hc;cases hc
 rcases hx with hk | hk
 ·refine wpAny_storeName_local hk hn (fun h' US hs=>?_) sO
  obtain ⟨oL,_,_,lJ,_⟩:=id hn
  refine h _ ⟨I.ok,I.os,I.bare,⟨fun b o e n hb hx=>?_,fun b o e n hb hx=>?_,I.base.free,fun b o e hx=>?_,I.base.HS,I.base.Gv,I.base.IA⟩,⟨_,US,fun j y v' e1 e2 e3=>?_⟩,fun y c e=>?_,I.free,I.FQ,fun p hp=>?_,tracked ⟨oL,lJ,I.free⟩ hs,by simpa using I.len⟩ ⟨_,hs,.inl rfl⟩
  ·exact (hs.2 b (C8 (Cy (B0 e) I.ok.above))).trans (I.base.keep b o e n hb hx)
  ·obtain ⟨sl,e1⟩:=I.base.slot b o e n hb hx
   exact ⟨sl,(hs.2 b (C8 (Cy (B0 e) I.ok.above))).trans e1⟩
  ·obtain ⟨o',e1⟩:=I.base.there b o e hx
   exact ⟨o',(hs.2 b (C8 (Cy (B0 e) I.ok.above))).trans e1⟩
  ·by_cases hj:j=i
   ·subst hj
    rw [hi] at e1;cases e1
    rw [CS hiσ] at e2
    cases e2
    exact ⟨u,r,.inl ⟨hk,by simp⟩⟩
   ·rw [CB (Bi hj)] at e2
    obtain ⟨u',r',q⟩:=hl j y v' e1 e2 e3
    refine ⟨u',r',?_⟩
    rcases q with ⟨k,e⟩ | ⟨k,c,e,z⟩
    ·refine .inl ⟨k,?_⟩
     have:y≠x:=fun e=>hj (eA hN e1 (e▸hi))
     simp [this,e]
    ·exact .inr ⟨k,c,e,z.sameBut hs (Ju y c e)⟩
  ·obtain ⟨w',z⟩:=I.cell y c e
   exact ⟨w',z.sameBut hs (Ju y c e)⟩
  ·obtain ⟨e,n,ne,nf,d⟩:=I.pin p hp
   exact ⟨(hs.2 p.1 ne).trans e,n,ne,nf,d⟩
 ·have X9:X.fn x=true:=by
   rcases hf with z | z
   ·exact z
   ·rw [z] at hk;cases hk
  obtain ⟨c,hc⟩:=I.ok.has x (.inl hk)
  obtain ⟨w',z⟩:=I.cell x c hc
  refine wpAny_storeName_cell I.ok.kind hk hc z (fun h' HL hs=>?_)
  obtain ⟨oc,aG,vc⟩:=id z
  refine h { s with heap:=h' } ⟨I.ok,I.os,I.bare,⟨fun b o e n hb hx=>?_,fun b o e n hb hx=>?_,I.base.free,fun b o e hx=>?_,I.base.HS,I.base.Gv,I.base.IA⟩,⟨m,hn.sameBut hs (Bi (Ju x c hc)),fun j y v' e1 e2 e3=>?_⟩,fun y c' e=>?_,I.free,I.FQ,fun p hp=>?_,tracked ⟨oc,aG,I.FQ x c hc⟩ hs,by simpa using I.len⟩ ⟨c,hs,.inr hc⟩
  ·exact (hs.2 b (C8 (Cy (B0 e) (I.ok.O9 x c X9 hc)))).trans (I.base.keep b o e n hb hx)
  ·obtain ⟨sl,e1⟩:=I.base.slot b o e n hb hx
   exact ⟨sl,(hs.2 b (C8 (Cy (B0 e) (I.ok.O9 x c X9 hc)))).trans e1⟩
  ·obtain ⟨o',e1⟩:=I.base.there b o e hx
   exact ⟨o',(hs.2 b (C8 (Cy (B0 e) (I.ok.O9 x c X9 hc)))).trans e1⟩
  ·by_cases hj:j=i
   ·subst hj
    rw [hi] at e1;cases e1
    rw [CS hiσ] at e2
    cases e2
    exact ⟨u,r,.inr ⟨.inl hk,c,hc,HL⟩⟩
   ·rw [CB (Bi hj)] at e2
    obtain ⟨u',r',q⟩:=hl j y v' e1 e2 e3
    refine ⟨u',r',?_⟩
    rcases q with q | ⟨k,c',e,z'⟩
    ·exact .inl q
    ·refine .inr ⟨k,c',e,z'.sameBut hs ?_⟩
     rintro rfl
     exact hj (eA hN e1 (I.ok.inj _ _ _ e hc▸hi))
  ·by_cases P1:c'=c
   ·subst P1;exact ⟨_,HL⟩
   ·obtain ⟨w2,z2⟩:=I.cell y c' e
    exact ⟨w2,z2.sameBut hs P1⟩
  ·obtain ⟨e,n,ne,nf,d⟩:=I.pin p hp
   refine ⟨(hs.2 p.1 ?_).trans e,n,ne,nf,d⟩
   intro q
   rw [q,aG] at e
   have q':oc=p.2:=BG e
   exact d w' (by rw [<- q'];exact vc)
def cv {M:Model}{A:Around}{E:Value->Shared->Prop}{i:Nat}{x:Str}{v:V}{u:Value}{Q:Unit->Shared->Prop}(I:Inv X pins σ H s) (hN:X.N.Nodup) (hi:X.N[i]?=some x) (hx:Loc X.env.scope x) (r:RelV v u)
  (h:∀ s',Inv X pins (σ.set i (some v)) H s'->Q () s') (hf:X.fn x=true∨X.env.scope.names.lookup x=some .local:=by first | exact .inl rfl | exact .inr rfl | assumption):wpAny M A (storeName X.env x u) Q E s:=
 VJ I hN hi hx r (fun s' I' _=>h s' I') hf
def Inv.Uo {s':Shared}{ch:List Addr}(I:Inv X pins σ H s) (ho:s'.os=s.os) (u:Un (FX X.stack) ch H H' s.heap s'.heap) (AF:Bj X.prog X.w H' s'.heap) (hg:AllBare s'.gens)
  (Gs:∀ b∈ch,(b∈X.ex∨X.s₀.heap.objs.size<=b)/\b≠X.env.locals/\(∀ x c,X.env.cells.lookup x=some c->c≠b)/\∀ p∈X.pn++pins,p.1≠b):Inv X pins σ H' s':=by
 obtain ⟨h',g',d',t',o'⟩:=s'
 have e:o'=s.os:=ho
 subst e
 exact I.call (g':=g') (t':=t') (d':=d') u AF hg Gs
end
abbrev XK:=Value->Option Addr->Hp->Prop
abbrev St:=List (Option V)
abbrev VK:=V->Hp->Prop
abbrev TE:=St->Hp->VK->Prop
abbrev TT:=St->Hp->(Bool->Hp->Prop)->Prop
abbrev TA:=St->Hp->(List V->Hp->Prop)->Prop
structure Ends where
 nx:St->Hp->Prop
 rt:VK
 bk:St->Hp->Prop:=fun _ _=>False
 ct:St->Hp->Prop:=fun _ _=>False
abbrev TS:=Ends->St->Hp->Prop
def EP (X:Cx) (pins:ZAZ) (σ:St) (Q:VK) (u:Value) (s':Shared):Prop:=∃ v H',Inv X pins σ H' s'/\RelV v u/\Q v H'
def TP (X:Cx) (pins:ZAZ) (σ:St) (Q:Bool->Hp->Prop) (b:Bool) (s':Shared):Prop:=∃ H',Inv X pins σ H' s'/\Q b H'
def AP (X:Cx) (pins:ZAZ) (σ:St) (Q:List V->Hp->Prop) (us:List Value) (s':Shared):Prop:=∃ vs H',Inv X pins σ H' s'/\Vals vs us/\Q vs H'
def SP (X:Cx) (pins:ZAZ) (D:Ends) (f:Flow) (s':Shared):Prop:=
 match f with
 | .next=>∃ σ' H',Inv X pins σ' H' s'/\D.nx σ' H'
 | .brk=>∃ σ' H',Inv X pins σ' H' s'/\D.bk σ' H'
 | .cont=>∃ σ' H',Inv X pins σ' H' s'/\D.ct σ' H'
 | .ret u=>∃ v σ' H',Inv X pins σ' H' s'/\RelV v u/\D.rt v H'
def PE (X:Cx) (e:Expr) (t:TE):Prop:=
 ∀ (pins:ZAZ) (s:Shared) (σ:St) (H:Hp) (Q:VK),Inv X pins σ H s->t σ H Q->wpAny (model X.prog X.w) X.A (eval e X.env) (EP X pins σ Q) X.xe s
def PT (X:Cx) (e:Expr) (t:TT):Prop:=
 ∀ (pins:ZAZ) (s:Shared) (σ:St) (H:Hp) (Q:Bool->Hp->Prop),Inv X pins σ H s->t σ H Q->wpAny (model X.prog X.w) X.A (isTrue e X.env (eval e X.env)) (TP X pins σ Q) X.xe s
def PW (X:Cx) (e:Expr) (t:TT):Prop:=
 ∀ (whole:Sem Value) (pins:ZAZ) (s:Shared) (σ:St) (H:Hp) (Q:Bool->Hp->Prop),Inv X pins σ H s->t σ H Q->wpAny (model X.prog X.w) X.A (isTrue e X.env whole) (TP X pins σ Q) X.xe s
def PW.pt {X:Cx}{e:Expr}{t:TT}(h:PW X e t):PT X e t:=h _
def PA (X:Cx) (es:List Expr) (t:TA):Prop:=
 ∀ (pos:Pos) (pins:ZAZ) (s:Shared) (σ:St) (H:Hp) (Q:List V->Hp->Prop),Inv X pins σ H s->t σ H Q->wpAny (model X.prog X.w) X.A (spliced (backTo pos (starEach es X.env))) (AP X pins σ Q) X.xe s
def PS (X:Cx) (st:Stmt) (t:TS):Prop:=
 ∀ (pins:ZAZ) (s:Shared) (σ:St) (H:Hp) (D:Ends),Inv X pins σ H s->t D σ H->wpAny (model X.prog X.w) X.A (exec st X.env) (SP X pins D) X.xe s
def Dv (X:Cx) (st:List Stmt) (t:TS):Prop:=
 ∀ (pins:ZAZ) (s:Shared) (σ:St) (H:Hp) (D:Ends),Inv X pins σ H s->t D σ H->wpAny (model X.prog X.w) X.A (execs st X.env) (SP X pins D) X.xe s
def AH {α:Type} {t:Sem α}{Q Q':α->Shared->Prop}{M:Model}{A:Around}{E:Value->Shared->Prop}{s:Shared}(h:wpAny M A t Q E s) (hQ:∀ a s,Q a s->Q' a s):wpAny M A t Q' E s:=wpAny_mono h hQ fun _ _ x=>x
section
variable {X:Cx}
def BM (i:Nat):TE:=fun σ H Q=>∃ v,σ[i]?=some (some v)/\Q v H
def tC (v:V):TE:=fun _ H Q=>Q v H
def bb {i:Nat}{x:Str}{pos:Pos}(hN:X.N[i]?=some x) (hv:Pr X.env.scope x) (hd:(x == ("__debug__" : Str))=false:=by decide) (Ey:(x == ("__classdict__" : Str))=false:=by decide):PE X (.Name x pos) (BM i):=by
 intro pins s σ H Q I h
 obtain ⟨v,e,h⟩:=h
 obtain ⟨m,hn,hl⟩:=I.loc
 obtain ⟨u,r,l⟩:=hl i x v hN e hv
 have fin:EP X pins σ Q u s:=⟨v,H,I,r,h⟩
 rcases l with ⟨hk,hm⟩ | ⟨hk,c,hc,gF⟩
 ·exact wpAny_Name (wpAny_loadName_local I.ok.kind hk hn hm fin) hd
 ·rcases hk with hk | hk
  ·exact wpAny_Name (wpAny_loadName_cell I.ok.kind hk hc gF fin) hd
  ·exact wpAny_Name (wpAny_loadName_free I.ok.kind hk hc gF fin Ey) hd
def mr {i j pos}:PE X (.Constant (.int i) j pos) (tC (.int i)):=fun _ _ _ H _ I h=>wpAny_Constant_int ⟨.int i,H,I.tok _,⟨_,rfl⟩,h⟩
def kr {b j pos}:PE X (.Constant (.bool b) j pos) (tC (.bl b)):=fun _ _ _ H _ I h=>Constant_bool ⟨.bl b,H,I,rfl,h⟩
def k4 {j pos}:PE X (.Constant .none j pos) (tC .A5):=fun _ _ _ H _ I h=>Constant_none ⟨.A5,H,I,rfl,h⟩
def vX {x j pos}:PE X (.Constant (.str x) j pos) (tC (.str x)):=fun _ _ _ H _ I h=>Calls.Constant_str ⟨.str x,H,I.tok _,⟨_,rfl⟩,h⟩
def Gl (X:Cx) (x:Str):Prop:=X.env.kindOf x=some .globalImplicit
def Td {E:Value->Shared->Prop}{pins:ZAZ}{s:Shared}{σ:St} {H:Hp}{x:Str}{u:Value}{pos:Pos}{Q:Value->Shared->Prop}(I:Inv X pins σ H s) (hg:Gl X x) (hm:X.mg x=some u) (h:Q u s)
  (hd:(x == ("__debug__" : Str))=false:=by decide):wpAny (model X.prog X.w) X.A (eval (.Name x pos) X.env) Q E s:=
 zF I.ok.kind hg (Calls.loadGlobal_global (by rw [I.ok.glob];exact I.mod.glob.keeps I.bk) hm h) hd
def LC {E:Value->Shared->Prop}{pins:ZAZ}{s:Shared}{σ:St} {H:Hp}{x:Str}{u:Value}{pos:Pos}{Q:Value->Shared->Prop}(I:Inv X pins σ H s) (hg:Gl X x) (hm:X.mg x=none) (hv:bootBuiltins x=some u) (h:Q u s)
  (hn:x ≠ "__name__" := by decide) (hd:(x == ("__debug__" : Str))=false:=by decide):wpAny (model X.prog X.w) X.A (eval (.Name x pos) X.env) Q E s:=by
 obtain ⟨mb,h1,h2⟩:=I.mod.blt
 exact zF I.ok.kind hg (Calls.loadGlobal_builtin (by rw [I.ok.glob];exact I.mod.glob.keeps I.bk) hm (by rw [I.ok.blt];exact h1.keeps I.bk) ((h2 x hn).trans hv) h) hd
def mY {x:Str}{v:V}{u:Value}{pos:Pos}(hg:Gl X x) (hm:X.mg x=some u) (r:RelV v u) (hd:(x == ("__debug__" : Str))=false:=by decide):PE X (.Name x pos) (tC v):=
 fun _ _ _ H _ I h=>Td I hg hm ⟨v,H,I,r,h⟩ hd
def oC {x:Str}{v:V}{u:Value}{pos:Pos}(hg:Gl X x) (hm:X.mg x=none) (hv:bootBuiltins x=some u) (r:RelV v u) (hn:x ≠ "__name__" := by decide) (hd:(x == ("__debug__" : Str))=false:=by decide):PE X (.Name x pos) (tC v):=
 fun _ _ _ H _ I h=>LC I hg hm hv ⟨v,H,I,r,h⟩ hn hd
variable {a b:Expr}{ta tb:TE}{pos:Pos}
def PC (X:Cx) (op:CmpOp) (a b:Expr) (t:TE):Prop:=
 ∀ (pins:ZAZ) (s:Shared) (σ:St) (H:Hp) (Q:VK),Inv X pins σ H s->t σ H Q->
  wpAny (model X.prog X.w) X.A (eval a X.env) (fun v s₁=>wpAny (model X.prog X.w) X.A (eval b X.env) (fun u s₂=>wpAny (model X.prog X.w) X.A (compareOp op v u) (EP X pins σ Q) X.xe s₂) X.xe s₁) X.xe s
def jN (b:Expr){op:CmpOp}(h:op≠.In) (h2:op≠.NotIn):behindInMarks op b=false:=by
 have e1:(op == CmpOp.In)=false:=by cases op <;> first | rfl | exact absurd rfl h
 have e2:(op == CmpOp.NotIn)=false:=by cases op <;> first | rfl | exact absurd rfl h2
 cases b <;> simp [behindInMarks,e1,e2]
def tB (t:TE):TT:=fun σ H Q=>t σ H fun x H1=>∃ c,x=.bl c/\Q c H1
def fo {op:CmpOp}{t:TE}(h:PC X op a b t) (h1:behindInMarks op b=false:=by first | exact jN _ (by decide) (by decide) | rfl):PT X (.Compare a [op] [b] pos) (tB t):=by
 intro pins s σ H Q I hw
 refine wpAny_isTrue_Compare1 (AH (h pins s σ H _ I hw) fun v s1 h1=>AH h1 fun u s2 h2=>AH h2 fun c s3 ⟨x,H1,I1,r1,q1⟩=>?_) h1
 obtain ⟨d,rfl,q⟩:=q1
 cases r1
 exact wpAny_truthy_bool ⟨H1,I1,q⟩
def rO {e:Expr}{t:TE}(h:PE X e t) (he:∀ whole,isTrue e X.env whole=(do let v <- whole;standAt e.pos;holding [v] (truthy v)):=by intro _;rfl):PT X e (tB t):=by
 intro pins s σ H Q I hw
 refine isTrue_plain (AH (h pins s σ H _ I hw) fun v s1 ⟨x,H1,I1,r1,q1⟩=>?_) (he _)
 obtain ⟨d,rfl,q⟩:=q1
 cases r1
 exact wpAny_truthy_bool ⟨H1,I1,q⟩
variable {tA IB:TT}{rest:List Expr}
def W3 (t u:TT):TT:=fun σ H Q=>t σ H fun c H1=>if c=true then u σ H1 Q else Q false H1
def WO (t u:TT):TT:=fun σ H Q=>t σ H fun c H1=>if c=true then Q true H1 else u σ H1 Q
def Qm (t:TT):TT:=fun σ H Q=>t σ H fun c H1=>Q (!c) H1
def pw_and1 (ha:PT X a tA):PW X (.BoolOp .And [a] pos) tA:=by
 intro wh pins s σ H Q I h
 refine isTrue_and (AH (ha pins s σ H Q I h) fun c s1 e=>?_)
 cases c with
 | true=>exact isTrue_and_nil e
 | false=>exact e
def pw_or1 (ha:PT X a tA):PW X (.BoolOp .Or [a] pos) tA:=by
 intro wh pins s σ H Q I h
 refine isTrue_or (AH (ha pins s σ H Q I h) fun c s1 e=>?_)
 cases c with
 | false=>exact isTrue_or_nil e
 | true=>exact e
def pw_and (ha:PT X a tA) (hb:PW X (.BoolOp .And (b :: rest) pos) IB):PW X (.BoolOp .And (a :: b :: rest) pos) (W3 tA IB):=by
 intro wh pins s σ H Q I h
 refine isTrue_and (AH (ha pins s σ H _ I h) fun c s1 ⟨H1,I1,q1⟩=>?_)
 cases c with
 | true=>exact hb wh pins s1 σ H1 Q I1 q1
 | false=>exact ⟨H1,I1,q1⟩
def pw_or (ha:PT X a tA) (hb:PW X (.BoolOp .Or (b :: rest) pos) IB):PW X (.BoolOp .Or (a :: b :: rest) pos) (WO tA IB):=by
 intro wh pins s σ H Q I h
 refine isTrue_or (AH (ha pins s σ H _ I h) fun c s1 ⟨H1,I1,q1⟩=>?_)
 cases c with
 | true=>exact ⟨H1,I1,q1⟩
 | false=>exact hb wh pins s1 σ H1 Q I1 q1
def qV (ha:PT X a tA):PT X (.UnaryOp .Not a pos) (Qm tA):=by
 intro pins s σ H Q I h
 exact isTrue_not (ha pins s σ H (fun c H1=>Q (!c) H1) I h)
def Uz (ta tb:TE):TE:=fun σ H Q=>ta σ H fun x H1=>∃ c,x=.bl c/\if c=true then tb σ H1 Q else Q (.bl false) H1
def oN (ta tb:TE):TE:=fun σ H Q=>ta σ H fun x H1=>∃ c,x=.bl c/\if c=true then Q (.bl true) H1 else tb σ H1 Q
def nC (ta:TE):TE:=fun σ H Q=>ta σ H fun x H1=>∃ c,x=.bl c/\Q (.bl (!c)) H1
def lF {op} {t:TE}(h:PE X a t):PE X (.BoolOp op [a] pos) t:=fun pins s σ H Q I hw=>BoolOp_one (h pins s σ H Q I hw)
def oQ (ha:PE X a ta) (hb:PE X (.BoolOp .And (b :: rest) pos) tb):PE X (.BoolOp .And (a :: b :: rest) pos) (Uz ta tb):=by
 intro pins s σ H Q I h
 refine BoolOp_and (AH (ha pins s σ H _ I h) fun v s1 ⟨x,H1,I1,r1,q1⟩=>?_)
 obtain ⟨c,rfl,q1⟩:=q1
 cases r1
 refine wpAny_truthy_bool ?_
 cases c with
 | true=>exact hb pins s1 σ H1 Q I1 q1
 | false=>exact ⟨.bl false,H1,I1,rfl,q1⟩
end
def AJ (K:ZAY) (H:Hp) (a:Addr) (xs:List V):Prop:=
 Rd H a (.lst xs)∨
  ∃ (o:Obj) (A1:Array Value) (n:Nat),K.lookup a=some o/\o.cls=.type "list" /\ o.dict=none/\o.data=.seq A1 n/\A1.size<=sizeLine/\Vals xs A1.toList
def Ab (K:ZAY) (H:Hp) (a:Addr) (xs:List V):Prop:=
 Rd H a (.tup xs)∨
  ∃ (o:Obj) (A1:Array Value) (n:Nat),K.lookup a=some o/\o.cls=.type "tuple" /\ o.data=.seq A1 n/\A1.size<=sizeLine/\Vals xs A1.toList
def yo:Value->Option V
 | .none=>some .A5
 | .bool b=>some (.bl b)
 | .int i _=>some (.int i)
 | .str x _=>some (.str x)
 | .bytes b _=>some (.FW b)
 | .float b _=>some (.Im b)
 | .ref a=>some (.ref a)
 | .type n=>some (.ty n)
 | _=>none
def RelV.abs {x:V}{u:Value}(r:RelV x u):yo u=some x:=by
 cases x with
 | A5=>cases r;rfl
 | bl _=>cases r;rfl
 | int _=>obtain ⟨t,rfl⟩:=r;rfl
 | str _=>obtain ⟨t,rfl⟩:=r;rfl
 | FW _=>obtain ⟨t,rfl⟩:=r;rfl
 | Im _=>obtain ⟨t,rfl⟩:=r;rfl
 | ref _=>cases r;rfl
 | ty _=>cases r;rfl
theorem RelV.inj {x y:V}{u:Value}(r:RelV x u) (q:RelV y u):x=y:=BG (r.abs.symm.trans q.abs)
theorem Vals.inj:∀ {xs ys:List V}{us:List Value},Vals xs us->Vals ys us->xs=ys
 | _,_,_,.nil,.nil=>rfl
 | _,_,_,.cons r t,.cons r' t'=>by rw [r.inj r',Vals.inj t t']
section
variable {X:Cx}{pins:ZAZ}{σ:St} {H:Hp}{s:Shared}{a:Addr}{xs ys:List V}
def AJ.of {K:ZAY}(h:H a=some (.lst xs)):AJ K H a xs:=.inl (.inl h)
def Ab.of {K:ZAY}(h:H a=some (.tup xs)):Ab K H a xs:=.inl (.inl h)
def Inv.list (I:Inv X pins σ H s) (h:AJ X.K H a xs):∃ A1:List Value,Vals xs A1/\PlainL s.heap a A1.toArray/\xs.length<=sizeLine:=by
 rcases h with h | ⟨o,A1,n,hk,hc,hd,hs,hz,r⟩
 ·obtain ⟨z,A1,n,r,e⟩:=h.ok I.AF
  exact ⟨A1,r,⟨_,n,e,rfl,rfl,rfl⟩,z⟩
 ·refine ⟨A1.toList,r,⟨o,n,I.CM a o hk,hc,hd,by simpa using hs⟩,?_⟩
  have e:=r.length
  simp only [Cw] at e
  omega
def Inv.tuple (I:Inv X pins σ H s) (h:Ab X.K H a xs):∃ A1:List Value,Vals xs A1/\IsTup s.heap a A1.toArray/\xs.length<=sizeLine:=by
 rcases h with h | ⟨o,A1,n,hk,hc,hs,hz,r⟩
 ·obtain ⟨z,A1,r,p⟩:=h.ok I.AF
  exact ⟨A1,r,p.1,z⟩
 ·refine ⟨A1.toList,r,⟨o,I.CM a o hk,hc,n,by simpa using hs⟩,?_⟩
  have e:=r.length
  simp only [Cw] at e
  omega
def Inv.Ys (I:Inv X pins σ H s) (h:AJ X.K H a xs) (h':AJ X.K H a ys):xs=ys:=by
 obtain ⟨A1,r,⟨o,n,e,_,_,d⟩,_⟩:=I.list h
 obtain ⟨its',r',⟨o',n',e',_,_,d'⟩,_⟩:=I.list h'
 rw [e] at e';cases e'
 rw [d] at d'
 injection d' with d1 _
 have:A1=its':=by simpa using congrArg Array.toList d1
 subst this
 exact r.inj r'
def Inv.Nf (I:Inv X pins σ H s) (h:Ab X.K H a xs) (h':Ab X.K H a ys):xs=ys:=by
 obtain ⟨A1,r,⟨o,e,_,n,d⟩,_⟩:=I.tuple h
 obtain ⟨its',r',⟨o',e',_,n',d'⟩,_⟩:=I.tuple h'
 rw [e] at e';cases e'
 rw [d] at d'
 injection d' with d1 _
 have:A1=its':=by simpa using congrArg Array.toList d1
 subst this
 exact r.inj r'
end
abbrev Cx.Gg (X:Cx) (E:Value->Shared->Prop):Cx:={ X with xe:=E }
abbrev Cx.MZ (X:Cx):Cx:=X.Gg fun _ _=>False
theorem Cx.Ok.Gg {X:Cx}(ok:X.Ok) (E:Value->Shared->Prop):(X.Gg E).Ok:=
 ⟨ok.mod,ok.kind,ok.glob,ok.blt,ok.above,ok.inj,ok.has,ok.O9,ok.hd,ok.frames,ok.Pm,ok.Ic,ok.bs,ok.Ew,ok.KN,ok.K9,ok.FU,ok.KZ⟩
def Cx.Ok.J3 {X:Cx}{E:Value->Shared->Prop}(ok:(X.Gg E).Ok):X.Ok:=
 ⟨ok.mod,ok.kind,ok.glob,ok.blt,ok.above,ok.inj,ok.has,ok.O9,ok.hd,ok.frames,ok.Pm,ok.Ic,ok.bs,ok.Ew,ok.KN,ok.K9,ok.FU,ok.KZ⟩
section
variable {X:Cx}{pins:ZAZ}{σ:St} {H:Hp}{s:Shared}{E:Value->Shared->Prop}
theorem Inv.Gg (I:Inv X pins σ H s) (E:Value->Shared->Prop):Inv (X.Gg E) pins σ H s:=⟨I.ok.Gg E,I.os,I.bare,I.base,I.loc,I.cell,I.free,I.FQ,I.pin,I.AF,I.len⟩
theorem Inv.J3 (I:Inv (X.Gg E) pins σ H s):Inv X pins σ H s:=⟨I.ok.J3,I.os,I.bare,I.base,I.loc,I.cell,I.free,I.FQ,I.pin,I.AF,I.len⟩
theorem SP.J3 {D:Ends}{f:Flow}{s':Shared}(h:SP (X.Gg E) pins D f s'):SP X pins D f s':=by
 cases f with
 | next=>obtain ⟨σ',H',I,q⟩:=h;exact ⟨σ',H',I.J3,q⟩
 | brk=>obtain ⟨σ',H',I,q⟩:=h;exact ⟨σ',H',I.J3,q⟩
 | cont=>obtain ⟨σ',H',I,q⟩:=h;exact ⟨σ',H',I.J3,q⟩
 | ret u=>obtain ⟨v,σ',H',I,r,q⟩:=h;exact ⟨v,σ',H',I.J3,r,q⟩
theorem Dv.MZ {st:List Stmt}{t:TS}(h:Dv X.MZ st t):Dv X st t:=fun pins s σ H D I hw=>
 wpAny_mono (h pins s σ H D (I.Gg _) hw) (fun _ _ q=>q.J3) fun _ _ z=>False.elim z
end
section
variable {X:Cx}{st:Stmt}{rest:List Stmt}{t u:TS}{e:Expr}{te:TE}{pos:Pos}
def UI:TS:=fun D σ H=>D.nx σ H
def My (t u:TS):TS:=fun D σ H=>t { D with nx:=u D } σ H
def jV:Dv X [] UI:=fun _ _ σ H _ I h=>wpAny_execs_nil ⟨σ,H,I,h⟩
def yT (h1:PS X st t) (h2:Dv X rest u):Dv X (st :: rest) (My t u):=by
 intro pins s σ H D I h
 refine wpAny_execs_cons (AH (h1 pins s σ H { D with nx:=u D } I h) fun f s1 q=>?_)
 cases f with
 | next=>
  obtain ⟨σ',H',I',q⟩:=q
  exact h2 pins s1 σ' H' D I' q
 | ret v=>exact q
 | brk=>exact q
 | cont=>exact q
def yV (h1:PS X st t):Dv X [st] t:=by
 intro pins s σ H D I h
 refine wpAny_execs_cons (AH (h1 pins s σ H D I h) fun f s1 q=>?_)
 cases f with
 | next=>exact wpAny_execs_nil q
 | ret v=>exact q
 | brk=>exact q
 | cont=>exact q
def Inv.quiet {pins:ZAZ}{σ:St} {H:Hp}{s:Shared}(I:Inv X pins σ H s):interactive X.env=false:=by simp [interactive,I.ok.kind]
def GY (te:TE):TS:=fun D σ H=>te σ H fun _ H1=>D.nx σ H1
def ip (he:PE X e te) (hs:swapsWith e none pos.line X.env=pure false:=by rfl):PS X (.Expr e pos) (GY te):=by
 intro pins s σ H D I h
 exact wpAny_Expr_any (AH (he pins s σ H _ I h) fun v s1 ⟨x,H1,I1,r1,q1⟩=>⟨σ,H1,I1,q1⟩) I.quiet hs
def KL (te:TE):TS:=fun D σ H=>te σ H D.rt
def lz (he:PE X e te):PS X (.Return (some e) pos) (KL te):=by
 intro pins s σ H D I h
 exact wpAny_Return_some (AH (he pins s σ H _ I h) fun v s1 ⟨x,H1,I1,r1,q1⟩=>⟨x,σ,H1,I1,r1,q1⟩)
def Sk:TS:=fun D _ H=>D.rt .A5 H
def k7:PS X (.Return none pos) Sk:=fun _ _ σ H _ I h=>wpAny_Return_none ⟨.A5,σ,H,I,rfl,h⟩
def VH (c:TT) (t u:TS):TS:=fun D σ H=>c σ H fun b H1=>if b=true then t D σ H1 else u D σ H1
def lD {c:Expr}{a b:List Stmt}{tc:TT}(hc:PT X c tc) (ha:Dv X a t) (hb:Dv X b u):PS X (.If c a b pos) (VH tc t u):=by
 intro pins s σ H D I h
 refine wpAny_If (AH (hc pins s σ H _ I h) fun d s1 ⟨H1,I1,q1⟩=>?_)
 cases d with
 | true=>exact ha pins s1 σ H1 D I1 q1
 | false=>exact hb pins s1 σ H1 D I1 q1
def Ym:TS:=fun _ _ _=>False
def kG:PS X st Ym:=fun _ _ _ _ _ _ h=>h.elim
end
abbrev TG:=V->St->Hp->(St->Hp->Prop)->Prop
abbrev GF:=List V->St->Hp->(St->Hp->Prop)->Prop
def PG (X:Cx) (target:Expr) (t:TG):Prop:=
 ∀ (pins:ZAZ) (s:Shared) (σ:St) (H:Hp) (v:V) (u:Value) (Q:St->Hp->Prop),Inv X pins σ H s->RelV v u->t v σ H Q->
  wpAny (model X.prog X.w) X.A (assign target X.env u) (fun _ s'=>∃ σ' H',Inv X pins σ' H' s'/\Q σ' H') X.xe s
def Kw (X:Cx) (ts:List Expr) (t:GF):Prop:=
 ∀ (pins:ZAZ) (s:Shared) (σ:St) (H:Hp) (vs:List V) (us:List Value) (Q:St->Hp->Prop),Inv X pins σ H s->Vals vs us->t vs σ H Q->
  wpAny (model X.prog X.w) X.A (assignInOrder ((assignEach ts X.env).map (·.2)) us) (fun _ s'=>∃ σ' H',Inv X pins σ' H' s'/\Q σ' H') X.xe s
abbrev Kx:=V->V->V->Hp->(Hp->Prop)->Prop
def RB (X:Cx) (t:Kx):Prop:=
 ∀ (pins:ZAZ) (s:Shared) (σ:St) (H:Hp) (o i v:V) (ov iv u:Value) (Q:Hp->Prop),Inv X pins σ H s->RelV o ov->RelV i iv->RelV v u->t o i v H Q->
  wpAny (model X.prog X.w) X.A (setItem ov iv u) (fun _ s'=>∃ H',Inv X pins σ H' s'/\Q H') X.xe s
abbrev OP:=V->V->Hp->VK->Prop
def T2 (X:Cx) (op:Operator) (t:OP):Prop:=
 ∀ (pins:ZAZ) (s:Shared) (σ:St) (H:Hp) (x y:V) (v u:Value) (Q:VK),Inv X pins σ H s->RelV x v->RelV y u->t x y H Q->
  wpAny (model X.prog X.w) X.A (inplaceOp op v u) (EP X pins σ Q) X.xe s
section
variable {X:Cx}{pos:Pos}
def CV (i:Nat):TG:=fun v σ H Q=>Q (σ.set i (some v)) H
def Qi {i:Nat}{x:Str}(hN:X.N.Nodup) (hi:X.N[i]?=some x) (hx:Loc X.env.scope x) (hf:X.fn x=true∨X.env.scope.names.lookup x=some .local:=by first | exact .inl rfl | exact .inr rfl | assumption):PG X (.Name x pos) (CV i):=by
 intro pins s σ H v u Q I r h
 exact wpAny_assign_Name (cv I hN hi hx r (fun s' I'=>⟨_,H,I',h⟩) hf)
def Nz:GF:=fun vs σ H Q=>vs=[]/\Q σ H
def Ie (t:TG) (u:GF):GF:=fun vs σ H Q=>∃ v r,vs=v :: r/\t v σ H fun σ' H'=>u r σ' H' Q
def gD:Kw X [] Nz:=by
 intro pins s σ H vs us Q I r h
 obtain ⟨e,h⟩:=h
 subst e
 cases r
 exact assignInOrder_nil ⟨σ,H,I,h⟩
def cY {e:Expr}{es:List Expr}{t:TG}{u:GF}(h1:PG X e t) (h2:Kw X es u)
  (hs:(assignEach (e :: es) X.env).map (·.2)=assign e X.env :: (assignEach es X.env).map (·.2):=by rfl):Kw X (e :: es) (Ie t u):=by
 intro pins s σ H vs us Q I r h
 obtain ⟨v,vr,e1,h⟩:=h
 subst e1
 cases r with
 | cons r rr=>
  rw [hs]
  refine assignInOrder_cons (AH (h1 pins s σ H _ _ _ I r h) fun _ s1 ⟨σ1,H1,I1,q1⟩=>?_)
  exact h2 pins s1 σ1 H1 _ _ Q I1 rr q1
def P2 (K:ZAY) (n:Nat) (t:GF):TG:=fun v σ H Q=>∃ a xs,v=.ref a/\Ab K H a xs/\xs.length=n/\t xs σ H Q
def cT {es:List Expr}{k:Nat}{t:GF}{n:Nat}(hc:X.calm=true) (h:Kw X es t)
  (hn:(assignEach es X.env).length=n:=by rfl) (Hb:(assignEach es X.env).findIdx? (·.1)=none:=by rfl):PG X (.Tuple es k pos) (P2 X.K n t):=by
 intro pins s σ H v u Q I r hw
 obtain ⟨a,xs,e1,hq,hl,hw⟩:=hw
 subst e1
 cases r
 obtain ⟨A1,rv,ht,hz⟩:=I.tuple hq
 refine assign_Tuple_tuple (I.ok.hd hc) ht (by simp [hn,<- hl,rv.length]) Hb fun h' hx=>?_
 have I1:Inv X pins σ H { s with heap:=h' }:=I.kept (t':=s.toks) fun b o e=>hx b o (C8 (B0 e)) e
 exact h pins _ σ H xs _ Q I1 (by simpa using rv) hw
def cz (to ti:TE) (t:Kx):TG:=fun v σ H Q=>to σ H fun o H1=>ti σ H1 fun i H2=>t o i v H2 fun H3=>Q σ H3
def wy {o i:Expr}{to ti:TE}{t:Kx}(ho:PE X o to) (hi:PE X i ti) (hs:RB X t)
  (ha:∀ v,assign (.Subscript o i pos) X.env v=(do
   let ov <- holding [v] (eval o X.env)
   let iv <- holding [v,ov] (eval i X.env)
   standAt pos
   holding [v,ov,iv] (setItem ov iv v)
   release [v,ov,iv] []):=by intro _;rfl):PG X (.Subscript o i pos) (cz to ti t):=by
 intro pins s σ H v u Q I r h
 rw [ha]
 refine wpAny_bind (wpAny_holding (AH (ho pins s σ H _ I h) fun ov s1 ⟨x,H1,I1,r1,q1⟩=>?_))
 refine wpAny_bind (wpAny_holding (AH (hi pins s1 σ H1 _ I1 q1) fun iv s2 ⟨y,H2,I2,r2,q2⟩=>?_))
 refine wpAny_bind (wpAny_standAt (wpAny_bind (wpAny_holding (AH (hs pins s2 σ H2 x y v ov iv u _ I2 r1 r2 r q2) fun _ s3 ⟨H3,I3,q3⟩=>?_))))
 exact wpAny_release ⟨σ,H3,I3,q3⟩
def E8 (te:TE) (g:TG):TS:=fun D σ H=>te σ H fun x H1=>g x σ H1 D.nx
def iL {tg e:Expr}{te:TE}{g:TG}(he:PE X e te) (hg:PG X tg g) (hs:swapsWithSole [tg] e pos.line X.env=pure false:=by rfl) (hw:swappedStores [tg] e X.env=pure none:=by rfl)
  (h1:(assignEach [tg] X.env).map (·.2)=[assign tg X.env]:=by rfl):PS X (.Assign [tg] e pos) (E8 te g):=by
 intro pins s σ H D I h
 refine wpAny_Assign_stores (AH (he pins s σ H _ I h) fun v s1 ⟨x,H1,I1,r1,q1⟩=>?_) hs hw
 rw [h1]
 exact AH (hg pins s1 σ H1 x v _ I1 r1 q1) fun _ s2 q=>q
def iY {i:Nat}{x:Str}{e:Expr}{te:TE}{pos':Pos}(hN:X.N.Nodup) (hi:X.N[i]?=some x) (hx:Loc X.env.scope x) (he:PE X e te) (hs:swapsWith e (some (.Name x pos')) pos.line X.env=pure false:=by rfl) (hf:X.fn x=true∨X.env.scope.names.lookup x=some .local:=by first | exact .inl rfl | exact .inr rfl | assumption) :
  PS X (.Assign [.Name x pos'] e pos) (E8 te (CV i)):=by
 intro pins s σ H D I h
 refine wpAny_Assign_Name (AH (he pins s σ H _ I h) fun v s1 ⟨y,H1,I1,r1,q1⟩=>?_) hs
 exact cv I1 hN hi hx r1 (fun s2 I2=>⟨_,H1,I2,q1⟩) hf
def VB (to ti te:TE) (RH:V->V->Hp->VK->Prop) (JS:OP) (QM:Kx):TS:=fun D σ H=>to σ H fun o H1=>ti σ H1 fun i H2=>RH o i H2 fun x H3=>te σ H3 fun y H4=>JS x y H4 fun z H5=>QM o i z H5 fun H6=>D.nx σ H6
def ZL (X:Cx) (t:V->V->Hp->VK->Prop):Prop:=
 ∀ (pins:ZAZ) (s:Shared) (σ:St) (H:Hp) (o i:V) (ov iv:Value) (Q:VK),Inv X pins σ H s->RelV o ov->RelV i iv->t o i H Q->
  wpAny (model X.prog X.w) X.A (getItem ov iv) (EP X pins σ Q) X.xe s
def qA {o i e:Expr}{to ti te:TE}{RH:V->V->Hp->VK->Prop}{JS:OP}{QM:Kx}{op:Operator}{Kc:Pos}(ho:PE X o to) (hi:PE X i ti) (hg:ZL X RH) (he:PE X e te) (hp:T2 X op JS) (hs:RB X QM)
  (ha:∀ ov iv new,augStore i ov iv new=(do holding [new,ov,iv] (setItem ov iv new);release [new,ov,iv] [];pure .next):=by intros;rfl):PS X (.AugAssign (.Subscript o i Kc) op e pos) (VB to ti te RH JS QM):=by
 intro pins s σ H D I h
 refine wpAny_AugAssign_SubscriptAny (AH (ho pins s σ H _ I h) fun ov s1 ⟨x1,H1,I1,r1,q1⟩=>?_) ha
 refine AH (hi pins s1 σ H1 _ I1 q1) fun iv s2 ⟨x2,H2,I2,r2,q2⟩=>?_
 refine AH (hg pins s2 σ H2 x1 x2 ov iv _ I2 r1 r2 q2) fun old s3 ⟨x3,H3,I3,r3,q3⟩=>?_
 refine AH (he pins s3 σ H3 _ I3 q3) fun v s4 ⟨x4,H4,I4,r4,q4⟩=>?_
 refine AH (hp pins s4 σ H4 x3 x4 old v _ I4 r3 r4 q4) fun new s5 ⟨x5,H5,I5,r5,q5⟩=>?_
 exact AH (hs pins s5 σ H5 x1 x2 x5 ov iv new _ I5 r1 r2 r5 q5) fun _ s6 ⟨H6,I6,q6⟩=>⟨σ,H6,I6,q6⟩
def d9 (f:Int->Int->Int):OP:=fun x y H Q=>∃ i j,x=.int i/\y=.int j/\Q (.int (f i j)) H
def i5:T2 X .Add (d9 fun i j=>i+j):=by
 intro pins s σ H x y v u Q I r1 r2 h
 obtain ⟨i,j,e1,e2,q⟩:=h
 subst e1;subst e2
 obtain ⟨t,rfl⟩:=r1
 obtain ⟨t',rfl⟩:=r2
 exact iadd_int ⟨.int _,H,I.tok _,⟨_,rfl⟩,q⟩
def WL (c:TT) (tb:TS):TS:=fun D σ H=>∃ W:Nat->St->Hp->Prop,(∃ m,W m σ H)/\∀ m σ H,W m σ H->
 c σ H fun b H1=>if b=true then ∃ N:St->Hp->Prop,(∀ σ' H',N σ' H'->∃ m',m' < m/\W m' σ' H')/\tb { D with nx:=N,ct:=N,bk:=D.nx } σ H1 else D.nx σ H1
def oR {c:Expr}{body:List Stmt}{tc:TT}{tb:TS}(hp:PassesOwn (model X.prog X.w) X.A X.env X.xe) (hc:PT X c tc) (hb:Dv X body tb):PS X (.While c body [] pos) (WL tc tb):=by
 intro pins s σ H D I h
 obtain ⟨W,⟨m0,w0⟩,turn⟩:=h
 refine wpAny_While (codeAny_whileLoop (fun n s'=>∃ σ' H',Inv X pins σ' H' s'/\W n σ' H') ?_ m0 ⟨σ,H,I,w0⟩)
 rintro n s1 ⟨σ1,H1,I1,w1⟩
 refine wpAny_passesOwn hp (AH (hc pins s1 σ1 H1 _ I1 (turn n σ1 H1 w1)) fun b s2 ⟨H2,I2,q2⟩=>?_)
 cases b with
 | true=>
  obtain ⟨N,hN,q2⟩:=q2
  rw [if_pos rfl]
  refine wpAny_passesOwn hp (AH (hb pins s2 σ1 H2 _ I2 q2) fun f s3 q3=>?_)
  cases f with
  | next=>
   obtain ⟨σ3,H3,I3,n3⟩:=q3
   obtain ⟨m',hm,w3⟩:=hN σ3 H3 n3
   exact ⟨m',hm,σ3,H3,I3,w3⟩
  | cont=>
   obtain ⟨σ3,H3,I3,n3⟩:=q3
   obtain ⟨m',hm,w3⟩:=hN σ3 H3 n3
   exact ⟨m',hm,σ3,H3,I3,w3⟩
  | brk=>exact q3
  | ret v=>exact q3
 | false=>
  rw [if_neg CQ]
  exact wpAny_execs_nil ⟨σ1,H2,I2,q2⟩
end
structure It where
 go:Nat->Hp->Prop
 Dx:Nat->Hp->V->Hp->Prop
 stop:Nat->Hp->Prop
def Bv (X:Cx) (pins:ZAZ) (H:Hp) (b:Addr):Prop:=
 H b=none/\b≠X.env.locals/\b∉X.fs/\(b∈X.ex∨X.s₀.heap.objs.size<=b)/\(∀ x c,X.env.cells.lookup x=some c->c≠b)/\∀ p∈X.pn++pins,p.1≠b
def Inv.IQ {X:Cx}{pins:ZAZ}{σ:St} {H H':Hp}{s:Shared}{b:Addr}(I:Inv X pins σ H s) (hb:s.heap.objs.size<=b) (hn:H' b=none):Bv X pins H' b:=by
 refine ⟨hn,Oh (Cy I.lt hb),I.uJ hb,.inr (Dj I.sz hb),fun x c e z=>?_,fun p hp z=>?_⟩
 ·obtain ⟨v,q⟩:=I.cell x c e
  exact absurd (Cy q.lt (by rw [z];exact hb)) (JM _)
 ·exact absurd (Cy (B0 (I.pin p hp).1) (by rw [z];exact hb)) (JM _)
structure Turn (P:Program) (w:World) (K:ZAY) (tg:Expr) (J:It) (fp:List Addr) (it:Addr) (tn:Nat->Heap->Prop):Prop where
 mem:it∈fp
 obj:∀ i h,tn i h->∀ b∈fp,∃ o,h.get? b=some o/\∀ v,o.data≠.cell v
 keep:∀ i h h',tn i h->(∀ b∈fp,∀ o,h.get? b=some o->h'.get? b=some o)->tn i h'
 item:∀ (X:Cx),X.prog=P->X.w=w->X.K=K->X.calm=true->∀ (i:Nat) (pins:ZAZ) (s:Shared) (σ:St) (H:Hp) (E:Value->Shared->Prop),Inv X pins σ H s->(∀ b∈fp,Bv X pins H b)->tn i s.heap->J.go i H->
  wpAny (model P w) X.A (pyNext (.ref it)) (fun r s1=>∃ u,r=some u/\
   wpAny (model P w) X.A (letOwnedTupleGo tg (.ref it) u) (fun _ s2=>∃ x H',Inv X pins σ H' s2/\RelV x u/\J.Dx i H x H'/\tn (i+1) s2.heap/\∀ b∈fp,H' b=none) E s1) E s
 done:∀ (X:Cx),X.prog=P->X.w=w->X.K=K->X.calm=true->∀ (i:Nat) (pins:ZAZ) (s:Shared) (σ:St) (H:Hp) (E:Value->Shared->Prop),Inv X pins σ H s->(∀ b∈fp,Bv X pins H b)->tn i s.heap->J.stop i H->
  wpAny (model P w) X.A (pyNext (.ref it)) (fun r s1=>r=none/\Inv X pins σ H s1) E s
 self:∀ (A:Around) (i:Nat) (s:Shared) (Q:Value->Shared->Prop) (E:Value->Shared->Prop),tn i s.heap->Q (.ref it) s->wpAny (model P w) A (pyIter (.ref it)) Q E s
abbrev TI:=St->Hp->(It->Hp->Prop)->Prop
def cE (X:Cx) (pins:ZAZ) (σ:St) (tg:Expr) (R:It->Hp->Prop) (KO:Value) (s2:Shared):Prop:=
 ∃ (it:Addr) (fp:List Addr) (tn:Nat->Heap->Prop) (J:It) (H':Hp),KO=.ref it/\Inv X pins σ H' s2/\Turn X.prog X.w X.K tg J fp it tn/\tn 0 s2.heap/\(∀ b∈fp,Bv X pins H' b)/\R J H'
def PI (X:Cx) (tg iter:Expr) (wi:TI):Prop:=
 ∀ (pins:ZAZ) (s:Shared) (σ:St) (H:Hp) (R:It->Hp->Prop),Inv X pins σ H s->wi σ H R->
  wpAny (model X.prog X.w) X.A (eval iter X.env) (fun v s1=>wpAny (model X.prog X.w) X.A (pyIter v) (cE X pins σ tg R) X.xe s1) X.xe s
def Rb {M:Model}{A:Around}{E:Value->Shared->Prop}{s:Shared}{tg:Expr}{it:Addr}{u:Value}{o:Obj}{n:String}{vs:Array Value}{Q:Unit->Shared->Prop}(ho:s.heap.get? it=some o) (hc:o.cls=.type n) (hd:o.data=.fields vs)
  (hn:["enumerate", "zip", "dict_itemiterator", "dict_reverseitemiterator", "odict_iterator", "itertools.zip_longest", "itertools.pairwise"].contains n=false) (hQ:Q () s):wpAny M A (letOwnedTupleGo tg (.ref it) u) Q E s:=by
 unfold letOwnedTupleGo
 cases tg <;> first
  | exact wpAny_pure hQ
  | (cases u <;> first
    | exact wpAny_pure hQ
    | (
      refine wpAny_bind (wpAny_load ho ?_)
      rw [hc,hd]
      show wpAny M A (if (["enumerate", "zip", "dict_itemiterator", "dict_reverseitemiterator", "odict_iterator", "itertools.zip_longest", "itertools.pairwise"].contains n && vs[0]? == some (rawInt _))=true then _ else _) Q E s
      rw [if_neg (by intro h;rw [hn,Bool.false_and] at h;cases h)]
      exact wpAny_pure hQ))
def ZC (K:ZAY) (a:Addr):It:=
 ⟨fun i H=>∃ xs x,AJ K H a xs/\xs[i]?=some x,fun i H x H'=>H'=H/\∀ xs,AJ K H a xs->xs[i]?=some x,fun i H=>∃ xs,AJ K H a xs/\xs.length<=i⟩
def iM (K:ZAY) (a:Addr):It:=
 ⟨fun i H=>∃ xs x,Ab K H a xs/\xs[i]?=some x,fun i H x H'=>H'=H/\∀ xs,Ab K H a xs->xs[i]?=some x,fun i H=>∃ xs,Ab K H a xs/\xs.length<=i⟩
def Kf (lo:Int) (n:Nat):It:=⟨fun i _=>i < n,fun i H x H'=>H'=H/\x=.int (lo+i),fun i _=>n<=i⟩
def LN {P:Program}{w:World}{K:ZAY}{tg:Expr}(a it:Addr):Turn P w K tg (ZC K a) [it] it (fun i h=>h.IsListIter it a i) where
 mem:=by simp
 obj:=fun i h st b hb=>by
  have e:b=it:=by simpa using hb
  subst e
  obtain ⟨o,e,c,d⟩:=st
  exact ⟨o,e,fun v z=>by rw [d] at z;cases z⟩
 keep:=fun i h h' st k=>st.at fun o e=>k it (by simp) o e
 item:=by
  intro X hP hw hK hc i pins s σ H E I hf st hg
  subst hP hw hK
  obtain ⟨xs,x,hq,hx⟩:=hg
  obtain ⟨A1,rv,p,hz⟩:=I.list hq
  obtain ⟨u,hu,ru⟩:=rv.get hx
  obtain ⟨f0,f1,f2,f3,f4,f5⟩:=hf it (by simp)
  refine wpAny_pyNext_list_item st p.isList (x:=u) (by simpa using hu) fun h' DS sb=>?_
  have I1:Inv X pins σ H { s with heap:=h' }:=I.turned (t':=s.toks) (fun b o hb e=>(sb.2 b hb).trans e) f0 f1 f3 f4 f5
  obtain ⟨o,e,c,d⟩:=id DS
  exact ⟨u,rfl,Rb (s:={ s with heap:=h' }) e c d (by decide) ⟨x,H,I1,ru,⟨rfl,fun ys hy=>by rw [I.Ys hy hq];exact hx⟩,DS,fun b hb=>(hf b hb).1⟩⟩
 done:=by
  intro X hP hw hK hc i pins s σ H E I hf st hg
  subst hP hw hK
  obtain ⟨xs,hq,hx⟩:=hg
  obtain ⟨A1,rv,p,hz⟩:=I.list hq
  obtain ⟨f0,f1,f2,f3,f4,f5⟩:=hf it (by simp)
  have hl:=rv.length
  exact wpAny_pyNext_list_end (I.ok.hd hc) st p.isList (by simp;omega) fun h' eb=>⟨rfl,I.turned (t':=s.toks) (fun b o hb e=>eb b o hb e) f0 f1 f3 f4 f5⟩
 self:=fun _ _ _ _ _ st h=>wpAny_pyIter_listiter st h
def Na {P:Program}{w:World}{K:ZAY}{tg:Expr}(a it:Addr):Turn P w K tg (iM K a) [it] it (fun i h=>h.IsTupleIter it a i) where
 mem:=by simp
 obj:=fun i h st b hb=>by
  have e:b=it:=by simpa using hb
  subst e
  obtain ⟨o,e,c,d⟩:=st
  exact ⟨o,e,fun v z=>by rw [d] at z;cases z⟩
 keep:=fun i h h' st k=>st.at fun o e=>k it (by simp) o e
 item:=by
  intro X hP hw hK hc i pins s σ H E I hf st hg
  subst hP hw hK
  obtain ⟨xs,x,hq,hx⟩:=hg
  obtain ⟨A1,rv,p,hz⟩:=I.tuple hq
  obtain ⟨u,hu,ru⟩:=rv.get hx
  obtain ⟨f0,f1,f2,f3,f4,f5⟩:=hf it (by simp)
  refine wpAny_pyNext_tuple_item st (show s.heap.IsTuple a A1.toArray from p) (x:=u) (by simpa using hu) fun h' DS sb=>?_
  have I1:Inv X pins σ H { s with heap:=h' }:=I.turned (t':=s.toks) (fun b o hb e=>(sb.2 b hb).trans e) f0 f1 f3 f4 f5
  obtain ⟨o,e,c,d⟩:=id DS
  exact ⟨u,rfl,Rb (s:={ s with heap:=h' }) e c d (by decide) ⟨x,H,I1,ru,⟨rfl,fun ys hy=>by rw [I.Nf hy hq];exact hx⟩,DS,fun b hb=>(hf b hb).1⟩⟩
 done:=by
  intro X hP hw hK hc i pins s σ H E I hf st hg
  subst hP hw hK
  obtain ⟨xs,hq,hx⟩:=hg
  obtain ⟨A1,rv,p,hz⟩:=I.tuple hq
  obtain ⟨f0,f1,f2,f3,f4,f5⟩:=hf it (by simp)
  have hl:=rv.length
  exact wpAny_pyNext_tuple_end (I.ok.hd hc) st (show s.heap.IsTuple a A1.toArray from p) (by simp;omega) fun h' eb=>⟨rfl,I.turned (t':=s.toks) (fun b o hb e=>eb b o hb e) f0 f1 f3 f4 f5⟩
 self:=fun _ _ _ _ _ st h=>wpAny_pyIter_tupleiter st h
def l6 {P:Program}{w:World}{K:ZAY}{tg:Expr}(it:Addr) (lo:Int) (n:Nat):Turn P w K tg (Kf lo n) [it] it (fun i h=>IsRangeIter h it (lo+(i:Nat) * 1) ((n:Int) - (i:Nat)) 1) where
 mem:=by simp
 obj:=fun i h st b hb=>by
  have e:b=it:=by simpa using hb
  subst e
  exact ⟨_,st,fun v z=>by
   have z':Data.fields _=Data.cell v:=z
   cases z'⟩
 keep:=fun i h h' st k=>k it (by simp) _ st
 item:=by
  intro X hP hw hK hc i pins s σ H E I hf st hg
  subst hP hw hK
  obtain ⟨f0,f1,f2,f3,f4,f5⟩:=hf it (by simp)
  have W:=Walks.range (prog:=X.prog) (w:=X.w) (I.ok.hd hc) it lo 1 n
  refine W.item i s _ _ hg st fun v h' tk hv DS kk=>?_
  obtain ⟨t,rfl⟩:=hv
  have I1:Inv X pins σ H { s with heap:=h',toks:=tk }:=I.turned (fun b o hb e=>kk b o (by simpa using hb) e) f0 f1 f3 f4 f5
  refine ⟨_,rfl,Rb (s:={ s with heap:=h',toks:=tk }) (n := "range_iterator") DS rfl rfl (by decide) ⟨.int (lo+i),H,I1,⟨t,?_⟩,⟨rfl,rfl⟩,DS,fun b hb=>(hf b hb).1⟩⟩
  rw [Int.mul_one]
 done:=by
  intro X hP hw hK hc i pins s σ H E I hf st hg
  subst hP hw hK
  obtain ⟨f0,f1,f2,f3,f4,f5⟩:=hf it (by simp)
  exact wpAny_pyNext_range_end (I.ok.hd hc) st (by have:n<=i:=hg;omega) fun h' eb=>⟨rfl,I.turned (t':=s.toks) (fun b o hb e=>eb b o hb e) f0 f1 f3 f4 f5⟩
 self:=fun _ _ _ _ _ st h=>wpAny_pyIter_rangeiter st h
section
variable {X:Cx}{tg:Expr}
def UU (K:ZAY) (tl:TE):TI:=fun σ H R=>tl σ H fun x H1=>∃ a,x=.ref a/\(∃ xs,AJ K H1 a xs)/\R (ZC K a) H1
def nM {l:Expr}{tl:TE}(hl:PE X l tl):PI X tg l (UU X.K tl):=by
 intro pins s σ H R I h
 refine AH (hl pins s σ H _ I h) fun v s1 ⟨x,H1,I1,r1,q1⟩=>?_
 obtain ⟨a,e,⟨xs,hq⟩,q⟩:=q1
 subst e
 cases r1
 obtain ⟨A1,rv,p,hz⟩:=I1.list hq
 refine wpAny_pyIter_list p.isList ?_
 refine ⟨s1.heap.objs.size,[s1.heap.objs.size],_,_,H1,rfl,I1.kept (t':=s1.toks) fun b o e=>Br _ e,LN a _,⟨_,DD _ rfl,rfl,rfl⟩,fun b hb=>?_,q⟩
 have e:b=s1.heap.objs.size:=by simpa using hb
 subst e
 exact I1.IQ (Ae _) (I1.AF.fresh (Ae _))
def Z3 {pins:ZAZ}{σ:St} {H:Hp}{s:Shared}{R:It->Hp->Prop}{E:Value->Shared->Prop}{lo hi:Int}{t u v:Tok}{tk:Nat}(I:Inv X pins σ H s) (h1:-(2 ^ 62)<=lo) (h2:lo < 2 ^ 62) (h3:-(2 ^ 62)<=hi) (h4:hi < 2 ^ 62)
  (q:R (Kf lo (hi - lo).toNat) H):wpAny (model X.prog X.w) X.A (pyIter (.ref s.heap.objs.size)) (cE X pins σ tg R) E { s with heap:=s.heap.push { cls:=.type "range", data:=.fields #[.int lo t,.int hi u,.int 1 v] },toks:=tk }:=by
 refine wpAny_pyIter_range (IsRange.new ..) (small_one h1 h2 h3 h4) ?_
 have I1:Inv X pins σ H { s with heap:=s.heap.push { cls:=.type "range", data:=.fields #[.int lo t,.int hi u,.int 1 v] },toks:=tk }:=I.kept fun b o e=>Br _ e
 refine ⟨(s.heap.push { cls:=.type "range", data:=.fields #[.int lo t,.int hi u,.int 1 v] }).objs.size,[(s.heap.push { cls:=.type "range", data:=.fields #[.int lo t,.int hi u,.int 1 v] }).objs.size],_,_,H,rfl,
  I1.kept (t':=tk) fun b o e=>Br _ e,l6 _ lo (hi - lo).toNat,?_,fun b hb=>?_,q⟩
 ·have e1:lo+((0:Nat):Int) * 1=lo:=by simp
  have e2:(((hi - lo).toNat:Nat):Int) - ((0:Nat):Int)=Builtin.Range.rangeSize lo hi 1:=by rw [rangeSize_one];split <;> omega
  show IsRangeIter _ _ (lo+((0:Nat):Int) * 1) ((((hi - lo).toNat:Nat):Int) - ((0:Nat):Int)) 1
  rw [e1,e2]
  exact DD _ rfl
 ·have e:b=(s.heap.push { cls:=.type "range", data:=.fields #[.int lo t,.int hi u,.int 1 v] }).objs.size:=by simpa using hb
  subst e
  exact I1.IQ (Ae _) (I1.AF.fresh (Ae _))
def Vj (ta:TA):TI:=fun σ H R=>ta σ H fun vs H1=>∃ j:Int,vs=[.int j]/\-(2 ^ 62)<=j/\j < 2 ^ 62/\R (Kf 0 j.toNat) H1
def TR (ta:TA):TI:=fun σ H R=>ta σ H fun vs H1=>∃ i j:Int,vs=[.int i,.int j]/\(-(2 ^ 62)<=i/\i < 2 ^ 62/\-(2 ^ 62)<=j/\j < 2 ^ 62)/\R (Kf i (j - i).toNat) H1
def tf {a:Expr}{ta:TA}{p pos:Pos}(hg:Gl X "range") (hm:X.mg "range" = none) (ha:PA X [a] ta) (hs:starEach [a] X.env=[(false,eval a X.env)]:=by rfl):PI X tg (.Call (.Name "range" p) [a] [] pos) (Vj ta):=by
 intro pins s σ H R I h
 refine Call_ (LC I hg hm boot_range (Xx (AH (ha pos pins s σ H _ I h) fun us s1 ⟨vs,H1,I1,r1,q1⟩=>?_) hs rfl))
 obtain ⟨j,e,q1,q2,q⟩:=q1
 subst e
 cases r1 with
 | cons r rr=>
  cases rr
  obtain ⟨t,rfl⟩:=r
  exact call_range_1 (Z3 I1 (by omega) (by omega) q1 q2 (by simpa using q))
def uL {a b:Expr}{ta:TA}{p pos:Pos}(hg:Gl X "range") (hm:X.mg "range" = none) (ha:PA X [a,b] ta) (hs:starEach [a,b] X.env=[(false,eval a X.env),(false,eval b X.env)]:=by rfl) (CD:starEach [b] X.env=[(false,eval b X.env)]:=by rfl) :
  PI X tg (.Call (.Name "range" p) [a,b] [] pos) (TR ta):=by
 intro pins s σ H R I h
 refine Call_ (LC I hg hm boot_range (Xx (AH (ha pos pins s σ H _ I h) fun us s1 ⟨vs,H1,I1,r1,q1⟩=>?_) (by rw [hs,CD]) (by rw [CD];rfl)))
 obtain ⟨i,j,e,⟨q1,q2,q3,q4⟩,q⟩:=q1
 subst e
 cases r1 with
 | cons r rr=>
  cases rr with
  | cons r' rr=>
   cases rr
   obtain ⟨t,rfl⟩:=r
   obtain ⟨t',rfl⟩:=r'
   exact call_range_2 (Z3 I1 q1 q2 q3 q4 q)
def RT (wi:TI) (g:TG) (tb:TS):TS:=fun D σ H=>wi σ H fun J H1=>∃ W:Nat->Nat->St->Hp->Prop,(∃ m,W 0 m σ H1)/\∀ i m σ H,W i m σ H->
 (J.stop i H/\D.nx σ H)∨(J.go i H/\∃ N:St->Hp->Prop,(∀ σ' H',N σ' H'->∃ m',m' < m/\W (i+1) m' σ' H')/\∀ x H',J.Dx i H x H'->g x σ H' fun σ2 H2=>tb { D with nx:=N,ct:=N,bk:=D.nx } σ2 H2)
def Ke (fp:List Addr) (h:Heap):ZAZ:=fp.filterMap fun b=>(h.get? b).map fun o=>(b,o)
def Ig {fp:List Addr}{h:Heap}{b:Addr}{o:Obj}(hb:b∈fp) (e:h.get? b=some o):(b,o)∈Ke fp h:=List.mem_filterMap.mpr ⟨b,hb,by rw [e];rfl⟩
def pN {fp:List Addr}{h:Heap}{p:Addr×Obj}(hp:p∈Ke fp h):p.1∈fp/\h.get? p.1=some p.2:=by
 obtain ⟨b,hb,e⟩:=List.mem_filterMap.mp hp
 cases q:h.get? b with
 | none=>rw [q] at e;cases e
 | some o=>
  rw [q] at e
  have e':(b,o)=p:=BG e
  subst e'
  exact ⟨hb,q⟩
def Inv.pinned {pins:ZAZ}{σ:St} {H:Hp}{s:Shared}{fp:List Addr}(I:Inv X pins σ H s) (hf:∀ b∈fp,Bv X pins H b) (ho:∀ b∈fp,∃ o,s.heap.get? b=some o/\∀ v,o.data≠.cell v):Inv X (pins++Ke fp s.heap) σ H s:=
 I.Zm fun p hp=>(List.mem_append.mp hp).elim (fun z=>I.pin p (Di _ z)) fun z=>by
  obtain ⟨hb,e⟩:=pN z
  obtain ⟨f0,f1,f2,_⟩:=hf p.1 hb
  obtain ⟨o,e',d⟩:=ho p.1 hb
  rw [e] at e';cases e'
  exact ⟨e,f0,f1,f2,d⟩
def Inv.Hz {pins pl:ZAZ}{σ:St} {H:Hp}{s:Shared}(I:Inv X (pins++pl) σ H s):Inv X pins σ H s:=I.Zm fun p hp=>I.pin p (Di _ (Oe _ hp))
def ma {iter:Expr}{body:List Stmt}{wi:TI}{g:TG}{tb:TS}{pos:Pos}(hp:PassesOwn (model X.prog X.w) X.A X.env X.xe) (hc:X.calm=true) (hi:PI X tg iter wi) (hg:PG X tg g) (hb:Dv X body tb)
  (hs:∀ x,foldedSetIterable iter X.env x=pure x:=by intro _;rfl):PS X (.For tg iter body [] pos) (RT wi g tb):=by
 intro pins s σ H D I h
 refine wpAny_For (AH (hi pins s σ H _ I h) fun v s1 h1=>AH h1 fun KO s2 h2=>?_) hs
 obtain ⟨it,fp,tn,J,H2,e,I2,T,DC,f2,W,⟨m0,w0⟩,turn⟩:=h2
 subst e
 -- m6 stays true of G5 ZAA objects through G5 loop
 have EJ:∀ {H':Hp},(∀ b∈fp,H' b=none)->∀ b∈fp,Bv X pins H' b:=fun hn b hb=>⟨hn b hb,(f2 b hb).2⟩
 refine codeAny_forLoop_any (fun n s'=>∃ i σ' H',Inv X pins σ' H' s'/\tn i s'.heap/\(∀ b∈fp,H' b=none)/\W i n σ' H') ?_ m0 ⟨0,σ,H2,I2,DC,fun b hb=>(f2 b hb).1,w0⟩
 rintro n s3 ⟨i,σ3,H3,I3,fX,gC,w3⟩
 rcases turn i n σ3 H3 w3 with ⟨stop,qn⟩ | ⟨go,N,hN,step⟩
 ·refine wpAny_passesOwn hp (AH (T.done X rfl rfl rfl hc i pins s3 σ3 H3 X.xe I3 (EJ gC) fX stop) fun r s4 ⟨hr,I4⟩=>?_)
  subst hr
  exact wpAny_execs_nil ⟨σ3,H3,I4,qn⟩
 ·refine wpAny_passesOwn hp (AH (T.item X rfl rfl rfl hc i pins s3 σ3 H3 X.xe I3 (EJ gC) fX go) fun r s4 ⟨u,hr,h4⟩=>?_)
  subst hr
  refine wpAny_passesOwn hp (AH h4 fun _ s5 ⟨x,H5,I5,r5,y5,Fb,Gz⟩=>?_)
  have rf:=I5.pinned (EJ Gz) (T.obj _ _ Fb)
  refine wpAny_passesOwn hp (AH (hg _ s5 σ3 H5 x u _ rf r5 (step x H5 y5)) fun _ s6 ⟨σ6,H6,I6,q6⟩=>?_)
  refine wpAny_passesOwn hp (AH (hb _ s6 σ6 H6 _ I6 q6) fun f s7 q7=>?_)
  have again:∀ {σ7:St} {H7:Hp},Inv X (pins++Ke fp s5.heap) σ7 H7 s7->N σ7 H7->∃ m,m < n/\∃ i σ' H',Inv X pins σ' H' s7/\tn i s7.heap/\(∀ b∈fp,H' b=none)/\W i m σ' H':=fun {σ7 H7} I7 n7=>by
   obtain ⟨m',hm,w7⟩:=hN σ7 H7 n7
   refine ⟨m',hm,i+1,σ7,H7,I7.Hz,T.keep _ _ _ Fb fun b hb o e=>(I7.pin (b,o) (Di _ (Di _ (Ig hb e)))).1,fun b hb=>?_,w7⟩
   obtain ⟨o,e,d⟩:=T.obj _ _ Fb b hb
   exact (I7.pin (b,o) (Di _ (Di _ (Ig hb e)))).2.1
  cases f with
  | next=>obtain ⟨σ7,H7,I7,n7⟩:=q7;exact again I7 n7
  | cont=>obtain ⟨σ7,H7,I7,n7⟩:=q7;exact again I7 n7
  | brk=>obtain ⟨σ7,H7,I7,q7⟩:=q7;exact ⟨σ7,H7,I7.Hz,q7⟩
  | ret v=>obtain ⟨x7,σ7,H7,I7,r7,q7⟩:=q7;exact ⟨x7,σ7,H7,I7.Hz,r7,q7⟩
end
def wF {lo:Int}{n:Nat}{g:TG}{tb:TS}{D:Ends}{σ:St} {H:Hp}(Pv:Nat->St->Hp->Prop) (h0:Pv 0 σ H)
  (hs:∀ i σ H,i < n->Pv i σ H->g (.int (lo+i)) σ H fun σ2 H2=>tb { D with nx:=Pv (i+1),ct:=Pv (i+1),bk:=D.nx } σ2 H2) (hd:∀ σ H,Pv n σ H->D.nx σ H) :
  ∃ W:Nat->Nat->St->Hp->Prop,(∃ m,W 0 m σ H)/\∀ i m σ H,W i m σ H->
   ((Kf lo n).stop i H/\D.nx σ H)∨((Kf lo n).go i H/\∃ N:St->Hp->Prop,(∀ σ' H',N σ' H'->∃ m',m' < m/\W (i+1) m' σ' H')/\∀ x H',(Kf lo n).Dx i H x H'->g x σ H' fun σ2 H2=>tb { D with nx:=N,ct:=N,bk:=D.nx } σ2 H2):=by
 refine ⟨fun i m σ H=>m=n - i/\i<=n/\Pv i σ H,⟨n,by simp,CJ _,h0⟩,?_⟩
 rintro i m σ H ⟨rfl,hi,p⟩
 by_cases AN:i < n
 ·refine .inr ⟨AN,Pv (i+1),fun σ' H' p'=>⟨n - (i+1),by omega,rfl,AN,p'⟩,fun x H' y=>?_⟩
  obtain ⟨e,y⟩:=y
  subst e y
  exact hs i σ _ AN p
 ·have e:i=n:=by omega
  subst e
  exact .inl ⟨Ae _,hd σ H p⟩
abbrev R2:=V->V->Hp->VK->Prop
def Ay (X:Cx) (f:Value->Value->Sem Value) (r:R2):Prop:=
 ∀ (pins:ZAZ) (s:Shared) (σ:St) (H:Hp) (x y:V) (v u:Value) (Q:VK),Inv X pins σ H s->RelV x v->RelV y u->r x y H Q->
  wpAny (model X.prog X.w) X.A (f v u) (EP X pins σ Q) X.xe s
def Qa (X:Cx) (f:Value->Sem Value) (r:V->Hp->VK->Prop):Prop:=
 ∀ (pins:ZAZ) (s:Shared) (σ:St) (H:Hp) (x:V) (v:Value) (Q:VK),Inv X pins σ H s->RelV x v->r x H Q->
  wpAny (model X.prog X.w) X.A (f v) (EP X pins σ Q) X.xe s
def C2 (X:Cx) (f:Value) (r:List V->Hp->VK->Prop):Prop:=
 ∀ (pins:ZAZ) (s:Shared) (σ:St) (H:Hp) (xs:List V) (us:List Value) (Q:VK),Inv X pins σ H s->Vals xs us->r xs H Q->
  wpAny (model X.prog X.w) X.A (call f us) (EP X pins σ Q) X.xe s
def BH (r:R2) (ta tb:TE):TE:=fun σ H Q=>ta σ H fun x H1=>tb σ H1 fun y H2=>r x y H2 Q
def Qx (r:V->Hp->VK->Prop) (ta:TE):TE:=fun σ H Q=>ta σ H fun x H1=>r x H1 Q
def rI (C:Int->Int->Prop) (g:Int->Int->V):R2:=fun x y H Q=>∃ i j,x=.int i/\y=.int j/\C i j/\Q (g i j) H
def Fs (g:Int->Int->V):R2:=fun x y H Q=>∃ i j,x=.int i/\y=.int j/\Q (g i j) H
def rU (g:Int->V):V->Hp->VK->Prop:=fun x H Q=>∃ i,x=.int i/\Q (g i) H
section
variable {X:Cx}{a b c:Expr}{ta tb tc:TE}{pos:Pos}
def Tu (ha:PE X a ta) (hb:PE X b tb){pins:ZAZ}{s:Shared}{σ:St} {H:Hp}{R:V->V->Hp->Prop}(I:Inv X pins σ H s)
  (h:ta σ H fun x H1=>tb σ H1 fun y H2=>R x y H2){Q:Value->Shared->Prop}{f:Value->Value->Sem Value}
  (hf:∀ v u s2 x y H2,Inv X pins σ H2 s2->RelV x v->RelV y u->R x y H2->wpAny (model X.prog X.w) X.A (f v u) Q X.xe s2) :
  wpAny (model X.prog X.w) X.A (eval a X.env) (fun v s₁=>wpAny (model X.prog X.w) X.A (eval b X.env) (fun u s₂=>wpAny (model X.prog X.w) X.A (f v u) Q X.xe s₂) X.xe s₁) X.xe s:=by
 refine AH (ha pins s σ H _ I h) fun v s1 ⟨x,H1,I1,r1,q1⟩=>?_
 refine AH (hb pins s1 σ H1 _ I1 q1) fun u s2 ⟨y,H2,I2,r2,q2⟩=>?_
 exact hf v u s2 x y H2 I2 r1 r2 q2
def u7 {op:Operator}{r:R2}(ho:Ay X (binaryOp op) r) (ha:PE X a ta) (hb:PE X b tb):PE X (.BinOp a op b pos) (BH r ta tb):=by
 intro pins s σ H Q I h
 exact wpAny_BinOp (Tu ha hb I h fun v u s2 x y H2 I2 rx ry q=>ho pins s2 σ H2 x y v u Q I2 rx ry q)
def vS {op:UnaryOp}{r:V->Hp->VK->Prop}(ho:Qa X (unaryOp op) r) (ha:PE X a ta):PE X (.UnaryOp op a pos) (Qx r ta):=by
 intro pins s σ H Q I h
 exact UnaryOp_ (AH (ha pins s σ H _ I h) fun v s1 ⟨x,H1,I1,r1,q1⟩=>ho pins s1 σ H1 x v Q I1 r1 q1)
def Q3 {f:Value->Value->Sem Value}{C:Int->Int->Prop}{g:Int->Int->Int}
  (rule:∀ (i j:Int) (t u:Tok) (s:Shared) (Q:Value->Shared->Prop) (E:Value->Shared->Prop),C i j->Q (.int (g i j) s.toks) { s with toks:=s.toks+1 }->wpAny (model X.prog X.w) X.A (f (.int i t) (.int j u)) Q E s) :
  Ay X f (rI C fun i j=>.int (g i j)):=by
 intro pins s σ H x y v u Q I rx ry h
 obtain ⟨i,j,rfl,rfl,hc,q⟩:=h
 obtain ⟨t,rfl⟩:=rx
 obtain ⟨t',rfl⟩:=ry
 exact rule i j t t' s _ _ hc ⟨.int (g i j),H,I.tok _,⟨_,rfl⟩,q⟩
def d3 {f:Value->Value->Sem Value}{g:Int->Int->Int}
  (rule:∀ (i j:Int) (t u:Tok) (s:Shared) (Q:Value->Shared->Prop) (E:Value->Shared->Prop),Q (.int (g i j) s.toks) { s with toks:=s.toks+1 }->wpAny (model X.prog X.w) X.A (f (.int i t) (.int j u)) Q E s) :
  Ay X f (Fs fun i j=>.int (g i j)):=by
 intro pins s σ H x y v u Q I rx ry h
 obtain ⟨i,j,rfl,rfl,q⟩:=h
 obtain ⟨t,rfl⟩:=rx
 obtain ⟨t',rfl⟩:=ry
 exact rule i j t t' s _ _ ⟨.int (g i j),H,I.tok _,⟨_,rfl⟩,q⟩
def Qz {f:Value->Value->Sem Value}{g:Int->Int->Bool}
  (rule:∀ (i j:Int) (t u:Tok) (s:Shared) (Q:Value->Shared->Prop) (E:Value->Shared->Prop),Q (.bool (g i j)) s->wpAny (model X.prog X.w) X.A (f (.int i t) (.int j u)) Q E s) :
  Ay X f (Fs fun i j=>.bl (g i j)):=by
 intro pins s σ H x y v u Q I rx ry h
 obtain ⟨i,j,rfl,rfl,q⟩:=h
 obtain ⟨t,rfl⟩:=rx
 obtain ⟨t',rfl⟩:=ry
 exact rule i j t t' s _ _ ⟨.bl (g i j),H,I,rfl,q⟩
def vh (i j:Int):Prop:=0<=j/\j<=1000000/\i.natAbs < 2 ^ 64
def G0:Ay X (binaryOp .Add) (Fs fun i j=>.int (i+j)):=d3 fun _ _ _ _ _ _ _ q=>add_int q
def PZ:Ay X (binaryOp .Sub) (Fs fun i j=>.int (i - j)):=d3 fun _ _ _ _ _ _ _ q=>sub_int q
def Hg:Ay X (binaryOp .Mod) (rI (fun _ j=>0 < j) fun i j=>.int (i % j)):=Q3 fun i j _ _ _ _ _ hc q=>by
 have h1:(0:Int) < j:=hc
 exact mod_int' (by omega) (by rw [Int.fmod_eq_emod_of_nonneg i (by omega)];exact q)
def M8:Ay X (binaryOp .Pow) (rI vh fun i j=>.int (i ^ j.toNat)):=Q3 fun _ _ _ _ _ _ _ hc q=>pow_int_small hc.1 hc.2.1 hc.2.2 q
def yJ {f:Value->Sem Value}{g:Int->Int}
  (rule:∀ (i:Int) (t:Tok) (s:Shared) (Q:Value->Shared->Prop) (E:Value->Shared->Prop),Q (.int (g i) s.toks) { s with toks:=s.toks+1 }->wpAny (model X.prog X.w) X.A (f (.int i t)) Q E s) :
  Qa X f (rU fun i=>.int (g i)):=by
 intro pins s σ H x v Q I rx h
 obtain ⟨i,rfl,q⟩:=h
 obtain ⟨t,rfl⟩:=rx
 exact rule i t s _ _ ⟨.int (g i),H,I.tok _,⟨_,rfl⟩,q⟩
def MN:Qa X (unaryOp .USub) (rU fun i=>.int (-i)):=yJ fun _ _ _ _ _ q=>neg_int q
end
def Pn:V->V->Bool
 | .A5,.A5=>true | .A5,.int _=>true | .int _,.A5=>true | .A5,.bl _=>true | .bl _,.A5=>true | .A5,.str _=>true | .str _,.A5=>true
 | .int _,.int _=>true | .bl _,.bl _=>true | .str _,.str _=>true | .FW _,.FW _=>true
 | .int _,.str _=>true | .str _,.int _=>true | .bl _,.str _=>true | .str _,.bl _=>true
 | _,_=>false
def ee:R2:=fun x y H Q=>Pn x y=true/\Q (.bl (decide (x=y))) H
def Yr:R2:=fun x y H Q=>Pn x y=true/\Q (.bl (!decide (x=y))) H
def Zv {i j:Int}:decide (V.int i=V.int j)=(i == j):=by
 rw [OU]
 simp
def Yi {i j:Bool}:decide (V.bl i=V.bl j)=(i == j):=by
 rw [OU]
 simp
def cW {i j:Str}:decide (V.str i=V.str j)=(i == j):=by
 rw [OU]
 simp
def bG {i j:Array UInt8}:decide (V.FW i=V.FW j)=(i.toList == j.toList):=by
 rw [OU]
 cases i
 cases j
 simp
section
variable {X:Cx}{a b c:Expr}{ta tb tc:TE}{pos:Pos}
def Bf {pins:ZAZ}{σ:St} {H:Hp}{s:Shared}{Q:VK}{k k':Bool}(I:Inv X pins σ H s) (q:Q (.bl k) H) (e:k=k'):EP X pins σ Q (.bool k') s:=by
 subst e
 exact ⟨.bl k,H,I,rfl,q⟩
def Hy:Ay X (compareOp .Eq) ee:=by
 intro pins s σ H x y v u Q I rx ry h
 obtain ⟨hs,q⟩:=h
 cases x with
 | A5=>
  cases rx
  cases y with
  | A5=>cases ry;exact PySem.EqNone.eq_none_none (Bf I q (by simp))
  | bl j=>cases ry;exact PySem.EqNone.eq_none_bool (Bf I q (by simp))
  | int j=>obtain ⟨t',rfl⟩:=ry;exact PySem.EqNone.eq_none_int (Bf I q (by simp))
  | str j=>obtain ⟨t',rfl⟩:=ry;exact PySem.EqNone.eq_none_str (Bf I q (by simp))
  | _=>exact absurd (show false=true from hs) CQ
 | bl i=>
  cases rx
  cases y with
  | A5=>cases ry;exact PySem.EqNone.eq_bool_none (Bf I q (by simp))
  | bl j=>cases ry;exact eq_bool (Bf I q Yi)
  | str j=>obtain ⟨t',rfl⟩:=ry;exact PySem.EqMixed.eq_bool_str (Bf I q (by simp))
  | _=>exact absurd (show false=true from hs) CQ
 | int i=>
  obtain ⟨t,rfl⟩:=rx
  cases y with
  | A5=>cases ry;exact PySem.EqNone.eq_int_none (Bf I q (by simp))
  | int j=>obtain ⟨t',rfl⟩:=ry;exact eq_int (Bf I q Zv)
  | str j=>obtain ⟨t',rfl⟩:=ry;exact PySem.EqMixed.eq_int_str (Bf I q (by simp))
  | _=>exact absurd (show false=true from hs) CQ
 | str i=>
  obtain ⟨t,rfl⟩:=rx
  cases y with
  | A5=>cases ry;exact PySem.EqNone.eq_str_none (Bf I q (by simp))
  | bl j=>cases ry;exact PySem.EqMixed.eq_str_bool (Bf I q (by simp))
  | int j=>obtain ⟨t',rfl⟩:=ry;exact PySem.EqMixed.eq_str_int (Bf I q (by simp))
  | str j=>obtain ⟨t',rfl⟩:=ry;exact eq_str (Bf I q cW)
  | _=>exact absurd (show false=true from hs) CQ
 | FW i=>
  obtain ⟨t,rfl⟩:=rx
  cases y with
  | FW j=>obtain ⟨t',rfl⟩:=ry;exact PySem.W.eq_bytes (Bf I q bG)
  | _=>exact absurd (show false=true from hs) CQ
 | _=>cases y <;> exact absurd (show false=true from hs) CQ
def SX:Ay X (compareOp .NotEq) Yr:=by
 intro pins s σ H x y v u Q I rx ry h
 obtain ⟨hs,q⟩:=h
 cases x with
 | A5=>
  cases rx
  cases y with
  | A5=>cases ry;exact PySem.EqNone.ne_none_none (Bf I q (by simp))
  | bl j=>cases ry;exact PySem.EqNone.ne_none_bool (Bf I q (by simp))
  | int j=>obtain ⟨t',rfl⟩:=ry;exact PySem.EqNone.ne_none_int (Bf I q (by simp))
  | str j=>obtain ⟨t',rfl⟩:=ry;exact PySem.EqNone.ne_none_str (Bf I q (by simp))
  | _=>exact absurd (show false=true from hs) CQ
 | bl i=>
  cases rx
  cases y with
  | A5=>cases ry;exact PySem.EqNone.ne_bool_none (Bf I q (by simp))
  | bl j=>cases ry;exact ne_bool (Bf I q (congrArg not Yi))
  | str j=>obtain ⟨t',rfl⟩:=ry;exact PySem.EqMixed.ne_bool_str (Bf I q (by simp))
  | _=>exact absurd (show false=true from hs) CQ
 | int i=>
  obtain ⟨t,rfl⟩:=rx
  cases y with
  | A5=>cases ry;exact PySem.EqNone.ne_int_none (Bf I q (by simp))
  | int j=>obtain ⟨t',rfl⟩:=ry;exact ne_int (Bf I q (congrArg not Zv))
  | str j=>obtain ⟨t',rfl⟩:=ry;exact PySem.EqMixed.ne_int_str (Bf I q (by simp))
  | _=>exact absurd (show false=true from hs) CQ
 | str i=>
  obtain ⟨t,rfl⟩:=rx
  cases y with
  | A5=>cases ry;exact PySem.EqNone.ne_str_none (Bf I q (by simp))
  | bl j=>cases ry;exact PySem.EqMixed.ne_str_bool (Bf I q (by simp))
  | int j=>obtain ⟨t',rfl⟩:=ry;exact PySem.EqMixed.ne_str_int (Bf I q (by simp))
  | str j=>obtain ⟨t',rfl⟩:=ry;exact ne_str (Bf I q (congrArg not cW))
  | _=>exact absurd (show false=true from hs) CQ
 | FW i=>
  obtain ⟨t,rfl⟩:=rx
  cases y with
  | FW j=>obtain ⟨t',rfl⟩:=ry;exact PySem.W.ne_bytes (Bf I q (congrArg not bG))
  | _=>exact absurd (show false=true from hs) CQ
 | _=>cases y <;> exact absurd (show false=true from hs) CQ
def Sr:Ay X (compareOp .Lt) (Fs fun i j=>.bl (decide (i < j))):=Qz fun _ _ _ _ _ _ _ q=>lt_int q
def QY:Ay X (compareOp .LtE) (Fs fun i j=>.bl (decide (i<=j))):=Qz fun _ _ _ _ _ _ _ q=>le_int q
def NV:Ay X (compareOp .Gt) (Fs fun i j=>.bl (decide (j < i))):=Qz fun _ _ _ _ _ _ _ q=>gt_int q
def rZ:Ay X (compareOp .GtE) (Fs fun i j=>.bl (decide (j<=i))):=Qz fun _ _ _ _ _ _ _ q=>ge_int q
def pW:Ay X (compareOp .In) (fun x y H Q=>∃ i j,x=.str i/\y=.str j/\Q (.bl (!(Builtin.Str.occurrences j i 0 j.length 1).isEmpty)) H):=by
 intro pins s σ H x y v u Q I rx ry h
 obtain ⟨i,j,rfl,rfl,q⟩:=h
 obtain ⟨t,rfl⟩:=rx
 obtain ⟨t',rfl⟩:=ry
 exact in_str (Bf I q rfl)
def Vx:Ay X (compareOp .IsNot) (fun x y H Q=>y=.A5/\Q (.bl (!decide (x=.A5))) H):=by
 intro pins s σ H x y v u Q I rx ry h
 obtain ⟨rfl,q⟩:=h
 cases ry
 refine isnot_none_gen (Bf I q ?_)
 cases x <;> first
  | (cases rx;rfl)
  | (obtain ⟨t,rfl⟩:=rx;rfl)
def Ay.or {f:Value->Value->Sem Value}{r r':R2}(h:Ay X f r) (h':Ay X f r'):Ay X f (fun x y H Q=>r x y H Q∨r' x y H Q):=by
 intro pins s σ H x y v u Q I rx ry q
 rcases q with q | q
 ·exact h pins s σ H x y v u Q I rx ry q
 ·exact h' pins s σ H x y v u Q I rx ry q
def de (b:Expr){op:CmpOp}(h:op≠.In:=by decide) (h2:op≠.NotIn:=by decide):behindInMarks op b=false:=by
 have e1:(op == CmpOp.In)=false:=by cases op <;> first | rfl | exact absurd rfl h
 have e2:(op == CmpOp.NotIn)=false:=by cases op <;> first | rfl | exact absurd rfl h2
 cases b <;> simp [behindInMarks,e1,e2]
def o3 {op:CmpOp}{r:R2}(ho:Ay X (compareOp op) r) (ha:PE X a ta) (hb:PE X b tb) (hm:behindInMarks op b=false):PE X (.Compare a [op] [b] pos) (BH r ta tb):=by
 intro pins s σ H Q I h
 exact wpAny_Compare1 (Tu ha hb I h fun v u s2 x y H2 I2 rx ry q=>ho pins s2 σ H2 x y v u Q I2 rx ry q) hm
def Lh (t:TE):TT:=fun σ H Q=>t σ H fun x H'=>∃ k,x=.bl k/\Q k H'
def qY {op:CmpOp}{r:R2}(ho:Ay X (compareOp op) r) (ha:PE X a ta) (hb:PE X b tb) (hm:behindInMarks op b=false):PT X (.Compare a [op] [b] pos) (Lh (BH r ta tb)):=by
 intro pins s σ H Q I h
 refine wpAny_isTrue_Compare1 (AH (ha pins s σ H _ I h) fun v s1 ⟨x,H1,I1,r1,q1⟩=>AH (hb pins s1 σ H1 _ I1 q1) fun u s2 ⟨y,H2,I2,r2,q2⟩=>
  AH (ho pins s2 σ H2 x y v u _ I2 r1 r2 q2) fun c s3 ⟨z,H3,I3,r3,k,e,q3⟩=>?_) hm
 subst e
 cases r3
 exact wpAny_truthy_bool ⟨H3,I3,q3⟩
def N7 (r r':R2) (ta tb tc:TE):TE:=fun σ H Q=>ta σ H fun x H1=>tb σ H1 fun y H2=>r x y H2 fun z H3=>∃ k,z=.bl k/\
 (if k=true then tc σ H3 fun w' H4=>r' y w' H4 Q else Q (.bl false) H3)
def md {op EB:CmpOp}{r r':R2}(ho:Ay X (compareOp op) r) (EO:Ay X (compareOp EB) r') (ha:PE X a ta) (hb:PE X b tb) (hc:PE X c tc)
  (hm:lastMarks [op,EB] [b,c]=false:=by with_unfolding_all rfl):PE X (.Compare a [op,EB] [b,c] pos) (N7 r r' ta tb tc):=by
 intro pins s σ H Q I h
 refine Compare_chain (AH (ha pins s σ H _ I h) fun v s1 ⟨x,H1,I1,r1,q1⟩=>chain_link (AH (hb pins s1 σ H1 _ I1 q1) fun u s2 ⟨y,H2,I2,r2,q2⟩=>
  AH (ho pins s2 σ H2 x y v u _ I2 r1 r2 q2) fun d s3 ⟨z,H3,I3,r3,k,e,q3⟩=>?_)) hm
 subst e
 cases r3
 refine wpAny_truthy_bool ?_
 cases k with
 | false=>exact ite_ff ⟨.bl false,H3,I3,rfl,q3⟩
 | true=>exact ite_tt (chain_last (AH (hc pins s3 σ H3 _ I3 q3) fun w' s4 ⟨z',H4,I4,r4,q4⟩=>EO pins s4 σ H4 y z' u w' Q I4 r2 r4 q4))
def jE {op EB:CmpOp}{r r':R2}(ho:Ay X (compareOp op) r) (EO:Ay X (compareOp EB) r') (ha:PE X a ta) (hb:PE X b tb) (hc:PE X c tc)
  (hm:lastMarks [op,EB] [b,c]=false:=by with_unfolding_all rfl):PT X (.Compare a [op,EB] [b,c] pos) (Lh (N7 r r' ta tb tc)):=by
 intro pins s σ H Q I h
 refine isTrue_chain (AH (ha pins s σ H _ I h) fun v s1 ⟨x,H1,I1,r1,q1⟩=>test_link (AH (hb pins s1 σ H1 _ I1 q1) fun u s2 ⟨y,H2,I2,r2,q2⟩=>
  AH (ho pins s2 σ H2 x y v u _ I2 r1 r2 q2) fun d s3 ⟨z,H3,I3,r3,k,e,q3⟩=>?_)) hm
 subst e
 cases r3
 refine wpAny_truthy_bool ?_
 cases k with
 | false=>
  obtain ⟨k',e',q'⟩:=q3
  cases e'
  exact ite_ff ⟨H3,I3,q'⟩
 | true=>
  refine ite_tt (test_last (AH (hc pins s3 σ H3 _ I3 q3) fun w' s4 ⟨z',H4,I4,r4,q4⟩=>AH (EO pins s4 σ H4 y z' u w' _ I4 r2 r4 q4) fun d' s5 ⟨z2,H5,I5,r5,k2,e2,q5⟩=>?_))
  subst e2
  cases r5
  exact wpAny_truthy_bool ⟨H5,I5,q5⟩
def Ir:(sizeLine:Nat) < 2 ^ 63:=by rw [sizeLine_eq];decide
def Yw:Ay X (binaryOp .Add) (fun x y H Q=>∃ i j,x=.str i/\y=.str j/\i.length+j.length<=sizeLine/\Q (.str (i++j)) H):=by
 intro pins s σ H x y v u Q I rx ry h
 obtain ⟨i,j,rfl,rfl,hz,q⟩:=h
 obtain ⟨t,rfl⟩:=rx
 obtain ⟨t',rfl⟩:=ry
 exact add_str (fun t' tk=>⟨.str (i++j),H,I.tok _,⟨_,rfl⟩,q⟩) hz
def vals1 {x:V}{us:List Value}(r:Vals [x] us):∃ u,us=[u]/\RelV x u:=by
 cases r with
 | cons r1 r2=>cases r2;exact ⟨_,rfl,r1⟩
def vals2 {x y:V}{us:List Value}(r:Vals [x,y] us):∃ u w',us=[u,w']/\RelV x u/\RelV y w':=by
 cases r with
 | cons r1 r2=>
  cases r2 with
  | cons r3 r4=>cases r4;exact ⟨_,_,rfl,r1,r3⟩
def cx (hc:X.calm=true):C2 X (.builtin "max") (fun xs H Q=>∃ i j,xs=[.int i,.int j]/\Q (.int (if j > i then j else i)) H):=by
 intro pins s σ H xs us Q I r h
 obtain ⟨i,j,rfl,q⟩:=h
 obtain ⟨u,w',rfl,⟨t,rfl⟩,⟨t',rfl⟩⟩:=vals2 r
 refine max_two_ints (I.ok.hd hc) fun h' tk k=>⟨_,H,I.kept k,?_,q⟩
 by_cases hj:j > i
 ·rw [if_pos hj,if_pos hj];exact ⟨_,rfl⟩
 ·rw [if_neg hj,if_neg hj];exact ⟨_,rfl⟩
def tF (hc:X.calm=true):C2 X (.builtin "min") (fun xs H Q=>∃ i j,xs=[.int i,.int j]/\Q (.int (if j < i then j else i)) H):=by
 intro pins s σ H xs us Q I r h
 obtain ⟨i,j,rfl,q⟩:=h
 obtain ⟨u,w',rfl,⟨t,rfl⟩,⟨t',rfl⟩⟩:=vals2 r
 refine min_two_ints (I.ok.hd hc) fun h' tk k=>⟨_,H,I.kept k,?_,q⟩
 by_cases hj:j < i
 ·rw [if_pos hj,if_pos hj];exact ⟨_,rfl⟩
 ·rw [if_neg hj,if_neg hj];exact ⟨_,rfl⟩
end
structure Jp (h:Heap) (x dx C:Addr) (mA:ZAa):Prop where
 obj:h.get? x=some (PySem.W.instObj C dx)
 ns:h.Ns1 dx mA
 ne:dx≠x
def xy {h:Heap}{dx:Addr}{mA:ZAa}(n:h.Ns1 dx mA):∃ od,h.get? dx=some od/\∀ name,PySem.W.lookIn name od=some (mA name):=by
 obtain ⟨o,es,ep,ho,hd,hk,_,hm⟩:=n
 refine ⟨o,ho,fun name=>?_⟩
 have e:=hm name
 unfold nsFind findBy at e
 rw [<- Array.find?_toList] at e
 unfold PySem.W.lookIn
 rw [hd]
 dsimp only
 split
 ·rename_i y q
  rw [q] at e
  exact congrArg some e
 ·rename_i q
  rw [q] at e
  have a:es.toList.any (·.refKey)=false:=by
   rw [zO]
   intro y hy
   obtain ⟨z,t,Hf⟩:=hk y (Array.mem_toList_iff.mp hy)
   simp [DictEntry.refKey,Hf]
  have a':¬ es.toList.any (·.refKey)=true:=by rw [a];exact CQ
  rw [if_neg a']
  exact congrArg some e
def Jp.look {h:Heap}{x dx C:Addr}{mA:ZAa}(I:Jp h x dx C mA):∃ od,PySem.W.InstAt h x (PySem.W.instObj C dx) C (some od)/\∀ name,PySem.W.lookIn name od=some (mA name):=
 let ⟨od,ho,hl⟩:=xy I.ns
 ⟨od,⟨I.obj,rfl,rfl,ho⟩,hl⟩
section
variable {prog:Program}{w:World}{A:Around}{E:Value->Shared->Prop}{s:Shared}{K:ZAY}{x dx C f:Addr}{mA:ZAa}{name:Str}{v:Value}
def get_map {expr:Bool}{Q:Value->Shared->Prop}(X:K.In s.heap) (I:Jp s.heap x dx C mA) (hg:PySem.W.plainGet K C name=true) (hh:PySem.W.hasDictIn K C=true)
  (ha:PySem.W.findIn K (.ref C) name=some none) (hv:mA name=some v) (HP:PySem.W.handedIn v=true) (h:Q v { s with toks:=s.toks+1 }) :
  wpAny (model prog w) A (getAttr (.ref x) name expr) Q E s:=by
 obtain ⟨od,J,hl⟩:=I.look
 exact PySem.W.get_value X J (gx hg).1 (PySem.W.findObj_own hh ha rfl (by rw [hl,hv])) HP h
def pG {pl:Sem Bool}{Q:Value×List Value->Shared->Prop}(X:K.In s.heap) (I:Jp s.heap x dx C mA) (hg:PySem.W.plainGet K C name=true)
  (hf:PySem.W.findIn K (.ref C) name=some (some (.ref f))) (ht:PySem.W.isFn K (.ref f)=true) (hv:mA name=none) (h:Q (.ref f,[.ref x]) s) :
  wpAny (model prog w) A (getMethod (.ref x) name pl) Q E s:=by
 obtain ⟨od,J,hl⟩:=I.look
 exact PySem.W.method_fn X J (gx hg).1 (gx hg).2 hf (beq_iff_eq.mp ht) (by show (PySem.W.lookIn name od).map (·.isSome)=some false;rw [hl,hv];rfl) h
def Z2 {ns:List Str}{Q:Unit->Shared->Prop}(X:K.In s.heap) (I:Jp s.heap x dx C mA)
  (hs:PySem.W.findIn K (.ref C) "__setattr__" = some (some (.builtin "object.__setattr__"))) (hp:PySem.W.plainOver K C=true) (ht:PySem.W.takerIn K C name=some none) (hh:PySem.W.hasDictIn K C=true)
  (hw:PySem.Within mA ns) (hsz:ns.length<=sizeLine)
  (h:∀ h',Jp h' x dx C (fun y=>if y=name then some v else mA y)->Heap.SameBut dx s.heap h'->Q () { s with heap:=h',toks:=s.toks+2 }) :
  wpAny (model prog w) A (setAttr (.ref x) name v) Q E s:=by
 obtain ⟨od,J,hl⟩:=I.look
 refine PySem.W.set_plain X J hs (PySem.W.osa_open (s:={ s with toks:=s.toks+1 }) (r:=none) X J hp ht fun b=>?_)
 obtain ⟨cd,hc,NC⟩:=PySem.W.any_some hh
 have hx:s.heap.get? x=some ⟨.ref C,some dx,.plain,#[]⟩:=I.obj
 refine wpAny_bind (wpAny_pure (wpAny_bind (wpAny_bind (wpAny_loadPart hx (wpAny_bind (PySem.W.Looks.here (s:={ s with toks:=s.toks+1 }) (PySem.W.looks_clsIn X hc) ?_))))))
 rw [NC]
 refine wpAny_pure (a:=some dx) (wpAny_bind (wpAny_pure (wpAny_bind ?_)))
 refine wpAny_nsSet1 (s:={ s with toks:=s.toks+1 }) I.ns fun h' Df CD=>?_
 obtain ⟨oD,zx,epD,uc,gz,yA⟩:=Df.count (PySem.Within.cons name v hw)
 refine wpAny_bind (wpAny_lookBehind uc (by rw [gz];exact pastItsLine_dict (Dj yA (by rw [BZ];omega))) ?_)
 exact wpAny_pure (h _ ⟨(CD.2 _ (Bi I.ne)).trans I.obj,Df,I.ne⟩ CD)
def tP {R:Result->Shared->Prop}{vs:List Value}{kw:List (Str×Value)}(X:K.In s.heap) (hm:PySem.W.makesIn K C=true)
  (hi:PySem.W.findIn K (.ref C) "__init__" = some (some (.ref f))) (hf:PySem.W.typeIn K (.ref f)=some (.type "function"))
  (h:codeAny (model prog w) (A.under (.builtin "type.__call__" ⟨.ref C :: vs,kw⟩)) (.call (.ref f) ⟨.ref (s.heap.objs.size+1) :: vs,kw⟩) (PySem.W.InitBack (s.heap.objs.size+1) R)
   { s with heap:=(s.heap.push PySem.W.emptyDict).push (PySem.W.instObj C s.heap.objs.size) }) :
  codeAny (model prog w) A (.call (.ref C) ⟨vs,kw⟩) R s:=by
 obtain ⟨hh,g,d,t,os⟩:=s
 exact PySem.W.make_core (PySem.W.makes_of X hm) (PySem.W.looks_findIn X hi) (fun self=>PySem.W.bind_fn X self hf) (.inl rfl) h
end
def D1 (f:Str) (v:V):List (Str×V)->List (Str×V)
 | []=>[(f,v)]
 | (g,x) :: r=>if g=f then (g,v) :: r else (g,x) :: D1 f v r
theorem Yv (f g:Str) (v:V):∀ fs:List (Str×V),(D1 f v fs).lookup g=if g=f then some v else fs.lookup g
 | []=>by
  show List.lookup g [(f,v)]=_
  by_cases h:g=f
  ·have hb:(g == f)=true:=beq_iff_eq.mpr h
   simp only [List.lookup,hb,if_pos h]
  ·have hb:(g == f)=false:=beq_eq_false_iff_ne.mpr h
   simp only [List.lookup,hb,if_neg h]
 | (k,x) :: r=>by
  have ih:=Yv f g v r
  rw [show D1 f v ((k,x) :: r)=(if k=f then (k,v) :: r else (k,x) :: D1 f v r) from rfl]
  by_cases hk:k=f
  ·rw [if_pos hk]
   by_cases h:g=k
   ·have hb:(g == k)=true:=beq_iff_eq.mpr h
    simp only [List.lookup,hb,if_pos (h.trans hk)]
   ·have hb:(g == k)=false:=beq_eq_false_iff_ne.mpr h
    simp only [List.lookup,hb,if_neg (fun e:g=f=>h (e.trans hk.symm))]
  ·rw [if_neg hk]
   by_cases h:g=k
   ·have hb:(g == k)=true:=beq_iff_eq.mpr h
    simp only [List.lookup,hb,if_neg (fun e:g=f=>hk (h.symm.trans e))]
   ·have hb:(g == k)=false:=beq_eq_false_iff_ne.mpr h
    simp only [List.lookup,hb]
    exact ih
theorem Tp (f:Str) (v:V):∀ fs:List (Str×V),f∈(D1 f v fs).map (·.1)/\∀ g,g∈fs.map (·.1)->g∈(D1 f v fs).map (·.1)
 | []=>⟨by simp [D1],fun g h=>by simp at h⟩
 | (k,x) :: r=>by
  obtain ⟨i1,i2⟩:=Tp f v r
  rw [show D1 f v ((k,x) :: r)=(if k=f then (k,v) :: r else (k,x) :: D1 f v r) from rfl]
  by_cases hk:k=f
  ·rw [if_pos hk]
   subst hk
   exact ⟨by simp,fun g h=>by simpa using h⟩
  ·rw [if_neg hk]
   refine ⟨?_,fun g h=>?_⟩
   ·rw [BL]
    exact Fx _ i1
   ·rw [BL] at h ⊢
    rcases List.mem_cons.mp h with e | e
    ·exact List.mem_cons.mpr (.inl e)
    ·exact Fx _ (i2 g e)
theorem cU (f:Str) (v:V):∀ fs:List (Str×V),(D1 f v fs).length<=fs.length+1
 | []=>by simp [D1]
 | (k,x) :: r=>by
  have ih:=cU f v r
  rw [show D1 f v ((k,x) :: r)=(if k=f then (k,v) :: r else (k,x) :: D1 f v r) from rfl]
  by_cases hk:k=f
  ·rw [if_pos hk,BZ,BZ];omega
  ·rw [if_neg hk,BZ,BZ];omega
def Dq.some_of {v:V}{o:Option Value}(r:Dq (some v) o):∃ u,o=some u/\RelV v u:=by
 cases o with
 | none=>exact (show False from r).elim
 | some u=>exact ⟨u,rfl,r⟩
def Dq.none_of {o:Option Value}(r:Dq none o):o=none:=by
 cases o with
 | none=>rfl
 | some u=>exact (show False from r).elim
def mP {v:V}{u:Value}(r:RelV v u):PySem.W.handedIn u=true:=by
 cases v with
 | A5=>cases (show u=Value.none from r);rfl
 | bl b=>cases (show u=Value.bool b from r);rfl
 | int i=>obtain ⟨t,e⟩:=(show ∃ t,u=Value.int i t from r);cases e;rfl
 | str x=>obtain ⟨t,e⟩:=(show ∃ t,u=Value.str x t from r);cases e;rfl
 | FW b=>obtain ⟨t,e⟩:=(show ∃ t,u=Value.bytes b t from r);cases e;rfl
 | Im b=>obtain ⟨t,e⟩:=(show ∃ t,u=Value.float b t from r);cases e;rfl
 | ref a=>cases (show u=Value.ref a from r);rfl
 | ty n=>cases (show u=Value.type n from r);rfl
section
variable {P:Program}{w:World}{H H':Hp}{h h':Heap}{a C dx:Addr}{fs Ua:List (Str×V)}
def Q0 (AF:Bj P w H h) (e:H a=some (.ins C dx fs)):∃ mA,Jp h a dx C mA/\(∀ f,Dq (fs.lookup f) (mA f))/\PySem.Within mA (fs.map (·.1))/\fs.length<=1000/\H dx=some (.own a):=by
 obtain ⟨d,z,ne,ob,mA,n,r,q⟩:=(show C4 P w H h a (.ins C dx fs) from AF a _ e)
 exact ⟨mA,⟨ob,n,ne⟩,r,q,z,d⟩
end
structure Dc (K:ZAY) (C:Addr):Prop where
 pg:PySem.W.plainGet K C Str.empty=true
 hd:PySem.W.hasDictIn K C=true
 po:PySem.W.plainOver K C=true
 sa:PySem.W.findIn K (.ref C) "__setattr__" = some (some (.builtin "object.__setattr__"))
def Dc.get {K:ZAY}{C:Addr}(c:Dc K C) (f:Str):PySem.W.plainGet K C f=true:=c.pg
def Ez (K:ZAY) (C:Addr) (f:Str):Prop:=PySem.W.findIn K (.ref C) f=some none
def Ez.rH {K:ZAY}{C:Addr}{f:Str}(n:Ez K C f):PySem.W.takerIn K C f=some none:=by
 unfold PySem.W.takerIn
 rw [show PySem.W.findIn K (.ref C) f=some none from n]
 rfl
structure Fg (K:ZAY) (C:Addr) (f:Str) (v:V) (u:Value):Prop where
 at_:PySem.W.findIn K (.ref C) f=some (some u)
 rel:RelV v u
 get:PySem.W.specialIn K u "__get__" = some none
 cp:PySem.W.copiedNames.contains f=false
structure Meth (K:ZAY) (C:Addr) (m:Str) (f:Addr):Prop where
 at_:PySem.W.findIn K (.ref C) m=some (some (.ref f))
 fn:PySem.W.isFn K (.ref f)=true
 kp:PySem.W.keepIn K (.ref f)=true
section
variable {X:Cx}{pins:ZAZ}{σ:St} {H:Hp}{s:Shared}{a C dx:Addr}{fs:List (Str×V)}{f:Str}{v:V}{A:Around}{E:Value->Shared->Prop}
def nj {b:Bool}{Q:Value->Shared->Prop}(I:Inv X pins σ H s) (e:H a=some (.ins C dx fs)) (c:Dc X.K C) (n:Ez X.K C f) (l:fs.lookup f=some v)
  (h:∀ u s',Inv X pins σ H s'->RelV v u->Q u s'):wpAny (model X.prog X.w) A (getAttr (.ref a) f b) Q E s:=by
 obtain ⟨mA,O,r,_,_,_⟩:=Q0 I.AF e
 obtain ⟨u,hu,ru⟩:=Dq.some_of (v:=v) (o:=mA f) (by rw [<- l];exact r f)
 exact get_map I.CM O (c.get f) c.hd n hu (mP ru) (h u _ (I.tok _) ru)
def YE {m:Str}{g:Addr}{pl:Sem Bool}{Q:Value×List Value->Shared->Prop}(I:Inv X pins σ H s) (e:H a=some (.ins C dx fs)) (c:Dc X.K C) (k:Meth X.K C m g) (l:fs.lookup m=none)
  (h:Q (.ref g,[.ref a]) s):wpAny (model X.prog X.w) A (getMethod (.ref a) m pl) Q E s:=by
 obtain ⟨mA,O,r,_,_,_⟩:=Q0 I.AF e
 have hn:mA m=none:=Dq.none_of (by rw [<- l];exact r m)
 exact pG I.CM O (c.get m) k.at_ k.fn hn h
def qp {y:V}{u:Value}{Q:Unit->Shared->Prop}(I:Inv X pins σ H s) (e:H a=some (.ins C dx fs)) (c:Dc X.K C) (n:Ez X.K C f) (hl:fs.length < 1000) (ry:RelV y u)
  (h:∀ s',Inv X pins σ (upd H a (.ins C dx (D1 f y fs))) s'->Q () s'):wpAny (model X.prog X.w) A (setAttr (.ref a) f u) Q E s:=by
 obtain ⟨mA,O,r,wi,_,ho⟩:=Q0 I.AF e
 have hz:(fs.map (·.1)).length<=sizeLine:=by rw [AE,sizeLine_eq];omega
 refine Z2 I.CM O c.sa c.po n.rH c.hd wi hz fun h' O' sb=>h _ ?_
 have hd:∃ o,h'.get? dx=some o:=let ⟨o,_,_,e',_⟩:=O'.ns;⟨o,e'⟩
 refine I.write (x:=a) (e:=dx) (by rw [e];exact True.intro) (.inr ho) (fun b q hb z=>(sb.2 b hb).trans z) hd ?_
 refine ⟨by rw [AR O.ne];exact ho,?_,O.ne,O'.obj,_,O'.ns,fun g=>?_,fun g hg=>?_⟩
 ·have:=cU f y fs;omega
 ·show Dq ((D1 f y fs).lookup g) (if g=f then some u else mA g)
  rw [Yv]
  by_cases q:g=f
  ·rw [if_pos q,if_pos q];exact ry
  ·rw [if_neg q,if_neg q];exact r g
 ·by_cases q:g=f
  ·rw [q];exact (Tp f y fs).1
  ·refine (Tp f y fs).2 g (wi g fun z=>hg ?_)
   show (if g=f then some u else mA g)=none
   rw [if_neg q];exact z
def Inv.made (I:Inv X pins σ H s):Inv X pins σ (upd (upd H s.heap.objs.size (.own (s.heap.objs.size+1))) (s.heap.objs.size+1) (.ins C s.heap.objs.size []))
  { s with heap:=(s.heap.push PySem.W.emptyDict).push (PySem.W.instObj C s.heap.objs.size) }:=by
 have e1:(s.heap.push PySem.W.emptyDict).get? s.heap.objs.size=some PySem.W.emptyDict:=DD s.heap rfl
 have e2:((s.heap.push PySem.W.emptyDict).push (PySem.W.instObj C s.heap.objs.size)).get? (s.heap.objs.size+1)=some (PySem.W.instObj C s.heap.objs.size):=by
  have:=DD (s.heap.push PySem.W.emptyDict) (o:=PySem.W.instObj C s.heap.objs.size) rfl
  rwa [JH] at this
 have e3:(s.heap.push PySem.W.emptyDict).Ns s.heap.objs.size (fun _=>none):=⟨PySem.W.emptyDict,#[],_,e1,rfl,(fun e he=>absurd he (by simp)),fun _=>rfl⟩
 have I1:=I.laid (a:=s.heap.objs.size) (o:=.own (s.heap.objs.size+1)) (h':=s.heap.push PySem.W.emptyDict) (t':=s.toks) (fun b u q=>Br _ q) (Ae _) ⟨_,e1⟩
 refine I1.laid (a:=s.heap.objs.size+1) (o:=.ins C s.heap.objs.size []) (t':=s.toks) (fun b u q=>Br _ q) (gj (JH _ _)) ?_
 have ne:s.heap.objs.size≠s.heap.objs.size+1:=C8 (gk _)
 refine ⟨by rw [AR ne,Aa],CJ _,ne,e2,fun _=>none,(Heap.Ns1.of_empty e3).at fun o q=>Br _ q,fun _=>True.intro,fun y hy=>absurd rfl hy⟩
def ud {prog:Program}{w:World}{env:Env}{e:Expr}{f:Str}{pos:Pos}{s:Shared}{Q:Value->Shared->Prop}(hb:attributeBase e f env (eval e env)=eval e env)
  (h:wpAny (model prog w) A (eval e env) (fun o s₁=>wpAny (model prog w) A (getAttr o f true) Q E s₁) E s):wpAny (model prog w) A (eval (.Attribute e f pos) env) Q E s:=
 Attribute_any_ h (by rw [arm_eval_Attribute,hb])
end
def RS (K:ZAY) (ta:TE) (f:Str):TE:=fun σ H Q=>ta σ H fun x H1=>∃ a C dx fs v,x=.ref a/\H1 a=some (.ins C dx fs)/\Dc K C/\Ez K C f/\fs.lookup f=some v/\Q v H1
def Vm (K:ZAY) (ta tv:TE) (f:Str):TS:=fun D σ H=>tv σ H fun y H1=>ta σ H1 fun x H2=>∃ a C dx fs,x=.ref a/\H2 a=some (.ins C dx fs)/\Dc K C/\Ez K C f/\fs.length < 1000/\
 D.nx σ (upd H2 a (.ins C dx (D1 f y fs)))
section
variable {X:Cx}{o e value:Expr}{f:Str}{pos pos' Kc:Pos}{ta tv:TE}
def yH (he:PE X e ta) (hb:attributeBase e f X.env (eval e X.env)=eval e X.env):PE X (.Attribute e f pos) (RS X.K ta f):=by
 intro pins s σ H Q I h
 refine ud hb (AH (he pins s σ H _ I h) fun u s1 ⟨x,H1,I1,rx,a,C,dx,fs,v,ex,ea,c,n,l,q⟩=>?_)
 subst ex
 obtain rfl:u=Value.ref a:=rx
 exact nj I1 ea c n l fun u' s2 I2 ru=>⟨v,H1,I2,ru,q⟩
def mz (ha:PE X o ta) (hv:PE X value tv) (hs:swapsWith value (some (.Attribute o f pos')) pos.line X.env=pure false):PS X (.Assign [.Attribute o f pos'] value pos) (Vm X.K ta tv f):=by
 intro pins s σ H D I h
 refine plainObj_wpAny_Assign_Attribute (AH (hv pins s σ H _ I h) fun u s1 ⟨y,H1,I1,ry,q⟩=>AH (ha pins s1 σ H1 _ I1 q) fun ov s2 ⟨x,H2,I2,rx,a,C,dx,fs,ex,ea,c,n,l,q2⟩=>?_) hs
 subst ex
 obtain rfl:ov=Value.ref a:=rx
 exact qp I2 ea c n l ry fun s3 I3=>⟨σ,_,I3,q2⟩
end
section
variable {X:Cx}{pins:ZAZ}{σ:St} {H:Hp}{s:Shared}{A:Around}{E:Value->Shared->Prop}{Q:Value->Shared->Prop}{c:Value}{b:Bool}
inductive EN (K:ZAY) (H:Hp):V->Value->Prop where
 | A5:EN K H .A5 (.type "NoneType")
 | bl (x:Bool):EN K H (.bl x) (.type "bool")
 | int (i:Int):EN K H (.int i) (.type "int")
 | str (x:Str):EN K H (.str x) (.type "str")
 | Im (x:UInt64):EN K H (.Im x) (.type "float")
 | lst {a:Addr}{xs:List V}(e:H a=some (.lst xs)):EN K H (.ref a) (.type "list")
 | DR {a:Addr}{o:Obj}{xs:List V}(e:H a=some (.DR o (.lst xs))):EN K H (.ref a) (.type "list")
 | tup {a:Addr}{xs:List V}(e:H a=some (.tup xs)):EN K H (.ref a) (.type "tuple")
 | dK {a:Addr}{A3:List (Key×V)}(e:H a=some (.dK A3)):EN K H (.ref a) (.type "dict")
 | dT {a:Addr}{A3:List (List Key×V)}(e:H a=some (.dT A3)):EN K H (.ref a) (.type "dict")
 | ins {a C dx:Addr}{fs:List (Str×V)}(e:H a=some (.ins C dx fs)) (cl:Dc K C) (ha:PySem.W.findIn K (.ref C) "__class__" = some (some (.builtin "object.__class__")))
   (hn:PySem.W.specialIn K (.builtin "object.__class__") "__get__" = some (some (.builtin "getset_descriptor.__get__"))) (Ik:PySem.W.takesIn K (.builtin "object.__class__")=some true)
   (hm:PySem.W.mroIn K C (.type "object")=some true):EN K H (.ref a) (.ref C)
def vm {x:V}{u t:Value}(I:Inv X pins σ H s) (rx:RelV x u) (ty:EN X.K H x t) (e:PySem.W.kitOne X.K t c=some b) (h:∀ tk,Q (.bool b) { s with toks:=tk }) :
  wpAny (model X.prog X.w) A (call (.builtin "isinstance") [u,c]) Q E s:=by
 cases ty with
 | A5=>cases (show u=Value.none from rx);exact HJ PySem.W.kitx_none I.CM True.intro e (fun z=>nomatch z) h
 | bl y=>cases (show u=Value.bool y from rx);exact HJ PySem.W.kitx_bool I.CM True.intro e (fun z=>nomatch z) h
 | int i=>obtain ⟨t,q⟩:=(show ∃ t,u=Value.int i t from rx);cases q;exact HJ PySem.W.kitx_int I.CM True.intro e (fun z=>nomatch z) h
 | str y=>obtain ⟨t,q⟩:=(show ∃ t,u=Value.str y t from rx);cases q;exact HJ PySem.W.kitx_str I.CM True.intro e (fun z=>nomatch z) h
 | Im y=>obtain ⟨t,q⟩:=(show ∃ t,u=Value.float y t from rx);cases q;exact HJ PySem.W.kitx_float I.CM True.intro e (fun z=>nomatch z) h
 | @lst a xs ea=>
  cases (show u=Value.ref a from rx)
  obtain ⟨_,_,n,_,h1⟩:=(show C4 X.prog X.w H s.heap a (.lst xs) from I.AF a _ ea)
  exact HJ zt I.CM ⟨_,h1,rfl⟩ e (fun z=>nomatch z) h
 | @DR a ob xs ea=>
  cases (show u=Value.ref a from rx)
  obtain ⟨_,_,_,n,_,h1⟩:=(show C4 X.prog X.w H s.heap a (.DR ob (.lst xs)) from I.AF a _ ea)
  exact HJ zt I.CM ⟨_,h1,rfl⟩ e (fun z=>nomatch z) h
 | @tup a xs ea=>
  cases (show u=Value.ref a from rx)
  obtain ⟨_,_,_,p⟩:=(show C4 X.prog X.w H s.heap a (.tup xs) from I.AF a _ ea)
  obtain ⟨o,h1,h2,_⟩:=p.1
  exact HJ PySem.W.kitx_tuple I.CM ⟨o,h1,h2⟩ e (fun z=>nomatch z) h
 | @dK a A3 ea=>
  cases (show u=Value.ref a from rx)
  obtain ⟨_,_,vs,_,p⟩:=(show C4 X.prog X.w H s.heap a (.dK A3) from I.AF a _ ea)
  obtain ⟨o,es,ep,h1,h2,_⟩:=p
  exact HJ zr I.CM ⟨o,h1,h2.1⟩ e (fun z=>nomatch z) h
 | @dT a A3 ea=>
  cases (show u=Value.ref a from rx)
  obtain ⟨_,_,xs,_,o,es,ep,h1,h2,_⟩:=(show C4 X.prog X.w H s.heap a (.dT A3) from I.AF a _ ea)
  exact HJ zr I.CM ⟨o,h1,h2.1⟩ e (fun z=>nomatch z) h
 | @ins a C dx fs ea cl ha hn Ik hm=>
  cases (show u=Value.ref a from rx)
  obtain ⟨mA,O,_⟩:=Q0 I.AF ea
  obtain ⟨od,J,_⟩:=O.look
  exact HJ (PySem.W.kitx_own (cl.get _) cl.hd ha hn Ik hm) I.CM J e (fun z=>nomatch z) h
end
structure BY (k:Nat) (A:Around):Prop where
 hd:A.handled=none
 dp:A.depth+3 * k+5 < recursionLimit
 un:A.units+16 * k+200 < cLine
def BY.mono {j k:Nat}{A:Around}(r:BY k A) (h:j<=k):BY j A:=⟨r.hd,by have:=r.dp;omega,by have:=r.un;omega⟩
theorem BY.deeper {k:Nat}{A:Around}(r:BY (k+1) A) (env:Env):BY k (A.deeper env):=
 ⟨r.hd,by have:=r.dp;show A.depth+1+3 * k+5 < _;omega,by have:=r.un;show A.units+3+16 * k+200 < _;omega⟩
def ie {A:Around}{C:Addr}{us:List Value}{kw:List (Str×Value)}:(A.under (.builtin "type.__call__" ⟨.ref C :: us,kw⟩)).depth=A.depth+1:=by
 first | rfl | simp [Around.under,Code.weight,Code.isCreation,Code.isGuard,Code.isCaller,Code.frames,Code.isFrame,guardIds]
def l7 {A:Around}{C:Addr}{us:List Value}{kw:List (Str×Value)}:(A.under (.builtin "type.__call__" ⟨.ref C :: us,kw⟩)).units=A.units+1:=by
 first | rfl | simp [Around.under,Code.cUnits,Code.frames,Code.isFrame]
def BY.make {k:Nat}{A:Around}(r:BY (k+1) A) (C:Addr) (us:List Value) (kw:List (Str×Value)):BY k (A.under (.builtin "type.__call__" ⟨.ref C :: us,kw⟩)):=
 ⟨r.hd,by have:=r.dp;rw [ie];omega,by have:=r.un;rw [l7];omega⟩
theorem BY.depth {k:Nat}{A:Around}(r:BY k A):A.depth < recursionLimit:=by have:=r.dp;omega
theorem BY.units {k:Nat}{A:Around}(r:BY k A):A.units+64 < cLine:=by have:=r.un;omega
def BY.Qv {k:Nat}{A:Around}(r:BY k A):A.units < cLine:=by have:=r.un;omega
def An:TA:=fun _ H Q=>Q [] H
def AO (ta:TE) (tr:TA):TA:=fun σ H Q=>ta σ H fun x H1=>tr σ H1 fun xs H2=>Q (x :: xs) H2
section
variable {X:Cx}{e:Expr}{es:List Expr}{te:TE}{t:TA}{pos:Pos}
def vy:PA X [] An:=fun _ _ _ _ H Q I h=>Calls.spliced_nil ⟨[],H,I,.nil,h⟩
def iJ (ha:PE X e te) (hr:PA X es t) (hs:starEach (e :: es) X.env=(false,eval e X.env) :: starEach es X.env:=by rfl):PA X (e :: es) (AO te t):=by
 intro pos pins s σ H Q I h
 rw [hs]
 show wpAny _ _ (spliced ((false,eval e X.env) :: backTo pos (starEach es X.env))) _ _ s
 refine Calls.spliced_cons (AH (ha pins s σ H _ I h) fun u s1 ⟨x,H1,I1,r1,q1⟩=>?_)
 exact AH (hr pos pins s1 σ H1 _ I1 q1) fun us s2 ⟨xs,H2,I2,r2,q2⟩=>⟨x :: xs,H2,I2,.cons r1 r2,q2⟩
def Pq (t:TA):TE:=fun σ H Q=>t σ H fun xs H1=>xs.length<=sizeLine/\∀ p,H1 p=none->Q (.ref p) (upd H1 p (.tup xs))
def VY (t:TA):TE:=fun σ H Q=>t σ H fun xs H1=>xs.length<=sizeLine/\∀ p,H1 p=none->Q (.ref p) (upd H1 p (.lst xs))
def tj {x1} (h:PA X es t):PE X (.Tuple es x1 pos) (Pq t):=by
 intro pins s σ H Q I hq
 refine wpAny_Tuple_spliced (AH (h pos pins s σ H _ I hq) fun us s1 ⟨xs,H1,I1,r,z,q⟩=>⟨by rw [<- r.length];exact z,?_⟩)
 have hf:H1 s1.heap.objs.size=none:=I1.AF.fresh (Ae _)
 refine ⟨.ref s1.heap.objs.size,upd H1 s1.heap.objs.size (.tup xs),I1.laid (t':=s1.toks) (fun b u e=>Br _ e) (Ae _) ?_,rfl,q _ hf⟩
 exact ⟨z,us,r,⟨_,DD _ rfl,rfl,_,rfl⟩,fun ZE e'=>by rw [DD _ rfl] at e';cases e';rfl⟩
def yz (h:PA X es t):PE X (.List es pos) (VY t):=by
 intro pins s σ H Q I hq
 refine wpAny_List_spliced (AH (h pos pins s σ H _ I hq) fun us s1 ⟨xs,H1,I1,r,z,q⟩=>⟨by rw [<- r.length];exact z,?_⟩)
 have hf:H1 s1.heap.objs.size=none:=I1.AF.fresh (Ae _)
 refine ⟨.ref s1.heap.objs.size,upd H1 s1.heap.objs.size (.lst xs),I1.laid (t':=s1.toks) (fun b u e=>Br _ e) (Ae _) ?_,rfl,q _ hf⟩
 exact ⟨z,us,0,r,DD _ rfl⟩
end
abbrev Sp:=List V->Hp->VK->XK->Prop
abbrev El:=List Env->Hp->Shared->XK->Value->Shared->Prop
structure K7 (P:Program) (w:World) (K:ZAY) (mg:ZAa) (base:Heap) (A:Around) (outer:List Env) (s:Shared) (H:Hp):Prop where
 frames:A.frames=some outer
 mod:Mod K mg base
 bs:∀ b o,base.get? b=some o->s.heap.get? b=some o/\H b=none
 Ew:base.objs.size<=s.heap.objs.size
 FU:s.heap.FunFrames base outer
 KZ:∀ b∈FX outer,H b=none
 AF:Bj P w H s.heap
 bare:AllBare s.gens
def CE (outer:List Env) (P:Program) (w:World) (H:Hp) (s:Shared) (Q:VK) (u:Value) (s':Shared):Prop:=
 ∃ v H',s'.os=s.os/\AllBare s'.gens/\Un (FX outer) [] H H' s.heap s'.heap/\Bj P w H' s'.heap/\RelV v u/\Q v H'
def CR (CX:El) (outer:List Env) (P:Program) (w:World) (H:Hp) (s:Shared) (Q:VK) (E:XK) (r:Result) (s':Shared):Prop:=
 match r with
 | .ok (.ret u)=>CE outer P w H s Q u s'
 | .ok _=>False
 | .error e=>CX outer H s E e s'
structure Cm (P:Program) (w:World) (K:ZAY) (mg:ZAa) (base:Heap) (CX:El) (k:Nat) (f:Addr) (fd:FuncData) (ps:List Str) (sp:Sp):Prop where
 len:∀ vs H Q E,sp vs H Q E->vs.length=ps.length
 run:∀ (A:Around) (outer:List Env) (s:Shared) (H:Hp) (args:Args) (us:List Value) (vs:List V) (Q:VK) (E:XK),BY k A->K7 P w K mg base A outer s H->BindsTo s fd args (ps.zip us)->Vals vs us->sp vs H Q E->
  codeAny (model P w) A (.call (.ref f) args) (CR CX outer P w H s Q E) s
theorem Cm.mono {P:Program}{w:World}{K:ZAY}{mg:ZAa}{base:Heap}{CX:El}{j k:Nat}{f:Addr}{fd:FuncData}{ps:List Str}{sp:Sp}(F:Cm P w K mg base CX j f fd ps sp) (h:j<=k) :
  Cm P w K mg base CX k f fd ps sp:=⟨F.len,fun A outer s H args us vs Q E hr=>F.run A outer s H args us vs Q E (hr.mono h)⟩
def K7.make {P:Program}{w:World}{K:ZAY}{mg:ZAa}{base:Heap}{A:Around}{outer:List Env}{s:Shared}{H:Hp}(e:K7 P w K mg base A outer s H) (C:Addr) (us:List Value) (kw:List (Str×Value)) :
  K7 P w K mg base (A.under (.builtin "type.__call__" ⟨.ref C :: us,kw⟩)) outer s H:=⟨by first | exact e.frames | (simpa [Around.under,Code.envs,Code.isFrame,pushEnvs] using e.frames),e.mod,e.bs,e.Ew,e.FU,e.KZ,e.AF,e.bare⟩
section
variable {X:Cx}{pins:ZAZ}{σ:St} {H:Hp}{s s':Shared}
def Inv.fV (I:Inv X pins σ H s):K7 X.prog X.w X.K X.mg X.base X.A X.stack s H:=
 ⟨I.ok.frames,I.ok.mod,I.bs,Dj I.ok.Ew I.sz,I.stack,I.RJ,I.AF,I.bare⟩
def Inv.after {Q:VK}{u:Value}(I:Inv X pins σ H s) (h:CE X.stack X.prog X.w H s Q u s'):EP X pins σ Q u s':=by
 obtain ⟨v,H',os,bare,un,AF,r,q⟩:=h
 obtain ⟨hh,g,d,t,X5⟩:=s'
 obtain rfl:X5=s.os:=os
 exact ⟨v,H',I.call (h':=hh) (g':=g) (d':=d) (t':=t) (ch:=[]) un AF bare (fun b z=>absurd z (by simp)),r,q⟩
end
def CL (sp:Sp) (Cv:List V) (E:XK) (t:TA):TE:=fun σ H Q=>t σ H fun vs H1=>sp (vs++Cv) H1 Q E
def N5 (C:Addr) (m:Str) (sp:Sp) (Cv:List V) (E:XK) (ta:TE) (t:TA):TE:=fun σ H Q=>ta σ H fun x H1=>∃ a dx fs,x=.ref a/\H1 a=some (.ins C dx fs)/\fs.lookup m=none/\
 t σ H1 fun vs H2=>sp (x :: (vs++Cv)) H2 Q E
def UG (C:Addr) (sp:Sp) (Cv:List V) (E:XK) (t:TA):TE:=fun σ H Q=>t σ H fun vs H1=>∀ x dx,H1 x=none->H1 dx=none->dx≠x->
 sp (.ref x :: (vs++Cv)) (upd (upd H1 dx (.own x)) x (.ins C dx [])) (fun v H2=>v=.A5/\Q (.ref x) H2) E
def Binds (K:ZAY) (fd:FuncData) (ps:List Str) (ds:List Value):Prop:=
 ∀ (s:Shared) (us:List Value),K.In s.heap->(us++ds).length=ps.length->BindsTo s fd ⟨us,[]⟩ (ps.zip (us++ds))
def Binds.all {K:ZAY}{fd:FuncData}{ps:List Str}(h:∀ us:List Value,us.length=ps.length->bindArgs fd ⟨us,[]⟩=pure (ps.zip us)):Binds K fd ps []:=fun s us _ hl=>by
 rw [E9] at hl ⊢
 exact .of_eq (h us hl)
def Passes (CX:El) (X:Cx) (E:XK):Prop:=∀ (pins:ZAZ) (σ:St) (H:Hp) (s:Shared) (e:Value) (s':Shared),Inv X pins σ H s->CX X.stack H s E e s'->X.xe e s'
section
variable {X:Cx}{CX:El}{k:Nat}{f C:Addr}{fd:FuncData}{ps:List Str}{sp:Sp}{Cv:List V}{ds:List Value}{E:XK}{x m:Str}{p pos apos:Pos}{e o:Expr}{es:List Expr}{ta:TE}{t:TA}
def Ww {pins:ZAZ}{σ:St} {H:Hp}{s:Shared}{Q:VK}{us:List Value}{vs:List V}(F:Cm X.prog X.w X.K X.mg X.base CX k f fd ps sp) (hr:BY k X.A) (hb:Binds X.K fd ps ds) (hd:Vals Cv ds) (hx:Passes CX X E)
  (I:Inv X pins σ H s) (r:Vals vs us) (h:sp (vs++Cv) H Q E):wpAny (model X.prog X.w) X.A (call (.ref f) us) (EP X pins σ Q) X.xe s:=by
 have r2:Vals (vs++Cv) (us++ds):=r.append hd
 have hl:(us++ds).length=ps.length:=by rw [<- r2.length];exact F.len _ _ _ _ h
 refine wpAny_call (codeAny_mono (F.run X.A X.stack s H ⟨us,[]⟩ (us++ds) (vs++Cv) Q E hr I.fV (hb s us I.CM hl) r2 h) fun r s' hq=>?_)
 cases r with
 | error e=>exact hx pins σ H s e s' I hq
 | ok fl=>
  cases fl with
  | ret u=>exact I.after hq
  | next=>exact False.elim hq
  | brk=>exact False.elim hq
  | cont=>exact False.elim hq
def ya (F:Cm X.prog X.w X.K X.mg X.base CX k f fd ps sp) (hr:BY k X.A) (hg:Gl X x) (hm:X.mg x=some (.ref f)) (hk:PySem.W.keepIn X.K (.ref f)=true) (hb:Binds X.K fd ps ds) (hd:Vals Cv ds) (hx:Passes CX X E)
  (ha:PA X (e :: es) t) (Cb:(x == ("__debug__" : Str))=false:=by decide) (he:starEach (e :: es) X.env=(false,eval e X.env) :: starEach es X.env:=by rfl) (Be:(backTo pos (starEach es X.env)).any (·.1)=false:=by rfl) :
  PE X (.Call (.Name x p) (e :: es) [] pos) (CL sp Cv E t):=by
 intro pins s σ H Q I h
 refine wpAny_Call_Name_kw (Td I hg hm ?_ Cb)
 refine gu (h₀:=X.base) I.ok.mod.Mx hk (AH (ha pos pins s σ H _ I h) fun us s1 ⟨vs,H1,I1,r,q⟩=>⟨I1.CM,?_⟩) he Be
 exact Ww F hr hb hd hx I1 r q
def nB {pl:Sem Bool}(he:PE X o ta) (c:Dc X.K C) (hm:Meth X.K C m f) (F:Cm X.prog X.w X.K X.mg X.base CX k f fd ps sp) (hr:BY k X.A) (hb:Binds X.K fd ps ds) (hd:Vals Cv ds) (hx:Passes CX X E) (ha:PA X (e :: es) t)
  (Hb:starEach (e :: es) X.env=(false,eval e X.env) :: starEach es X.env:=by rfl) (Be:(backTo pos (starEach es X.env)).any (·.1)=false:=by rfl)
  (ht:eval (.Call (.Attribute o m apos) (e :: es) [] pos) X.env=(do
   let ov <- eval o X.env
   standAt apos.atName
   let (f,first) <- holding [ov] (getMethod ov m pl)
   callWith pos f first (backTo pos (starEach (e :: es) X.env)) (backToKw pos (keywordEach [] X.env))):=by rfl) :
  PE X (.Call (.Attribute o m apos) (e :: es) [] pos) (N5 C m sp Cv E ta t):=by
 intro pins s σ H Q I h
 refine zu (pl:=pl) (AH (he pins s σ H _ I h) fun u s1 ⟨x,H1,I1,rx,a,dx,fs,ex,ea,l,q⟩=>?_) ht
 subst ex
 obtain rfl:u=Value.ref a:=rx
 refine YE I1 ea c hm l ?_
 refine gu (first:=[.ref a]) (h₀:=X.base) I.ok.mod.Mx hm.kp (AH (ha pos pins s1 σ H1 _ I1 q) fun us s2 ⟨vs,H2,I2,r,q2⟩=>⟨I2.CM,?_⟩) Hb Be
 exact Ww (us:=.ref a :: us) (vs:=.ref a :: vs) F hr hb hd hx I2 (.cons rfl r) q2
def vT {pl:Sem Bool}(he:PE X o ta) (c:Dc X.K C) (hm:Meth X.K C m f) (F:Cm X.prog X.w X.K X.mg X.base CX k f fd ps sp) (hr:BY k X.A) (hb:Binds X.K fd ps ds) (hd:Vals Cv ds) (hx:Passes CX X E)
  (ht:eval (.Call (.Attribute o m apos) [] [] pos) X.env=(do
   let ov <- eval o X.env
   standAt apos.atName
   let (f,first) <- holding [ov] (getMethod ov m pl)
   callWith pos f first (backTo pos (starEach [] X.env)) (backToKw pos (keywordEach [] X.env))):=by rfl) :
  PE X (.Call (.Attribute o m apos) [] [] pos) (N5 C m sp Cv E ta An):=by
 intro pins s σ H Q I h
 refine zu (pl:=pl) (AH (he pins s σ H _ I h) fun u s1 ⟨x,H1,I1,rx,a,dx,fs,ex,ea,l,q⟩=>?_) ht
 subst ex
 obtain rfl:u=Value.ref a:=rx
 refine YE I1 ea c hm l ?_
 exact PySem.W.callWith_K0 (first:=[.ref a]) I1.CM hm.kp (Ww (us:=[.ref a]) (vs:=[.ref a]) F hr hb hd hx I1 (.cons rfl .nil) q)
structure Mk (K:ZAY) (C f:Addr):Prop where
 makes:PySem.W.makesIn K C=true
 init:PySem.W.findIn K (.ref C) "__init__" = some (some (.ref f))
 fn:PySem.W.isFn K (.ref f)=true
 kp:PySem.W.keepIn K (.ref C)=true
def sA {pins:ZAZ}{σ:St} {H:Hp}{s:Shared}{Q:VK}{us:List Value}{vs:List V}(M:Mk X.K C f) (F:Cm X.prog X.w X.K X.mg X.base CX k f fd ps sp) (hr:BY (k+1) X.A) (hb:Binds X.K fd ps ds) (hd:Vals Cv ds)
  (hx:Passes CX X E) (I:Inv X pins σ H s) (r:Vals vs us)
  (h:∀ x dx,H x=none->H dx=none->dx≠x->sp (.ref x :: (vs++Cv)) (upd (upd H dx (.own x)) x (.ins C dx [])) (fun v H2=>v=.A5/\Q (.ref x) H2) E) :
  wpAny (model X.prog X.w) X.A (call (.ref C) us) (EP X pins σ Q) X.xe s:=by
 have hq:=h (s.heap.objs.size+1) s.heap.objs.size (I.AF.fresh (Of _)) (I.AF.fresh (Ae _)) (C8 (gk _))
 have I2:=Inv.made (C:=C) I
 have r2:Vals (V.ref (s.heap.objs.size+1) :: (vs++Cv)) (Value.ref (s.heap.objs.size+1) :: (us++ds)):=.cons rfl (r.append hd)
 have hl:(Value.ref (s.heap.objs.size+1) :: us++ds).length=ps.length:=by
  have e:=r2.length
  rw [F.len _ _ _ _ hq] at e
  exact e.symm
 refine wpAny_call (tP (f:=f) I.CM M.makes M.init (beq_iff_eq.mp M.fn) (codeAny_mono (F.run _ X.stack _ _ ⟨Value.ref (s.heap.objs.size+1) :: us,[]⟩ (Value.ref (s.heap.objs.size+1) :: (us++ds)) _ _ E (hr.make C us [])
  (I2.fV.make C us []) (hb _ (Value.ref (s.heap.objs.size+1) :: us) I2.CM hl) r2 hq) fun r s' FH=>?_))
 cases r with
 | error e=>exact hx pins σ _ _ e s' I2 FH
 | ok fl=>
  cases fl with
  | ret u=>
   obtain ⟨v,H',I3,rv,ev,q3⟩:=I2.after FH
   subst ev
   exact ⟨rv,⟨V.ref (s.heap.objs.size+1),H',I3,rfl,q3⟩⟩
  | next=>exact False.elim FH
  | brk=>exact False.elim FH
  | cont=>exact False.elim FH
def xq (M:Mk X.K C f) (F:Cm X.prog X.w X.K X.mg X.base CX k f fd ps sp) (hr:BY (k+1) X.A) (hg:Gl X x) (hm:X.mg x=some (.ref C)) (hb:Binds X.K fd ps ds) (hd:Vals Cv ds) (hx:Passes CX X E)
  (ha:PA X (e :: es) t) (Cb:(x == ("__debug__" : Str))=false:=by decide) (he:starEach (e :: es) X.env=(false,eval e X.env) :: starEach es X.env:=by rfl) (Be:(backTo pos (starEach es X.env)).any (·.1)=false:=by rfl) :
  PE X (.Call (.Name x p) (e :: es) [] pos) (UG C sp Cv E t):=by
 intro pins s σ H Q I h
 refine wpAny_Call_Name_kw (Td I hg hm ?_ Cb)
 refine gu (h₀:=X.base) I.ok.mod.Mx M.kp (AH (ha pos pins s σ H _ I h) fun us s1 ⟨vs,H1,I1,r,q⟩=>⟨I1.CM,?_⟩) he Be
 exact sA M F hr hb hd hx I1 r q
end
section
variable {X:Cx}{CX:El}{k:Nat}{f C:Addr}{fd:FuncData}{ps ks:List Str}{sp:Sp}{E:XK}{x m:Str}{p pos apos ZAD:Pos}{e o:Expr}{es:List Expr}{kws:List Keyword}{te ta:TE}{t tk:TA}{nm:Option Str}
variable {g:List Value->List Value->List Value}{gV:List V->List V->List V}
end
structure BN (N P:List Str) (sc:Scope):Prop where
 kind:sc.kind=.function
 co:sc.isCoroutine=false
 gen:sc.isGenerator=false
 nd:N.Nodup
 pre:N.take P.length=P
 par:∀ x∈P,sc.names.lookup x=some .local∨sc.names.lookup x=some .cell
 xi:∀ y∈sc.names,y.2≠.free
theorem YX {kindOf:Str->Option NameKind}{x:Str}:∀ {binds:List (Str×Value)}{m:ZAa},(∀ v,(x,v)∉binds)->bindL kindOf binds m x=m x
 | [],_,_=>rfl
 | (n,v) :: r,m,h=>by
  unfold bindL
  rw [YX fun w hw=>h w (Fx _ hw)]
  split
  ·have:x≠n:=by rintro rfl;exact h v HH
   simp [this]
  ·rfl
theorem cy {kindOf:Str->Option NameKind}{x:Str}:∀ {binds:List (Str×Value)}{m:ZAa},(∀ v,(x,v)∉binds)->bindC kindOf binds m x=m x
 | [],_,_=>rfl
 | (n,v) :: r,m,h=>by
  unfold bindC
  rw [cy fun w hw=>h w (Fx _ hw)]
  split
  ·rfl
  ·have:x≠n:=by rintro rfl;exact h v HH
   simp [this]
theorem Yl {kindOf:Str->Option NameKind}{x:Str}{v:Value}:∀ {P:List Str}{vs:List Value}{i:Nat}{m:ZAa},P.Nodup->P[i]?=some x->vs[i]?=some v->kindOf x=some .local->
  bindL kindOf (P.zip vs) m x=some v
 | [],_,_,_,_,h,_,_=>by simp at h
 | _ :: _,[],_,_,_,_,h,_=>by simp at h
 | p :: P,w :: vs,0,m,nd,h1,h2,hk=>by
  simp at h1 h2;subst h1;subst h2
  show bindL kindOf ((p,w) :: P.zip vs) m p=_
  unfold bindL
  rw [YX fun v hv=>(List.nodup_cons.mp nd).1 (gh hv).1,if_pos hk]
  simp
 | p :: P,w :: vs,i+1,m,nd,h1,h2,hk=>by
  show bindL kindOf ((p,w) :: P.zip vs) m x=_
  unfold bindL
  exact Yl (i:=i) (List.nodup_cons.mp nd).2 (by simpa using h1) (by simpa using h2) hk
theorem aH {kindOf:Str->Option NameKind}{x:Str}{v:Value}:∀ {P:List Str}{vs:List Value}{i:Nat}{m:ZAa},P.Nodup->P[i]?=some x->vs[i]?=some v->kindOf x≠some .local->
  bindC kindOf (P.zip vs) m x=some v
 | [],_,_,_,_,h,_,_=>by simp at h
 | _ :: _,[],_,_,_,_,h,_=>by simp at h
 | p :: P,w :: vs,0,m,nd,h1,h2,hk=>by
  simp at h1 h2;subst h1;subst h2
  show bindC kindOf ((p,w) :: P.zip vs) m p=_
  unfold bindC
  rw [cy fun v hv=>(List.nodup_cons.mp nd).1 (gh hv).1,if_neg hk]
  simp
 | p :: P,w :: vs,i+1,m,nd,h1,h2,hk=>by
  show bindC kindOf ((p,w) :: P.zip vs) m x=_
  unfold bindC
  exact aH (i:=i) (List.nodup_cons.mp nd).2 (by simpa using h1) (by simpa using h2) hk
def start (N:List Str) (vs:List V):St:=vs.map some++List.replicate (N.length - vs.length) none
def Jn (CX:El) (P:Program) (w:World) (K:ZAY) (mg:ZAa) (base:Heap) (N:List Str) (qual:Str) (scope:Scope) (f:Addr) (cd:Value) (A:Around) (outer:List Env) (s:Shared) (H:Hp) (E:XK):Cx where
 prog:=P
 w:=w
 K:=K
 mg:=mg
 base:=base
 A:=A.deeper (envOfC qual scope s.heap.objs.size f cd)
 N:=N
 s₀:=s
 H₀:=H
 env:=envOfC qual scope s.heap.objs.size f cd
 outer:=outer
 stack:=envOfC qual scope s.heap.objs.size f cd :: outer
 ex:=[]
 calm:=true
 fn:=fun _=>true
 pn:=[]
 xe:=fun e s'=>wpAny (model P w) (A.deeper (envOfC qual scope s.heap.objs.size f cd)) (leaving (envOfC qual scope s.heap.objs.size f cd) e) (fun _ JU=>CX outer H s E e JU) (fun e' JU=>CX outer H s E e' JU) s'
def YZ {sc:Scope}{n:Nat}{x:Str}(h:sc.names.lookup x=some .cell):∃ c,(cellsFrom n sc.names []).lookup x=some c:=by
 have q:=zq sc.names n [] (.inl h)
 exact Option.isSome_iff_exists.mp q
def ux {CX:El}{P:Program}{w:World}{K:ZAY}{mg:ZAa}{base:Heap}{N ps:List Str}{qual:Str}{scope:Scope}{f:Addr}{cd:Value}{A:Around}{outer:List Env}{s s1:Shared}{H:Hp}{E:XK}{us:List Value}{vs:List V}
  (S:BN N ps scope) (hd:A.handled=none) (e0:K7 P w K mg base A outer s H) (hl:vs.length=ps.length) (r:Vals vs us)
  (x:InCallC s s.heap.objs.size (bindL (envOfC qual scope s.heap.objs.size f cd).kindOf (ps.zip us) fun _=>none) (cellsFrom (s.heap.objs.size+1) scope.names []) (bindC (envOfC qual scope s.heap.objs.size f cd).kindOf (ps.zip us) fun _=>none) s1) :
  Inv (Jn CX P w K mg base N qual scope f cd A outer s H E) [] (start N vs) H s1:=by
 have Be:ps.length<=N.length:=by have:=congrArg List.length S.pre;rw [C7] at this;omega
 obtain ⟨h1,tk,rfl,hk⟩:=x.done
 have Me:∀ b:Addr,b∉(Jn CX P w K mg base N qual scope f cd A outer s H E).ex:=fun b z=>absurd (show b∈([]:List Addr) from z) (by simp)
 refine ⟨⟨e0.mod,S.kind,rfl,rfl,Ae _,fun y z c h1 h2=>?_,fun y hy=>?_,fun y c _ h=>?_,fun _=>hd,Around.frames_deeper e0.frames,.inr ⟨rfl,rfl⟩,fun b z=>absurd z (Me b),e0.bs,e0.Ew,fun b _ _=>Me b,fun b z=>absurd z (Me b),e0.FU,e0.KZ⟩,
  rfl,e0.bare,Un.kept hk,⟨_,x.toInCall.ns,fun i y v h1 h2 h3=>?_⟩,fun y c h=>⟨_,x.cell y c h⟩,e0.AF.fresh (Ae _),fun y c h=>?_,fun p hp=>absurd (show p∈([]:ZAZ) from hp) (by simp),e0.AF.kept hk,?_⟩
 ·exact name_of_addr x.apart (FN h1) (FN h2)
 ·have hy:scope.names.lookup y=some .cell∨scope.names.lookup y=some .free:=hy
  rcases hy with hy | hy
  ·exact YZ hy
  ·exact absurd rfl (S.xi _ (FN hy))
 ·exact Xr (x.above y c (FN h))
 ·have hi:i < vs.length:=by
   unfold start at h2
   by_cases hi:i < vs.length
   ·exact hi
   ·rw [Dh (by simpa using hi)] at h2
    rw [gc] at h2
    split at h2 <;> cases h2
  have ha:vs[i]?=some v:=by
   unfold start at h2
   rw [CZ (by simpa using hi),Ag] at h2
   cases e:vs[i]? with
   | none=>rw [e] at h2;cases h2
   | some a=>rw [e] at h2;cases h2;rfl
  obtain ⟨u,hu,rv⟩:=r.get ha
  have hp:ps[i]?=some y:=by
   rw [<- S.pre,List.getElem?_take_of_lt (by omega)];exact h1
  have dY:ps.Nodup:=by rw [<- S.pre];exact S.nd.sublist (Xq _ _)
  refine ⟨u,rv,?_⟩
  rcases S.par y (CC hp) with k | k
  ·exact .inl ⟨k,Yl dY hp hu k⟩
  ·obtain ⟨c,e⟩:=YZ (n:=s.heap.objs.size+1) k
   refine .inr ⟨.inl k,c,e,?_⟩
   have q:=x.cell y c e
   rw [aH dY hp hu (by show scope.names.lookup y≠_;rw [k];decide)] at q
   exact q
 ·exact e0.AF.fresh (Xr (x.above y c (FN h)))
 ·unfold start
  show _=N.length
  rw [BK,AE,za]
  omega
def yk {CX:El}{P:Program}{w:World}{K:ZAY}{mg:ZAa}{base:Heap}{k:Nat}{f:Addr}{name qual:Str}{params:Arguments}{body:List Stmt}{scope:Scope}{dV kV doc pm AZ ct oc:Value}{an od:Option Addr}
  {J6:Array (Option Value)}{N ps:List Str}{sp:Sp}(lk:K.lookup f=some ⟨oc,od,.func (PySem.W.fnOf name qual params body scope dV kV doc pm an AZ ct),J6⟩) (Ey:PySem.W.codeIn K AZ qual=true) (S:BN N ps scope)
  (len:∀ vs H Q E,sp vs H Q E->vs.length=ps.length)
  (NI:∀ (A:Around) (outer:List Env) (s:Shared) (H:Hp) (vs:List V) (Q:VK) (E:XK),BY k (A.deeper (envOfC qual scope s.heap.objs.size f AZ))->sp vs H Q E->
   ∃ t,Dv (Jn CX P w K mg base N qual scope f AZ A outer s H E) body t/\t { nx:=fun _ H'=>Q .A5 H',rt:=Q } (start N vs) H) :
  Cm P w K mg base CX (k+1) f (PySem.W.fnOf name qual params body scope dV kV doc pm an AZ ct) ps sp:=by
 refine ⟨len,fun A outer s H args us vs Q E hr e0 hb r EM=>?_⟩
 have hl:=len _ _ _ _ EM
 have KX:K.In s.heap:=e0.mod.Mx.keeps fun b o e=>(e0.bs b o e).1
 have lim:s.heap.NoLimit:=e0.mod.nolimit.keeps fun b o e=>(e0.bs b o e).1
 have tW:∀ y∈ps.zip us,scope.names.lookup y.1=some .local∨(scope.names.lookup y.1=some .cell/\((cellsFrom (s.heap.objs.size+1) scope.names []).lookup y.1).isSome=true):=fun ⟨n,v⟩ hy=>by
  rcases S.par n (gh hy).1 with q | q
  ·exact .inl q
  ·exact .inr ⟨q,zq _ _ _ (.inl q)⟩
 refine codeAny_call_function hr.depth (KX _ _ lk) rfl S.co S.gen rfl (PySem.W.codeRec_of KX Ey) (hb _ _ _ _ ?_)
 refine wpAny_newFunctionEnv_cells S.kind tW fun env he s1 x=>?_
 subst he
 refine ⟨lim.keeps x.toInCall.keep,codeAny_func ?_⟩
 obtain ⟨t,ht,hq⟩:=NI A outer s H vs Q E (hr.deeper _) EM
 have I:Inv (Jn CX P w K mg base N qual scope f AZ A outer s H E) [] (start N vs) H s1:=ux S hr.hd e0 hl r x
 refine wpAny_mono (ht [] s1 (start N vs) H _ I hq) (fun fl s' hs=>?_) fun e s' hs=>hs
 have fin:∀ {σ':St} {H':Hp}{v:V}{u:Value},Inv (Jn CX P w K mg base N qual scope f AZ A outer s H E) [] σ' H' s'->RelV v u->Q v H'->CE outer P w H s Q u s':=
  fun {σ' H' v u} J rv q=>⟨v,H',J.os,J.bare,J.base,J.AF,rv,q⟩
 cases fl with
 | ret u=>
  obtain ⟨v,σ',H',J,rv,q⟩:=hs
  exact fin J rv q
 | next=>
  obtain ⟨σ',H',J,q⟩:=hs
  exact fin (v:=V.A5) (u:=Value.none) J rfl q
 | brk=>
  obtain ⟨_,_,_,q⟩:=hs
  exact False.elim q
 | cont=>
  obtain ⟨_,_,_,q⟩:=hs
  exact False.elim q
section
variable {X:Cx}{x:Str}{p pos:Pos}{e:Expr}{es:List Expr}{t:TA}{id T:String}{r:List V->Hp->VK->Prop}
def C1 (r:List V->Hp->VK->Prop) (t:TA):TE:=fun σ H Q=>t σ H fun vs H1=>r vs H1 Q
def uO (hc:C2 X (.builtin id) r) (hg:Gl X x) (hm:X.mg x=none) (hv:bootBuiltins x=some (.builtin id)) (ha:PA X (e :: es) t) (hn:x ≠ "__name__" := by decide) (Cb:(x == ("__debug__" : Str))=false:=by decide)
  (he:starEach (e :: es) X.env=(false,eval e X.env) :: starEach es X.env:=by rfl) (Be:(backTo pos (starEach es X.env)).any (·.1)=false:=by rfl):PE X (.Call (.Name x p) (e :: es) [] pos) (C1 r t):=by
 intro pins s σ H Q I h
 refine wpAny_Call_Name_kw (LC I hg hm hv ?_ hn Cb)
 exact PyProof.Rows.callWith_builtin1 (AH (ha pos pins s σ H _ I h) fun us s1 ⟨vs,H1,I1,r1,q1⟩=>hc pins s1 σ H1 vs us Q I1 r1 q1) he Be
def t4 (hc:C2 X (.type T) r) (hg:Gl X x) (hm:X.mg x=none) (hv:bootBuiltins x=some (.type T)) (ha:PA X (e :: es) t) (hn:x ≠ "__name__" := by decide) (Cb:(x == ("__debug__" : Str))=false:=by decide)
  (he:starEach (e :: es) X.env=(false,eval e X.env) :: starEach es X.env:=by rfl) (Be:(backTo pos (starEach es X.env)).any (·.1)=false:=by rfl):PE X (.Call (.Name x p) (e :: es) [] pos) (C1 r t):=by
 intro pins s σ H Q I h
 refine wpAny_Call_Name_kw (LC I hg hm hv ?_ hn Cb)
 exact Xx (AH (ha pos pins s σ H _ I h) fun us s1 ⟨vs,H1,I1,r1,q1⟩=>hc pins s1 σ H1 vs us Q I1 r1 q1) he Be
end
end L2
namespace HT
section
open PySem.SeqAt
open PySem.AutoSeq1 (wpAny_loadPart')
open PySem.MeetsSeq PySem.MeetsSeq2 PySem.MeetsSeq3
end
section
variable {prog:Program}{w:World}{A:Around}{E:Value->Shared->Prop}{s:Shared}
def CF (n d:Nat):Option Int->Nat
 | none=>d
 | some v=>if v < 0 then (v+(n:Int)).toNat else min v.toNat n
def SF (n d:Nat):CF n d none=d:=rfl
def T3 (n d k:Nat):CF n d (some (k:Int))=min k n:=by
 show (if (k:Int) < 0 then ((k:Int)+(n:Int)).toNat else min (k:Int).toNat n)=min k n
 rw [if_neg (by omega),IF]
end
end HT
namespace L2
abbrev TO:=St->Hp->(Option Int->Hp->Prop)->Prop
def PO (X:Cx) (e:Option Expr) (t:TO):Prop:=
 ∀ (pins:ZAZ) (s:Shared) (σ:St) (H:Hp) (Q:Option Int->Hp->Prop),Inv X pins σ H s->t σ H Q->
  wpAny (model X.prog X.w) X.A (evalPart e X.env) (fun u s'=>∃ o H',Inv X pins σ H' s'/\IsPart u o/\Q o H') X.xe s
def SI:TO:=fun _ H Q=>Q none H
def UH (t:TE):TO:=fun σ H Q=>t σ H fun x H1=>∃ i,x=.int i/\Q (some i) H1
section
variable {X:Cx}{e:Expr}{te:TE}{lo hi:Option Expr}{tl th:TO}{pos p2:Pos}
def sU:PO X none SI:=by
 intro pins s σ H Q I h
 rw [evalPart_none]
 exact wpAny_pure ⟨none,H,I,.none,h⟩
def iQ (h:PE X e te):PO X (some e) (UH te):=by
 intro pins s σ H Q I hw
 rw [evalPart_some]
 refine AH (h pins s σ H _ I hw) fun u s1 ⟨x,H1,I1,r1,q1⟩=>?_
 obtain ⟨i,rfl,q⟩:=q1
 obtain ⟨t,rfl⟩:=r1
 exact ⟨some i,H1,I1,.int i t,q⟩
def Ii (X:Cx) (r:V->Option Int->Option Int->Hp->VK->Prop):Prop:=
 ∀ (pins:ZAZ) (s:Shared) (σ:St) (H:Hp) (x:V) (v vl vu:Value) (lo hi:Option Int) (sl:Addr) (Q:VK),Inv X pins σ H s->RelV x v->s.heap.IsSliceOf sl vl vu .none->IsPart vl lo->IsPart vu hi->r x lo hi H Q->
  ∃ T id,typeLookup (.type T) "__getitem__" = pure (some (.builtin id))/\s.TypeIs v T/\wpAny (model X.prog X.w) X.A (getItem v (.ref sl)) (EP X pins σ Q) X.xe s
def Ii.or {r r':V->Option Int->Option Int->Hp->VK->Prop}(h:Ii X r) (h':Ii X r'):Ii X (fun x lo hi H Q=>r x lo hi H Q∨r' x lo hi H Q):=by
 intro pins s σ H x v vl vu lo hi sl Q I rx hs pl pu q
 rcases q with q | q
 ·exact h pins s σ H x v vl vu lo hi sl Q I rx hs pl pu q
 ·exact h' pins s σ H x v vl vu lo hi sl Q I rx hs pl pu q
def Lq (r:V->Option Int->Option Int->Hp->VK->Prop) (te:TE) (tl th:TO):TE:=fun σ H Q=>te σ H fun x H1=>tl σ H1 fun l H2=>th σ H2 fun u H3=>r x l u H3 Q
def pd {r:V->Option Int->Option Int->Hp->VK->Prop}(hr:Ii X r) (he:PE X e te) (hl:PO X lo tl) (hu:PO X hi th):PE X (.Subscript e (.Slice lo hi none p2) pos) (Lq r te tl th):=by
 intro pins s σ H Q I h
 refine Subscript_ (AH (he pins s σ H _ I h) fun v s1 ⟨x,H1,I1,r1,q1⟩=>?_)
 refine wpAny_Slice (AH (hl pins s1 σ H1 _ I1 q1) fun vl s2 ⟨l,H2,I2,pl,q2⟩=>AH (hu pins s2 σ H2 _ I2 q2) fun vu s3 ⟨u,H3,I3,pu,q3⟩=>?_)
 rw [evalPart_none]
 refine wpAny_pure ?_
 have I4:Inv X pins σ H3 { s3 with heap:=s3.heap.push { cls:=.type "slice", data:=.fields #[vl,vu,.none] } }:=I3.kept (t':=s3.toks) fun b ob q=>Br _ q
 obtain ⟨T,id,hT,ht,hg⟩:=hr pins { s3 with heap:=s3.heap.push { cls:=.type "slice", data:=.fields #[vl,vu,.none] } } σ H3 x v vl vu l u s3.heap.objs.size Q I4 r1 (Heap.IsSliceOf.new ..) pl pu q3
 show wpAny (model X.prog X.w) X.A (subscriptTail e (.Slice lo hi none p2) v (.ref s3.heap.objs.size)) (EP X pins σ Q) X.xe { s3 with heap:=s3.heap.push { cls:=.type "slice", data:=.fields #[vl,vu,.none] } }
 exact tail_any (ops:=[.ref s3.heap.objs.size,v]) ht hT hg (by with_unfolding_all rfl)
def FT (xs:List V) (lo hi:Option Int):List V:=(xs.drop (HT.CF xs.length 0 lo)).take (HT.CF xs.length xs.length hi - HT.CF xs.length 0 lo)
def uN (xs:List V) (lo hi:Option Int):(FT xs lo hi).length<=xs.length:=by
 unfold FT
 rw [C7,HF]
 omega
end
def Eh (n:Nat) (i:Int):Option Nat:=if 0<=i then (if i < n then some i.toNat else none) else if -(n:Int)<=i then some (i+n).toNat else none
def B5 {α:Type} (xs:List α) (i:Int):Option α:=(Eh xs.length i).bind fun j=>xs[j]?
def Yz {n:Nat}{i:Int}{j:Nat}(h:Eh n i=some j):seqIndex? i n=some j/\j < n/\-(n:Int)<=i/\i < n:=by
 unfold Eh at h
 by_cases h0:0<=i
 ·rw [if_pos h0] at h
  by_cases h1:i < n
  ·rw [if_pos h1] at h
   have e:i.toNat=j:=BG h
   exact ⟨by rw [seqIndex_of h0 h1,e],by omega,by omega,h1⟩
  ·rw [if_neg h1] at h;cases h
 ·rw [if_neg h0] at h
  by_cases h1:-(n:Int)<=i
  ·rw [if_pos h1] at h
   have e:(i+n).toNat=j:=BG h
   exact ⟨by rw [seqIndex_neg (by omega) h1,e],by omega,h1,by omega⟩
  ·rw [if_neg h1] at h;cases h
def VO {α:Type} {xs:List α}{i:Int}{v:α}(h:B5 xs i=some v):∃ j,seqIndex? i xs.length=some j/\xs[j]?=some v/\j < xs.length/\-(xs.length:Int)<=i/\i < xs.length:=by
 unfold B5 at h
 cases e:Eh xs.length i with
 | none=>rw [e] at h;cases h
 | some j=>
  rw [e] at h
  obtain ⟨h1,h2,h3,h4⟩:=Yz e
  exact ⟨j,h1,h,h2,h3,h4⟩
def Gn {α:Type} {xs:List α}{j:Nat}{v:α}(h:xs[j]?=some v):B5 xs (j:Int)=some v:=by
 have hj:j < xs.length:=(List.getElem?_eq_some_iff.mp h).1
 have e:Eh xs.length (j:Int)=some j:=by
  unfold Eh
  rw [if_pos (by omega),if_pos (by omega)];simp
 unfold B5;rw [e];exact h
def XF (b:Expr):Prop:=∀ o i,subscripted b false o i=operate [o,i] (getItem o i)
def Cz (X:Cx) (r:R2):Prop:=
 ∀ (value slice:Expr) (pins:ZAZ) (s:Shared) (σ:St) (H:Hp) (x y:V) (v u:Value) (Q:VK),Inv X pins σ H s->RelV x v->RelV y u->r x y H Q->
  subscripted slice false v u=operate [v,u] (getItem v u)->wpAny (model X.prog X.w) X.A (subscriptTail value slice v u) (EP X pins σ Q) X.xe s
def Ec (X:Cx) (id:String) (r:V->List V->Hp->VK->Prop):Prop:=
 ∀ (pins:ZAZ) (s:Shared) (σ:St) (H:Hp) (x:V) (xs:List V) (v:Value) (us:List Value) (Q:VK),Inv X pins σ H s->RelV x v->Vals xs us->r x xs H Q->
  wpAny (model X.prog X.w) X.A (call (.builtin id) (v :: us)) (EP X pins σ Q) X.xe s
section
variable {X:Cx}{a b:Expr}{ta tb:TE}{pos:Pos}
def Cz.or {r r':R2}(h:Cz X r) (h':Cz X r'):Cz X (fun x y H Q=>r x y H Q∨r' x y H Q):=by
 intro value slice pins s σ H x y v u Q I rx ry q hs
 rcases q with q | q
 ·exact h value slice pins s σ H x y v u Q I rx ry q hs
 ·exact h' value slice pins s σ H x y v u Q I rx ry q hs
def Ec.or {id:String}{r r':V->List V->Hp->VK->Prop}(h:Ec X id r) (h':Ec X id r'):Ec X id (fun x xs H Q=>r x xs H Q∨r' x xs H Q):=by
 intro pins s σ H x xs v us Q I rx rs q
 rcases q with q | q
 ·exact h pins s σ H x xs v us Q I rx rs q
 ·exact h' pins s σ H x xs v us Q I rx rs q
def jB {r:R2}(hr:Cz X r) (ha:PE X a ta) (hb:PE X b tb) (hs:XF b):PE X (.Subscript a b pos) (BH r ta tb):=by
 intro pins s σ H Q I h
 exact Subscript_ (Tu ha hb I h fun v u s2 x y H2 I2 rx ry q=>hr a b pins s2 σ H2 x y v u Q I2 rx ry q (hs _ _))
def MF (K:ZAY):R2:=fun x y H Q=>∃ p xs i v,x=.ref p/\y=.int i/\AJ K H p xs/\B5 xs i=some v/\Q v H
def EC (K:ZAY):R2:=fun x y H Q=>∃ p xs i v,x=.ref p/\y=.int i/\Ab K H p xs/\B5 xs i=some v/\Q v H
def pI:R2:=fun x y H Q=>∃ z i c,x=.str z/\y=.int i/\z.length<=sizeLine/\B5 z.cps.toList i=some c/\Q (.str ⟨#[c]⟩) H
def CK:Cz X (MF X.K):=by
 intro value slice pins s σ H x y v u Q I rx ry h hs
 obtain ⟨p,xs,i,z,rfl,rfl,hq,he,q⟩:=h
 cases rx
 obtain ⟨t,rfl⟩:=ry
 obtain ⟨A1,r,pl,hz⟩:=I.list hq
 obtain ⟨j,h1,h2,h3,h4,h5⟩:=VO he
 obtain ⟨w,ew,GJ⟩:=r.get h2
 have hl:=r.length
 have hn:=Ir
 have fin:EP X pins σ Q w s:=⟨z,H,I,GJ,q⟩
 by_cases h0:0<=i
 ·have hj:i.toNat=j:=by
   rw [seqIndex_of h0 h5] at h1
   exact BG h1
  exact item_listR pl.isList h0 (by omega) (by rw [hj];simpa using ew) fin hs
 ·have hj:(i+(A1.toArray.size:Int)).toNat=j:=by
   rw [seqIndex_neg (by omega) h4] at h1
   rw [Bh,<- hl]
   exact BG h1
  exact subscriptTail_builtinR (x:=w) pl.isList.typeIs slot_list_getitem.lookup
   (wpAny_getItem_list_neg (Q:=fun r s'=>r=w/\EP X pins σ Q r s') pl.isList (by omega) (by rw [Bh] <;> omega) (by omega) (by rw [hj];simpa using ew) ⟨rfl,fin⟩) hs
def B8:Cz X (EC X.K):=by
 intro value slice pins s σ H x y v u Q I rx ry h hs
 obtain ⟨p,xs,i,z,rfl,rfl,hq,he,q⟩:=h
 cases rx
 obtain ⟨t,rfl⟩:=ry
 obtain ⟨A1,r,pl,hz⟩:=I.tuple hq
 obtain ⟨j,h1,h2,h3,h4,h5⟩:=VO he
 obtain ⟨w,ew,GJ⟩:=r.get h2
 have hl:=r.length
 have hn:=Ir
 have fin:EP X pins σ Q w s:=⟨z,H,I,GJ,q⟩
 exact subscriptTail_builtinR (x:=w) pl.typeIs slot_tuple_getitem.lookup
  (getItem_tuple (j:=j) (Q:=fun r s'=>r=w/\EP X pins σ Q r s') pl (by omega) (by omega) (by rw [Bh,<- hl];exact h1) (by simpa using ew) ⟨rfl,fin⟩) hs
def pA:Cz X pI:=by
 intro value slice pins s σ H x y v u Q I rx ry h hs
 obtain ⟨z,i,c,rfl,rfl,hz,he,q⟩:=h
 obtain ⟨t,rfl⟩:=rx
 obtain ⟨t',rfl⟩:=ry
 obtain ⟨j,h1,h2,h3,h4,h5⟩:=VO he
 have hl:z.cps.toList.length=z.length:=by simp [Str.length]
 rw [hl] at h1 h4 h5
 have hn:=Ir
 exact tail_any (typeIs_str s z t) slot_str_getitem.lookup (getItem_str (c:=c) (by
  have e1:decide (i < -(2 ^ 63:Int))=false:=decide_eq_false (by omega)
  have e2:decide (i>=2 ^ 63)=false:=decide_eq_false (by omega)
  rw [e1,e2,Bool.or_false]) (by rw [h1];simpa using h2) ⟨.str ⟨#[c]⟩,H,I.tok _,⟨_,rfl⟩,q⟩) hs
def kW (A1:List Value) (n j:Nat) (u:Value):Obj.mapSeq (·.setIfInBounds j u) { cls:=.type "list", data:=.seq A1.toArray n }={ cls:=.type "list", data:=.seq (A1.set j u).toArray n }:=by
 simp [Obj.mapSeq]
theorem Inv.lst {pins:ZAZ}{σ:St} {H:Hp}{s:Shared}{p:Addr}{xs:List V}(I:Inv X pins σ H s) (h:H p=some (.lst xs)) :
  ∃ (A1:List Value) (n:Nat),Vals xs A1/\s.heap.get? p=some { cls:=.type "list", data:=.seq A1.toArray n }/\xs.length<=sizeLine:=by
 obtain ⟨z,A1,n,r,e⟩:=I.AF p _ h
 exact ⟨A1,n,r,e,z⟩
def Inv.jO {pins:ZAZ}{σ:St} {H:Hp}{s:Shared}{p:Addr}{xs ys:List V}{A1 its':List Value}{n n':Nat}{f:Obj->Obj}(I:Inv X pins σ H s) (h:H p=some (.lst xs))
  (ho:s.heap.get? p=some { cls:=.type "list", data:=.seq A1.toArray n }) (hf:f { cls:=.type "list", data:=.seq A1.toArray n }={ cls:=.type "list", data:=.seq its'.toArray n' }) (r:Vals ys its') (hz:ys.length<=sizeLine) (t:Nat) :
  Inv X pins σ (upd H p (.lst ys)) { s with heap:=s.heap.update p f,toks:=t }:=by
 have e:(s.heap.update p f).get? p=some { cls:=.type "list", data:=.seq its'.toArray n' }:=by
  rw [OX f ho (by rw [hf] <;> rfl),hf]
 refine I.write (x:=p) (e:=p) (by rw [h];trivial) (.inl rfl) (fun b u hb q=>(Rj _ _ (Bi hb)).trans q) ⟨_,e⟩ ?_
 exact ⟨hz,its',n',r,e⟩
def Vz:V->V->V->Hp->(Hp->Prop)->Prop:=fun o i v H Q=>∃ p xs k j,o=.ref p/\i=.int k/\H p=some (.lst xs)/\Eh xs.length k=some j/\Q (upd H p (.lst (xs.set j v)))
def set_list:RB X Vz:=by
 intro pins s σ H o i v ov iv u Q I ro ri rv h
 obtain ⟨p,xs,k,j,rfl,rfl,hp,hj,q⟩:=h
 cases ro
 obtain ⟨t,rfl⟩:=ri
 obtain ⟨A1,n,r,ho,hz⟩:=I.lst hp
 obtain ⟨h1,h2,h3,h4⟩:=Yz hj
 have hl:=r.length
 have hn:=Ir
 have I':Inv X pins σ (upd H p (.lst (xs.set j v))) { s with heap:=s.heap.update p (Obj.mapSeq (·.setIfInBounds j u)) }:=
  I.jO hp ho (kW A1 n j u) (r.set rv j) (by rw [HG];exact hz) s.toks
 by_cases h0:0<=k
 ·have hk:k.toNat=j:=by
   rw [seqIndex_of h0 h4] at h1
   exact BG h1
  exact PySem.W.ki_setAt ho h0 (by omega) (by rw [Bh,<- hl];exact h4) (by rw [hk];exact ⟨_,I',q⟩)
 ·have hk:(k+(A1.toArray.size:Int)).toNat=j:=by
   rw [seqIndex_neg (by omega) h3] at h1
   rw [Bh,<- hl]
   exact BG h1
  exact PySem.W.ki_setBack ho (by omega) (by rw [Bh,<- hl];exact h3) (by omega) (by rw [hk];exact ⟨_,I',q⟩)
def jf (lo hi:Option Int) (n:Nat):(sliceBounds lo hi none n).1=((HT.CF n 0 lo:Nat):Int)/\(sliceBounds lo hi none n).2.1=((HT.CF n n hi:Nat):Int)/\(sliceBounds lo hi none n).2.2=1:=by
 refine ⟨?_,?_,rfl⟩
 ·cases lo with
  | none=>simp [sliceBounds,HT.CF]
  | some i=>
   simp only [sliceBounds,HT.CF,zj,show (1:Int) > 0 by decide,if_true]
   by_cases h:i < 0
   ·simp only [h,if_true] <;> omega
   ·simp only [h,if_false] <;> omega
 ·cases hi with
  | none=>simp [sliceBounds,HT.CF]
  | some i=>
   simp only [sliceBounds,HT.CF,zj,show (1:Int) > 0 by decide,if_true]
   by_cases h:i < 0
   ·simp only [h,if_true] <;> omega
   ·simp only [h,if_false] <;> omega
def xH (A1:List Value) (lo hi:Option Int):slicePick A1.toArray lo hi none=((A1.drop (HT.CF A1.length 0 lo)).take (HT.CF A1.length A1.length hi - HT.CF A1.length 0 lo)).toArray:=by
 obtain ⟨h1,h2,h3⟩:=jf lo hi A1.toArray.size
 unfold slicePick
 rw [h1,h2,h3]
 simp only [sliceRange_one,pick_run,Bh] <;> rfl
def X4 (K:ZAY):V->Option Int->Option Int->Hp->VK->Prop:=fun x lo hi H Q=>∃ a xs,x=.ref a/\AJ K H a xs/\∀ p,H p=none->Q (.ref p) (upd H p (.lst (FT xs lo hi)))
def Qy:Ii X (X4 X.K):=by
 intro pins s σ H x v vl vu lo hi sl Q I rx hs pl pu h
 obtain ⟨a,xs,rfl,hx,q⟩:=h
 cases rx
 obtain ⟨A1,r,ht,hz⟩:=I.list hx
 have hlen:=r.length
 refine ⟨"list", _,slot_list_getitem.lookup,ht.isList.typeIs,?_⟩
 refine wpAny_getItem_list_slice ht.isList hs pl pu .none (by simp) ?_ (by rw [Bh] <;> omega)
 rw [xH,<- hlen]
 refine ⟨.ref s.heap.objs.size,_,I.laid (t':=s.toks) (o:=.lst (FT xs lo hi)) (fun b ob q=>Br _ q) (Ae _) ?_,rfl,q _ (I.AF.fresh (Ae _))⟩
 exact ⟨Dj (uN xs lo hi) hz,_,0,(r.drop (HT.CF xs.length 0 lo)).take (HT.CF xs.length xs.length hi - HT.CF xs.length 0 lo),DD _ rfl⟩
def Dd:V->Bool
 | .A5=>true
 | .bl _=>true
 | .int _=>true
 | .str _=>true
 | _=>false
def Ca:V->V->Bool
 | .A5,.A5=>true
 | .bl a,.bl b=>a == b
 | .bl a,.int b=>(if a then 1 else 0) == b
 | .int a,.bl b=>a == (if b then 1 else 0)
 | .int a,.int b=>a == b
 | .str a,.str b=>a == b
 | _,_=>false
def PM {A:Around}{s:Shared}{y x:V}{u v:Value}(ry:RelV y u) (rx:RelV x v) (fy:Dd y=true) (fx:Dd x=true):SeqAt.EqAt A s u v (Ca y x):=by
 cases y with
 | A5=>
  cases ry
  cases x with
  | A5=>cases rx;exact SeqAt.EqAt.same _
  | bl b=>cases rx;exact SeqAt.EqAt.none_bool b
  | int b=>obtain ⟨t,rfl⟩:=rx;exact SeqAt.EqAt.none_int b t
  | str b=>obtain ⟨t,rfl⟩:=rx;exact SeqAt.EqAt.none_str b t
  | _=>exact absurd (show false=true from fx) CQ
 | bl a=>
  cases ry
  cases x with
  | A5=>cases rx;exact SeqAt.EqAt.bool_none a
  | bl b=>cases rx;exact SeqAt.EqAt.bool_bool a b
  | int b=>obtain ⟨t,rfl⟩:=rx;exact SeqAt.EqAt.bool_int a b t
  | str b=>obtain ⟨t,rfl⟩:=rx;exact SeqAt.EqAt.bool_str a b t
  | _=>exact absurd (show false=true from fx) CQ
 | int a=>
  obtain ⟨t',rfl⟩:=ry
  cases x with
  | A5=>cases rx;exact SeqAt.EqAt.int_none a t'
  | bl b=>cases rx;exact SeqAt.EqAt.int_bool a t' b
  | int b=>obtain ⟨t,rfl⟩:=rx;exact SeqAt.EqAt.int_int a t' b t
  | str b=>obtain ⟨t,rfl⟩:=rx;exact SeqAt.EqAt.int_str a t' b t
  | _=>exact absurd (show false=true from fx) CQ
 | str a=>
  obtain ⟨t',rfl⟩:=ry
  cases x with
  | A5=>cases rx;exact SeqAt.EqAt.str_none a t'
  | bl b=>cases rx;exact SeqAt.EqAt.str_bool a t' b
  | int b=>obtain ⟨t,rfl⟩:=rx;exact SeqAt.EqAt.str_int a t' b t
  | str b=>obtain ⟨t,rfl⟩:=rx;exact SeqAt.EqAt.str_str a t' b t
  | _=>exact absurd (show false=true from fx) CQ
 | _=>exact absurd (show false=true from fy) CQ
def Ds (x:V) (u:Value):Bool:=match u with
 | .none=>Ca .A5 x
 | .bool b=>Ca (.bl b) x
 | .int i _=>Ca (.int i) x
 | .str z _=>Ca (.str z) x
 | _=>false
def Zu {x y:V}{u:Value}(r:RelV y u) (f:Dd y=true):Ds x u=Ca y x:=by
 cases y with
 | A5=>cases r;rfl
 | bl b=>cases r;rfl
 | int i=>obtain ⟨t,rfl⟩:=r;rfl
 | str z=>obtain ⟨t,rfl⟩:=r;rfl
 | _=>exact absurd (show false=true from f) CQ
theorem Md {x:V}:∀ {xs:List V}{us:List Value},Vals xs us->xs.all Dd=true->us.any (Ds x)=xs.any fun y=>Ca y x
 | _,_,.nil,_=>rfl
 | y :: xs,u :: us,.cons r t,f=>by
  rw [Rk,Ek] at f
  rw [MH,MH,Zu r f.1,Md t f.2]
theorem Kt {A:Around}{s:Shared}{x:V}{v:Value}(rx:RelV x v) (fx:Dd x=true):∀ {xs:List V}{us:List Value},Vals xs us->xs.all Dd=true->∀ u∈us,SeqAt.EqAt A s u v (Ds x u)
 | _,_,.nil,_=>fun u hu=>by cases hu
 | y :: xs,u :: us,.cons r t,f=>fun u' hu=>by
  rw [Rk,Ek] at f
  rcases List.mem_cons.mp hu with rfl | hu
  ·rw [Zu r f.1];exact PM r rx f.1 fx
  ·exact Kt rx fx t f.2 u' hu
def Qb (x:V) (xs:List V):Bool:=xs.any fun y=>Ca y x
def Iv (K:ZAY) (neg:Bool):R2:=fun x y H Q=>∃ p xs,y=.ref p/\(AJ K H p xs∨Ab K H p xs)/\Dd x=true/\xs.all Dd=true/\Q (.bl (if neg then !Qb x xs else Qb x xs)) H
def Hh:Ay X (compareOp .In) (Iv X.K false):=by
 intro pins s σ H x y v u Q I rx ry h
 obtain ⟨p,xs,rfl,hq,fx,fs,q⟩:=h
 cases ry
 rcases hq with hq | hq
 ·obtain ⟨A1,r,pl,hz⟩:=I.list hq
  refine SeqAt.in_listAt (Ds x) pl.isList (fun w hw=>Kt rx fx r fs w (by simpa using hw)) ⟨.bl _,H,I,rfl,?_⟩
  rw [show A1.toArray.any (Ds x)=A1.any (Ds x) by simp,Md r fs]
  exact q
 ·obtain ⟨A1,r,pl,hz⟩:=I.tuple hq
  refine SeqAt.in_tupleAt (Ds x) pl (fun w hw=>Kt rx fx r fs w (by simpa using hw)) ⟨.bl _,H,I,rfl,?_⟩
  rw [show A1.toArray.any (Ds x)=A1.any (Ds x) by simp,Md r fs]
  exact q
def Jw:Ay X (compareOp .NotIn) (Iv X.K true):=by
 intro pins s σ H x y v u Q I rx ry h
 obtain ⟨p,xs,rfl,hq,fx,fs,q⟩:=h
 cases ry
 rcases hq with hq | hq
 ·obtain ⟨A1,r,pl,hz⟩:=I.list hq
  refine SeqAt.notIn_listAt (Ds x) pl.isList (fun w hw=>Kt rx fx r fs w (by simpa using hw)) ⟨.bl _,H,I,rfl,?_⟩
  rw [show A1.toArray.any (Ds x)=A1.any (Ds x) by simp,Md r fs]
  exact q
 ·obtain ⟨A1,r,pl,hz⟩:=I.tuple hq
  refine SeqAt.notIn_tupleAt (Ds x) pl (fun w hw=>Kt rx fx r fs w (by simpa using hw)) ⟨.bl _,H,I,rfl,?_⟩
  rw [show A1.toArray.any (Ds x)=A1.any (Ds x) by simp,Md r fs]
  exact q
def Q2:C2 X (.builtin "len") (fun xs H Q=>∃ p ys,xs=[.ref p]/\(AJ X.K H p ys∨Ab X.K H p ys)/\Q (.int ys.length) H):=by
 intro pins s σ H xs us Q I r h
 obtain ⟨p,ys,rfl,hq,q⟩:=h
 obtain ⟨u,rfl,rx⟩:=vals1 r
 cases rx
 have hn:=Ir
 rcases hq with hq | hq
 ·obtain ⟨A1,r',pl,hz⟩:=I.list hq
  have hlen:=r'.length
  exact Calls.call_len_list pl.isList (by simp only [Bh] <;> omega) ⟨.int ys.length,H,I.tok _,⟨s.toks+1,by rw [Bh,hlen]⟩,q⟩
 ·obtain ⟨A1,r',pl,hz⟩:=I.tuple hq
  have hlen:=r'.length
  exact len_tuple pl (by simp only [Bh] <;> omega) ⟨.int ys.length,H,I.tok _,⟨s.toks+1,by rw [Bh,hlen]⟩,q⟩
def ZW:C2 X (.builtin "len") (fun xs H Q=>∃ z,xs=[.str z]/\z.length<=sizeLine/\Q (.int z.length) H):=by
 intro pins s σ H xs us Q I r h
 obtain ⟨z,rfl,hz,q⟩:=h
 obtain ⟨u,rfl,t,rfl⟩:=vals1 r
 have hn:=Ir
 exact len_str (by omega) ⟨.int z.length,H,I.tok _,⟨_,rfl⟩,q⟩
def C2.or {f:Value}{r r':List V->Hp->VK->Prop}(h:C2 X f r) (h':C2 X f r'):C2 X f (fun xs H Q=>r xs H Q∨r' xs H Q):=by
 intro pins s σ H xs us Q I rs q
 rcases q with q | q
 ·exact h pins s σ H xs us Q I rs q
 ·exact h' pins s σ H xs us Q I rs q
def Ln:C2 X (.type "list") (fun xs H Q=>∃ p ys,xs=[.ref p]/\(AJ X.K H p ys∨Ab X.K H p ys)/\∀ l,H l=none->Q (.ref l) (upd H l (.lst ys))):=by
 intro pins s σ H xs us Q I r h
 obtain ⟨p,ys,rfl,hq,q⟩:=h
 obtain ⟨u,rfl,rx⟩:=vals1 r
 cases rx
 have fin:∀ (A1:List Value),Vals ys A1->ys.length<=sizeLine->∀ (h':Heap) (c':Nat),(∀ b o',s.heap.get? b=some o'->h'.get? b=some o')->
   h'.get? s.heap.objs.size=some { cls:=.type "list", dict:=none,data:=.seq A1.toArray c',slots:=#[] }->EP X pins σ Q (.ref s.heap.objs.size) { s with heap:=h' }:=fun A1 r' hz h' c' kp e=>
  ⟨.ref s.heap.objs.size,_,I.laid (t':=s.toks) kp (Ae _) (show C4 X.prog X.w _ h' _ (.lst ys) from ⟨hz,A1,c',r',e⟩),rfl,q _ (I.AF.fresh (Ae _))⟩
 rcases hq with hq | hq
 ·obtain ⟨A1,r',pl,hz⟩:=I.list hq
  have hlen:=r'.length
  obtain ⟨o,ho,hc,n,hd⟩:=pl.isList
  exact call_list_seq p (.inl rfl) ho hc hd (fun h' c' kp e=>fin A1 r' hz h' c' kp e) (by simp only [Bh] <;> omega)
 ·obtain ⟨A1,r',pl,hz⟩:=I.tuple hq
  have hlen:=r'.length
  obtain ⟨o,ho,hc,n,hd⟩:=pl
  exact call_list_seq p (.inr rfl) ho hc hd (fun h' c' kp e=>fin A1 r' hz h' c' kp e) (by simp only [Bh] <;> omega)
def Oi:C2 X (.type "tuple") (fun xs H Q=>∃ p ys,xs=[.ref p]/\((AJ X.K H p ys/\∀ l,H l=none->Q (.ref l) (upd H l (.tup ys)))∨(Ab X.K H p ys/\Q (.ref p) H))):=by
 intro pins s σ H xs us Q I r h
 obtain ⟨p,ys,rfl,h⟩:=h
 obtain ⟨u,rfl,rx⟩:=vals1 r
 cases rx
 rcases h with ⟨hq,q⟩ | ⟨hq,q⟩
 ·obtain ⟨A1,r',pl,hz⟩:=I.list hq
  have hlen:=r'.length
  refine call_tuple_list pl.isList (fun h' kp=>?_) (by simp only [Bh] <;> omega)
  have I1:Inv X pins σ H { s with heap:=h' }:=I.kept (t':=s.toks) kp
  have I2:Inv X pins σ (upd H h'.objs.size (.tup ys)) { s with heap:=h'.push { cls:=.type "tuple", data:=.seq A1.toArray } }:=
   I1.laid (t':=s.toks) (fun b o e=>Br _ e) (Ae _) (show C4 X.prog X.w _ _ _ (.tup ys) from ⟨hz,A1,r',⟨IsTup.new _ _,fun ZE e'=>by rw [DD _ rfl] at e';cases e';rfl⟩⟩)
  exact ⟨.ref h'.objs.size,_,I2,rfl,q _ (I1.AF.fresh (Ae _))⟩
 ·obtain ⟨A1,r',pl,hz⟩:=I.tuple hq
  exact call_tuple_same pl ⟨.ref p,H,I,rfl,q⟩
def Js (K:ZAY) (T:String) (x:V) (H:Hp):Prop:=match x with
 | .str _=>T = "str"
 | .int _=>T = "int"
 | .ref p=>(T = "list" /\ ∃ xs,AJ K H p xs)∨(T = "tuple" /\ ∃ o,K.lookup p=some o/\o.cls=.type "tuple" /\ o.dict=none)∨
   (T = "dict" /\ ((∃ A3,H p=some (.dK A3))∨∃ A3,H p=some (.dT A3)))∨(T = "set" /\ ∃ S n,H p=some (.set S n))∨(T = "tuple" /\ ∃ xs,H p=some (.tup xs))
 | _=>False
def di {pins:ZAZ}{σ:St} {H:Hp}{s:Shared}{T:String}{x:V}{v:Value}(I:Inv X pins σ H s) (r:RelV x v) (ty:Js X.K T x H) :
  s.TypeIs v T/\∀ a,v=.ref a->∃ ob,s.heap.get? a=some ob/\ob.dict=none:=by
 cases x with
 | str z=>
  obtain ⟨t,rfl⟩:=r
  cases (show T = "str" from ty)
  exact ⟨typeIs_str s z t,fun _ e=>nomatch e⟩
 | int i=>
  obtain ⟨t,rfl⟩:=r
  cases (show T = "int" from ty)
  exact ⟨typeIs_int s i t,fun _ e=>nomatch e⟩
 | ref p=>
  cases r
  rcases ty with ⟨rfl,xs,hq⟩ | ⟨rfl,o,hk,hc,hd⟩ | ⟨rfl,hk⟩ | ⟨rfl,S,n,hk⟩ | ⟨rfl,xs,hk⟩
  ·obtain ⟨A1,_,pl,_⟩:=I.list hq
   refine ⟨pl.isList.typeIs,fun a e=>?_⟩
   cases e
   obtain ⟨o,n,e,c,hd,_⟩:=pl
   exact ⟨o,e,hd⟩
  ·refine ⟨⟨o,I.CM p o hk,hc⟩,fun a e=>?_⟩
   cases e
   exact ⟨o,I.CM _ o hk,hd⟩
  ·have z:∃ o,s.heap.get? p=some o/\o.ExactDict:=by
    rcases hk with ⟨A3,hk⟩ | ⟨A3,hk⟩
    ·obtain ⟨_,_,_,_,o,_,_,e,ex,_⟩:=I.AF p _ hk
     exact ⟨o,e,ex⟩
    ·obtain ⟨_,_,_,_,o,_,_,e,ex,_⟩:=I.AF p _ hk
     exact ⟨o,e,ex⟩
   obtain ⟨o,e,ex⟩:=z
   refine ⟨⟨o,e,ex.1⟩,fun a e2=>?_⟩
   cases e2
   exact ⟨o,e,ex.2.1⟩
  ·obtain ⟨o,_,_,_,e,ex,_⟩:=I.AF p _ hk
   refine ⟨⟨o,e,ex.1⟩,fun a e2=>?_⟩
   cases e2
   exact ⟨o,e,ex.2.1⟩
  ·obtain ⟨_,A1,_,⟨o,e,c,_⟩,dn⟩:=I.AF p _ hk
   refine ⟨⟨o,e,c⟩,fun a e2=>?_⟩
   cases e2
   exact ⟨o,e,dn o e⟩
 | _=>exact False.elim ty
def MV (K:ZAY) (T:String) (r:V->List V->Hp->VK->Prop) (to:TE):TE:=fun σ H Q=>to σ H fun x H1=>Js K T x H1/\r x [] H1 Q
def J8 (K:ZAY) (T:String) (r:V->List V->Hp->VK->Prop) (to:TE) (t:TA):TE:=fun σ H Q=>to σ H fun x H1=>Js K T x H1/\t σ H1 fun xs H2=>r x xs H2 Q
variable {o e:Expr}{es:List Expr}{to:TE}{t:TA}{name:Str}{apos Bc:Pos}{T id:String}{r:V->List V->Hp->VK->Prop}
def sD (pa:PlainAttrs T) (slot:Slot T name id) (Kl:typeOf (.builtin id)=pure (.type "method_descriptor")) (hm:Ec X id r) (ho:PE X o to)
  (JY:attributeBase o name X.env (eval o X.env)=eval o X.env:=by rfl) (KJ:(apos.endLine == Bc.line)=true:=by rfl):PE X (.Call (.Attribute o name apos) [] [] Bc) (MV X.K T r to):=by
 intro pins s σ H Q I h
 refine wpAny_Call_method0_late JY KJ (AH (ho pins s σ H _ I h) fun v s1 ⟨x,H1,I1,r1,ty,q1⟩=>?_)
 obtain ⟨h1,h2⟩:=di I1 r1 ty
 exact ⟨T,id,pa,slot,Kl,h1,h2,zG rfl (PySem.evalArgs_none (hm pins s1 σ H1 x [] v [] Q I1 r1 .nil q1))⟩
def mG (pa:PlainAttrs T) (slot:Slot T name id) (Kl:typeOf (.builtin id)=pure (.type "method_descriptor")) (hm:Ec X id r) (ho:PE X o to) (ha:PA X (e :: es) t)
  (JY:attributeBase o name X.env (eval o X.env)=eval o X.env:=by rfl)
  (UD:((backTo Bc (starEach (e :: es) X.env)).all (fun x=>!x.1) && (backToKw Bc (keywordEach [] X.env)).all (fun x=>x.1.isSome)
   && decide ((e :: es).length+([]:List Keyword).length+(if ([]:List Keyword).isEmpty then 0 else 1) < 30))=true:=by rfl)
  (KJ:(apos.endLine == Bc.line)=true:=by rfl) (hs:starEach (e :: es) X.env=(false,eval e X.env) :: starEach es X.env:=by rfl) (Sl:(backTo Bc (starEach es X.env)).any (·.1)=false:=by rfl) :
  PE X (.Call (.Attribute o name apos) (e :: es) [] Bc) (J8 X.K T r to t):=by
 intro pins s σ H Q I h
 refine wpAny_Call_method_late JY UD KJ rfl (AH (ho pins s σ H _ I h) fun v s1 ⟨x,H1,I1,r1,ty,q1⟩=>?_)
 obtain ⟨h1,h2⟩:=di I1 r1 ty
 refine ⟨T,id,pa,slot,Kl,h1,h2,?_⟩
 have hA:=ha Bc pins s1 σ H1 _ I1 q1
 rw [hs] at hA ⊢
 refine zG (by show (false || (backTo Bc (starEach es X.env)).any (·.1))=false;rw [Sl] <;> rfl) (Calls.evalArgs_plain ?_)
 exact AH hA fun us s2 ⟨vs,H2,I2,r2,q2⟩=>hm pins s2 σ H2 x vs v us Q I2 r1 r2 q2
end
def NR (X:Cx) (id:String) (r:V->List V->Hp->VK->Prop):Prop:=
 ∀ (pins:ZAZ) (s:Shared) (σ:St) (H:Hp) (x:V) (xs:List V) (v:Value) (us:List Value) (Q:VK),Inv X pins σ H s->RelV x v->Vals xs us->r x xs H Q->
  wpAny (model X.prog X.w) X.A (call (.builtin id) (v :: us)) (EP X pins σ Q) X.xe s
def Vals.one:∀ {x:V}{us:List Value},Vals [x] us->∃ u,us=[u]/\RelV x u
 | _,_,.cons r .nil=>⟨_,rfl,r⟩
def Vals.two:∀ {x y:V}{us:List Value},Vals [x,y] us->∃ u v,us=[u,v]/\RelV x u/\RelV y v
 | _,_,_,.cons r (.cons q .nil)=>⟨_,_,rfl,r,q⟩
def Vals.zero:∀ {us:List Value},Vals [] us->us=[]
 | _,.nil=>rfl
theorem Vals.dropLast {xs:List V}{us:List Value}(h:Vals xs us):Vals xs.dropLast us.dropLast:=by
 induction h with
 | nil=>exact .nil
 | cons r t ih=>
  cases t with
  | nil=>exact .nil
  | cons q t'=>exact .cons r ih
theorem Vals.reverse {xs:List V}{us:List Value}(h:Vals xs us):Vals xs.reverse us.reverse:=by
 induction h with
 | nil=>exact .nil
 | cons r t ih=>rw [Xn,Xn];exact Vals.append ih (.cons r .nil)
theorem Vals.rep {xs:List V}{us:List Value}(h:Vals xs us):∀ k:Nat,Vals (List.replicate k xs).flatten (List.replicate k us).flatten
 | 0=>.nil
 | k+1=>by
  rw [Xm,Xm,Xh,Xh]
  exact Vals.append h (Vals.rep h k)
def jl {α:Type} (l:List α):l.eraseIdx (l.length - 1)=l.dropLast:=by
 induction l with
 | nil=>rfl
 | cons a r ih=>
  cases r with
  | nil=>rfl
  | cons b r=>
   have e:(a :: b :: r).length - 1=((b :: r).length - 1)+1:=by
    have h1:(a :: b :: r).length=r.length+2:=rfl
    have h2:(b :: r).length=r.length+1:=rfl
    omega
   rw [e,List.eraseIdx_cons_succ,ih]
   all_goals rfl
section
variable {X:Cx}{pins:ZAZ}{σ:St} {H:Hp}{s:Shared}{l b:Addr}{xs ys zs:List V}
def Inv.Nt {A1 its':List Value}{n:Nat}{f:Array Value->Array Value}{t':Nat}(I:Inv X pins σ H s) (hH:H l=some (.lst xs))
  (e:s.heap.get? l=some { cls:=.type "list", data:=.seq A1.toArray n }) (hf:f A1.toArray=its'.toArray) (hv:Vals ys its') (hz:ys.length<=sizeLine) :
  Inv X pins σ (upd H l (.lst ys)) { s with heap:=s.heap.update l (Obj.mapSeq f),toks:=t' }:=by
 have q:=PySem.IsL.update e f
 rw [hf] at q
 refine I.write (x:=l) (e:=l) (by rw [hH];exact trivial) (.inl rfl) (fun b' u hb hu=>(Rj s.heap (Obj.mapSeq f) (Bi hb)).trans hu) ⟨_,q⟩ ?_
 exact ⟨hz,its',_,hv,q⟩
def Inv.Qn {A1:List Value}{t':Nat}(I:Inv X pins σ H s) (hv:Vals ys A1) (hz:ys.length<=sizeLine) :
  Inv X pins σ (upd H s.heap.objs.size (.lst ys)) { s with heap:=s.heap.push { cls:=.type "list", data:=.seq A1.toArray },toks:=t' }:=
 I.laid (fun _ _ q=>Br _ q) (Ae _) ⟨hz,A1,0,hv,DD _ rfl⟩
theorem Inv.fresh (I:Inv X pins σ H s):H s.heap.objs.size=none:=I.AF.fresh (Ae _)
def Inv.IT (I:Inv X pins σ H s) (hH:H l=some (.lst xs)):xs.length<=sizeLine/\∃ (A1:List Value) (n:Nat),Vals xs A1/\xs.length=A1.length/\s.heap.get? l=some { cls:=.type "list", data:=.seq A1.toArray n }:=by
 obtain ⟨z,A1,n,r,e⟩:=I.AF l _ hH
 exact ⟨z,A1,n,r,r.length,e⟩
def jo {n:Nat}(h:n<=sizeLine):Builtin.List.listTooLong n=false:=by
 unfold Builtin.List.listTooLong
 exact decide_eq_false (by omega)
end
section
variable {X:Cx}
def RU:V->List V->Hp->VK->Prop:=fun x vs H Q=>∃ l xs y,x=.ref l/\vs=[y]/\H l=some (.lst xs)/\xs.length < sizeLine/\Q .A5 (upd H l (.lst (xs++[y])))
def Qp:NR X "list.append" RU:=by
 intro pins s σ H x vs v us Q I rx rv h
 obtain ⟨l,xs,y,rfl,rfl,hH,hz,q⟩:=h
 cases rx
 obtain ⟨u,rfl,ru⟩:=rv.one
 obtain ⟨z,A1,n,r,hl,e⟩:=I.IT hH
 refine call_meets F.slot_list_append ⟨_,e,rfl⟩ F.entry_list_append (F.args_list_append_2 _ _) (PySem.list_append l A1.toArray n u (by rw [Bh];omega)) ⟨e,?_⟩
 refine ⟨.A5,_,I.Nt (its':=A1++[u]) hH e (by simp) (r.append (.cons ru .nil)) ?_,rfl,q⟩
 rw [BK,IH]
 omega
def Rz:V->List V->Hp->VK->Prop:=fun x vs H Q=>∃ l b xs zs,x=.ref l/\vs=[.ref b]/\H l=some (.lst xs)/\H b=some (.lst zs)/\xs.length+zs.length<=sizeLine/\Q .A5 (upd H l (.lst (xs++zs)))
def wO:NR X "list.extend" Rz:=by
 intro pins s σ H x vs v us Q I rx rv h
 obtain ⟨l,b,xs,zs,rfl,rfl,hH,hB,hz,q⟩:=h
 cases rx
 obtain ⟨u,rfl,ru⟩:=rv.one
 cases ru
 obtain ⟨z,A1,n,r,hl,e⟩:=I.IT hH
 obtain ⟨z2,BJ,n2,r2,Bw,e2⟩:=I.IT hB
 have hsz:A1.toArray.size+BJ.toArray.size<=sizeLine:=by rw [Bh,Bh];omega
 have kf:¬ (!A1.toArray.isEmpty && Builtin.List.listTooLong (A1.toArray.size+BJ.toArray.size))=true:=by
  rw [jo hsz,Ri]
  exact CQ
 refine call_meets F.slot_list_extend ⟨_,e,rfl⟩ F.entry_list_extend (F.args_list_extend_2 _ _)
  (AutoSeq1.list_extend_list_list_0 l A1.toArray n b BJ.toArray n2 kf (by rw [Bh];omega) (by omega)) ⟨e,e2,?_⟩
 refine ⟨.A5,_,I.Nt (its':=A1++BJ) hH e (by simp) (r.append r2) ?_,rfl,q⟩
 rw [BK]
 omega
def VX:V->List V->Hp->VK->Prop:=fun x vs H Q=>∃ l xs y,x=.ref l/\vs=[]/\H l=some (.lst xs)/\xs[xs.length - 1]?=some y/\Q y (upd H l (.lst xs.dropLast))
def jq:NR X "list.pop" VX:=by
 intro pins s σ H x vs v us Q I rx rv h
 obtain ⟨l,xs,y,rfl,rfl,hH,hy,q⟩:=h
 cases rx
 have Mb:=rv.zero
 subst Mb
 obtain ⟨z,A1,n,r,hl,e⟩:=I.IT hH
 obtain ⟨u,hu,ru⟩:=r.get hy
 have QH:A1.toArray[A1.toArray.size - 1]?=some u:=by
  show A1.toArray[A1.length - 1]?=some u
  rw [<- gN,<- hl]
  exact hu
 refine call_meets F.slot_list_pop ⟨_,e,rfl⟩ F.entry_list_pop (F.args_list_pop_1 _) (MeetsSeq.list_pop_last l A1.toArray n u QH (by rw [Bh];omega)) ⟨e,?_⟩
 refine ⟨y,_,I.Nt (its':=A1.dropLast) hH e ?_ r.dropLast ?_,ru,q⟩
 ·show A1.toArray.eraseIdxIfInBounds (A1.toArray.size - 1)=A1.dropLast.toArray
  rw [Bh,List.eraseIdxIfInBounds_toArray,jl]
 ·rw [List.length_dropLast]
  omega
def pB:V->List V->Hp->VK->Prop:=fun x vs H Q=>∃ l xs,x=.ref l/\vs=[]/\H l=some (.lst xs)/\Q .A5 (upd H l (.lst xs.reverse))
def XS:V->List V->Hp->VK->Prop:=fun x vs H Q=>∃ l xs,x=.ref l/\vs=[]/\H l=some (.lst xs)/\Q .A5 (upd H l (.lst []))
def jI:NR X "list.clear" XS:=by
 intro pins s σ H x vs v us Q I rx rv h
 obtain ⟨l,xs,rfl,rfl,hH,q⟩:=h
 cases rx
 have Mb:=rv.zero
 subst Mb
 obtain ⟨z,A1,n,r,hl,e⟩:=I.IT hH
 refine call_meets F.slot_list_clear ⟨_,e,rfl⟩ F.entry_list_clear (F.args_list_clear_1 _) (AutoSeq1.list_clear_list_0 l A1.toArray n (by rw [Bh];omega)) ⟨e,?_⟩
 exact ⟨.A5,_,I.Nt (its':=[]) (ys:=[]) hH e rfl .nil (CJ _),rfl,q⟩
def YI:R2:=fun x y H Q=>∃ l b xs zs,x=.ref l/\y=.ref b/\H l=some (.lst xs)/\H b=some (.lst zs)/\xs.length+zs.length<=sizeLine/\∀ p,H p=none->Q (.ref p) (upd H p (.lst (xs++zs)))
def Zh:Ay X (binaryOp .Add) YI:=by
 intro pins s σ H x y v u Q I rx ry h
 obtain ⟨l,b,xs,zs,rfl,rfl,hH,hB,hz,q⟩:=h
 cases rx
 cases ry
 obtain ⟨z,A1,n,r,hl,e⟩:=I.IT hH
 obtain ⟨z2,BJ,n2,r2,Bw,e2⟩:=I.IT hB
 refine PySem.P.add_list e e2 ?_ (by rw [Bh,Bh];omega)
 have ea:A1.toArray++BJ.toArray=(A1++BJ).toArray:=by simp
 rw [ea]
 exact ⟨.ref _,_,I.Qn (t':=s.toks) (r.append r2) (by rw [BK];omega),rfl,q _ I.fresh⟩
end
section
variable {prog:Program}{w:World}{A:Around}{E:Value->Shared->Prop}{s:Shared}
set_option maxRecDepth 100000 in
end
section
variable {X:Cx}
end
end L2
namespace bA
open PySem.W PySem.Calls
def iG {P:Params}{h:Heap}:∀ (ns:List Int) (vs:List Value),WellAll P h vs (ns.map WData.int)->IntsAre vs ns:=by
 intro ns
 induction ns with
 | nil=>
  intro vs w
  rw [II] at w
  cases w
  exact .nil
 | cons n ns ih=>
  intro vs w
  rw [BL] at w
  cases w with
  | cons a b=>
   cases a
   exact .cons _ _ (ih _ b)
def oH {l:OpenLaw}{n:Nat}(hn:l.most=some n){P:Params}{h:Heap}{args:List WData}{vals:List Value}
  (IY:l.row.toRowW.claim.pre args=true) (TL:WellAll P h vals args) :
  ∃ a vs ns,vals=[Value.ref a]/\args=[WData.list (ns.map WData.int)]/\h.get? a=some { cls:=.type "list", data:=.seq vs.toArray }/\IntsAre vs ns/\ns.length<=n:=by
 have rJ:WShape.hasAll [] args [.list .int]=true:=(pre_splitW IY).1
 have hc:l.pre.holds [] { args:=args }=true:=(pre_splitW IY).2
 obtain ⟨d,r,rfl,h1,h2⟩:=hasAllW_cons rJ
 obtain rfl:=hasAllW_nil h2
 obtain ⟨xs,rfl,h3⟩:=hasW_list h1
 obtain ⟨ns,rfl⟩:=items_int h3
 have hlen:ns.length<=n:=by
  unfold OpenLaw.pre at hc
  have h4:(WTm.not (.lt (.lit (.int (n:Int))) (.len (.arg 0)))).holds [] { args:=[.list (ns.map .int)] }=true:=by
   have h4:=(holds_andW hc).1
   rw [hn] at h4
   exact h4
  have h5:=condW_of h4 (w_not (w_lt w_lit (w_len_list (w_arg rfl))))
  rw [AE] at h5
  refine zh fun q=>?_
  have q':(n:Int) < ((ns.length:Nat):Int):=by omega
  first
   | (rw [decide_eq_true q'] at h5;exact absurd h5 (by decide))
   | (simp at h5;omega)
 cases TL with
 | cons w1 w2=>
  cases w2
  cases w1 with
  | list ho IM=>exact ⟨_,_,ns,rfl,rfl,ho,iG ns _ IM,hlen⟩
def ka (l:OpenLaw) (args:List WData):l.row.toRowW.claim.post args (.bool true) args=true:=
 postW_of (r:=l.row.toRowW) (X:=(true == true))
  (show WShape.has [] (.bool true) .bool=true by first | rfl | decide | simp [WShape.has,WShape.arms,WShape.armsAll])
  (show (WTm.eq .res (.lit (.bool true))).value [] { args:=args,res:=some (.bool true),after:=args }=some (.bool (true == true)) from w_eq_bool (w_res rfl) w_lit) rfl
def iD {l:OpenLaw}{n:Nat}{q:Program}{loose:List Str}{XP:(ZAa)->Heap->Prop}{YP:World->Heap->Prop}{d:DefRec}
  (hn:l.most=some n) (NJ:d.params.defaults=[])
  (call:∀ (w:World) (s₀ s₁:Shared) (mg mb:ZAa) (fa:Addr) (o:Obj) (pm cd doc:Value) (a:Addr) (vs:List Value) (ns:List Int),
   Ground q loose [] XP w s₀ mg mb s₁.heap->YP w s₁.heap->
   s₁.heap.get? fa=some o->o.data=.func (docDef d.name d.params d.body d.scope pm cd doc)->s₁.heap.CodeRec cd d.name->mg d.name=some (.ref fa)->
   s₁.heap.get? a=some { cls:=.type "list", data:=.seq vs.toArray }->IntsAre vs ns->ns.length<=n->s₁.gens=#[]->
   codeAny (model l.prog w) callerA (.call (.ref fa) ⟨[.ref a],[]⟩) (fun r s'=>r=.ok (.ret (.bool true))/\OldK s₁.heap s'.heap/\s'.os=s₁.os/\AllBare s'.gens) s₁) :
  WalkO q loose XP YP l.row.toRowW d [] (fun f vs=>PySem.call f vs):=by
 intro w s₀ s₁ mg mb G Y fa o pm cd doc dV kV ho hd Ey hD NX hg args vals as IY zy hrd TL hlo
 obtain rfl:dV=.none:=Dflts.none hD NJ
 obtain rfl:kV=.none:=Dflts.noKw hD
 obtain ⟨a,vs,ns,rfl,rfl,Vu,hints,hlen⟩:=oH hn IY TL
 refine enter_call (codeAny_mono (call w s₀ s₁ mg mb fa o pm cd doc a vs ns G Y ho (fd_plain hd) Ey NX Vu hints hlen hg) fun r s' hq=>?_)
 obtain ⟨rfl,h2,h3,h4⟩:=hq
 exact ⟨.inl ⟨.bool true,.bool true,[],rfl,fun _=>rfl,.bool true,ka l _,fun _=>⟨List.Pairwise.nil,fun _ hm=>(nomatch hm)⟩⟩,h2,h3,h4⟩
section
variable {prog:Program}{w:World}{A:Around}{E:Value->Shared->Prop}{s:Shared}{K:Frag}
end
end bA
namespace L2
theorem bN:∀ {vs:List Value}{ns:List Int},IntsAre vs ns->Vals (ns.map V.int) vs
 | _,_,.nil=>.nil
 | _,_,.cons n t h=>.cons ⟨t,rfl⟩ (bN h)
def TV (H:Hp):Prop:=∀ b,H b=none∨∃ o xs,H b=some (.DR o (.lst xs))
def yY {P:Program}{w:World}{K:ZAY}{mg mb:ZAa}{CX:El}{k:Nat}{fa a:Addr}{fd:FuncData}{x:Str}{sp:Sp}{s₁:Shared}{vs:List Value}{ns:List Int}
  (KX:K.In s₁.heap) (Dy:s₁.heap.Ns mainGlobals mg) (hb:s₁.heap.Ns builtinsNs mb) (yt:∀ x:Str,x ≠ "__name__" -> mb x=bootBuiltins x) (jk:s₁.heap.NoLimit) (hg:s₁.gens=#[])
  (ha:s₁.heap.get? a=some { cls:=.type "list", data:=.seq vs.toArray }) (hi:IntsAre vs ns) (hl:ns.length<=sizeLine) (hr:BY k callerA)
  (F:∀ base:Heap,K.In base->base.Ns mainGlobals mg->Cm P w K mg base CX k fa fd [x] sp) (uV:∀ (s:Shared) (u:Value),BindsTo s fd ⟨[u],[]⟩ [(x,u)])
  (EM:∀ H:Hp,TV H->AJ K H a (ns.map V.int)->sp [.ref a] H (fun v _=>v=.bl true) fun _ _ _=>False)
  (UW:∀ H e s',CX [] H s₁ (fun _ _ _=>False) e s'->False) :
  codeAny (model P w) callerA (.call (.ref fa) ⟨[.ref a],[]⟩) (fun r s'=>r=.ok (.ret (.bool true))/\OldK s₁.heap s'.heap/\s'.os=s₁.os/\AllBare s'.gens) s₁:=by
 have rv:=bN hi
 have iU:=hi.length
 -- from an abstract heap in ZAJ nothing but G5 Zy may be tracked
 have core:∀ H:Hp,TV H->AJ K H a (ns.map V.int)->Bj P w H s₁.heap->(∀ b,H b≠none->b=a)->(H a≠none->K.lookup a=none)->
   codeAny (model P w) callerA (.call (.ref fa) ⟨[.ref a],[]⟩) (fun r s'=>r=.ok (.ret (.bool true))/\OldK s₁.heap s'.heap/\s'.os=s₁.os/\AllBare s'.gens) s₁:=by
  intro H hO hS AF hA hK
  have bz:∀ {b:Addr}{o:Obj},s₁.heap.get? b=some o->H b=none->(HM s₁.heap H).get? b=some o:=fun e n=>v7 e n
  have Me:∀ {b:Addr}{o:Obj}{es:Array DictEntry}{ep:Nat},s₁.heap.get? b=some o->o.data=.dict es ep->H b=none:=fun {b o es ep} e d=>by
   cases q:H b with
   | none=>rfl
   | some u=>
    have e':b=a:=hA b (by rw [q];simp)
    subst e'
    rw [ha] at e;cases e
    have d':Data.seq vs.toArray _=Data.dict es ep:=d
    cases d'
  have Rh:∀ {b:Addr}{m:ZAa},s₁.heap.Ns b m->(HM s₁.heap H).Ns b m:=fun {b m} ⟨o,es,ep,e,d,r⟩=>⟨o,es,ep,bz e (Me e d),d,r⟩
  have ZG:K.In (HM s₁.heap H):=fun b o e=>bz (KX b o e) (by
   cases q:H b with
   | none=>rfl
   | some u=>
    have e':b=a:=hA b (by rw [q];simp)
    subst e'
    rw [hK (by rw [q];simp)] at e;cases e)
  have hM:Mod K mg (HM s₁.heap H):=⟨ZG,Rh Dy,⟨mb,Rh hb,yt⟩,let ⟨mc,h1,h2⟩:=jk;⟨mc,Rh h1,h2⟩⟩
  have e0:K7 P w K mg (HM s₁.heap H) callerA [] s₁ H:=⟨rfl,hM,fun b o e=>vq e,gj (oF _ _),trivial,fun b hb=>absurd (show b∈([]:List Addr) from hb) (by simp),AF,.of_eq hg⟩
  refine codeAny_mono ((F _ ZG (Rh Dy)).run callerA [] s₁ H ⟨[.ref a],[]⟩ [.ref a] [.ref a] _ _ hr e0 (uV s₁ (.ref a)) (.cons rfl .nil) (EM H hO hS)) fun r s' h=>?_
  cases r with
  | error e=>exact (UW H e s' h).elim
  | ok fl=>
   cases fl with
   | next=>exact False.elim h
   | brk=>exact False.elim h
   | cont=>exact False.elim h
   | ret u=>
    obtain ⟨v,H',os,bare,un,yS,r',q⟩:=h
    have q':v=.bl true:=q
    subst q'
    obtain rfl:u=Value.bool true:=r'
    refine ⟨rfl,OldK.of_keep fun b o e=>?_,os,bare⟩
    cases q:H b with
    | none=>exact un.keep b o e q (by intro z;exact absurd (show b∈([]:List Addr) from z) (by simp)) (by simp)
    | some u=>
     rcases hO b with z | ⟨ob,xs,z⟩
     ·rw [q] at z;cases z
     ·have z2:=un.Gv b ob _ z
      obtain ⟨e1,_⟩:=AF b _ z
      obtain ⟨e2,_⟩:=yS b _ z2
      rw [e] at e1;cases e1
      exact e2
 cases hk:K.lookup a with
 | some o=>
  -- G5 Zy is one of G5 ZAV own objects
  have e:=KX a o hk
  rw [ha] at e
  cases e
  refine core (fun _=>none) (fun _=>.inl rfl) (.inr ⟨_,vs.toArray,_,hk,rfl,rfl,rfl,by rw [Bh,iU];exact hl,by simpa using rv⟩) (fun b u z=>by have z':(none:Option HO)=some u:=z;cases z') (fun b z=>absurd rfl z) fun z=>absurd rfl z
 | none=>
  refine core (fun b=>if b=a then some (.DR { cls:=.type "list", data:=.seq vs.toArray } (.lst (ns.map V.int))) else none) (fun b=>?_) (.inl (.inr ⟨{ cls:=.type "list", data:=.seq vs.toArray },if_pos rfl⟩)) (fun b u z=>?_) (fun b z=>?_) fun _=>hk
  ·by_cases hb:b=a
   ·exact .inr ⟨_,_,if_pos hb⟩
   ·exact .inl (if_neg hb)
  ·by_cases hb:b=a
   ·have z':=(if_pos hb).symm.trans z
    cases z'
    subst hb
    exact ⟨ha,by rw [AE];exact hl,vs,_,rv,ha⟩
   ·have z':=(if_neg hb).symm.trans z
    cases z'
  ·by_cases hb:b=a
   ·exact hb
   ·exact absurd (if_neg hb) z
def j4 {l:PySem.W.OpenLaw}{n k:Nat}{q:Program}{loose:List Str}{XP:(ZAa)->Heap->Prop}{YP:World->Heap->Prop}{d:DefRec}{K:Params->ZAY}{CX:World->El}{sp:World->Sp}{x:Str}
  (hn:l.most=some n) (Df:n<=sizeLine) (NJ:d.params.defaults=[]) (hr:BY k callerA)
  (hY:∀ (w:World) (h:Heap),YP w h->(K w.params).In h)
  (F:∀ (w:World) (mg:ZAa) (fa:Addr) (h:Heap),(K w.params).In h->h.Ns mainGlobals mg->mg d.name=some (.ref fa)->
   ∃ fd:FuncData,(∀ (s:Shared) (u:Value),BindsTo s fd ⟨[u],[]⟩ [(x,u)])/\
    ∀ base:Heap,(K w.params).In base->base.Ns mainGlobals mg->Cm l.prog w (K w.params) mg base (CX w) k fa fd [x] (sp w))
  (EM:∀ (w:World) (H:Hp) (a:Addr) (ns:List Int),ns.length<=n->TV H->AJ (K w.params) H a (ns.map V.int)->sp w [.ref a] H (fun v _=>v=.bl true) fun _ _ _=>False)
  (UW:∀ (w:World) (H:Hp) (s:Shared) (e:Value) (s':Shared),CX w [] H s (fun _ _ _=>False) e s'->False) :
  PySem.W.WalkO q loose XP YP l.row.toRowW d [] (fun f vs=>PySem.call f vs):=by
 refine bA.iD hn NJ fun w s₀ s₁ mg mb fa o pm cd doc a vs ns G Y ho hd Ey NX Vu hints hlen hg=>?_
 have KX:=hY w _ Y
 obtain ⟨fd,hb,hF⟩:=F w mg fa _ KX G.T.g NX
 exact yY KX G.T.g G.T.b G.T.builtins G.T.nolimit hg Vu hints (Dj hlen Df) hr hF hb (fun H hO hS=>EM w H a ns hlen hO hS) fun H e s'=>UW w H s₁ e s'
def Mi (s:Stmt):Arguments:=match s with
 | .FunctionDef _ a _ _ _ _ _ _ _ _=>a
 | _=>{ posonlyargs:=[],args:=[],vararg:=none,kwonlyargs:=[],kw_defaults:=[],kwarg:=none,defaults:=[] }
def Ki (s:Stmt):List Stmt:=match s with
 | .FunctionDef _ _ b _ _ _ _ _ _ _=>b
 | _=>[]
def Am (s:Stmt):Scope:=match s with
 | .FunctionDef _ _ _ _ _ _ sc _ _ _=>sc
 | _=>{ kind:=.function,names:=[],isGenerator:=false,isCoroutine:=false }
abbrev FA:El:=fun _ _ _ _ _ _=>False
abbrev E0:XK:=fun _ _ _=>False
def RI {X:Cx}:Passes FA X E0:=fun _ _ _ _ _ _ _ h=>h.elim
structure AQ (K:ZAY) (x qual:Str) (st:Stmt) (f:Addr) (fd:FuncData):Prop where
 ex:∃ (oc:Value) (od:Option Addr) (kV doc pm:Value) (an:Option Addr) (AZ ct:Value) (J6:Array (Option Value)),
  fd=PySem.W.fnOf x qual (Mi st) (Ki st) (Am st) .none kV doc pm an AZ ct/\K.lookup f=some ⟨oc,od,.func fd,J6⟩/\PySem.W.codeIn K AZ qual=true
 kp:PySem.W.keepIn K (.ref f)=true
section
variable {P:Program}{w:World}{K:ZAY}{mg:ZAa}{base:Heap}
def AQ.ok {x qual:Str}{st:Stmt}{f:Addr}{fd:FuncData}{N ps:List Str}{k:Nat}{sp:Sp}(F:AQ K x qual st f fd) (S:BN N ps (Am st)) (len:∀ vs H Q E,sp vs H Q E->vs.length=ps.length)
  (NI:∀ (AZ:Value) (A:Around) (outer:List Env) (s:Shared) (H:Hp) (vs:List V) (Q:VK) (E:XK),BY k (A.deeper (envOfC qual (Am st) s.heap.objs.size f AZ))->sp vs H Q E->
   ∃ t,Dv (Jn FA P w K mg base N qual (Am st) f AZ A outer s H E).MZ (Ki st) t/\t { nx:=fun _ H'=>Q .A5 H',rt:=Q } (start N vs) H):Cm P w K mg base FA (k+1) f fd ps sp:=by
 obtain ⟨oc,od,kV,doc,pm,an,AZ,ct,J6,rfl,lk,Ey⟩:=F.ex
 refine yk lk Ey S len fun A outer s H vs Q E hr EM=>?_
 obtain ⟨t,h,q⟩:=NI AZ A outer s H vs Q E hr EM
 exact ⟨t,h.MZ,q⟩
def AQ.binds {x qual:Str}{st:Stmt}{f:Addr}{fd:FuncData}{ps:List Str}(F:AQ K x qual st f fd)
  (h:∀ (kV doc pm:Value) (an:Option Addr) (AZ ct:Value) (us:List Value),us.length=ps.length->bindArgs (PySem.W.fnOf x qual (Mi st) (Ki st) (Am st) .none kV doc pm an AZ ct) ⟨us,[]⟩=pure (ps.zip us)):Binds K fd ps []:=by
 obtain ⟨oc,od,kV,doc,pm,an,AZ,ct,J6,rfl,lk,Ey⟩:=F.ex
 exact .all (h kV doc pm an AZ ct)
def lH {x qual:Str}{st:Stmt}{f:Addr}{oc:Value}{od an:Option Addr}{J6:Array (Option Value)}{kV doc pm AZ ct:Value}(l:K.lookup f=some ⟨oc,od,.func (PySem.W.fnOf x qual (Mi st) (Ki st) (Am st) .none kV doc pm an AZ ct),J6⟩)
  (c:PySem.W.codeIn K AZ qual=true) (k:PySem.W.keepIn K (.ref f)=true):AQ K x qual st f (PySem.W.fnOf x qual (Mi st) (Ki st) (Am st) .none kV doc pm an AZ ct):=⟨⟨oc,od,kV,doc,pm,an,AZ,ct,J6,rfl,l,c⟩,k⟩
end
def Eu {A:Around}{k:Nat}(hr:BY k A):A.units+1 < cLine:=Rt (Nat.add_le_add_left (by decide:1<=64) _) hr.units
section
variable {X:Cx}
def pv (i:Nat){x:Str}{pos:Pos}(hN:X.N[i]?=some x:=by rfl) (hv:Pr X.env.scope x:=by first | exact Or.inl rfl | exact Or.inr (Or.inl rfl) | exact Or.inr (Or.inr rfl)) (hd:(x == ("__debug__" : Str))=false:=by decide)
  (Ey:(x == ("__classdict__" : Str))=false:=by decide):PE X (.Name x pos) (BM i):=bb hN hv hd Ey
end
def W7 {A B:Prop}(h:B):if false=true then A else B:=by
 rw [if_neg CQ]
 exact h
def br {A B:Prop}(h:A):if true=true then A else B:=by
 rw [if_pos rfl]
 exact h
def CT {c A B:Prop} [Decidable c] (h1:c->A) (h2:¬ c->B):if c then A else B:=by
 by_cases h:c
 ·rw [if_pos h]
  exact h1 h
 ·rw [if_neg h]
  exact h2 h
def AD (H H':Hp):Prop:=∀ b o,H b=some o->H' b=some o
def AD.refl (H:Hp):AD H H:=fun _ _ h=>h
def AD.trans {H H1 H2:Hp}(a:AD H H1) (b:AD H1 H2):AD H H2:=fun c o h=>b c o (a c o h)
end L2
set_option maxHeartbeats 4000000
namespace L2
section
variable {κ:Type} [DecidableEq κ]
def DU (A3:List (κ×V)) (k:κ):Option V:=(A3.find? fun kv=>decide (kv.1=k)).map (·.2)
def putK (A3:List (κ×V)) (k:κ) (v:V):List (κ×V):=
 if (A3.any fun kv=>decide (kv.1=k))=true then A3.map (fun kv=>if kv.1=k then (kv.1,v) else kv) else A3++[(k,v)]
def ZD (A3:List (κ×V)) (k:κ):List (κ×V):=A3.filter fun kv=>decide (kv.1≠k)
def OH {p:κ×V}{r:List (κ×V)}{k:κ}(e:p.1=k):DU (p :: r) k=some p.2:=by simp [DU,OZ,e]
def Nj {p:κ×V}{r:List (κ×V)}{k:κ}(e:¬ p.1=k):DU (p :: r) k=DU r k:=by simp [DU,OZ,e]
theorem QR (k:κ):∀ A3:List (κ×V),(A3.any fun kv=>decide (kv.1=k))=(DU A3 k).isSome
 | []=>rfl
 | p :: r=>by
  rw [MH]
  by_cases e:p.1=k
  ·simp only [OH e,decide_eq_true e,Bool.true_or,zk]
  ·rw [Nj e,decide_eq_false e,Bool.false_or];exact QR k r
def Ve (A3:List (κ×V)) (k:κ) (v:V):(putK A3 k v).length<=A3.length+1:=by
 unfold putK
 split
 ·rw [AE];omega
 ·rw [BK,BZ,Od];omega
def Mc {A3:List (κ×V)}{k:κ}(v:V) (h:DU A3 k=none):putK A3 k v=A3++[(k,v)]:=by
 unfold putK
 rw [QR,h]
 exact if_neg (by decide)
def Dq.NM {o:Option V}{u:Option Value}(r:Dq o u):o.isSome=u.isSome:=by
 cases o with
 | none=>cases u with
  | none=>rfl
  | some _=>exact (show False from r).elim
 | some _=>cases u with
  | none=>exact (show False from r).elim
  | some _=>rfl
def KV.val {A3:List (κ×V)}{vs:List (κ×Value)}(r:KV A3 vs) (k:κ):Dq (DU A3 k) (valueAt vs k):=by
 unfold KV at r
 induction r with
 | nil=>exact True.intro
 | @cons p q ps qs h t ih=>
  obtain ⟨h1,h2⟩:=h
  by_cases e:p.1=k
  ·have e':q.1=k:=h1.symm.trans e
   have b:valueAt (q :: qs) k=some q.2:=by simp [valueAt,OZ,e']
   rw [OH e,b];exact h2
  ·have e':¬ q.1=k:=fun z=>e (h1.trans z)
   have b:valueAt (q :: qs) k=valueAt qs k:=by simp [valueAt,OZ,e']
   rw [Nj e,b];exact ih
theorem KV.any {A3:List (κ×V)}{vs:List (κ×Value)}(r:KV A3 vs) (k:κ):(A3.any fun kv=>decide (kv.1=k))=vs.any fun kv=>decide (kv.1=k):=by
 unfold KV at r
 induction r with
 | nil=>rfl
 | cons h t ih=>rw [MH,MH,ih,h.1]
def KV.XB {A3:List (κ×V)}{vs:List (κ×Value)}(r:KV A3 vs) (k:κ){y:V}{u:Value}(ry:RelV y u) :
  KV (A3.map fun kv=>if kv.1=k then (kv.1,y) else kv) (vs.map fun kv=>if kv.1=k then (kv.1,u) else kv):=by
 unfold KV at r ⊢
 induction r with
 | nil=>exact .nil
 | @cons p q ps qs h t ih=>
  rw [BL,BL]
  refine .cons ?_ ih
  obtain ⟨h1,h2⟩:=h
  by_cases e:p.1=k
  ·rw [if_pos e,if_pos (h1.symm.trans e)];exact ⟨h1,ry⟩
  ·rw [if_neg e,if_neg (fun z=>e (h1.trans z))];exact ⟨h1,h2⟩
def KV.put {A3:List (κ×V)}{vs:List (κ×Value)}(r:KV A3 vs) (k:κ){y:V}{u:Value}(ry:RelV y u):KV (putK A3 k y) (stored vs k u):=by
 unfold putK stored
 rw [r.any k]
 by_cases e:(vs.any fun kv=>decide (kv.1=k))=true
 ·rw [if_pos e,if_pos e];exact r.XB k ry
 ·rw [if_neg e,if_neg e];exact Paired.snoc r ⟨rfl,ry⟩
def KV.drop {A3:List (κ×V)}{vs:List (κ×Value)}(r:KV A3 vs) (k:κ):KV (ZD A3 k) (without vs k):=by
 unfold KV at r ⊢
 unfold ZD without
 induction r with
 | nil=>exact .nil
 | @cons p q ps qs h t ih=>
  obtain ⟨h1,h2⟩:=h
  rw [gY,gY]
  by_cases e:p.1=k
  ·have a:¬ decide (p.1≠k)=true:=by simp [e]
   have b:¬ decide (q.1≠k)=true:=by simp [h1.symm.trans e]
   rw [if_neg a,if_neg b];exact ih
  ·have e':¬ q.1=k:=fun z=>e (h1.trans z)
   have a:decide (p.1≠k)=true:=by simp [e]
   have b:decide (q.1≠k)=true:=by simp [e']
   rw [if_pos a,if_pos b];exact .cons ⟨h1,h2⟩ ih
def KV.keys {A3:List (κ×V)}{vs:List (κ×Value)}(r:KV A3 vs):A3.map (·.1)=vs.map (·.1):=by
 unfold KV at r
 induction r with
 | nil=>rfl
 | cons h t ih=>rw [BL,BL,ih,h.1]
theorem KV.length {A3:List (κ×V)}{vs:List (κ×Value)}(r:KV A3 vs):A3.length=vs.length:=gq r
end
def LJ {P:Program}{w:World}{k:Key}{u:Value}(r:RelV (kV k) u):(Cq P w).is k u=true:=by
 cases k with
 | inl i=>obtain ⟨t,e⟩:=(show ∃ t,u=Value.int i t from r);subst e;exact mV P w i t
 | inr x=>obtain ⟨t,e⟩:=(show ∃ t,u=Value.str x t from r);subst e;exact mQ P w x t
theorem YS {P:Program}{w:World}:∀ {ks:List Key}{us:List Value},Vals (ks.map kV) us->ItemsAre (Cq P w) ks us
 | [],_,r=>by rw [II] at r;cases r;exact .nil
 | k :: ks,_,r=>by
  rw [BL] at r
  cases r with
  | cons h t=>exact .cons (LJ h) (YS t)
abbrev KT (H:Hp):List (List Key×V)->List (List Key×Addr×Value)->Prop:=Paired fun p q=>p.1=q.1/\H q.2.1=some (.tup (p.1.map kV))/\RelV p.2 q.2.2
def KT.val {H:Hp}{A3:List (List Key×V)}{xs:List (List Key×Addr×Value)}(r:KT H A3 xs) (k:List Key):Dq (DU A3 k) ((atKey xs k).map (·.2)):=by
 induction r with
 | nil=>exact True.intro
 | @cons p q ps qs h t ih=>
  obtain ⟨h1,_,h2⟩:=h
  by_cases e:p.1=k
  ·have e':q.1=k:=h1.symm.trans e
   have b:atKey (q :: qs) k=some q.2:=by simp [atKey,OZ,e']
   rw [OH e,b];exact h2
  ·have e':¬ q.1=k:=fun z=>e (h1.trans z)
   have b:atKey (q :: qs) k=atKey qs k:=by simp [atKey,OZ,e']
   rw [Nj e,b];exact ih
def KT.XB {H:Hp}{A3:List (List Key×V)}{xs:List (List Key×Addr×Value)}(r:KT H A3 xs) (k:List Key){y:V}{u:Value}(ry:RelV y u) :
  KT H (A3.map fun kv=>if kv.1=k then (kv.1,y) else kv) (xs.map (putAt k u)):=by
 induction r with
 | nil=>exact .nil
 | @cons p q ps qs h t ih=>
  rw [BL,BL]
  refine .cons ?_ ih
  obtain ⟨h1,h2,h3⟩:=h
  unfold putAt
  by_cases e:p.1=k
  ·rw [if_pos e,if_pos (h1.symm.trans e)];exact ⟨h1,h2,ry⟩
  ·rw [if_neg e,if_neg (fun z=>e (h1.trans z))];exact ⟨h1,h2,h3⟩
def KT.put {H:Hp}{A3:List (List Key×V)}{xs:List (List Key×Addr×Value)}(r:KT H A3 xs) (k:List Key){b:Addr}{y:V}{u:Value}(hb:H b=some (.tup (k.map kV))) (ry:RelV y u) :
  KT H (putK A3 k y) (storedH xs k b u):=by
 have e:(A3.any fun kv=>decide (kv.1=k))=(atKey xs k).isSome:=by
  rw [QR,(r.val k).NM,Xv]
 unfold putK storedH
 rw [e]
 by_cases q:(atKey xs k).isSome=true
 ·rw [if_pos q,if_pos q];exact r.XB k ry
 ·rw [if_neg q,if_neg q];exact Paired.snoc r ⟨rfl,hb,ry⟩
def KT.keeps {H H':Hp}{A3:List (List Key×V)}{xs:List (List Key×Addr×Value)}(r:KT H A3 xs) (ht:∀ b ys,H b=some (.tup ys)->H' b=some (.tup ys)):KT H' A3 xs:=
 Paired.Py r fun _ _ z=>⟨z.1,ht _ _ z.2.1,z.2.2⟩
section
variable {P:Program}{w:World}{H:Hp}{h:Heap}{a:Addr}
def bh {u:HO}(ok:Bj P w H h) (e:Rd H a u):C4 P w H h a u:=e.ok ok
def LF {A3:List (Key×V)}(ok:Bj P w H h) (e:Rd H a (.dK A3)):A3.length<=sizeLine/\(a == sysModules)=false/\∃ vs,KV A3 vs/\h.DictOf (Cq P w) a vs:=
 show C4 P w H h a (.dK A3) from bh ok e
def YG {A3:List (Key×V)}(ok:Bj P w H h) (e:H a=some (.dK A3)):A3.length<=sizeLine/\(a == sysModules)=false/\∃ vs,KV A3 vs/\h.DictOf (Cq P w) a vs:=LF ok (.inl e)
def OK {ks:List Key}(ok:Bj P w H h) (e:H a=some (.tup (ks.map kV))):(tupleKind (Cq P w)).is h ks a:=by
 obtain ⟨_,A1,r,⟨o,h1,h2,n,h3⟩,_⟩:=(show C4 P w H h a (.tup (ks.map kV)) from ok a _ e)
 exact ⟨o,A1.toArray,n,h1,h2,h3,by simpa using YS r⟩
def Nr {A3:List (List Key×V)}(ok:Bj P w H h) (e:Rd H a (.dT A3)):A3.length<=sizeLine/\(a == sysModules)=false/\
  ∃ xs,KT H A3 xs/\h.DictOfH (tupleKind (Cq P w)) a xs:=by
 obtain ⟨z,y,xs,r,o,es,ep,h1,h2,h3,h4,h5⟩:=(show C4 P w H h a (.dT A3) from bh ok e)
 refine ⟨z,y,xs,r,o,es,ep,h1,h2,h3,h4,fun x hx=>?_,h5⟩
 have all:∀ {l:List (List Key×V)}{m:List (List Key×Addr×Value)},KT H l m->∀ x∈m,(tupleKind (Cq P w)).is h x.1 x.2.1:=by
  intro l m q
  induction q with
  | nil=>intro x hx;exact nomatch hx
  | @cons p q ps qs hq t ih=>
   intro x hx
   rcases List.mem_cons.mp hx with e | hx
   ·subst e
    exact OK ok (by rw [<- hq.1];exact hq.2.1)
   ·exact ih x hx
 exact all r x hx
def xE {A3:List (List Key×V)}(ok:Bj P w H h) (e:H a=some (.dT A3)):A3.length<=sizeLine/\(a == sysModules)=false/\
  ∃ xs,KT H A3 xs/\h.DictOfH (tupleKind (Cq P w)) a xs:=Nr ok (.inl e)
end
def Es (H:Hp) (a:Addr) (y:V) (r:Option V):Prop:=
 (∃ A3 k,Rd H a (.dK A3)/\y=kV k/\r=DU A3 k)∨∃ A3 k b,Rd H a (.dT A3)/\y=.ref b/\H b=some (.tup (k.map kV))/\r=DU A3 k
def MR (H:Hp) (a:Addr) (y v:V) (H':Hp):Prop:=
 (∃ A3 k,H a=some (.dK A3)/\y=kV k/\A3.length < sizeLine/\H'=upd H a (.dK (putK A3 k v)))∨
 ∃ A3 k b,H a=some (.dT A3)/\y=.ref b/\H b=some (.tup (k.map kV))/\A3.length < sizeLine/\H'=upd H a (.dT (putK A3 k v))
theorem Es.k {H:Hp}{a:Addr}{A3:List (Key×V)}{k:Key}(e:H a=some (.dK A3)):Es H a (kV k) (DU A3 k):=.inl ⟨A3,k,.inl e,rfl,rfl⟩
theorem MR.k {H:Hp}{a:Addr}{A3:List (Key×V)}{k:Key}{v:V}(e:H a=some (.dK A3)) (hl:A3.length < sizeLine):MR H a (kV k) v (upd H a (.dK (putK A3 k v))):=.inl ⟨A3,k,e,rfl,hl,rfl⟩
section
variable {X:Cx}{pins:ZAZ}{σ:St} {H:Hp}{s:Shared}{a:Addr}{y v:V}{u r:Value}{o:Option V}{A:Around}{E:Value->Shared->Prop}
def Inv.big (I:Inv X pins σ H s):sysModules < s.heap.objs.size:=by
 have h:mainGlobals < s.heap.objs.size:=(I.mod.glob.keeps I.bk).lt
 exact gm (by decide) h
def mf {Q:Value->Shared->Prop}(hu:A.units+1 < cLine) (I:Inv X pins σ H s) (g:Es H a y (some v)) (ry:RelV y u) (h:∀ w' s',Inv X pins σ H s'->RelV v w'->Q w' s') :
  wpAny (model X.prog X.w) A (getItem (.ref a) u) Q E s:=by
 rcases g with ⟨A3,k,e,ey,l⟩ | ⟨A3,k,b,e,ey,eb,l⟩
 ·subst ey
  obtain ⟨z,hd,vs,rel,dd⟩:=LF I.AF e
  obtain ⟨w',hw,GJ⟩:=Dq.some_of (v:=v) (o:=valueAt vs k) (by rw [l];exact rel.val k)
  exact wpAny_getItem_of (LJ ry) dd.mapOf hw (h w' _ (I.tok _) GJ)
 ·subst ey
  cases (show u=Value.ref b from ry)
  obtain ⟨z,hd,xs,rel,dd⟩:=Nr I.AF e
  obtain ⟨w',hw,GJ⟩:=Dq.some_of (v:=v) (o:=(atKey xs k).map (·.2)) (by rw [l];exact rel.val k)
  obtain ⟨p,hp,Nx⟩:=Option.map_eq_some_iff.mp hw
  refine wpAny_getItem_heap (tupleKind_room_in1 hu) (OK I.AF eb) dd hp ?_
  rw [Nx]
  exact h w' _ (I.tok _) GJ
def iX {Q:Value->Shared->Prop}(hu:A.units+1 < cLine) (I:Inv X pins σ H s) (g:Es H a y o) (ry:RelV y u) (h:∀ s',Inv X pins σ H s'->Q (.bool o.isSome) s') :
  wpAny (model X.prog X.w) A (compareOp .In u (.ref a)) Q E s:=by
 rcases g with ⟨A3,k,e,ey,l⟩ | ⟨A3,k,b,e,ey,eb,l⟩
 ·subst ey
  obtain ⟨z,hd,vs,rel,dd⟩:=LF I.AF e
  refine wpAny_in_of (LJ ry) hd dd.mapOf ?_
  rw [<- (rel.val k).NM,<- l]
  exact h _ (I.tok _)
 ·subst ey
  cases (show u=Value.ref b from ry)
  obtain ⟨z,hd,xs,rel,dd⟩:=Nr I.AF e
  refine wpAny_in_heap (tupleKind_room_in1 hu) (OK I.AF eb) hd dd ?_
  have q:=(rel.val k).NM
  rw [Xv] at q
  rw [<- q,<- l]
  exact h _ (I.tok _)
def z8 {Q:Value->Shared->Prop}(hu:A.units+1 < cLine) (I:Inv X pins σ H s) (g:Es H a y o) (ry:RelV y u) (h:∀ s',Inv X pins σ H s'->Q (.bool (!o.isSome)) s') :
  wpAny (model X.prog X.w) A (compareOp .NotIn u (.ref a)) Q E s:=by
 rcases g with ⟨A3,k,e,ey,l⟩ | ⟨A3,k,b,e,ey,eb,l⟩
 ·subst ey
  obtain ⟨z,hd,vs,rel,dd⟩:=LF I.AF e
  refine wpAny_notIn_of (LJ ry) hd dd.mapOf ?_
  rw [<- (rel.val k).NM,<- l]
  exact h _ (I.tok _)
 ·subst ey
  cases (show u=Value.ref b from ry)
  obtain ⟨z,hd,xs,rel,dd⟩:=Nr I.AF e
  refine wpAny_notIn_heap (tupleKind_room_in1 hu) (OK I.AF eb) hd dd ?_
  have q:=(rel.val k).NM
  rw [Xv] at q
  rw [<- q,<- l]
  exact h _ (I.tok _)
def WV {h':Heap}{t':Nat}{ob:HO}(I:Inv X pins σ H s) (mu:MX (H a)) (hs:Heap.SameBut a s.heap h') (he:∃ q,h'.get? a=some q) (new:C4 X.prog X.w (upd H a ob) h' a ob) :
  Inv X pins σ (upd H a ob) { s with heap:=h',toks:=t' }:=
 I.write (x:=a) (e:=a) mu (.inl rfl) (fun b q hb z=>(hs.2 b hb).trans z) he new
def cI {P:Program}{w:World}{H':Hp}{h':Heap}{A3:List (Key×V)}{vs:List (Key×Value)}(z:A3.length<=sizeLine) (hd:(a == sysModules)=false) (rel:KV A3 vs) (dd:h'.DictOf (Cq P w) a vs) :
  C4 P w H' h' a (.dK A3):=⟨z,hd,vs,rel,dd⟩
def lQ {H':Hp}{Q:Unit->Shared->Prop}(hu:A.units+1 < cLine) (I:Inv X pins σ H s) (g:MR H a y v H') (ry:RelV y u) (rv:RelV v r) (h:∀ s',Inv X pins σ H' s'->Q () s') :
  wpAny (model X.prog X.w) A (setItem (.ref a) u r) Q E s:=by
 rcases g with ⟨A3,k,e,ey,l,eH⟩ | ⟨A3,k,b,e,ey,eb,l,eH⟩
 ·subst ey eH
  obtain ⟨z,hd,vs,rel,dd⟩:=YG I.AF e
  have hz:vs.length<=sizeLine:=by rw [<- rel.length];exact z
  have hl:(putK A3 k v).length<=sizeLine:=by have:=Ve A3 k v;omega
  refine wpAny_setItem_pairs (hsz:=hz) (LJ ry) dd fun h' KP hs=>h _ ?_
  have he:∃ q,h'.get? a=some q:=let ⟨q,_,_,hq,_⟩:=KP;⟨q,hq⟩
  exact WV I (by rw [e];exact True.intro) hs he (cI hl hd (rel.put k rv) KP)
 ·subst ey eH
  cases (show u=Value.ref b from ry)
  obtain ⟨z,hd,xs,rel,dd⟩:=xE I.AF e
  have hz:xs.length<=sizeLine:=by rw [<- gq rel];exact z
  have hl:(putK A3 k v).length<=sizeLine:=by have:=Ve A3 k v;omega
  refine wpAny_setItem_heap (hsz:=hz) (tupleKind_room_in1 hu) (OK I.AF eb) dd fun h' KP hs=>h _ ?_
  obtain ⟨q,es,ep,hq,h2,h3,h4,_,h5⟩:=KP
  refine WV I (by rw [e];exact True.intro) hs ⟨q,hq⟩ ⟨hl,hd,_,(rel.put k eb rv).keeps fun c ys ec=>?_,q,es,ep,hq,h2,h3,h4,h5⟩
  rw [AR (rK ec e (fun z=>nomatch z))]
  exact ec
end
section
variable {X:Cx}{pins:ZAZ}{σ:St} {H:Hp}{s:Shared}{a:Addr}{A3:List (Key×V)}{k:Key}{u:Value}{A:Around}{E:Value->Shared->Prop}
end
def Sf (i:Expr):Prop:=∀ ov iv,subscripted i false ov iv=operate [ov,iv] (getItem ov iv)
def rq {prog:Program}{w:World}{A:Around}{E:Value->Shared->Prop}{s:Shared}{env:Env}{value slice:Expr}{pos:Pos}{T id:String}{Q:Value->Shared->Prop}
  (hl:typeLookup (.type T) "__getitem__" = pure (some (.builtin id))) (hs:Sf slice)
  (h:wpAny (model prog w) A (eval value env) (fun o s₁=>wpAny (model prog w) A (eval slice env) (fun i s₂=>s₂.TypeIs o T/\wpAny (model prog w) A (getItem o i) Q E s₂) E s₁) E s) :
  wpAny (model prog w) A (eval (.Subscript value slice pos) env) Q E s:=by
 refine Subscript_ (wpAny_mono h (fun o s₁ h₁=>wpAny_mono h₁ (fun i s₂ h₂=>?_) fun _ _ x=>x) fun _ _ x=>x)
 obtain ⟨hT,h₂⟩:=h₂
 unfold subscriptTail
 refine wpAny_bind ?_
 rw [getitemInPython_of_ne hT.not_modules]
 refine wpAny_bind (wpAny_specialOf hT hl ?_)
 have fin:wpAny (model prog w) A (subscripted slice false o i) (fun r s₃=>wpAny (model prog w) A (letTemporaryGo value o r >>= fun _=>pure r) Q E s₃) E s₂:=by
  rw [hs o i]
  exact wpAny_operating (wpAny_mono h₂ (fun r s₃ h₃=>wpAny_bind (wpAny_letTemporaryGo (wpAny_pure h₃))) fun _ _ x=>x)
 first
  | exact wpAny_pure (wpAny_bind fin)
  | exact wpAny_bind (wpAny_pure (wpAny_bind fin))
  | exact wpAny_bind fin
def vQ {X:Cx}{pins:ZAZ}{σ:St} {H:Hp}{s:Shared}{a:Addr}{y:V}{o:Option V}(I:Inv X pins σ H s) (g:Es H a y o):s.TypeIs (.ref a) "dict" := by
 rcases g with ⟨A3,k,e,_,_⟩ | ⟨A3,k,b,e,_,_,_⟩
 ·obtain ⟨_,_,vs,_,dd⟩:=LF I.AF e
  exact dd.typeIs
 ·obtain ⟨_,_,xs,_,dd⟩:=Nr I.AF e
  exact dd.typeIs
def Wf (td ty:TE):TE:=fun σ H Q=>td σ H fun x H1=>ty σ H1 fun y H2=>∃ a v,x=.ref a/\Es H2 a y (some v)/\Q v H2
def P4 (ty td:TE):TE:=fun σ H Q=>ty σ H fun y H1=>td σ H1 fun x H2=>∃ a o,x=.ref a/\Es H2 a y o/\Q (.bl o.isSome) H2
def U4 (ty td:TE):TE:=fun σ H Q=>ty σ H fun y H1=>td σ H1 fun x H2=>∃ a o,x=.ref a/\Es H2 a y o/\Q (.bl (!o.isSome)) H2
def UE (td ty tv:TE):TS:=fun D σ H=>tv σ H fun v H1=>td σ H1 fun x H2=>ty σ H2 fun y H3=>∃ a H4,x=.ref a/\MR H3 a y v H4/\D.nx σ H4
section
variable {X:Cx}{o i e value:Expr}{pos pos' Kc:Pos}{td ty tv:TE}
def yG (hu:X.A.units+1 < cLine) (ho:PE X o td) (hi:PE X i ty) (hs:Sf i):PE X (.Subscript o i pos) (Wf td ty):=by
 intro pins s σ H Q I h
 refine rq PySem.F.slot_dict_getitem.lookup hs (AH (ho pins s σ H _ I h) fun u s1 ⟨x,H1,I1,rx,q1⟩=>AH (hi pins s1 σ H1 _ I1 q1) fun iv s2 ⟨y,H2,I2,ry,a,v,ex,g,q2⟩=>?_)
 subst ex
 obtain rfl:u=Value.ref a:=rx
 exact ⟨vQ I2 g,mf hu I2 g ry fun w' s3 I3 GJ=>⟨v,H2,I3,GJ,q2⟩⟩
def kB (hu:X.A.units+1 < cLine) (hi:PE X i ty) (ho:PE X o td):PC X .In i o (P4 ty td):=by
 intro pins s σ H Q I h
 refine AH (hi pins s σ H _ I h) fun iv s1 ⟨y,H1,I1,ry,q1⟩=>AH (ho pins s1 σ H1 _ I1 q1) fun u s2 ⟨x,H2,I2,rx,a,ov,ex,g,q2⟩=>?_
 subst ex
 obtain rfl:u=Value.ref a:=rx
 exact iX hu I2 g ry fun s3 I3=>⟨.bl ov.isSome,H2,I3,rfl,q2⟩
def ql (hu:X.A.units+1 < cLine) (hi:PE X i ty) (ho:PE X o td):PC X .NotIn i o (U4 ty td):=by
 intro pins s σ H Q I h
 refine AH (hi pins s σ H _ I h) fun iv s1 ⟨y,H1,I1,ry,q1⟩=>AH (ho pins s1 σ H1 _ I1 q1) fun u s2 ⟨x,H2,I2,rx,a,ov,ex,g,q2⟩=>?_
 subst ex
 obtain rfl:u=Value.ref a:=rx
 exact z8 hu I2 g ry fun s3 I3=>⟨.bl (!ov.isSome),H2,I3,rfl,q2⟩
def x8 (hu:X.A.units+1 < cLine) (ho:PE X o td) (hi:PE X i ty) (hv:PE X value tv) (hs:swapsWith value (some (.Subscript o i pos')) pos.line X.env=pure false) :
  PS X (.Assign [.Subscript o i pos'] value pos) (UE td ty tv):=by
 intro pins s σ H D I h
 refine wpAny_Assign_Subscript (AH (hv pins s σ H _ I h) fun r s1 ⟨v,H1,I1,rv,q1⟩=>AH (ho pins s1 σ H1 _ I1 q1) fun u s2 ⟨x,H2,I2,rx,q2⟩=>AH (hi pins s2 σ H2 _ I2 q2) fun iv s3 ⟨y,H3,I3,ry,a,H4,ex,g,q3⟩=>?_) hs
 subst ex
 obtain rfl:u=Value.ref a:=rx
 exact lQ hu I3 g ry rv fun s4 I4=>⟨σ,H4,I4,q3⟩
end
def fk {P:Program}{w:World}{H:Hp}(h:Heap) (hb:sysModules < h.objs.size):C4 P w H (h.push { cls:=.type "dict", data:=.dict #[] }) h.objs.size (.dK []):=
 ⟨CJ _,beq_eq_false_iff_ne.mpr (Bi (C8 hb)),[],.nil,Heap.DictOf.new h⟩
def SR:TE:=fun _ H Q=>∀ p,H p=none->Q (.ref p) (upd H p (.dK []))
section
variable {X:Cx}{pos:Pos}
def uu:PE X (.Dict [] [] pos) SR:=fun pins s σ H Q I h=>
 wpAny_Dict_empty ⟨.ref s.heap.objs.size,_,I.laid (a:=s.heap.objs.size) (o:=.dK []) (t':=s.toks) (fun _ _ q=>Br _ q) (Ae _) (fk s.heap I.big),rfl,h _ (I.AF.fresh (Ae _))⟩
end
def Wh:List (TE×TE)->St->Hp->(List (V×V)->Hp->Prop)->Prop
 | [],_,H,Q=>Q [] H
 | (tk,tv) :: r,σ,H,Q=>tk σ H fun x H1=>tv σ H1 fun y H2=>Wh r σ H2 fun ps H3=>Q ((x,y) :: ps) H3
abbrev VV:List (V×V)->List (Value×Value)->Prop:=Paired fun p q=>RelV p.1 q.1/\RelV p.2 q.2
def Ij (X:Cx) (pos:Pos) (keys:List (Option Expr)) (values:List Expr) (EU:List (TE×TE)):Prop:=
 ∀ (pins:ZAZ) (s:Shared) (σ:St) (H:Hp) (Q:List (V×V)->Hp->Prop),Inv X pins σ H s->Wh EU σ H Q->
  wpAny (model X.prog X.w) X.A (evalPairs (pairTrees keys values X.env pos)) (fun vs s'=>∃ ps H',Inv X pins σ H' s'/\VV ps vs/\Q ps H') X.xe s
def nR {X:Cx}{pos:Pos}:Ij X pos [] [] []:=fun pins s σ H Q I h=>pairTrees_nil_walk ⟨[],H,I,.nil,h⟩
def ji {X:Cx}{pos:Pos}{k v:Expr}{ks:List (Option Expr)}{vs:List Expr}{tk tv:TE}{EU:List (TE×TE)}(hk:PE X k tk) (hv:PE X v tv) (hr:Ij X pos ks vs EU) :
  Ij X pos (some k :: ks) (v :: vs) ((tk,tv) :: EU):=fun pins s σ H Q I h=>
 pairTrees_cons_walk (AH (hk pins s σ H _ I h) fun u s1 ⟨x,H1,I1,rx,q1⟩=>AH (hv pins s1 σ H1 _ I1 q1) fun w2 s2 ⟨y,H2,I2,ry,q2⟩=>
  AH (hr pins s2 σ H2 _ I2 q2) fun ws s3 ⟨ps,H3,I3,rel,q3⟩=>⟨(x,y) :: ps,H3,I3,.cons ⟨rx,ry⟩ rel,q3⟩)
def IJ (A3 more:List (Key×V)):List (Key×V):=more.foldl (fun acc kv=>putK acc kv.1 kv.2) A3
def KV.merge:∀ {more:List (Key×V)}{rs:List (Key×Value)}{A3:List (Key×V)}{vs:List (Key×Value)},KV more rs->KV A3 vs->KV (IJ A3 more) (merged vs rs):=by
 intro more rs A3 vs r
 unfold KV at r
 induction r generalizing A3 vs with
 | nil=>intro q;exact q
 | @cons p q ps qs h t ih=>
  intro r0
  have e:KV (putK A3 p.1 p.2) (stored vs q.1 q.2):=by
   have:=r0.put p.1 h.2
   rw [<- h.1];exact this
  exact ih e
theorem d7:∀ (more A3:List (Key×V)),(IJ A3 more).length<=A3.length+more.length
 | [],A3=>by show A3.length<=A3.length+0;omega
 | p :: r,A3=>by
  have h1:=d7 r (putK A3 p.1 p.2)
  have h2:=Ve A3 p.1 p.2
  show (IJ (putK A3 p.1 p.2) r).length<=_
  rw [BZ];omega
theorem fF {P:Program}{w:World}:∀ {A3:List (Key×V)}{ws:List (Value×Value)},VV (A3.map fun kv=>(kV kv.1,kv.2)) ws->∃ rs,Carries (Cq P w) ws rs/\KV A3 rs
 | [],_,r=>by rw [II] at r;cases r;exact ⟨[],True.intro,.nil⟩
 | p :: A3,_,r=>by
  rw [BL] at r
  cases r with
  | @cons a b as bs h t=>
   obtain ⟨rs,c,q⟩:=fF (P:=P) (w:=w) t
   obtain ⟨b1,b2⟩:=b
   exact ⟨(p.1,b2) :: rs,⟨LJ h.1,rfl,c⟩,.cons ⟨rfl,h.2⟩ q⟩
def XU (EU:List (TE×TE)):TE:=fun σ H Q=>∀ p,H p=none->Wh EU σ (upd H p (.dK [])) fun ps H2=>H2 p=some (.dK [])/\∃ A3:List (Key×V),ps=A3.map (fun kv=>(kV kv.1,kv.2))/\A3.length<=15/\Q (.ref p) (upd H2 p (.dK (IJ [] A3)))
def oY {X:Cx}{pos:Pos}{keys:List (Option Expr)}{values:List Expr}{EU:List (TE×TE)}(h:Ij X pos keys values EU) (IM:keys.all (·.isSome)=true) (hl:keys.length=values.length) (h0:keys≠[])
  (RX:keys.length<=15):PE X (.Dict keys values pos) (XU EU):=by
 intro pins s σ H Q I q
 have hn:=I.AF.fresh (Ae s.heap.objs.size)
 have I1:=I.laid (a:=s.heap.objs.size) (o:=.dK []) (h':=s.heap.push { cls:=.type "dict", data:=.dict #[] }) (t':=s.toks) (fun _ _ q=>Br _ q) (Ae _) (fk s.heap I.big)
 refine wpAny_Dict_walk (knd:=Cq X.prog X.w) IM hl h0 RX (AH (h pins _ σ _ _ I1 (q _ hn)) fun ws s2 ⟨ps,H2,I2,rel,e,A3,ep,lk,q2⟩=>?_)
 subst ep
 obtain ⟨rs,c,rk⟩:=fF (P:=X.prog) (w:=X.w) rel
 obtain ⟨z,hd,Ky,r0,dd⟩:=YG I2.AF e
 cases r0
 refine ⟨rs,c,dd,fun h' KP hs=>⟨.ref s.heap.objs.size,_,?_,rfl,q2⟩⟩
 have hz:(IJ [] A3).length<=sizeLine:=by
  have h1:=d7 A3 []
  rw [Od] at h1
  rw [sizeLine_eq];omega
 have he:∃ q,h'.get? s.heap.objs.size=some q:=let ⟨q,_,_,hq,_⟩:=KP;⟨q,hq⟩
 exact WV I2 (by rw [e];exact True.intro) hs he (cI hz hd (rk.merge .nil) KP)
structure M1 (X:Cx) (o:Expr) (m:Str) (apos:Pos) (e:Expr) (Bc:Pos):Prop where
 base:attributeBase o m X.env (eval o X.env)=eval o X.env
 nA:((backTo Bc (starEach [e] X.env)).all (fun x=>!x.1) && (backToKw Bc (keywordEach [] X.env)).all (fun x=>x.1.isSome)
  && decide (([e]:List Expr).length+([]:List Keyword).length+(if ([]:List Keyword).isEmpty then 0 else 1) < 30))=true
 line:(apos.endLine == Bc.line)=true
 trees:backTo Bc (starEach [e] X.env)=[(false,eval e X.env)]
structure M2 (X:Cx) (o:Expr) (m:Str) (apos:Pos) (e f:Expr) (Bc:Pos):Prop where
 base:attributeBase o m X.env (eval o X.env)=eval o X.env
 nA:((backTo Bc (starEach [e,f] X.env)).all (fun x=>!x.1) && (backToKw Bc (keywordEach [] X.env)).all (fun x=>x.1.isSome)
  && decide (([e,f]:List Expr).length+([]:List Keyword).length+(if ([]:List Keyword).isEmpty then 0 else 1) < 30))=true
 line:(apos.endLine == Bc.line)=true
 trees:backTo Bc (starEach [e,f] X.env)=[(false,eval e X.env),(false,eval f X.env)]
section
variable {X:Cx}{pins:ZAZ}{σ:St} {H:Hp}{s:Shared}{a:Addr}{y d:V}{u r:Value}{o:Option V}{A:Around}{E:Value->Shared->Prop}
end
section
variable {X:Cx}{o e f:Expr}{apos Bc:Pos}{td ty tx:TE}
end
section
variable {X:Cx}{pins:ZAZ}{σ:St} {H:Hp}{s:Shared}{a:Addr}{A3:List (Key×V)}{A:Around}{E:Value->Shared->Prop}
end
section
variable {X:Cx}{pins:ZAZ}{σ:St} {H:Hp}{s:Shared}{a:Addr}{y:V}{u:Value}{A:Around}{E:Value->Shared->Prop}
end
def xk {α β:Type} {l:List α}{f:α->β->Sem (ForInStep β)}(g:β->α->β) (h:∀ x∈l,∀ c,f x c=pure (.yield (g c x))):∀ c,forIn l c f=pure (l.foldl g c):=by
 induction l with
 | nil=>intro c;rfl
 | cons x l ih=>
  intro c
  rw [List.forIn_cons,h x HH,pure_bind]
  exact ih (fun y hy=>h y (Fx _ hy)) (g c x)
def JP (cells:List (Str×Addr)) (cs:List (Str×Addr)) (x:Str×NameKind):List (Str×Addr):=
 if x.2=.free then (x.1,(cells.lookup x.1).getD 0) :: cs else cs
def B6 (cells:List (Str×Addr)) (names:List (Str×NameKind)):List (Str×Addr):=names.foldl (JP cells) []
def XT {scope:Scope}{env:Env}(h:∀ x∈scope.names,x.2=.free->(env.cells.lookup x.1).isSome=true):closureFor scope env=pure (B6 env.cells scope.names):=by
 simp only [closureFor]
 rw [xk (JP env.cells) (fun x hx c=>by
  obtain ⟨n,k⟩:=x
  unfold JP
  by_cases hk:k=NameKind.free
  ·subst hk
   have q:=h _ hx rfl
   obtain ⟨a,ha⟩:=Option.isSome_iff_exists.mp q
   have Q5:env.cells.lookup n=some a:=ha
   have hc:cellOf env n=pure a:=by unfold cellOf;rw [Q5]
   simp [hc,Q5]
  ·have:(k == NameKind.free)=false:=by simpa using hk
   simp [this,hk])]
 rfl
theorem QU {cells:List (Str×Addr)}:∀ (names:List (Str×NameKind)) (acc:List (Str×Addr)),(∀ y∈names,y.2=.free->(cells.lookup y.1).isSome=true)->
  (∀ x c,acc.lookup x=some c->cells.lookup x=some c)->∀ x c,(names.foldl (JP cells) acc).lookup x=some c->cells.lookup x=some c
 | [],acc,_,ha,x,c,e=>ha x c e
 | (n,k) :: r,acc,hs,ha,x,c,e=>by
  rw [Oa] at e
  refine QU r _ (fun y hy=>hs y (Fx _ hy)) (fun x c e=>?_) x c e
  unfold JP at e
  by_cases hk:k=NameKind.free
  ·rw [if_pos hk] at e
   have q:=hs _ HH hk
   obtain ⟨a,q⟩:=Option.isSome_iff_exists.mp q
   have q':cells.lookup n=some a:=q
   rw [GS] at e
   by_cases hx:x=n
   ·subst hx
    simp only [beq_self_eq_true,q',Option.getD_some] at e
    rw [q',<- e]
   ·have hb:(x == n)=false:=by simpa using hx
    rw [hb] at e
    exact ha x c e
  ·rw [if_neg hk] at e
   exact ha x c e
theorem JV {cells:List (Str×Addr)}{x:Str}:∀ (names:List (Str×NameKind)) (acc:List (Str×Addr)),((acc.lookup x).isSome=true∨(x,NameKind.free)∈names)->
  ((names.foldl (JP cells) acc).lookup x).isSome=true
 | [],acc,h=>by
  rcases h with h | h
  ·exact h
  ·cases h
 | (n,k) :: r,acc,h=>by
  rw [Oa]
  refine JV r _ ?_
  unfold JP
  rcases h with h | h
  ·refine .inl ?_
   split
   ·rw [GS]
    split
    ·rfl
    ·exact h
   ·exact h
  ·rcases List.mem_cons.mp h with e | h
   ·cases e
    refine .inl ?_
    rw [if_pos rfl,GS]
    simp
   ·exact .inr h
theorem IZ {env:Env}:∀ (names:List (Str×NameKind)) (x:Str),
  (names.map fun (n,k)=>if (k == NameKind.free && env.scope.kind == .function && env.kindOf n == some .cell) then (n,NameKind.cell) else (n,k)).lookup x =
   (names.lookup x).map fun k=>if (k == NameKind.free && env.scope.kind == .function && env.kindOf x == some .cell) then NameKind.cell else k
 | [],x=>rfl
 | (n,k) :: r,x=>by
  have ih:=IZ (env:=env) r x
  rw [BL]
  by_cases hc:(k == NameKind.free && env.scope.kind == .function && env.kindOf n == some .cell)=true
  ·show List.lookup x ((if (k == NameKind.free && env.scope.kind == .function && env.kindOf n == some .cell)=true then (n,NameKind.cell) else (n,k)) :: _)=_
   rw [if_pos hc,GS,GS]
   by_cases hx:x=n
   ·subst hx;simp only [beq_self_eq_true,JN];rw [if_pos hc]
   ·have hb:(x == n)=false:=by simpa using hx
    rw [hb];exact ih
  ·show List.lookup x ((if (k == NameKind.free && env.scope.kind == .function && env.kindOf n == some .cell)=true then (n,NameKind.cell) else (n,k)) :: _)=_
   rw [if_neg hc,GS,GS]
   by_cases hx:x=n
   ·subst hx;simp only [beq_self_eq_true,JN];rw [if_neg hc]
   ·have hb:(x == n)=false:=by simpa using hx
    rw [hb];exact ih
abbrev Ax (X:Cx) (N:List Str) (scope:Scope) (cl:List (Str×Addr)) (C:Addr) (s:Shared) (H:Hp) (fp:List Addr):Cx:=
 { X with N:=N,s₀:=s,H₀:=H,env:=compEnvC scope cl C X.env,outer:=X.stack,ex:=fp,fn:=fun _=>false,pn:=[],xe:=fun _ _=>False }
def AS (js:List Nat) (σ:St):St:=js.map fun j=>(σ[j]?).join
structure DP (N:List Str) (outer scope:Scope) (x:Str) (A6:List Str) (js:List Nat):Prop where
 kind:scope.kind=.function
 Ny:∀ y∈scope.names,y.2≠.cell
 loc:∀ y∈scope.names,y.2=.local->scope.names.lookup y.1=some .local
 Kn:scope.names.lookup x=some .local
 at':js.map (fun j=>N[j]?)=A6.map some
 cell:∀ y∈A6,outer.names.lookup y=some .cell
 free:∀ y∈A6,scope.names.lookup y=some .free
 all:∀ y∈scope.names,y.2=.free->outer.names.lookup y.1=some .cell
 nd:(A6++[x]).Nodup
def FJ (X:Cx) (ifs:List Expr) (t:TT):Prop:=
 ∀ (pins:ZAZ) (s:Shared) (σ:St) (H:Hp) (Q:Bool->Hp->Prop),Inv X pins σ H s->t σ H Q->
  wpAny (model X.prog X.w) X.A (forIn ifs true fun c r=>if r=true then do let ok <- isTrue c X.env (eval c X.env);pure (ForInStep.yield ok) else pure (ForInStep.yield r)) (TP X pins σ Q) X.xe s
def W4:TT:=fun _ H Q=>Q true H
def j6 {X:Cx}:FJ X [] W4:=fun pins s σ H Q I h=>by
 rw [gZ];exact wpAny_pure ⟨H,I,h⟩
def qd {X:Cx}{c:Expr}{t:TT}(hc:PT X c t):FJ X [c] t:=fun pins s σ H Q I h=>by
 rw [List.forIn_cons]
 refine wpAny_bind ?_
 rw [if_pos rfl]
 refine wpAny_bind (AH (hc pins s σ H Q I h) fun b s1 q=>wpAny_pure ?_)
 show wpAny _ _ (forIn [] b _) _ _ s1
 rw [gZ]
 exact wpAny_pure q
def NP (J:It) (js:List Nat) (tt:TT) (te:TE) (σ:St) (H1:Hp) (acc:Addr) (Q:VK):Prop:=
 ∃ W:Nat->Nat->Hp->Prop,(∃ m,W 0 m (upd H1 acc (.lst [])))/\∀ i m H2,W i m H2->
  (J.stop i H2/\Q (.ref acc) H2)∨(J.go i H2/\∀ x H3,J.Dx i H2 x H3->tt (AS js σ++[some x]) H3 fun b H4=>
   if b=true then te (AS js σ++[some x]) H4 fun y H5=>∃ ys,H5 acc=some (.lst ys)/\ys.length < sizeLine/\∃ m',m' < m/\W (i+1) m' (upd H5 acc (.lst (ys++[y])))
   else ∃ m',m' < m/\W (i+1) m' H4)
def Iu (wi:TI) (js:List Nat) (tt:TT) (te:TE):TE:=fun σ H Q=>wi σ H fun J H1=>∀ acc,H1 acc=none->NP J js tt te σ H1 acc Q
def e6 {α:Type} (l:List α) (a b:α):(l++[a]).set l.length b=l++[b]:=by
 induction l with
 | nil=>rfl
 | cons x l ih=>simp [ih]
section
variable {X:Cx}{pins:ZAZ}{σ:St} {H2:Hp}{s2:Shared}{elt iter:Expr}{x:Str}{px pos:Pos}{ifs:List Expr}{scope:Scope}{A6:List Str}{js:List Nat}{tt:TT}{te:TE}{J:It}{fp:List Addr}{it:Addr}
 {tn:Nat->Heap->Prop}
def zA (S:DP X.N X.env.scope scope x A6 js) (I3:Inv X pins σ H2 s2) (f2:∀ b∈fp,Bv X pins H2 b) (L5:∀ b∈fp,b < s2.heap.objs.size){h1:Heap}
  {m:ZAa}(Dy:h1.Ns s2.heap.objs.size m) (old:∀ b o,s2.heap.get? b=some o->h1.get? b=some o){t':Nat} :
  Inv (Ax X (A6++[x]) scope (B6 X.env.cells scope.names) s2.heap.objs.size s2 H2 fp) [] (AS js σ++[none]) H2 { s2 with heap:=h1,toks:=t' }:=by
 have NW:∀ y∈scope.names,y.2=.free->(X.env.cells.lookup y.1).isSome=true:=fun y hy hk=>by
  obtain ⟨c,e⟩:=I3.ok.has y.1 (.inl (S.all y hy hk))
  rw [e];rfl
 have E1:∀ y c,(B6 X.env.cells scope.names).lookup y=some c->X.env.cells.lookup y=some c:=QU scope.names [] NW (fun _ _ e=>by cases e)
 have JG:∀ y k,(relabel scope X.env).names.lookup y=some k->k=.cell∨k=.free->scope.names.lookup y=some .free:=fun y k e hk=>by
  have e':=(IZ (env:=X.env) scope.names y).symm.trans e
  cases q:scope.names.lookup y with
  | none=>rw [q] at e';cases e'
  | some k0=>
   rw [q] at e'
   have Ao:=S.Ny _ (FN q)
   cases k0 with
   | free=>rfl
   | cell=>exact absurd rfl Ao
   | _=>simp at e';rcases hk with rfl | rfl <;> cases e'
 have hlen:js.length=A6.length:=by have:=congrArg List.length S.at';simpa using this
 have Q7:∀ y c,X.env.cells.lookup y=some c->c < s2.heap.objs.size:=fun y c e=>by
  obtain ⟨v,o,ho,_⟩:=I3.cell y c e
  exact B0 ho
 have cellK:∀ c v,s2.heap.IsCell c v->h1.IsCell c v:=fun c v ⟨o,ho,hd⟩=>⟨o,old c o ho,hd⟩
 refine ⟨⟨I3.ok.mod,S.kind,I3.ok.glob,I3.ok.blt,Ae _,fun y z c e1 e2=>I3.ok.inj y z c (E1 y c e1) (E1 z c e2),fun y hy=>?_,fun y c hf _=>(by cases hf),I3.ok.hd,I3.ok.frames,.inl rfl,fun b hb=>⟨C8 (L5 b hb),fun y c e=>(f2 b hb).2.2.2.2.1 y c (E1 y c e)⟩,
  fun b o e=>I3.bs b o e,Dj I3.ok.Ew I3.sz,fun b o e hb=>?_,fun b hb hs=>?_,I3.stack,I3.RJ⟩,rfl,I3.bare,Un.kept old,⟨m,Dy,fun i y v e1 e2 e3=>?_⟩,fun y c e=>?_,I3.AF.fresh (Ae _),fun y c e=>I3.FQ y c (E1 y c e),fun p hp=>(by cases hp),I3.AF.kept old,?_⟩
 ·have hf:scope.names.lookup y=some .free:=by
   rcases hy with hy | hy
   ·exact JG y _ hy (.inl rfl)
   ·exact JG y _ hy (.inr rfl)
  exact Option.isSome_iff_exists.mp (JV scope.names [] (.inr (FN hf)))
 ·rcases (f2 b hb).2.2.2.1 with z | z
  ·exact I3.ok.KN b o e z
  ·exact absurd (Cy (Cy (B0 e) I3.ok.Ew) z) (JM _)
 ·rcases List.mem_cons.mp (I3.ON b hs) with z | z
  ·exact (f2 b hb).2.1 z
  ·exact (f2 b hb).2.2.1 z
 ·have EH:(AS js σ).length=A6.length:=by unfold AS;rw [AE,hlen]
  have hi:i < A6.length:=by
   by_cases hi:i < A6.length
   ·exact hi
   ·have AY:(AS js σ++[none])[i]?=some (some v):=e2
    rw [Dh (by rw [EH];omega),EH] at AY
    cases hd:i - A6.length with
    | zero=>rw [hd] at AY;cases AY
    | succ k=>rw [hd] at AY;simp at AY
  have C3:A6[i]?=some y:=by
   have C3:(A6++[x])[i]?=some y:=e1
   rwa [CZ hi] at C3
  have AY:(AS js σ)[i]?=some (some v):=by
   have AY:(AS js σ++[none])[i]?=some (some v):=e2
   rwa [CZ (by rw [EH];exact hi)] at AY
  have C6:y∈A6:=CC C3
  unfold AS at AY
  rw [Ag] at AY
  cases hj:js[i]? with
  | none=>rw [hj] at AY;cases AY
  | some j=>
   rw [hj] at AY
   have hN:X.N[j]?=some y:=by
    have q:=congrArg (fun l=>l[i]?) S.at'
    simp only [Ag,hj,C3,JN] at q
    exact BG q
   have hσ:σ[j]?=some (some v):=by
    simp only [JN,MK] at AY
    cases q:σ[j]? with
    | none=>rw [q] at AY;cases AY
    | some w=>rw [q] at AY;simp at AY;rw [AY]
   obtain ⟨m0,YL,N1⟩:=I3.loc
   obtain ⟨u,r,l⟩:=N1 j y v hN hσ (.inr (.inl (S.cell y C6)))
   refine ⟨u,r,?_⟩
   rcases l with ⟨k,_⟩ | ⟨_,c,e,z⟩
   ·have k':X.env.scope.names.lookup y=some .local:=k
    rw [S.cell y C6] at k';cases k'
   ·have KS:X.env.kindOf y=some .cell:=S.cell y C6
    have hk:(relabel scope X.env).names.lookup y=some .cell:=by
     refine (IZ (env:=X.env) scope.names y).trans ?_
     rw [S.free y C6]
     simp [I3.ok.kind,KS]
    obtain ⟨c',e'⟩:=Option.isSome_iff_exists.mp (JV (cells:=X.env.cells) scope.names [] (.inr (FN (S.free y C6))))
    have IK:=E1 y c' e'
    rw [e] at IK;cases IK
    exact .inr ⟨.inl hk,c,e',cellK c _ z⟩
 ·obtain ⟨v,z⟩:=I3.cell y c (E1 y c e)
  exact ⟨v,cellK c v z⟩
 ·show (AS js σ++[none]).length=(A6++[x]).length
  unfold AS
  simp [hlen]
def o4 {acc C:Addr}{s3:Shared}{H3:Hp}{cl:List (Str×Addr)}{s4:Shared}{w0:Option V}{H4:Hp}{R:Result->Shared->Prop}(hc:X.calm=true) (S:DP X.N X.env.scope scope x A6 js)
  (Bt:FJ (Ax X (A6++[x]) scope cl C s3 H3 fp) ifs tt) (Bu:PE (Ax X (A6++[x]) scope cl C s3 H3 fp) elt te)
  (T:Turn X.prog X.w X.K (.Name x px) J fp it tn) (O8:∀ b∈fp,(Ax X (A6++[x]) scope cl C s3 H3 fp).Ok->Bv (Ax X (A6++[x]) scope cl C s3 H3 fp) [] (fun _=>none) b)
  (W:Nat->Nat->Hp->Prop) (Q:VK)
  (turn:∀ i m H2,W i m H2->(J.stop i H2/\Q (.ref acc) H2)∨(J.go i H2/\∀ x H3,J.Dx i H2 x H3->tt (AS js σ++[some x]) H3 fun b H4=>
   if b=true then te (AS js σ++[some x]) H4 fun y H5=>∃ ys,H5 acc=some (.lst ys)/\ys.length < sizeLine/\∃ m',m' < m/\W (i+1) m' (upd H5 acc (.lst (ys++[y])))
   else ∃ m',m' < m/\W (i+1) m' H4))
  (I4:Inv (Ax X (A6++[x]) scope cl C s3 H3 fp) [] (AS js σ++[w0]) H4 s4) (Ee:tn 0 s4.heap) (OQ:∀ b∈fp,H4 b=none) (m0:Nat) (w4:W 0 m0 H4)
  (hR:∀ H' s' w,Inv (Ax X (A6++[x]) scope cl C s3 H3 fp) [] (AS js σ++[w]) H' s'->Q (.ref acc) H'->R (.ok .next) s') :
  codeAny (model X.prog X.w) X.A (.compLoop (.ListComp elt [⟨.Name x px,iter,ifs,0⟩] scope pos) 0 (.ref it) (.ref acc) (compEnvC scope cl C X.env)) R s4:=by
 have hlen:(AS js σ).length=A6.length:=by
  unfold AS;rw [AE];have:=congrArg List.length S.at';simpa using this
 have hN:(A6++[x])[(AS js σ).length]?=some x:=by rw [hlen];simp
 have W9:Loc (relabel scope X.env) x:=.inl (lookup_relabel_local S.Kn)
 have AF:=I4.ok
 have EJ:∀ {H':Hp},(∀ b∈fp,H' b=none)->∀ b∈fp,Bv (Ax X (A6++[x]) scope cl C s3 H3 fp) [] H' b:=fun hn b hb=>⟨hn b hb,(O8 b hb AF).2⟩
 refine codeAny_compLoop_tests (fun n s'=>∃ i w H',Inv (Ax X (A6++[x]) scope cl C s3 H3 fp) [] (AS js σ++[w]) H' s'/\tn i s'.heap/\(∀ b∈fp,H' b=none)/\W i n H') ?_ m0 ⟨0,w0,H4,I4,Ee,OQ,w4⟩
 rintro n s5 ⟨i,w,H5,I5,Fb,Gz,w5⟩
 rcases turn i n H5 w5 with ⟨stop,q⟩ | ⟨go,step⟩
 ·refine wpAny_mono (T.done (Ax X (A6++[x]) scope cl C s3 H3 fp) rfl rfl rfl hc i [] s5 _ H5 (fun _ _=>False) I5 (EJ Gz) Fb stop) (fun r s6 ⟨hr,I6⟩=>?_) fun _ _ z=>z.elim
  subst hr
  exact hR H5 s6 w I6 q
 ·refine wpAny_mono (T.item (Ax X (A6++[x]) scope cl C s3 H3 fp) rfl rfl rfl hc i [] s5 _ H5 (fun _ _=>False) I5 (EJ Gz) Fb go) (fun r s6 ⟨u,hr,h6⟩=>?_) fun _ _ z=>z.elim
  subst hr
  have key:∀ (Q':Unit->Shared->Prop) (E':Value->Shared->Prop) (f:Unit->Sem Unit),wpAny (model X.prog X.w) X.A (letOwnedTupleGo (.Name x px) (.ref it) u >>= f) Q' E' s6->wpAny (model X.prog X.w) X.A (f ()) Q' E' s6:=fun Q' E' f h=>h
  refine key _ _ (fun _=>assign (.Name x px) (compEnvC scope cl C X.env) u) (wpAny_bind (wpAny_mono h6 (fun _ s7 ⟨v,H7,I7,r7,y7,GB,NT⟩=>?_) fun _ _ z=>z.elim))
  have OD:=I7.pinned (EJ NT) (T.obj _ _ GB)
  refine wpAny_mono (Qi (X:=Ax X (A6++[x]) scope cl C s3 H3 fp) (pos:=px) S.nd hN W9 (.inr (lookup_relabel_local S.Kn)) _ s7 _ H7 v u
   (fun σ8 H8=>σ8=AS js σ++[some v]/\H8=H7) OD r7 ⟨e6 _ _ _,rfl⟩) (fun _ s8 ⟨σ8,H8,I8,e8,Mq⟩=>?_) fun _ _ z=>z.elim
  subst e8;subst Mq
  refine wpAny_mono (Bt _ s8 _ H8 _ I8 (step v H8 y7)) (fun b s9 ⟨H9,I9,q9⟩=>?_) fun _ _ z=>z.elim
  have again:∀ {σa:St} {Ha:Hp}{sa:Shared},Inv (Ax X (A6++[x]) scope cl C s3 H3 fp) ([]++Ke fp s7.heap) σa Ha sa->tn (i+1) sa.heap/\(∀ b∈fp,Ha b=none):=fun {σa Ha sa} Ia=>by
   refine ⟨T.keep _ _ _ GB fun b hb o e=>(Ia.pin (b,o) (Di _ (Di _ (Ig hb e)))).1,fun b hb=>?_⟩
   obtain ⟨o,e,d⟩:=T.obj _ _ GB b hb
   exact (Ia.pin (b,o) (Di _ (Di _ (Ig hb e)))).2.1
  cases b with
  | false=>
   have NS:∃ m',m' < n/\W (i+1) m' H9:=q9
   obtain ⟨m',hm,w9⟩:=NS
   rw [if_neg (by decide)]
   exact ⟨m',hm,i+1,_,H9,I9.Hz,(again I9).1,(again I9).2,w9⟩
  | true=>
   rw [if_pos rfl]
   rw [if_pos rfl] at q9
   refine wpAny_mono (Bu _ s9 _ H9 _ I9 q9) (fun yv OJ ⟨y,J7,OO,ML,ys,Az,hz,m',hm,Ni⟩=>?_) fun _ _ z=>z.elim
   refine wpAny_mono (Qp (X:=Ax X (A6++[x]) scope cl C s3 H3 fp) _ OJ _ J7 (.ref acc) [y] (.ref acc) [yv] (fun _ JA=>JA=upd J7 acc (.lst (ys++[y]))) OO rfl (.cons ML .nil) ⟨acc,ys,y,rfl,rfl,Az,hz,rfl⟩)
    (fun _ YA ⟨_,JA,GO,_,NZ⟩=>?_) fun _ _ z=>z.elim
   subst NZ
   exact ⟨m',hm,i+1,_,_,GO.Hz,(again GO).1,(again GO).2,Ni⟩
def Yn {RR:Value->Addr->Result->Shared->Prop}{E:Value->Shared->Prop}(hc:X.calm=true) (S:DP X.N X.env.scope scope x A6 js)
  (Bt:∀ C s H,FJ (Ax X (A6++[x]) scope (B6 X.env.cells scope.names) C s H fp) ifs tt) (Bu:∀ C s H,PE (Ax X (A6++[x]) scope (B6 X.env.cells scope.names) C s H fp) elt te)
  (T:Turn X.prog X.w X.K (.Name x px) J fp it tn) (I2:Inv X pins σ H2 s2) (DC:tn 0 s2.heap) (f2:∀ b∈fp,Bv X pins H2 b) (Q:VK) (hW:∀ acc,H2 acc=none->NP J js tt te σ H2 acc Q)
  (Nn:∀ acc C H' s' m,Inv X pins σ H' s'->Bv X pins H' C->s'.heap.Ns C m->Q (.ref acc) H'->RR (.ref acc) C (.ok .next) s') :
  wpAny (model X.prog X.w) X.A (newList []) (fun acc s3=>wpAny (model X.prog X.w) X.A (newFunctionEnv scope X.env.globals (B6 X.env.cells scope.names) [] X.env.qual none .none (some X.env)) (fun JE s4=>
   codeAny (model X.prog X.w) X.A (.compStart (.ListComp elt [⟨.Name x px,iter,ifs,0⟩] scope pos) 0 (.ref it) acc { JE with scope:=relabel scope X.env }) (RR acc JE.locals) s4) E s3) E s2:=by
 refine wpAny_newObj_type (wpAny_newFunctionEnv S.Ny (fun y hy=>by cases hy) (fun h1 Dy ED=>?_) S.kind)
 have I3:Inv X pins σ (upd H2 s2.heap.objs.size (.lst [])) { s2 with heap:=s2.heap.push { cls:=.type "list", data:=.seq ([]:List Value).toArray } }:=I2.Qn (t':=s2.toks) .nil (CJ _)
 have AN:∀ b∈fp,b < s2.heap.objs.size:=fun b hb=>by
  obtain ⟨o,e,_⟩:=T.obj _ _ DC b hb
  exact B0 e
 have hsz:(s2.heap.push { cls:=.type "list", data:=.seq ([]:List Value).toArray }).objs.size=s2.heap.objs.size+1:=JH ..
 have f3:∀ b∈fp,Bv X pins (upd H2 s2.heap.objs.size (.lst [])) b:=fun b hb=>⟨by rw [AR (C8 (AN b hb))];exact (f2 b hb).1,(f2 b hb).2⟩
 generalize NQ:({ s2 with heap:=s2.heap.push { cls:=.type "list", data:=.seq ([]:List Value).toArray } }:Shared)=s3 at I3 Dy ED ⊢
 have Ip:s3.heap=s2.heap.push { cls:=.type "list", data:=.seq ([]:List Value).toArray }:=by rw [<- NQ]
 have OG:∀ b∈fp,b < s3.heap.objs.size:=fun b hb=>by rw [Ip,hsz];exact Xt (AN b hb)
 have old:∀ b o,s3.heap.get? b=some o->h1.get? b=some o:=fun b o e=>ED.extBut b o (C8 (B0 e)) (Br _ e)
 have OS:∀ b o,s2.heap.get? b=some o->h1.get? b=some o:=fun b o e=>old b o (by rw [Ip];exact Br _ e)
 have I4:=zA S I3 f3 OG Dy old (t':=s3.toks+([]:List (Str×Value)).length)
 have Ee:tn 0 h1:=T.keep _ _ _ DC fun b _ o e=>OS b o e
 obtain ⟨W,⟨m0,w0⟩,turn⟩:=hW s2.heap.objs.size (I2.AF.fresh (Ae _))
 have loop:codeAny (model X.prog X.w) X.A (.compLoop (.ListComp elt [⟨.Name x px,iter,ifs,0⟩] scope pos) 0 (.ref it) (.ref s2.heap.objs.size) (compEnvC scope (B6 X.env.cells scope.names) s3.heap.objs.size X.env))
   (RR (.ref s2.heap.objs.size) s3.heap.objs.size) { s3 with heap:=h1,toks:=s3.toks+([]:List (Str×Value)).length }:=by
  refine o4 (acc:=s2.heap.objs.size) (Q:=Q) hc S (Bt _ _ _) (Bu _ _ _) T (fun b hb ok=>⟨rfl,(ok.Ic b hb).1,ok.K9 b hb,.inl hb,(ok.Ic b hb).2,fun p hp=>by cases hp⟩) W turn I4 Ee (fun b hb=>(f3 b hb).1) m0 w0 fun H' s' w I' q=>?_
  obtain ⟨m,hn,_⟩:=I'.loc
  exact Nn _ _ H' s' m (I3.Uo (ch:=fp) I'.os I'.base I'.AF I'.bare fun b hb=>⟨(f3 b hb).2.2.2.1,(f3 b hb).2.1,(f3 b hb).2.2.2.2.1,(f3 b hb).2.2.2.2.2⟩) (I3.IQ (Ae _) I'.free) hn q
 exact codeAny_compStart_list loop (T.self X.A 0 _ _ _ Ee loop)
def ZP {σ:St} {H:Hp}{s:Shared}(S:DP X.N X.env.scope scope x A6 js) (I:Inv X pins σ H s):closureFor scope X.env=pure (B6 X.env.cells scope.names):=XT fun y hy hk=>by
 obtain ⟨c,e⟩:=I.ok.has y.1 (.inl (S.all y hy hk))
 rw [e];rfl
def vf {wi:TI}(hc:X.calm=true) (S:DP X.N X.env.scope scope x A6 js) (hi:PI X (.Name x px) iter wi)
  (Bt:∀ fp C s H,FJ (Ax X (A6++[x]) scope (B6 X.env.cells scope.names) C s H fp) ifs tt) (Bu:∀ fp C s H,PE (Ax X (A6++[x]) scope (B6 X.env.cells scope.names) C s H fp) elt te)
  (hs:∀ v,foldedSetIterable iter X.env v=pure v:=by intro _;rfl):PE X (.ListComp elt [⟨.Name x px,iter,ifs,0⟩] scope pos) (Iu wi js tt te):=by
 intro pins s σ H Q I h
 rw [eval_ListComp]
 refine wpAny_comprehension_free (use:=none) rfl hs (ZP S I) S.kind S.loc (AH (hi pins s σ H _ I h) fun v s1 h1=>AH h1 fun KO s2 h2=>?_)
 obtain ⟨it,fp,tn,J,H2,e,I2,T,DC,f2,hW⟩:=h2
 subst e
 refine Yn (RR:=fun acc C=>compPost (model X.prog X.w) X.A X.xe none (EP X pins σ Q) acc C) hc S (Bt fp) (Bu fp) T I2 DC f2 Q hW fun acc C H' s' m I' fC hn q=>⟨m,hn,fun h' ED=>?_⟩
 exact ⟨.ref acc,H',I'.turned (t':=s'.toks) (fun b o hb e=>(ED.2 b hb).trans e) fC.1 fC.2.1 fC.2.2.2.1 fC.2.2.2.2.1 fC.2.2.2.2.2,rfl,q⟩
def mT {wi:TI}{i:Nat}{y:Str}{py GD:Pos}(hN:X.N.Nodup) (C0:X.N[i]?=some y) (hy:Loc X.env.scope y) (hc:X.calm=true) (S:DP X.N X.env.scope scope x A6 js) (hi:PI X (.Name x px) iter wi)
  (Bt:∀ fp C s H,FJ (Ax X (A6++[x]) scope (B6 X.env.cells scope.names) C s H fp) ifs tt) (Bu:∀ fp C s H,PE (Ax X (A6++[x]) scope (B6 X.env.cells scope.names) C s H fp) elt te)
  (K5:swapsWith (.ListComp elt [⟨.Name x px,iter,ifs,0⟩] scope pos) (some (.Name y py)) GD.line X.env=pure true:=by rfl)
  (hf:X.fn y=true∨X.env.scope.names.lookup y=some .local:=by first | exact .inl rfl | exact .inr rfl | assumption)
  (hs:∀ v,foldedSetIterable iter X.env v=pure v:=by intro _;rfl):PS X (.Assign [.Name y py] (.ListComp elt [⟨.Name x px,iter,ifs,0⟩] scope pos) GD) (E8 (Iu wi js tt te) (CV i)):=by
 intro pins s σ H D I h
 rw [exec_Assign_Name_used _ _ _ _ K5]
 refine wpAny_bind (wpAny_standAt (wpAny_bind ?_))
 show wpAny _ X.A (do let _ <- comprehension (.ListComp elt [⟨.Name x px,iter,ifs,0⟩] scope pos) scope X.env _ (newList []) false (eval iter X.env) (some (assign (.Name y py) X.env))) _ _ s
 refine wpAny_bind (wpAny_mono (wpAny_comprehension_free (use:=some (assign (.Name y py) X.env)) (Q:=fun _ s'=>SP X pins D .next s') rfl hs (ZP S I) S.kind S.loc
  (AH (hi pins s σ H _ I h) fun v s1 h1=>AH h1 fun KO s2 h2=>?_)) (fun _ s' hq=>wpAny_pure (wpAny_pure hq)) fun _ _ e=>e)
 obtain ⟨it,fp,tn,J,H2,e,I2,T,DC,f2,hW⟩:=h2
 subst e
 refine Yn (RR:=fun acc C=>compPost (model X.prog X.w) X.A X.xe (some (assign (.Name y py) X.env)) (fun _ s'=>SP X pins D .next s') acc C) hc S (Bt fp) (Bu fp) T I2 DC f2 _ hW fun acc C H' s' m I' fC hn q=>?_
 show wpAny _ X.A (assign (.Name y py) X.env (.ref acc)) _ _ s'
 refine wpAny_assign_Name (VJ (v:=.ref acc) I' hN C0 hy rfl (fun JU U0 ⟨a,Sh,ha⟩=>?_) hf)
 have Ao:C≠a:=by
  rcases ha with z | z
  ·rw [z];exact fC.2.1
  ·exact (fC.2.2.2.2.1 y a z).symm
 refine ⟨m,hn.sameBut Sh Ao,fun h' ED=>?_⟩
 exact ⟨_,H',U0.turned (t':=JU.toks) (fun b o hb e=>(ED.2 b hb).trans e) fC.1 fC.2.1 fC.2.2.2.1 fC.2.2.2.2.1 fC.2.2.2.2.2,q⟩
end
def Ej (K:ZAY) (tp:Bool) (H:Hp) (a:Addr) (xs:List V):Prop:=match tp with
 | false=>AJ K H a xs
 | true=>Ab K H a xs
def Ej.or {K:ZAY}{tp:Bool}{H:Hp}{a:Addr}{xs:List V}(h:Ej K tp H a xs):AJ K H a xs∨Ab K H a xs:=by
 cases tp
 ·exact .inl h
 ·exact .inr h
def Ov (K:ZAY) (tp:Bool) (a:Addr) (xs:List V):It:=
 ⟨fun i H=>Ej K tp H a xs/\i < xs.length,fun i H x H'=>H'=H/\xs[i]?=some x,fun i H=>Ej K tp H a xs/\xs.length<=i⟩
section
variable {X:Cx}{tg:Expr}
def wX {P:Program}{w:World}{K:ZAY}(a it:Addr) (xs:List V):Turn P w K tg (Ov K false a xs) [it] it (fun i h=>h.IsListIter it a i) where
 mem:=by simp
 obj:=(LN (P:=P) (w:=w) (K:=K) (tg:=tg) a it).obj
 keep:=(LN (P:=P) (w:=w) (K:=K) (tg:=tg) a it).keep
 item:=by
  intro X hP hw hK hc i pins s σ H E I hf st hg
  obtain ⟨hq,hi⟩:=hg
  refine AH ((LN (P:=P) (w:=w) (K:=K) (tg:=tg) a it).item X hP hw hK hc i pins s σ H E I hf st ⟨xs,xs[i],hq,by simp [hi]⟩) fun r s1 ⟨u,e,h⟩=>⟨u,e,AH h fun _ s2 ⟨x,H',I',rx,y,DS,f'⟩=>⟨x,H',I',rx,⟨y.1,y.2 xs hq⟩,DS,f'⟩⟩
 done:=by
  intro X hP hw hK hc i pins s σ H E I hf st hg
  exact (LN (P:=P) (w:=w) (K:=K) (tg:=tg) a it).done X hP hw hK hc i pins s σ H E I hf st ⟨xs,hg.1,hg.2⟩
 self:=(LN (P:=P) (w:=w) (K:=K) (tg:=tg) a it).self
def j3 {P:Program}{w:World}{K:ZAY}(a it:Addr) (xs:List V):Turn P w K tg (Ov K true a xs) [it] it (fun i h=>h.IsTupleIter it a i) where
 mem:=by simp
 obj:=(Na (P:=P) (w:=w) (K:=K) (tg:=tg) a it).obj
 keep:=(Na (P:=P) (w:=w) (K:=K) (tg:=tg) a it).keep
 item:=by
  intro X hP hw hK hc i pins s σ H E I hf st hg
  obtain ⟨hq,hi⟩:=hg
  refine AH ((Na (P:=P) (w:=w) (K:=K) (tg:=tg) a it).item X hP hw hK hc i pins s σ H E I hf st ⟨xs,xs[i],hq,by simp [hi]⟩) fun r s1 ⟨u,e,h⟩=>⟨u,e,AH h fun _ s2 ⟨x,H',I',rx,y,DS,f'⟩=>⟨x,H',I',rx,⟨y.1,y.2 xs hq⟩,DS,f'⟩⟩
 done:=by
  intro X hP hw hK hc i pins s σ H E I hf st hg
  exact (Na (P:=P) (w:=w) (K:=K) (tg:=tg) a it).done X hP hw hK hc i pins s σ H E I hf st ⟨xs,hg.1,hg.2⟩
 self:=(Na (P:=P) (w:=w) (K:=K) (tg:=tg) a it).self
def QJ (K:ZAY) (tl:TE):TI:=fun σ H R=>tl σ H fun x H1=>∃ tp a xs,x=.ref a/\Ej K tp H1 a xs/\R (Ov K tp a xs) H1
def tM {l:Expr}{tl:TE}(hl:PE X l tl):PI X tg l (QJ X.K tl):=by
 intro pins s σ H R I h
 refine AH (hl pins s σ H _ I h) fun v s1 ⟨x,H1,I1,r1,q1⟩=>?_
 obtain ⟨tp,a,xs,e,hq,q⟩:=q1
 subst e
 cases r1
 have fin:∀ b∈[s1.heap.objs.size],Bv X pins H1 b:=fun b hb=>by
  have e:b=s1.heap.objs.size:=by simpa using hb
  subst e
  exact I1.IQ (Ae _) (I1.AF.fresh (Ae _))
 cases tp with
 | false=>
  obtain ⟨A1,rv,p,hz⟩:=I1.list hq
  refine wpAny_pyIter_list p.isList ?_
  exact ⟨s1.heap.objs.size,[s1.heap.objs.size],_,_,H1,rfl,I1.kept (t':=s1.toks) fun b o e=>Br _ e,wX a _ xs,⟨_,DD _ rfl,rfl,rfl⟩,fin,q⟩
 | true=>
  obtain ⟨A1,rv,p,hz⟩:=I1.tuple hq
  refine wpAny_pyIter_tuple (show s1.heap.IsTuple a A1.toArray from p) ?_
  exact ⟨s1.heap.objs.size,[s1.heap.objs.size],_,_,H1,rfl,I1.kept (t':=s1.toks) fun b o e=>Br _ e,j3 a _ xs,⟨_,DD _ rfl,rfl,rfl⟩,fin,q⟩
def Ux (z:Str):It:=⟨fun i _=>i < z.cps.size,fun i H x H'=>H'=H/\∃ c,z.cps[i]?=some c/\x=.str ⟨#[c]⟩,fun i _=>i=z.cps.size⟩
def az {P:Program}{w:World}{K:ZAY}{it:Addr}{z:Str}{t:Tok}{ty:String}
  (hn:["enumerate", "zip", "dict_itemiterator", "dict_reverseitemiterator", "odict_iterator", "itertools.zip_longest", "itertools.pairwise"].contains ty=false)
  (W:∀ A:Around,A.handled=none->Walks P w A it [it] [it] z.cps.size (SignAt z) (fun i h=>h.IsStrIter it ty z t i))
  (self:∀ (A:Around) (i:Nat) (s:Shared) (Q:Value->Shared->Prop) (E:Value->Shared->Prop),s.heap.IsStrIter it ty z t i->Q (.ref it) s->wpAny (model P w) A (pyIter (.ref it)) Q E s) :
  Turn P w K tg (Ux z) [it] it (fun i h=>h.IsStrIter it ty z t i) where
 mem:=by simp
 obj:=fun i h st b hb=>by
  have e:b=it:=by simpa using hb
  subst e
  obtain ⟨o,e,c,d⟩:=st
  exact ⟨o,e,fun v z=>by rw [d] at z;cases z⟩
 keep:=fun i h h' st k=>let ⟨o,e,r⟩:=st;⟨o,k it (by simp) o e,r⟩
 item:=by
  intro X hP hw hK hc i pins s σ H E I hf st hg
  subst hP hw hK
  obtain ⟨f0,f1,f2,f3,f4,f5⟩:=hf it (by simp)
  refine (W X.A (I.ok.hd hc)).item i s _ _ hg st fun v h' tk ⟨c,u,P1,hv⟩ DS kp=>?_
  subst hv
  have I1:Inv X pins σ H { s with heap:=h',toks:=tk }:=I.turned (t':=tk) (fun b o hb e=>kp b o (by simpa using hb) e) f0 f1 f3 f4 f5
  obtain ⟨o,e,cl,d⟩:=id DS
  exact ⟨_,rfl,Rb (s:={ s with heap:=h',toks:=tk }) e cl d hn ⟨.str ⟨#[c]⟩,H,I1,⟨u,rfl⟩,⟨rfl,c,P1,rfl⟩,DS,fun b hb=>(hf b hb).1⟩⟩
 done:=by
  intro X hP hw hK hc i pins s σ H E I hf st hg
  subst hP hw hK
  obtain ⟨f0,f1,f2,f3,f4,f5⟩:=hf it (by simp)
  have uh:i=z.cps.size:=hg
  subst uh
  exact (W X.A (I.ok.hd hc)).done s _ _ st fun h' tk kp=>⟨rfl,I.turned (t':=tk) (fun b o hb e=>kp b o (by simpa using hb) e) f0 f1 f3 f4 f5⟩
 self:=self
def bJ (tl:TE):TI:=fun σ H R=>tl σ H fun x H1=>∃ z,x=.str z/\R (Ux z) H1
def vC {l:Expr}{tl:TE}(hl:PE X l tl):PI X tg l (bJ tl):=by
 intro pins s σ H R I h
 refine AH (hl pins s σ H _ I h) fun v s1 ⟨x,H1,I1,r1,q1⟩=>?_
 obtain ⟨z,e,q⟩:=q1
 subst e
 obtain ⟨t,rfl⟩:=r1
 have fin:∀ b∈[s1.heap.objs.size],Bv X pins H1 b:=fun b hb=>by
  have e:b=s1.heap.objs.size:=by simpa using hb
  subst e
  exact I1.IQ (Ae _) (I1.AF.fresh (Ae _))
 have kp:∀ (ob:Obj),Inv X pins σ H1 { s1 with heap:=s1.heap.push ob }:=fun ob=>I1.kept (t':=s1.toks) fun b o e=>Br _ e
 cases ha:z.cps.all (· < 128)
 ·refine wpAny_pyIter_wide ha ?_
  exact ⟨s1.heap.objs.size,[s1.heap.objs.size],_,_,H1,rfl,kp _,az (t:=t) (by decide) (fun A' hA=>Walks.strWide hA _ z t) (fun _ _ _ _ _ st h=>wpAny_pyIter_striter_wide st h),⟨_,DD _ rfl,rfl,rfl⟩,fin,q⟩
 ·refine wpAny_pyIter_ascii ha ?_
  exact ⟨s1.heap.objs.size,[s1.heap.objs.size],_,_,H1,rfl,kp _,az (t:=t) (by decide) (fun A' hA=>Walks.strAscii hA _ z t) (fun _ _ _ _ _ st h=>wpAny_pyIter_striter_ascii st h),⟨_,DD _ rfl,rfl,rfl⟩,fin,q⟩
end
def Cs {H:Hp}{p:Addr}(h:H p=none) (o:HO):AD H (upd H p o):=fun b u q=>by rw [AR (DA q h)];exact q
def AD.Nb {K:ZAY}{H H':Hp}{a:Addr}{xs:List V}(e:AD H H') (h:Ab K H a xs):Ab K H' a xs:=by
 rcases h with (h | ⟨o,h⟩) | h
 ·exact .inl (.inl (e _ _ h))
 ·exact .inl (.inr ⟨o,e _ _ h⟩)
 ·exact .inr h
def yb {J:It}{js:List Nat}{tt:TT}{te:TE}{σ:St} {H1:Hp}{acc:Addr}{Q:VK}(xs:List V) (f:V->Bool) (g:V->V) (Az:H1 acc=none) (hz:xs.length<=sizeLine)
  (wW:∀ i H,AD H1 H->i < xs.length->J.go i H) (Hb:∀ H,AD H1 H->J.stop xs.length H) (hy:∀ i H x H',J.Dx i H x H'->H'=H/\xs[i]?=some x)
  (ht:∀ (i:Nat) (x:V) (H':Hp) (Q':Bool->Hp->Prop),xs[i]?=some x->AD H1 H'->(∀ G1,AD H' G1->Q' (f x) G1)->tt (AS js σ++[some x]) H' Q')
  (he:∀ (i:Nat) (x:V) (H':Hp) (Q':VK),xs[i]?=some x->f x=true->AD H1 H'->(∀ G1,AD H' G1->Q' (g x) G1)->te (AS js σ++[some x]) H' Q')
  (hd:∀ H',AD H1 H'->H' acc=some (.lst ((xs.filter f).map g))->Q (.ref acc) H'):NP J js tt te σ H1 acc Q:=by
 refine ⟨fun i m H=>m=xs.length - i/\i<=xs.length/\AD H1 H/\H acc=some (.lst (((xs.take i).filter f).map g)),⟨xs.length,by simp,CJ _,Cs Az _,Aa⟩,?_⟩
 rintro i m H2 ⟨rfl,hi,sm,ha⟩
 by_cases AN:i < xs.length
 ·refine .inr ⟨wW i H2 sm AN,fun x H3 y=>?_⟩
  obtain ⟨e,hx⟩:=hy i H2 x H3 y
  subst e
  have Ik:(xs.take (i+1))=xs.take i++[x]:=by
   have e2:xs[i]=x:=by
    rw [Ad AN] at hx;exact BG hx
   rw [Rr AN,e2]
  have e1:List.filter f (xs.take (i+1))=(xs.take i).filter f++(if f x=true then [x] else []):=by
   rw [Ik,MI];congr 1
   by_cases hf:f x=true <;> simp [hf]
  refine ht i x _ _ hx sm fun H4 s4=>?_
  by_cases hf:f x=true
  ·rw [if_pos hf]
   refine he i x H4 _ hx hf (sm.trans s4) fun H5 s5=>?_
   have hlen:(((xs.take i).filter f).map g).length < sizeLine:=by
    rw [AE]
    have:=Rm f (xs.take i)
    rw [C7] at this
    omega
   refine ⟨_,s5 _ _ (s4 _ _ ha),hlen,xs.length - (i+1),by omega,rfl,AN,fun b o q=>?_,?_⟩
   ·have hb:b≠acc:=by rintro rfl;rw [Az] at q;cases q
    rw [AR hb];exact s5 _ _ (s4 _ _ (sm b o q))
   ·rw [Aa,e1,if_pos hf,DE];rfl
  ·have Mj:f x=false:=by simpa using hf
   rw [Mj]
   rw [if_neg (by decide)]
   refine ⟨xs.length - (i+1),by omega,rfl,AN,sm.trans s4,?_⟩
   rw [e1,if_neg hf,E9]
   exact s4 _ _ ha
 ·have e:i=xs.length:=by omega
  subst e
  refine .inl ⟨Hb H2 sm,hd H2 sm ?_⟩
  rw [FL] at ha
  exact ha
def FP (z:Str):List V:=z.cps.toList.map fun c=>.str ⟨#[c]⟩
def XN (z:Str):(FP z).length=z.cps.size:=by unfold FP;simp
def uZ {z:Str}{js:List Nat}{tt:TT}{te:TE}{σ:St} {H1:Hp}{acc:Addr}{Q:VK}(f:V->Bool) (g:V->V) (Az:H1 acc=none) (hz:z.cps.size<=sizeLine)
  (ht:∀ (i:Nat) (x:V) (H':Hp) (Q':Bool->Hp->Prop),(FP z)[i]?=some x->AD H1 H'->(∀ G1,AD H' G1->Q' (f x) G1)->tt (AS js σ++[some x]) H' Q')
  (he:∀ (i:Nat) (x:V) (H':Hp) (Q':VK),(FP z)[i]?=some x->f x=true->AD H1 H'->(∀ G1,AD H' G1->Q' (g x) G1)->te (AS js σ++[some x]) H' Q')
  (hd:∀ H',AD H1 H'->H' acc=some (.lst (((FP z).filter f).map g))->Q (.ref acc) H'):NP (Ux z) js tt te σ H1 acc Q:=by
 refine yb (FP z) f g Az (by rw [XN];exact hz) (fun i H s hi=>?_) (fun H s=>?_) (fun i H x H' y=>?_) ht he hd
 ·rw [XN] at hi;exact hi
 ·show (FP z).length=z.cps.size
  exact XN z
 ·obtain ⟨e,c,hc,hx⟩:=y
  refine ⟨e,?_⟩
  subst hx
  unfold FP
  rw [Ag,gN,hc]
  rfl
def GP (xs ys:List V):Bool:=xs.length == ys.length && (List.range xs.length).all fun j=>Ca (xs.getD j .A5) (ys.getD j .A5)
def OL {xs:List V}{j:Nat}{x:V}(h:xs[j]?=some x):xs.getD j .A5=x:=by rw [Kp,h];rfl
section
variable {X:Cx}{pins:ZAZ}{σ:St} {H:Hp}{s:Shared}
def Yd {xs:List V}{j:Nat}{x:V}(h:xs.all Dd=true) (e:xs[j]?=some x):Dd x=true:=List.all_eq_true.mp h x (CC e)
def QX {A:Around}{xs ys:List V}{A1 BJ:List Value}(r1:Vals xs A1) (r2:Vals ys BJ) (fx:xs.all Dd=true) (fy:ys.all Dd=true) :
  ∀ j (h1:j < A1.toArray.size) (h2:j < BJ.toArray.size),SeqAt.EqAt A s A1.toArray[j] BJ.toArray[j] (Ca (xs.getD j .A5) (ys.getD j .A5)):=fun j h1 h2=>by
 have l1:=r1.length
 have l2:=r2.length
 have D2:j < A1.length:=by simpa using h1
 have DI:j < BJ.length:=by simpa using h2
 have e1:xs[j]?=some (xs[j]'(by omega)):=Ad _
 have e2:ys[j]?=some (ys[j]'(by omega)):=Ad _
 obtain ⟨u,hu,ru⟩:=r1.get e1
 obtain ⟨v,hv,rv⟩:=r2.get e2
 rw [Ad D2] at hu
 rw [Ad DI] at hv
 have EA:A1[j]=u:=BG hu
 have HP:BJ[j]=v:=BG hv
 rw [OL e1,OL e2]
 have q:=PM (A:=A) (s:=s) ru rv (Yd fx e1) (Yd fy e2)
 rw [<- EA,<- HP] at q
 simpa using q
def OI (K:ZAY) (neg:Bool):R2:=fun x y H Q=>∃ p q xs ys,x=.ref p/\y=.ref q/\((AJ K H p xs/\AJ K H q ys)∨(Ab K H p xs/\Ab K H q ys))/\xs.all Dd=true/\ys.all Dd=true/\
 Q (.bl (if neg then !GP xs ys else GP xs ys)) H
def LZ {xs ys:List V}(h:xs.length≠ys.length):GP xs ys=false:=by
 unfold GP
 have:(xs.length == ys.length)=false:=by simpa using h
 rw [this,Bool.false_and]
def Lm {xs ys:List V}(h:xs.length=ys.length):GP xs ys=(List.range xs.length).all fun j=>Ca (xs.getD j .A5) (ys.getD j .A5):=by
 unfold GP
 have:(xs.length == ys.length)=true:=by simpa using h
 rw [this,MG]
def iI (hu:X.A.units < cLine):Ay X (compareOp .Eq) (OI X.K false):=by
 intro pins s σ H x y v u Q I rx ry h
 obtain ⟨p,q,xs,ys,rfl,rfl,hq,fx,fy,hQ⟩:=h
 cases rx;cases ry
 have DL:Q (.bl (GP xs ys)) H:=hQ
 rcases hq with ⟨ha,hb⟩ | ⟨ha,hb⟩
 ·obtain ⟨A1,r1,p1,z1⟩:=I.list ha
  obtain ⟨BJ,r2,p2,z2⟩:=I.list hb
  have l1:=r1.length;have l2:=r2.length
  by_cases hl:xs.length=ys.length
  ·refine SeqAt.eq_listAt (e:=fun j=>Ca (xs.getD j .A5) (ys.getD j .A5)) p1.isList p2.isList (by simp;omega) hu (QX r1 r2 fx fy) ⟨.bl _,H,I,rfl,?_⟩
   rw [Lm hl] at DL
   simp only [Bh,<- l1]
   exact DL
  ·rw [LZ hl] at DL
   exact SeqAt.eq_list_lengthsAt p1.isList p2.isList (by simp;omega) hu ⟨.bl false,H,I,rfl,DL⟩
 ·obtain ⟨A1,r1,p1,z1⟩:=I.tuple ha
  obtain ⟨BJ,r2,p2,z2⟩:=I.tuple hb
  have l1:=r1.length;have l2:=r2.length
  refine SeqAt.eq_tupleAt (e:=fun j=>Ca (xs.getD j .A5) (ys.getD j .A5)) p1 p2 hu (QX r1 r2 fx fy) ⟨.bl _,H,I,rfl,?_⟩
  simp only [Bh,<- l1,<- l2]
  by_cases hl:xs.length=ys.length
  ·rw [Lm hl] at DL
   have:(xs.length == ys.length)=true:=by simpa using hl
   rw [this,gO,<- hl,gp]
   exact DL
  ·rw [LZ hl] at DL
   have:(xs.length == ys.length)=false:=by simpa using hl
   rw [this,Ri]
   exact DL
def WB (hu:X.A.units < cLine):Ay X (compareOp .NotEq) (OI X.K true):=by
 intro pins s σ H x y v u Q I rx ry h
 obtain ⟨p,q,xs,ys,rfl,rfl,hq,fx,fy,hQ⟩:=h
 cases rx;cases ry
 have DL:Q (.bl (!GP xs ys)) H:=hQ
 rcases hq with ⟨ha,hb⟩ | ⟨ha,hb⟩
 ·obtain ⟨A1,r1,p1,z1⟩:=I.list ha
  obtain ⟨BJ,r2,p2,z2⟩:=I.list hb
  have l1:=r1.length;have l2:=r2.length
  by_cases hl:xs.length=ys.length
  ·refine SeqAt.RcNeAt.lists (e:=fun j=>Ca (xs.getD j .A5) (ys.getD j .A5)) p1.isList p2.isList (by simp;omega) hu (QX r1 r2 fx fy) _ _ _ _ ⟨.bl _,H,I,rfl,?_⟩
   rw [Lm hl] at DL
   simp only [Bh,<- l1]
   exact DL
  ·rw [LZ hl] at DL
   exact zv p1.isList p2.isList (by simp;omega) hu _ _ _ _ ⟨.bl true,H,I,rfl,DL⟩
 ·obtain ⟨A1,r1,p1,z1⟩:=I.tuple ha
  obtain ⟨BJ,r2,p2,z2⟩:=I.tuple hb
  have l1:=r1.length;have l2:=r2.length
  refine SeqAt.RcNeAt.tuples (e:=fun j=>Ca (xs.getD j .A5) (ys.getD j .A5)) p1 p2 hu (QX r1 r2 fx fy) _ _ _ _ ⟨.bl _,H,I,rfl,?_⟩
  simp only [Bh,<- l1,<- l2]
  by_cases hl:xs.length=ys.length
  ·rw [Lm hl] at DL
   have:(xs.length == ys.length)=true:=by simpa using hl
   rw [this,gO,<- hl,gp]
   exact DL
  ·rw [LZ hl] at DL
   have:(xs.length == ys.length)=false:=by simpa using hl
   rw [this,Ri]
   exact DL
def kT:C2 X (.builtin "isinstance") (fun xs H Q=>∃ x n t b,xs=[x,.ty n]/\EN X.K H x t/\PySem.W.kitOne X.K t (.type n)=some b/\Q (.bl b) H):=by
 intro pins s σ H xs us Q I r h
 obtain ⟨x,n,t,b,rfl,ty,e,q⟩:=h
 obtain ⟨u,w',rfl,rx,rt⟩:=vals2 r
 cases rt
 exact vm I rx ty e fun tk=>⟨.bl b,H,I.tok tk,rfl,q⟩
def me {bs:List Bool}{A1:List Value}(r:Vals (bs.map V.bl) A1){i:Nat}{v:Value}(e:A1[i]?=some v):v=.bool (bs.getD i false):=by
 have hl:=r.length
 rw [AE] at hl
 have hi:i < A1.length:=(List.getElem?_eq_some_iff.mp e).1
 have e1:(bs.map V.bl)[i]?=some (.bl (bs[i]'(by omega))):=by rw [Ag,Ad (by omega)];rfl
 obtain ⟨u,hu,ru⟩:=r.get e1
 rw [e] at hu;cases hu
 cases ru
 rw [Kp,Ad (by omega)];rfl
def range_all (bs:List Bool):(List.range bs.length).all (fun i=>bs.getD i false)=bs.all id:=by
 rw [OU,HD,HD]
 constructor
 ·intro h x hx
  obtain ⟨i,hi,rfl⟩:=List.mem_iff_getElem.mp hx
  have:=h i (List.mem_range.mpr hi)
  rw [Kp,Ad hi] at this
  exact this
 ·intro h i hi
  rw [Kp,Ad (List.mem_range.mp hi)]
  exact h _ (HE _)
def bX (hc:X.calm=true):C2 X (.builtin "all") (fun xs H Q=>∃ (p:Addr) (bs:List Bool),xs=[.ref p]/\AJ X.K H p (bs.map V.bl)/\Q (.bl (bs.all id)) H):=by
 intro pins s σ H xs us Q I r h
 obtain ⟨p,bs,rfl,hq,q⟩:=h
 obtain ⟨u,rfl,rx⟩:=vals1 r
 cases rx
 obtain ⟨A1,rv,pl,hz⟩:=I.list hq
 have hl:=rv.length
 rw [AE] at hl
 refine call_all_walk (wpAny_pyIter_list pl.isList ?_)
 obtain ⟨o,n,ho,_⟩:=id pl
 have Ao:p≠s.heap.objs.size:=C8 (B0 ho)
 refine ⟨s.heap.objs.size,_,_,_,_,_,fun i=>bs.getD i false,rfl,Walks.list (by rw [Around.in1_handled];exact I.ok.hd hc) _ p Ao A1.toArray,⟨⟨_,DD _ rfl,rfl,rfl⟩,pl.isList.push _⟩,fun i v s' Q' E' hv DL=>?_,fun h' tk kp=>?_⟩
 ·have ev:v=.bool (bs.getD i false):=me rv (by simpa using hv)
  rw [ev]
  exact wpAny_truthy_bool DL
 ·refine ⟨.bl _,H,I.kept (t':=tk) fun b ob e=>kp b ob (by simpa using C8 (B0 e)) (Br _ e),rfl,?_⟩
  rw [Bh,<- hl,range_all]
  exact q
def Uv:V->List V->Hp->VK->Prop:=fun x vs H Q=>∃ (l:Addr) (xs:List V) (j:Int) (y:V),x=.ref l/\vs=[.int j,y]/\H l=some (.lst xs)/\0<=j/\j<=xs.length/\xs.length < sizeLine/\Q .A5 (upd H l (.lst (xs.take j.toNat++y :: xs.drop j.toNat)))
def wI:NR X "list.insert" Uv:=by
 intro pins s σ H x vs v us Q I rx rv h
 obtain ⟨l,xs,j,y,rfl,rfl,hH,S8,hj1,hz,q⟩:=h
 cases rx
 obtain ⟨ui,uy,rfl,ri,ry⟩:=rv.two
 obtain ⟨t,rfl⟩:=ri
 obtain ⟨z,A1,n,r,hl,e⟩:=I.IT hH
 have h2:j < 2 ^ 63:=by
  have h4:(xs.length:Int)<=(sizeLine:Int):=Int.ofNat_le.mpr z
  have h3:((sizeLine:Nat):Int) < 2 ^ 63:=by exact_mod_cast Ir
  omega
 have kR:(!Builtin.List.listFitsIndex j)=true->False:=by
  have h1:Builtin.List.listFitsIndex j=true:=by
   unfold Builtin.List.listFitsIndex
   rw [Ek]
   exact ⟨decide_eq_true (by omega),decide_eq_true h2⟩
  rw [h1];exact fun h=>nomatch h
 have ju:A1.toArray.size<=sizeLine:=Dj (gj (List.size_toArray.trans hl.symm)) z
 refine call_meets zm ⟨_,e,rfl⟩ PySem.F.entry_list_insert (PySem.F.args_list_insert_3 _ _ _) (PySem.AutoSeq1.list_insert_list_int_val_1 l A1.toArray n j t uy kR ju) ⟨e,?_⟩
 refine ⟨.A5,_,I.Nt (its':=A1.take j.toNat++uy :: A1.drop j.toNat) hH e ?_ ((r.take _).append (.cons ry (r.drop _))) ?_,rfl,q⟩
 ·have h0:¬ (j < 0):=by omega
  have hm:min j.toNat A1.toArray.size=j.toNat:=by simp;omega
  simp only [h0,if_false,hm]
  apply Array.toList_inj.mp
  simp
  exact Kq (by simp)
 ·rw [BK,BZ,C7,HF]
  omega
def o5:V->Option Int->Option Int->Hp->VK->Prop:=fun x lo hi H Q=>∃ z,x=.str z/\z.length<=sizeLine/\Q (.str (Txt.slice z lo hi)) H
def part_of {v:Value}{o:Option Int}(p:IsPart v o):∃ l:Option (Int×Tok),v=partValue l/\l.map (·.1)=o:=by
 cases p with
 | none=>exact ⟨none,rfl,rfl⟩
 | int i t=>exact ⟨some (i,t),rfl,rfl⟩
def Yp:Ii X o5:=by
 intro pins s σ H x v vl vu lo hi sl Q I rx hs pl pu h
 obtain ⟨z,rfl,hz,q⟩:=h
 obtain ⟨t,rfl⟩:=rx
 obtain ⟨l,rfl,hl⟩:=part_of pl
 obtain ⟨u,rfl,hu⟩:=part_of pu
 subst hl;subst hu
 refine ⟨"str", _,F.slot_str_getitem.lookup,typeIs_str _ _ _,wpAny_getItem_str_slice (l:=l) (u:=u) (st:=none) hs rfl (post_val_or_str ⟨Dj (Txt.slice_le z _ _) hz,fun t' k=>?_⟩)⟩
 exact ⟨.str _,H,I.tok k,⟨t',rfl⟩,q⟩
end
end L2
set_option exponentiation.threshold 5000
namespace L2
def AB (P:Program) (w:World) (K:ZAY) (mg:ZAa) (base:Heap) (x:Str) (k:Nat) (ps:List Str) (sp:Sp):Prop:=
 ∃ f fd,Cm P w K mg base FA k f fd ps sp/\Binds K fd ps []/\PySem.W.keepIn K (.ref f)=true/\mg x=some (.ref f)
section
variable {P:Program}{w:World}{K:ZAY}{mg:ZAa}{base:Heap}{x qual:Str}{k:Nat}{ps:List Str}{sp:Sp}{st:Stmt}{f:Addr}{fd:FuncData}
def AB.mk (F:AQ K x qual st f fd) (b:Binds K fd ps []) (m:mg x=some (.ref f)) (h:Cm P w K mg base FA k f fd ps sp):AB P w K mg base x k ps sp:=⟨f,fd,h,b,F.kp,m⟩
end
section
variable {X:Cx}{x:Str}{j k:Nat}{ps:List Str}{sp:Sp}{p pos:Pos}{e:Expr}{es:List Expr}{t:TA}
def xp (h:AB X.prog X.w X.K X.mg X.base x k ps sp) (hr:BY j X.A) (hk:k<=j) (ha:PA X (e :: es) t) (hg:Gl X x:=by rfl) (Cb:(x == ("__debug__" : Str))=false:=by decide)
  (he:starEach (e :: es) X.env=(false,eval e X.env) :: starEach es X.env:=by rfl) (Be:(backTo pos (starEach es X.env)).any (·.1)=false:=by rfl) :
  PE X (.Call (.Name x p) (e :: es) [] pos) (CL sp [] E0 t):=by
 obtain ⟨f,fd,F,b,kp,m⟩:=h
 exact ya (F.mono hk) hr hg m kp b .nil RI ha Cb he Be
def Nd (K:ZAY):List V->Hp->VK->Prop:=fun xs H Q=>∃ (p:Addr) (ys:List V),xs=[.ref p]/\(AJ K H p ys∨Ab K H p ys)/\Q (.int ys.length) H
def JF:C2 X (.builtin "len") (Nd X.K):=Q2
def Ql (K:ZAY):List V->Hp->VK->Prop:=fun xs H Q=>∃ (x:V) (n:String) (t:Value) (b:Bool),xs=[x,.ty n]/\EN K H x t/\PySem.W.kitOne K t (.type n)=some b/\Q (.bl b) H
def WA:C2 X (.builtin "isinstance") (Ql X.K):=kT
def N3:Ec X "list.append" RU:=Qp
def uf:Ec X "list.insert" Uv:=wI
def pF:Ec X "list.pop" VX:=jq
def yZ (T:String){x:Str}{pos:Pos}(hm:X.mg x=none) (hg:Gl X x:=by rfl) (hv:bootBuiltins x=some (.type T):=by decide +kernel) (hn:x ≠ "__name__" := by decide) (hd:(x == ("__debug__" : Str))=false:=by decide) :
  PE X (.Name x pos) (tC (.ty T)):=oC hg hm hv rfl hn hd
def vG (i j:Int):Prop:=i.natAbs < 2 ^ 1000/\j.natAbs < 2 ^ 1000
def fD {n:Nat}(h:n < 2 ^ 1000):n.log2 < 1000:=by
 rcases Nat.eq_zero_or_pos n with e | e
 ·subst e;exact (show (0:Nat).log2 < 1000 by decide)
 ·exact (Nat.log2_lt (Oh e)).mpr h
def bits_le {i:Int}(h:i.natAbs < 2 ^ 1000):Builtin.Int.intBits i<=2 ^ 20:=by
 unfold Builtin.Int.intBits
 split
 ·exact CJ _
 ·have:=fD h
  have e:(2:Nat) ^ 20=1048576:=by decide
  omega
def Kg:Ay X (binaryOp .Mult) (rI vG fun i j=>.int (i * j)):=Q3 fun _ _ _ _ _ _ _ hc q=>mul_int q (.of_bits (bits_le hc.1) (bits_le hc.2))
def Vt:Ay X (binaryOp .FloorDiv) (rI (fun _ j=>0 < j/\j.natAbs < 2 ^ 1000) fun i j=>.int (i / j)):=Q3 fun i j _ _ _ _ _ hc q=>by
 have h1:(0:Int) < j:=hc.1
 have h2:=fD hc.2
 exact floordiv_int (by omega) (by rw [Int.fdiv_eq_ediv_of_nonneg i (by omega)];exact q) (.inl (PyProof.noPylong_of_log2 (by omega)))
def wD {body rest:List Stmt}{st:Stmt}{t u:TS}(e:body=st :: rest) (h:PS X st t) (h2:Dv X rest u):Dv X body (My t u):=by rw [e];exact yT h h2
def qO {body:List Stmt}{st:Stmt}{t:TS}(e:body=[st]) (h:PS X st t):Dv X body t:=by rw [e];exact yV h
def X3 (t:TS):TS:=fun D σ H=>∃ J:St->Hp->Prop,t { D with nx:=J } σ H/\∀ σ' H',J σ' H'->D.nx σ' H'
def qW {st:Stmt}{t:TS}(h:PS X st t):PS X st (X3 t):=by
 intro pins s σ H D I hw
 obtain ⟨J,h1,h2⟩:=hw
 refine AH (h pins s σ H _ I h1) fun f s' q=>?_
 cases f with
 | next=>obtain ⟨σ',H',I',q⟩:=q;exact ⟨σ',H',I',h2 σ' H' q⟩
 | ret v=>exact q
 | brk=>exact q
 | cont=>exact q
end
def Ei (p:Addr) (H H':Hp):Prop:=∀ b o,b≠p->H b=some o->H' b=some o
def Ei.trans {p:Addr}{H H1 H2:Hp}(a:Ei p H H1) (b:Ei p H1 H2):Ei p H H2:=fun c o hc e=>b c o hc (a c o hc e)
def Ei.of {p:Addr}{H H':Hp}(a:AD H H'):Ei p H H':=fun c o _ e=>a c o e
theorem Ei.upd {p:Addr}{H:Hp}{o:HO}:Ei p H (upd H p o):=fun c u hc e=>by rw [AR hc];exact e
def Ei.Nb {K:ZAY}{p:Addr}{H H':Hp}{a:Addr}{xs:List V}(e:Ei p H H') (Ao:a≠p) (h:Ab K H a xs):Ab K H' a xs:=by
 rcases h with (h | ⟨o,h⟩) | h
 ·exact .inl (.inl (e _ _ Ao h))
 ·exact .inl (.inr ⟨o,e _ _ Ao h⟩)
 ·exact .inr h
end L2
set_option maxHeartbeats 8000000
namespace L2
def NL (acc:List Str) (x:Str):List Str:=if acc.any (· == x) then acc else acc++[x]
def dd (ss:List Str):List Str:=ss.foldl NL []
def yW (acc:List Str) (x:Str):(NL acc x).length=if acc.any (· == x) then acc.length else acc.length+1:=by
 unfold NL;split <;> simp
def yn (ss:List Str):(dd ss).length<=ss.length:=by
 have:∀ (l acc:List Str),(l.foldl NL acc).length<=acc.length+l.length:=by
  intro l
  induction l with
  | nil=>intro acc;simp
  | cons x r ih=>
   intro acc
   rw [Oa]
   have h1:=ih (NL acc x)
   rw [yW] at h1
   simp only [BZ]
   split at h1 <;> omega
 have q:=this ss []
 simp only [Od,Nat.zero_add] at q
 exact q
section
variable {prog:Program}{w:World}{A:Around}{R:Result->Shared->Prop}{I:Addr}{fp wr:List Addr}{G:Array GenState->Array GenState->Prop}{n:Nat}{P:Nat->Value->Prop}{St:Nat->Shared->Prop}{ss:List Str}
end
section
variable {prog:Program}{w:World}{A:Around}{E:Value->Shared->Prop}{s:Shared}{ss:List Str}
end
def Ra (P:Program) (w:World) (a:Addr) (f:Str->Bool) (n:Nat):HO:=.ext fun h=>h.SetOf (strKind P w) a f n
section
variable {X:Cx}
def ot {ss:List Str}{A1:List Value}(r:Vals (ss.map V.str) A1){i:Nat}{v:Value}(e:A1[i]?=some v):∃ (h:i < ss.length) (t:Tok),v=.str ss[i] t:=by
 have hl:=r.length
 rw [AE] at hl
 have hi:i < A1.length:=(List.getElem?_eq_some_iff.mp e).1
 have C0:i < ss.length:=by omega
 have e1:(ss.map V.str)[i]?=some (.str ss[i]):=by rw [Ag,Ad C0];rfl
 obtain ⟨u,hu,ru⟩:=r.get e1
 rw [e] at hu;cases hu
 obtain ⟨t,q⟩:=ru
 exact ⟨C0,t,q⟩
end
end L2
set_option maxHeartbeats 4000000
namespace L2
structure QE (X:Cx) (e:Expr) (t:TE):Prop where h:PE X e t
structure QT (X:Cx) (e:Expr) (t:TT):Prop where h:PT X e t
structure QW (X:Cx) (e:Expr) (t:TT):Prop where h:PW X e t
structure QA (X:Cx) (es:List Expr) (t:TA):Prop where h:PA X es t
structure QS (X:Cx) (st:Stmt) (t:TS):Prop where h:PS X st t
structure HX (X:Cx) (st:List Stmt) (t:TS):Prop where h:Dv X st t
structure QG (X:Cx) (tg:Expr) (t:TG):Prop where h:PG X tg t
structure Ow (X:Cx) (ts:List Expr) (t:GF):Prop where h:Kw X ts t
structure QI (X:Cx) (tg iter:Expr) (wi:TI):Prop where h:PI X tg iter wi
structure Jm (X:Cx) (ifs:List Expr) (t:TT):Prop where h:FJ X ifs t
structure QO (X:Cx) (e:Option Expr) (t:TO):Prop where h:PO X e t
section
variable {X:Cx}{a b c e o:Expr}{es rest:List Expr}{ta tb tc te to:TE}{tA IB:TT}{t:TA}{pos p p2 apos Bc:Pos}{x:Str}
def qv (i:Nat){x:Str}{pos:Pos}(hN:X.N[i]?=some x:=by rfl) (hv:Pr X.env.scope x:=by first | exact Or.inl rfl | exact Or.inr (Or.inl rfl) | exact Or.inr (Or.inr rfl)) (hd:(x == ("__debug__" : Str))=false:=by decide)
  (Ey:(x == ("__classdict__" : Str))=false:=by decide):QE X (.Name x pos) (BM i):=⟨bb hN hv hd Ey⟩
def AA {i j pos}:QE X (.Constant (.int i) j pos) (tC (.int i)):=⟨mr⟩
def ER {b j pos}:QE X (.Constant (.bool b) j pos) (tC (.bl b)):=⟨kr⟩
def MC {j pos}:QE X (.Constant .none j pos) (tC .A5):=⟨k4⟩
def BF {x j pos}:QE X (.Constant (.str x) j pos) (tC (.str x)):=⟨vX⟩
def ID {v:V}{u:Value}(hg:Gl X x) (hm:X.mg x=some u) (r:RelV v u) (hd:(x == ("__debug__" : Str))=false:=by decide):QE X (.Name x pos) (tC v):=⟨mY hg hm r hd⟩
def Vf (T:String){x:Str}{pos:Pos}(hm:X.mg x=none) (hg:Gl X x:=by rfl) (hv:bootBuiltins x=some (.type T):=by decide +kernel) (hn:x ≠ "__name__" := by decide) (hd:(x == ("__debug__" : Str))=false:=by decide) :
  QE X (.Name x pos) (tC (.ty T)):=⟨yZ T hm hg hv hn hd⟩
def B4 {op:Operator}{r:R2}(ho:Ay X (binaryOp op) r) (ha:QE X a ta) (hb:QE X b tb):QE X (.BinOp a op b pos) (BH r ta tb):=⟨u7 ho ha.h hb.h⟩
def Nh {op:UnaryOp}{r:V->Hp->VK->Prop}(ho:Qa X (unaryOp op) r) (ha:QE X a ta):QE X (.UnaryOp op a pos) (Qx r ta):=⟨vS ho ha.h⟩
def iV {op:CmpOp}{r:R2}(ho:Ay X (compareOp op) r) (ha:QE X a ta) (hb:QE X b tb) (hm:behindInMarks op b=false):QE X (.Compare a [op] [b] pos) (BH r ta tb):=⟨o3 ho ha.h hb.h hm⟩
def gA {op:CmpOp}{r:R2}(ho:Ay X (compareOp op) r) (ha:QE X a ta) (hb:QE X b tb) (hm:behindInMarks op b=false):QT X (.Compare a [op] [b] pos) (Lh (BH r ta tb)):=⟨qY ho ha.h hb.h hm⟩
def pU {op EB:CmpOp}{r r':R2}(ho:Ay X (compareOp op) r) (EO:Ay X (compareOp EB) r') (ha:QE X a ta) (hb:QE X b tb) (hc:QE X c tc)
  (hm:lastMarks [op,EB] [b,c]=false:=by with_unfolding_all rfl):QE X (.Compare a [op,EB] [b,c] pos) (N7 r r' ta tb tc):=⟨md ho EO ha.h hb.h hc.h hm⟩
def lO {op EB:CmpOp}{r r':R2}(ho:Ay X (compareOp op) r) (EO:Ay X (compareOp EB) r') (ha:QE X a ta) (hb:QE X b tb) (hc:QE X c tc)
  (hm:lastMarks [op,EB] [b,c]=false:=by with_unfolding_all rfl):QT X (.Compare a [op,EB] [b,c] pos) (Lh (N7 r r' ta tb tc)):=⟨jE ho EO ha.h hb.h hc.h hm⟩
def Vq {op} (h:QE X a ta):QE X (.BoolOp op [a] pos) ta:=⟨lF h.h⟩
def W0 (ha:QE X a ta) (hb:QE X (.BoolOp .And (b :: rest) pos) tb):QE X (.BoolOp .And (a :: b :: rest) pos) (Uz ta tb):=⟨oQ ha.h hb.h⟩
def X7 (ha:QT X a tA):QW X (.BoolOp .And [a] pos) tA:=⟨pw_and1 ha.h⟩
def Lg (ha:QT X a tA):QW X (.BoolOp .Or [a] pos) tA:=⟨pw_or1 ha.h⟩
def Ry (ha:QT X a tA) (hb:QW X (.BoolOp .And (b :: rest) pos) IB):QW X (.BoolOp .And (a :: b :: rest) pos) (W3 tA IB):=⟨pw_and ha.h hb.h⟩
def KH (ha:QT X a tA) (hb:QW X (.BoolOp .Or (b :: rest) pos) IB):QW X (.BoolOp .Or (a :: b :: rest) pos) (WO tA IB):=⟨pw_or ha.h hb.h⟩
theorem QW.pt {e:Expr}{t:TT}(h:QW X e t):QT X e t:=⟨h.h.pt⟩
def Iw (ha:QT X a tA):QT X (.UnaryOp .Not a pos) (Qm tA):=⟨qV ha.h⟩
def Jb (h:QE X e te) (he:∀ whole,isTrue e X.env whole=(do let v <- whole;standAt e.pos;holding [v] (truthy v)):=by intro _;rfl):QT X e (tB te):=⟨rO h.h he⟩
def A7:QA X [] An:=⟨vy⟩
def A0 (ha:QE X e te) (hr:QA X es t) (hs:starEach (e :: es) X.env=(false,eval e X.env) :: starEach es X.env:=by rfl):QA X (e :: es) (AO te t):=⟨iJ ha.h hr.h hs⟩
def Dl {x1} (h:QA X es t):QE X (.Tuple es x1 pos) (Pq t):=⟨tj h.h⟩
def FC (h:QA X es t):QE X (.List es pos) (VY t):=⟨yz h.h⟩
def L9:QO X none SI:=⟨sU⟩
def LH (h:QE X e te):QO X (some e) (UH te):=⟨iQ h.h⟩
def Ks {r:V->Option Int->Option Int->Hp->VK->Prop}{lo hi:Option Expr}{tl th:TO}(hr:Ii X r) (he:QE X e te) (hl:QO X lo tl) (hu:QO X hi th):QE X (.Subscript e (.Slice lo hi none p2) pos) (Lq r te tl th):=⟨pd hr he.h hl.h hu.h⟩
def m8 {r:R2}(hr:Cz X r) (ha:QE X a ta) (hb:QE X b tb) (hs:XF b):QE X (.Subscript a b pos) (BH r ta tb):=⟨jB hr ha.h hb.h hs⟩
def ig {j k:Nat}{ps:List Str}{sp:Sp}(h:AB X.prog X.w X.K X.mg X.base x k ps sp) (hr:BY j X.A) (hk:k<=j) (ha:QA X (e :: es) t) (hg:Gl X x:=by rfl) (Cb:(x == ("__debug__" : Str))=false:=by decide)
  (he:starEach (e :: es) X.env=(false,eval e X.env) :: starEach es X.env:=by rfl) (Be:(backTo pos (starEach es X.env)).any (·.1)=false:=by rfl):QE X (.Call (.Name x p) (e :: es) [] pos) (CL sp [] E0 t):=⟨xp h hr hk ha.h hg Cb he Be⟩
def n0 {id:String}{r:List V->Hp->VK->Prop}(hc:C2 X (.builtin id) r) (hg:Gl X x) (hm:X.mg x=none) (hv:bootBuiltins x=some (.builtin id)) (ha:QA X (e :: es) t) (hn:x ≠ "__name__" := by decide) (Cb:(x == ("__debug__" : Str))=false:=by decide)
  (he:starEach (e :: es) X.env=(false,eval e X.env) :: starEach es X.env:=by rfl) (Be:(backTo pos (starEach es X.env)).any (·.1)=false:=by rfl):QE X (.Call (.Name x p) (e :: es) [] pos) (C1 r t):=⟨uO hc hg hm hv ha.h hn Cb he Be⟩
def wA {T:String}{r:List V->Hp->VK->Prop}(hc:C2 X (.type T) r) (hg:Gl X x) (hm:X.mg x=none) (hv:bootBuiltins x=some (.type T)) (ha:QA X (e :: es) t) (hn:x ≠ "__name__" := by decide) (Cb:(x == ("__debug__" : Str))=false:=by decide)
  (he:starEach (e :: es) X.env=(false,eval e X.env) :: starEach es X.env:=by rfl) (Be:(backTo pos (starEach es X.env)).any (·.1)=false:=by rfl):QE X (.Call (.Name x p) (e :: es) [] pos) (C1 r t):=⟨t4 hc hg hm hv ha.h hn Cb he Be⟩
def Sy {name:Str}{T id:String}{r:V->List V->Hp->VK->Prop}(pa:PlainAttrs T) (slot:Slot T name id) (Kl:typeOf (.builtin id)=pure (.type "method_descriptor")) (hm:Ec X id r) (ho:QE X o to)
  (JY:attributeBase o name X.env (eval o X.env)=eval o X.env:=by rfl) (KJ:(apos.endLine == Bc.line)=true:=by rfl):QE X (.Call (.Attribute o name apos) [] [] Bc) (MV X.K T r to):=⟨sD pa slot Kl hm ho.h JY KJ⟩
def HW {name:Str}{T id:String}{r:V->List V->Hp->VK->Prop}(pa:PlainAttrs T) (slot:Slot T name id) (Kl:typeOf (.builtin id)=pure (.type "method_descriptor")) (hm:Ec X id r) (ho:QE X o to) (ha:QA X (e :: es) t)
  (JY:attributeBase o name X.env (eval o X.env)=eval o X.env:=by rfl)
  (UD:((backTo Bc (starEach (e :: es) X.env)).all (fun x=>!x.1) && (backToKw Bc (keywordEach [] X.env)).all (fun x=>x.1.isSome)
   && decide ((e :: es).length+([]:List Keyword).length+(if ([]:List Keyword).isEmpty then 0 else 1) < 30))=true:=by rfl)
  (KJ:(apos.endLine == Bc.line)=true:=by rfl) (hs:starEach (e :: es) X.env=(false,eval e X.env) :: starEach es X.env:=by rfl) (Sl:(backTo Bc (starEach es X.env)).any (·.1)=false:=by rfl) :
  QE X (.Call (.Attribute o name apos) (e :: es) [] Bc) (J8 X.K T r to t):=⟨mG pa slot Kl hm ho.h ha.h JY UD KJ hs Sl⟩
end
section
variable {X:Cx}{elt iter:Expr}{x:Str}{px pos:Pos}{ifs:List Expr}{scope:Scope}{A6:List Str}{js:List Nat}{tt:TT}{te:TE}{wi:TI}{tg:Expr}
def D6 {l:Expr}{tl:TE}(hl:QE X l tl):QI X tg l (QJ X.K tl):=⟨tM hl.h⟩
def vO {l:Expr}{tl:TE}(hl:QE X l tl):QI X tg l (bJ tl):=⟨vC hl.h⟩
def LU {a:Expr}{ta:TA}{p pos:Pos}(hg:Gl X "range") (hm:X.mg "range" = none) (ha:QA X [a] ta) (hs:starEach [a] X.env=[(false,eval a X.env)]:=by rfl):QI X tg (.Call (.Name "range" p) [a] [] pos) (Vj ta):=⟨tf hg hm ha.h hs⟩
def Gp:Jm X [] W4:=⟨j6⟩
def Q4 {c:Expr}{t:TT}(hc:QT X c t):Jm X [c] t:=⟨qd hc.h⟩
def I0 (hc:X.calm=true) (S:DP X.N X.env.scope scope x A6 js) (hi:QI X (.Name x px) iter wi)
  (Bt:∀ fp C s H,Jm (Ax X (A6++[x]) scope (B6 X.env.cells scope.names) C s H fp) ifs tt) (Bu:∀ fp C s H,QE (Ax X (A6++[x]) scope (B6 X.env.cells scope.names) C s H fp) elt te)
  (hs:∀ v,foldedSetIterable iter X.env v=pure v:=by intro _;rfl):QE X (.ListComp elt [⟨.Name x px,iter,ifs,0⟩] scope pos) (Iu wi js tt te):=⟨vf hc S hi.h (fun fp C s H=>(Bt fp C s H).h) (fun fp C s H=>(Bu fp C s H).h) hs⟩
def bT {i:Nat}{y:Str}{py GD:Pos}(hN:X.N.Nodup) (C0:X.N[i]?=some y) (hy:Loc X.env.scope y) (hc:X.calm=true) (S:DP X.N X.env.scope scope x A6 js) (hi:QI X (.Name x px) iter wi)
  (Bt:∀ fp C s H,Jm (Ax X (A6++[x]) scope (B6 X.env.cells scope.names) C s H fp) ifs tt) (Bu:∀ fp C s H,QE (Ax X (A6++[x]) scope (B6 X.env.cells scope.names) C s H fp) elt te)
  (K5:swapsWith (.ListComp elt [⟨.Name x px,iter,ifs,0⟩] scope pos) (some (.Name y py)) GD.line X.env=pure true:=by rfl)
  (hf:X.fn y=true∨X.env.scope.names.lookup y=some .local:=by first | exact .inl rfl | exact .inr rfl | assumption)
  (hs:∀ v,foldedSetIterable iter X.env v=pure v:=by intro _;rfl):QS X (.Assign [.Name y py] (.ListComp elt [⟨.Name x px,iter,ifs,0⟩] scope pos) GD) (E8 (Iu wi js tt te) (CV i)):=
 ⟨mT hN C0 hy hc S hi.h (fun fp C s H=>(Bt fp C s H).h) (fun fp C s H=>(Bu fp C s H).h) K5 hf hs⟩
def yr {i:Nat}{x:Str}(hN:X.N.Nodup) (hi:X.N[i]?=some x) (hx:Loc X.env.scope x) (hf:X.fn x=true∨X.env.scope.names.lookup x=some .local:=by first | exact .inl rfl | exact .inr rfl | assumption):QG X (.Name x pos) (CV i):=⟨Qi hN hi hx hf⟩
def aZ:Ow X [] Nz:=⟨gD⟩
def Nu {e:Expr}{es:List Expr}{t:TG}{u:GF}(h1:QG X e t) (h2:Ow X es u)
  (hs:(assignEach (e :: es) X.env).map (·.2)=assign e X.env :: (assignEach es X.env).map (·.2):=by rfl):Ow X (e :: es) (Ie t u):=⟨cY h1.h h2.h hs⟩
def Ye {es:List Expr}{k:Nat}{t:GF}{n:Nat}(hc:X.calm=true) (h:Ow X es t) (hn:(assignEach es X.env).length=n:=by rfl) (Hb:(assignEach es X.env).findIdx? (·.1)=none:=by rfl):QG X (.Tuple es k pos) (P2 X.K n t):=⟨cT hc h.h hn Hb⟩
def Z4 {o i:Expr}{to ti:TE}{t:Kx}(ho:QE X o to) (hi:QE X i ti) (hs:RB X t)
  (ha:∀ v,assign (.Subscript o i pos) X.env v=(do
   let ov <- holding [v] (eval o X.env)
   let iv <- holding [v,ov] (eval i X.env)
   standAt pos
   holding [v,ov,iv] (setItem ov iv v)
   release [v,ov,iv] []):=by intro _;rfl):QG X (.Subscript o i pos) (cz to ti t):=⟨wy ho.h hi.h hs ha⟩
end
section
variable {X:Cx}{st:Stmt}{rest:List Stmt}{t u:TS}{e:Expr}{te:TE}{pos:Pos}
def BS:HX X [] UI:=⟨jV⟩
def AI {body rest:List Stmt}{st:Stmt}{t u:TS}(e:body=st :: rest) (h:QS X st t) (h2:HX X rest u):HX X body (My t u):=⟨wD e h.h h2.h⟩
def AL {body:List Stmt}{st:Stmt}{t:TS}(e:body=[st]) (h:QS X st t):HX X body t:=⟨qO e h.h⟩
def IL:QS X st Ym:=⟨kG⟩
def DY (he:QE X e te) (hs:swapsWith e none pos.line X.env=pure false:=by rfl):QS X (.Expr e pos) (GY te):=⟨ip he.h hs⟩
def B1 (he:QE X e te):QS X (.Return (some e) pos) (KL te):=⟨lz he.h⟩
def jH:QS X (.Return none pos) Sk:=⟨k7⟩
def BQ {c:Expr}{a b:List Stmt}{tc:TT}(hc:QT X c tc) (ha:HX X a t) (hb:HX X b u):QS X (.If c a b pos) (VH tc t u):=⟨lD hc.h ha.h hb.h⟩
def da {tg e:Expr}{te:TE}{g:TG}(he:QE X e te) (hg:QG X tg g) (hs:swapsWithSole [tg] e pos.line X.env=pure false:=by rfl) (hw:swappedStores [tg] e X.env=pure none:=by rfl)
  (h1:(assignEach [tg] X.env).map (·.2)=[assign tg X.env]:=by rfl):QS X (.Assign [tg] e pos) (E8 te g):=⟨iL he.h hg.h hs hw h1⟩
def jM {i:Nat}{x:Str}{pos':Pos}(hN:X.N.Nodup) (hi:X.N[i]?=some x) (hx:Loc X.env.scope x) (he:QE X e te) (hs:swapsWith e (some (.Name x pos')) pos.line X.env=pure false:=by rfl) (hf:X.fn x=true∨X.env.scope.names.lookup x=some .local:=by first | exact .inl rfl | exact .inr rfl | assumption) :
  QS X (.Assign [.Name x pos'] e pos) (E8 te (CV i)):=⟨iY hN hi hx he.h hs hf⟩
def Tv {c:Expr}{body:List Stmt}{tc:TT}{tb:TS}(hp:PassesOwn (model X.prog X.w) X.A X.env X.xe) (hc:QT X c tc) (hb:HX X body tb):QS X (.While c body [] pos) (WL tc tb):=⟨oR hp hc.h hb.h⟩
def E2 {tg iter:Expr}{body:List Stmt}{wi:TI}{g:TG}{tb:TS}(hp:PassesOwn (model X.prog X.w) X.A X.env X.xe) (hc:X.calm=true) (hi:QI X tg iter wi) (hg:QG X tg g) (hb:HX X body tb)
  (hs:∀ x,foldedSetIterable iter X.env x=pure x:=by intro _;rfl):QS X (.For tg iter body [] pos) (RT wi g tb):=⟨ma hp hc hi.h hg.h hb.h hs⟩
def Co (h:QS X st t):QS X st (X3 t):=⟨qW h.h⟩
end
def AQ.BR {P:Program}{w:World}{K:ZAY}{mg:ZAa}{base:Heap}{x qual:Str}{st:Stmt}{f:Addr}{fd:FuncData}{N ps:List Str}{k:Nat}{sp:Sp}(F:AQ K x qual st f fd) (S:BN N ps (Am st)) (len:∀ vs H Q E,sp vs H Q E->vs.length=ps.length)
  (NI:∀ (AZ:Value) (A:Around) (outer:List Env) (s:Shared) (H:Hp) (vs:List V) (Q:VK) (E:XK),BY k (A.deeper (envOfC qual (Am st) s.heap.objs.size f AZ))->sp vs H Q E->
   ∃ t,HX (Jn FA P w K mg base N qual (Am st) f AZ A outer s H E).MZ (Ki st) t/\t { nx:=fun _ H'=>Q .A5 H',rt:=Q } (start N vs) H):Cm P w K mg base FA (k+1) f fd ps sp:=
 F.ok S len fun AZ A outer s H vs Q E hr h=>let ⟨t,q,r⟩:=NI AZ A outer s H vs Q E hr h;⟨t,q.h,r⟩
section
variable {X:Cx}{a b e o:Expr}{es:List Expr}{ta tb te:TE}{t:TA}{pos p:Pos}{x:Str}
def Cc {id:String}{r:List V->Hp->VK->Prop}(hc:C2 X (.builtin id) r) (hm:X.mg x=none) (ha:QA X (e :: es) t) (hg:Gl X x:=by rfl) (hv:bootBuiltins x=some (.builtin id):=by decide +kernel) (hn:x ≠ "__name__" := by decide) (Cb:(x == ("__debug__" : Str))=false:=by decide)
  (he:starEach (e :: es) X.env=(false,eval e X.env) :: starEach es X.env:=by rfl) (Be:(backTo pos (starEach es X.env)).any (·.1)=false:=by rfl):QE X (.Call (.Name x p) (e :: es) [] pos) (C1 r t):=n0 hc hg hm hv ha hn Cb he Be
def GR {T:String}{r:List V->Hp->VK->Prop}(hc:C2 X (.type T) r) (hm:X.mg x=none) (ha:QA X (e :: es) t) (hg:Gl X x:=by rfl) (hv:bootBuiltins x=some (.type T):=by decide +kernel) (hn:x ≠ "__name__" := by decide) (Cb:(x == ("__debug__" : Str))=false:=by decide)
  (he:starEach (e :: es) X.env=(false,eval e X.env) :: starEach es X.env:=by rfl) (Be:(backTo pos (starEach es X.env)).any (·.1)=false:=by rfl):QE X (.Call (.Name x p) (e :: es) [] pos) (C1 r t):=wA hc hg hm hv ha hn Cb he Be
def AW {r:R2}(hr:Cz X r) (ha:QE X a ta) (hb:QE X b tb) (hs:XF b:=by exact fun _ _=>rfl):QE X (.Subscript a b pos) (BH r ta tb):=m8 hr ha hb hs
def Aj {j k:Nat}{ps:List Str}{sp:Sp}(h:AB X.prog X.w X.K X.mg X.base x k ps sp) (hr:BY j X.A) (ha:QA X (e :: es) t) (hk:k<=j:=by decide) (hg:Gl X x:=by rfl) (Cb:(x == ("__debug__" : Str))=false:=by decide)
  (he:starEach (e :: es) X.env=(false,eval e X.env) :: starEach es X.env:=by rfl) (Be:(backTo pos (starEach es X.env)).any (·.1)=false:=by rfl):QE X (.Call (.Name x p) (e :: es) [] pos) (CL sp [] E0 t):=ig h hr hk ha hg Cb he Be
def R3 {op:CmpOp}{r:R2}(ho:Ay X (compareOp op) r) (ha:QE X a ta) (hb:QE X b tb) (hm:behindInMarks op b=false:=by first | exact de _ | with_unfolding_all rfl):QE X (.Compare a [op] [b] pos) (BH r ta tb):=iV ho ha hb hm
def BB {op:CmpOp}{r:R2}(ho:Ay X (compareOp op) r) (ha:QE X a ta) (hb:QE X b tb) (hm:behindInMarks op b=false:=by first | exact de _ | with_unfolding_all rfl):QT X (.Compare a [op] [b] pos) (Lh (BH r ta tb)):=gA ho ha hb hm
def Aq (i:Nat){x:Str}{pos':Pos}(hN:X.N.Nodup) (he:QE X e te) (hi:X.N[i]?=some x:=by rfl) (hx:Loc X.env.scope x:=by first | exact Or.inl rfl | exact Or.inr rfl) (hs:swapsWith e (some (.Name x pos')) pos.line X.env=pure false:=by rfl) (hf:X.fn x=true∨X.env.scope.names.lookup x=some .local:=by first | exact .inl rfl | exact .inr rfl | assumption) :
  QS X (.Assign [.Name x pos'] e pos) (E8 te (CV i)):=jM hN hi hx he hs hf
def DN (i:Nat){x:Str}(hN:X.N.Nodup) (hi:X.N[i]?=some x:=by rfl) (hx:Loc X.env.scope x:=by first | exact Or.inl rfl | exact Or.inr rfl) (hf:X.fn x=true∨X.env.scope.names.lookup x=some .local:=by first | exact .inl rfl | exact .inr rfl | assumption):QG X (.Name x pos) (CV i):=yr hN hi hx hf
end
section
variable {X:Cx}{pins:ZAZ}{σ:St} {H:Hp}{s:Shared}{a:Addr}{A3:List (Str×Addr)}
end
section
variable {X:Cx}
def dB {x y:Str}{t:Tok}:Ds (.str x) (.str y t)=(y == x):=rfl
theorem UC (x:Str):∀ (ss:List Str) (m:Nat) (hm:m < ss.length),m < ss.idxOf x->ss[m]≠x
 | [],_,hm,_=>absurd hm (Nat.not_lt_zero _)
 | a :: r,m,hm,h=>by
  rw [List.idxOf_cons] at h
  by_cases e:a=x
  ·have:(a == x)=true:=by simpa using e
   rw [this] at h
   exact absurd h (Nat.not_lt_zero _)
  ·have e':(a == x)=false:=by simpa using e
   rw [e'] at h
   cases m with
   | zero=>exact e
   | succ k=>
    have h':k+1 < r.idxOf x+1:=h
    exact UC x r k (by simpa using hm) (by omega)
def Om {ss:List Str}{x:Str}(h:x∈ss):∃ hj:ss.idxOf x < ss.length,ss[ss.idxOf x]=x/\∀ m (hm:m < ss.length),m < ss.idxOf x->ss[m]≠x:=by
 have hj:ss.idxOf x < ss.length:=List.idxOf_lt_length_iff.mpr h
 exact ⟨hj,IG hj,fun m hm AN=>UC x ss m hm AN⟩
def b6 (K:ZAY):V->List V->Hp->VK->Prop:=fun x vs H Q=>∃ (l:Addr) (ss:List Str) (y:Str),x=.ref l/\vs=[.str y]/\AJ K H l (ss.map V.str)/\y∈ss/\Q (.int (ss.idxOf y:Nat)) H
def Zp:Ec X "list.index" (b6 X.K):=by
 intro pins s σ H x vs v us Q I rx rv h
 obtain ⟨l,ss,y,rfl,rfl,hq,hy,q⟩:=h
 cases rx
 obtain ⟨u,rfl,ru⟩:=rv.one
 obtain ⟨A1,r,pl,hz⟩:=I.list hq
 obtain ⟨⟨c,d,dt,sl⟩,n,ho,hc,hd,PD⟩:=id pl
 simp only at hc hd PD
 subst hc;subst hd;subst PD
 have hl:=r.length
 rw [AE] at hl
 obtain ⟨hj,jh,qD⟩:=Om hy
 have at':∀ (m:Nat) (hm:m < A1.toArray.size),∃ t,A1.toArray[m]=.str (ss[m]'(by simp at hm;omega)) t:=fun m hm=>by
  have wJ:m < A1.length:=by simpa using hm
  obtain ⟨h2,t,e⟩:=ot r (Ad wJ)
  exact ⟨t,by simpa using e⟩
 have bY:ss.idxOf y < A1.toArray.size:=by simp;omega
 refine call_meets gs ⟨_,ho,rfl⟩ PySem.F.entry_list_index (PySem.F.args_list_index_2 _ _) (SeqAt.list_indexAt l A1.toArray n none sl u (Ds (.str y)) (ss.idxOf y) bY ?_ ?_ (fun m hm AN=>?_)) ⟨ho,fun z rG=>Kt ru rfl r (by
   rw [HD];intro w hw;obtain ⟨y',_,rfl⟩:=List.mem_map.mp hw;rfl) z (by simpa using rG),?_⟩
 ·have h1:ss.length<=sizeLine:=by rw [AE] at hz;exact hz
  have h2:=Ir
  have h3:((sizeLine:Nat):Int) < 2 ^ 63:=by exact_mod_cast h2
  omega
 ·obtain ⟨t,e⟩:=at' _ bY
  rw [e,dB];simpa using jh
 ·obtain ⟨t,e⟩:=at' _ hm
  rw [e,dB]
  have:=qD m (by simp at hm;omega) AN
  simpa using this
 ·exact ⟨.int _,H,I.tok _,⟨_,rfl⟩,q⟩
end
section
variable {prog:Program}{w:World}{A:Around}{s:Shared}{R:Result->Shared->Prop}
variable {I:Addr}{fp wr:List Addr}{G:Array GenState->Array GenState->Prop}{n:Nat}{P:Nat->Value->Prop}{St:Nat->Shared->Prop}
end
section
variable {prog:Program}{w:World}{A:Around}{E:Value->Shared->Prop}{s:Shared}
variable {I:Addr}{fp wr:List Addr}{G:Array GenState->Array GenState->Prop}{n:Nat}{P:Nat->Value->Prop}{St:Nat->Shared->Prop}
end
section
variable {prog:Program}{w:World}{A:Around}{E:Value->Shared->Prop}{s:Shared}
end
section
variable {prog:Program}{w:World}{A:Around}{s:Shared}{R:Result->Shared->Prop}
variable {I:Addr}{l:Addr}{items:Array Value}
end
section
variable {prog:Program}{w:World}{A:Around}{E:Value->Shared->Prop}{s:Shared}
end
end L2
namespace HT
section
variable {prog:Program}{w:World}{A:Around}{E:Value->Shared->Prop}{s:Shared}
end
end HT
namespace L2
section
variable {X:Cx}
def xC (K:ZAY):V->Option Int->Option Int->Hp->VK->Prop:=fun x lo hi H Q=>∃ a xs,x=.ref a/\Ab K H a xs/\
 ((HT.CF xs.length 0 lo=0/\HT.CF xs.length xs.length hi=xs.length)->Q (.ref a) H)/\(¬ (HT.CF xs.length 0 lo=0/\HT.CF xs.length xs.length hi=xs.length)->∀ p,H p=none->Q (.ref p) (upd H p (.tup (FT xs lo hi))))
def kj (K:ZAY) (t:TA):TE:=fun σ H Q=>t σ H fun vs H1=>∃ a tp ys,vs=[.ref a]/\Ej K tp H1 a ys/\∀ l,H1 l=none->Q (.ref l) (upd H1 l (.lst ys.reverse))
def Inv.eY {pins:ZAZ}{σ:St} {H:Hp}{s:Shared}{h':Heap}{t':Nat}{fp:List Addr}(I:Inv X pins σ H s) (hf:∀ b∈fp,Bv X pins H b) (k:∀ b o,b∉fp->s.heap.get? b=some o->h'.get? b=some o) :
  Inv X pins σ H { s with heap:=h',toks:=t' }:=by
 have IV:∀ b u,H b=some u->b∉fp:=fun b u e z=>by rw [(hf b z).1] at e;cases e
 refine I.step (g':=s.gens) (d':=s.drawn) (ch:=fp) (fun b hb=>?_) (fun b o _ _ hc e _=>k b o hc e) (fun b o _ _ hc e _=>⟨o.slots,k b o hc e⟩) (fun _ _ _ _ n=>n)
  (fun b o hc e=>⟨o,k b o hc e⟩) (fun _ _ e=>e) (fun _ _ _ e=>e) (fun b ps e=>⟨#[],by rw [e];simp⟩) (fun m hm=>?_) (fun b u e=>?_) I.bare
 ·obtain ⟨_,h1,_,h3,h4,h5⟩:=hf b hb
  exact ⟨h3,h1,h4,h5⟩
 ·obtain ⟨o,es,ep,ho,r⟩:=hm
  exact ⟨o,es,ep,k _ o (fun z=>(hf _ z).2.1 rfl) ho,r⟩
 ·refine (I.AF b u e).Kj (fun c v hc q=>k c v ?_ q) (fun _ q=>q) fun _ _ q=>q
  rcases hc with z | z
  ·rw [z];exact IV b u e
  ·exact IV c _ z
def Inv.fL {pins:ZAZ}{σ:St} {H:Hp}{s:Shared}{h':Heap}{t':Nat}{fp:List Addr}{a:Addr}{o:HO}(I:Inv X pins σ H s) (hf:∀ b∈fp,Bv X pins H b) (k:∀ b o,b∉fp->s.heap.get? b=some o->h'.get? b=some o)
  (ha:s.heap.objs.size<=a) (new:C4 X.prog X.w (upd H a o) h' a o):Inv X pins σ (upd H a o) { s with heap:=h',toks:=t' }:=by
 have hn:H a=none:=I.AF.fresh ha
 have IV:∀ b u,H b=some u->b∉fp:=fun b u e z=>by rw [(hf b z).1] at e;cases e
 have ne:∀ b u,H b=some u->b≠a:=fun b u e=>DA e hn
 have ne2:∀ b u,s.heap.get? b=some u->b≠a:=fun b u e=>C8 (Cy (B0 e) ha)
 refine I.step (g':=s.gens) (d':=s.drawn) (ch:=fp) (fun b hb=>?_) (fun b o _ _ hc e _=>k b o hc e) (fun b o _ _ hc e _=>⟨o.slots,k b o hc e⟩) (fun b o _ e n=>by rw [AR (ne2 b o e)];exact n)
  (fun b o hc e=>⟨o,k b o hc e⟩) (fun b _ e=>by rw [AR (ne b _ e)];exact e) (fun b _ _ e=>by rw [AR (ne b _ e)];exact e) (fun b ps e=>⟨#[],by rw [AR (ne b _ e),e];simp⟩) (fun m hm=>?_) (fun b u e=>?_) I.bare
 ·obtain ⟨_,h1,_,h3,h4,h5⟩:=hf b hb
  exact ⟨h3,h1,h4,h5⟩
 ·obtain ⟨o,es,ep,ho,r⟩:=hm
  exact ⟨o,es,ep,k _ o (fun z=>(hf _ z).2.1 rfl) ho,r⟩
 ·by_cases hb:b=a
  ·subst hb
   rw [Aa] at e;cases e
   exact new
  ·rw [AR hb] at e
   refine (I.AF b u e).Kj (fun c v hc q=>k c v ?_ q) (fun c q=>by rw [AR (ne c _ q)];exact q) fun c _ q=>by rw [AR (ne c _ q)];exact q
   rcases hc with z | z
   ·rw [z];exact IV b u e
   ·exact IV c _ z
def lR (K:ZAY) (a:Addr) (xs:List V):It:=
 ⟨fun i H=>AJ K H a xs/\i < xs.length,fun i H x H'=>∃ p y,xs[i]?=some y/\x=.ref p/\H p=none/\H'=upd H p (.tup [.int i,y]),fun i H=>AJ K H a xs/\xs.length<=i⟩
def nt {P:Program}{w:World}{K:ZAY}{es:List Expr}{k1:Nat}{p1:Pos}(a e it:Addr) (xs:List V) (Ld:e≠it) :
  Turn P w K (.Tuple es k1 p1) (lR K a xs) [e,it] e (fun i h=>(∃ old,IsEnum h e it i old)/\h.IsListIter it a i) where
 mem:=by simp
 obj:=fun i h st b hb=>by
  obtain ⟨⟨old,h1⟩,o,h2,_,d⟩:=st
  rcases List.mem_cons.mp hb with z | z
  ·subst z;exact ⟨_,h1,fun v z=>by cases z⟩
  ·have:b=it:=by simpa using z
   subst this
   exact ⟨o,h2,fun v z=>by rw [d] at z;cases z⟩
 keep:=fun i h h' st k=>⟨let ⟨old,h1⟩:=st.1;⟨old,k e (by simp) _ h1⟩,st.2.at fun o q=>k it (by simp) o q⟩
 item:=by
  intro X hP hw hK hc i pins s σ H E I hf st hg
  subst hP hw hK
  obtain ⟨hq,hi⟩:=hg
  obtain ⟨⟨old,he⟩,hit⟩:=st
  obtain ⟨A1,rv,p,hz⟩:=I.list hq
  obtain ⟨u,hu,ru⟩:=rv.get (Ad hi)
  refine wpAny_pyNext_enum_item he hit p.isList (x:=u) (by simpa using hu) Ld fun h1 Ge j5 Tt ay WE=>⟨_,rfl,?_⟩
  refine wpAny_letOwnedTupleGo_enum Ge fun h2 U5 CD=>?_
  have AN:e < s.heap.objs.size:=B0 he
  have MM:h2.get? s.heap.objs.size=some { cls:=.type "tuple", data:=.seq #[.int i s.toks,u] }:=(CD.2 _ (Oh AN)).trans Tt
  have kp:∀ b o,b∉[e,it]->s.heap.get? b=some o->h2.get? b=some o:=fun b o hb q=>by
   have D0:b≠e/\b≠it:=by simpa using hb
   exact (CD.2 b D0.1).trans (WE b o D0.1 D0.2 q)
  refine ⟨.ref s.heap.objs.size,_,I.fL (t':=s.toks+1) (a:=s.heap.objs.size) (o:=.tup [.int i,xs[i]]) hf kp (Ae _) ?_,rfl,⟨_,_,Ad hi,rfl,I.AF.fresh (Ae _),rfl⟩,⟨⟨_,U5⟩,j5.at fun o q=>(CD.2 it (Bi Ld)).trans q⟩,fun b hb=>?_⟩
  ·exact ⟨(by show 2<=sizeLine;decide),[.int i s.toks,u],.cons ⟨_,rfl⟩ (.cons ru .nil),⟨_,MM,rfl,_,rfl⟩,fun ob q=>by rw [MM] at q;cases q;rfl⟩
  ·have qw:b < s.heap.objs.size:=by
    rcases List.mem_cons.mp hb with z | z
    ·rw [z];exact AN
    ·have:b=it:=by simpa using z
     obtain ⟨o,q,_⟩:=hit
     rw [this];exact B0 q
   rw [AR (C8 qw)]
   exact (hf b hb).1
 done:=by
  intro X hP hw hK hc i pins s σ H E I hf st hg
  subst hP hw hK
  obtain ⟨hq,hx⟩:=hg
  obtain ⟨⟨old,he⟩,hit⟩:=st
  obtain ⟨A1,rv,p,hz⟩:=I.list hq
  have hl:=rv.length
  exact wpAny_pyNext_enum_end (I.ok.hd hc) he hit p.isList (by simp;omega) fun h' eb=>⟨rfl,I.eY (t':=s.toks) hf fun b o hb q=>eb b o (fun z=>hb (by simp [z])) q⟩
 self:=fun _ _ _ _ _ st h=>let ⟨⟨_,he⟩,_⟩:=st;wpAny_pyIter_enum he h
end
open AutoSeq1 (wpAny_loadPart')
section
variable {prog:Program}{w:World}{A:Around}{E:Value->Shared->Prop}{s:Shared}
end
section
variable {X:Cx}
end
section
variable {M:Model}{A:Around}{E:Value->Shared->Prop}{s:Shared}{env:Env}
end
section
variable {X:Cx}
end
section
variable {prog:Program}{w:World}{A:Around}{E:Value->Shared->Prop}{s:Shared}
end
section
variable {X:Cx}{o:Expr}{lo hi:Option Expr}{to:TE}{tl th:TO}{pos p2:Pos}
end
section
variable {X:Cx}{e:Expr}{te:TE}{pos p2:Pos}
end
def mN (t:SetTable) (n:Nat):(t.orStandIn n).led=t.led:=by unfold SetTable.orStandIn;split <;> rfl
def YK (t:SetTable) (es:Array (Int×Value)) (h:Int) (x:Value):(layNew t es h x).2.1.led=t.led:=by
 unfold layNew
 split
 ·show (SetTable.orStandIn (t.put _).1 _).led=t.led
  rw [mN];rfl
 ·rfl
def Y1 {mask finger moves:Nat}{led plain:Bool}{hs:Array Int}{p:SetTable×Array Nat}(h:SetTable.laid mask finger moves led plain hs=some p):p.1.led=led/\p.1.plain=plain:=by
 unfold SetTable.laid at h
 cases hc:SetTable.layClean mask hs with
 | none=>rw [hc] at h;cases h
 | some ow=>rw [hc] at h;cases h;exact ⟨rfl,rfl⟩
def yp (t:SetTable) (es:Array (Int×Value)) (n:Nat) (hp:t.plain=false):(relayAll t es n).2.1.led=t.led/\(relayAll t es n).2.1.plain=false:=by
 unfold relayAll
 split
 ·next t' order hr=>
  have q:=Y1 (p:=(t',order)) hr
  dsimp only at q ⊢
  split
  ·exact ⟨q.1,q.2.trans hp⟩
  ·exact ⟨rfl,rfl⟩
 ·exact ⟨rfl,rfl⟩
def c5 (w:World):Bool:=w.params.followText "set-order"
def QL (prog:Program) (w:World) (h:Heap) (a:Addr) (S:Str->Bool) (n:Nat):Prop:=
 ∃ o es ep t,h.get? a=some o/\o.ExactSet/\o.data=.set es ep t/\ElemsOf (PySem.strKind prog w) es.toList/\(∀ k,S k=true↔∃ e∈es.toList,(PySem.strKind prog w).is k e.2=true)/\
  es.size < scanBound/\t.fits es.size=true/\es.size=n/\(t.led=!c5 w)/\(0 < es.size->t.plain=false)
section
variable {prog:Program}{w:World}{A:Around}{E:Value->Shared->Prop}{s:Shared}
def R4 {h:Heap}{a:Addr}{o:Obj}{es:Array (Int×Value)}{ep:Nat}{t:SetTable}(ho:h.get? a=some o) (hd:o.data=.set es ep t) (Cd:Array (Int×Value)) (t':SetTable) :
  (h.update a (Obj.putSet Cd t')).get? a=some { o with data:=.set Cd (ep+1) t' }:=by
 have q:=OX (Obj.putSet Cd t') ho (by rw [putSet_of Cd t' hd];rfl)
 rw [q,putSet_of Cd t' hd]
def QL.put {a:Addr}{S:Str->Bool}{n:Nat}{k:Str}{tk:Tok}{Q:Bool->Shared->Prop}(hS:QL prog w s.heap a S n) (Ka:n+1 < scanBound)
  (h:∀ h',Heap.SameBut a s.heap h'->QL prog w h' a (fun k'=>S k' || decide (k'=k)) (if S k then n else n+1)->Q (!S k) { s with heap:=h' }) :
  wpAny (model prog w) A (setAddHashed a (.str k tk) ((PySem.strKind prog w).hash k)) Q E s:=by
 obtain ⟨o,es,ep,t,ho,hex,hd,Hs,C6,hb,hf,hn,Nk,Be⟩:=hS
 have Hf:(PySem.strKind prog w).is k (.str k tk)=true:=PySem.strKind_is prog w k tk
 have K3:(Value.str k tk).scannable=true:=rfl
 have rm:es.size+1 < scanBound:=by rw [hn];exact Ka
 have gw:∀ (b:Bool) (s1:Shared) (Q1:Unit->Shared->Prop),Q1 () s1->wpAny (model prog w) A (match b with | true=>rule "set.scan.the-table-gave-way" | false=>pure ()) Q1 E s1:=by
  intro b s1 Q1 q;cases b
  ·exact wpAny_pure q
  ·exact wpAny_rule q
 unfold setAddHashed setAddHashedIn
 refine wpAny_holding ?_
 refine wpAny_bind (wpAny_setState_of ho hd hf ?_)
 dsimp only
 rw [byScan_of K3 hb Hs]
 simp only [↓reduceIte]
 unfold setAddByScan
 refine wpAny_bind ?_
 refine wpAny_bind (wpAny_rule ?_)
 refine wpAny_bind (wpAny_setScan_of Hf ho hd hf Hs ?_)
 cases hr:List.findIdx? (fun e=>(PySem.strKind prog w).is k e.2) es.toList with
 | some j=>
  dsimp only
  obtain ⟨hj,Tx,_⟩:=List.findIdx?_eq_some_iff_getElem.mp hr
  have hk:S k=true:=(C6 k).mpr ⟨es.toList[j],HE hj,Tx⟩
  refine wpAny_pure ?_
  refine wpAny_pure ?_
  have q:=h s.heap (Heap.SameBut.refl a s.heap) ⟨o,es,ep,t,ho,hex,hd,Hs,fun k'=>by
   rw [<- C6 k',Bool.or_eq_true,decide_eq_true_eq]
   exact ⟨fun z=>z.elim id fun e=>e▸hk,Or.inl⟩,hb,hf,by rw [if_pos hk];exact hn,Nk,Be⟩
  rw [hk] at q
  exact q
 | none=>
  dsimp only
  have hk:S k=false:=by
   cases e:S k with
   | false=>rfl
   | true=>
    obtain ⟨x,hx,hp⟩:=(C6 k).mp e
    have q:=List.findIdx?_eq_none_iff.mp hr x hx
    rw [hp] at q;exact Bool.noConfusion q
  have p1:=layNew_perm t es ((PySem.strKind prog w).hash k) (.str k tk)
  have f1:=layNew_fits t es ((PySem.strKind prog w).hash k) (.str k tk)
  have l1:=YK t es ((PySem.strKind prog w).hash k) (.str k tk)
  generalize layNew t es ((PySem.strKind prog w).hash k) (.str k tk)=L at p1 f1 l1 ⊢
  obtain ⟨Au,t1,wd,gv⟩:=L
  dsimp only at p1 f1 l1 ⊢
  rw [zE] at p1
  have U3:ElemsOf (PySem.strKind prog w) Au.toList:=(Hs.push Hf K3).perm p1
  have m1:∀ k',(S k' || decide (k'=k))=true↔∃ e∈Au.toList,(PySem.strKind prog w).is k' e.2=true:=mem_push_iff Hf C6 p1
  have z1:Au.size=n+1:=by rw [<- Cw,p1.length_eq,BK,Cw,hn];rfl
  have b1:Au.size < scanBound:=by rw [z1];exact Ka
  have fin:∀ (h':Heap) (o':Obj) (Cd:Array (Int×Value)) (GQ:Nat) (t':SetTable),Heap.SameBut a s.heap h'->h'.get? a=some o'->o'.ExactSet->o'.data=.set Cd GQ t'->Cd.toList.Perm Au.toList->t'.fits Cd.size=true->t'.led=t.led->t'.plain=false->
    Q true { s with heap:=h' }:=by
   intro h' o' Cd GQ t' sb go xo d' pp ff ll pf
   have zz:Cd.size=n+1:=by rw [<- z1,<- Cw,pp.length_eq,Cw]
   have q:=h h' sb ⟨o',Cd,GQ,t',go,xo,d',U3.perm pp,fun k'=>(m1 k').trans ⟨fun ⟨e,he,q⟩=>⟨e,pp.mem_iff.mpr he,q⟩,fun ⟨e,he,q⟩=>⟨e,pp.mem_iff.mp he,q⟩⟩,by rw [zz];exact Ka,ff,by rw [hk];exact zz,ll.trans Nk,fun _=>pf⟩
   rw [hk] at q
   exact q
  have tail:∀ (t2:SetTable),t2.fits Au.size=true->t2.led=t.led->t2.plain=false->wpAny (model prog w) A (do
    storeSet a Au t2
    if (
      !wd && t2.tooFull)=true then do
      (match (relayAll t2 Au (SetTable.grown Au.size)).2.2 with | true=>rule "set.scan.the-table-gave-way" | false=>pure ())
      storeSet a (relayAll t2 Au (SetTable.grown Au.size)).1 (relayAll t2 Au (SetTable.grown Au.size)).2.1
      pure (some true)
     else pure (some true)) (fun r s'=>match r with | some b=>Q b s' | none=>False) E s:=by
   intro t2 f2 l2 Oq
   refine wpAny_bind (wpAny_storeSet_of ho hd ?_ (fits_of_scanBound b1))
   have o1:=R4 ho hd Au t2
   have Mz:=OW s.heap a (Obj.putSet Au t2)
   split
   ·have p3:=relayAll_perm t2 Au (SetTable.grown Au.size)
    have f3:=relayAll_fits t2 Au (SetTable.grown Au.size)
    have l3:=yp t2 Au (SetTable.grown Au.size) Oq
    generalize relayAll t2 Au (SetTable.grown Au.size)=Rl at p3 f3 l3 ⊢
    obtain ⟨Jr,t3,g3⟩:=Rl
    dsimp only at p3 f3 l3 ⊢
    have z3:Jr.size=Au.size:=by rw [<- Cw,p3.length_eq,Cw]
    refine wpAny_bind (gw _ _ _ ?_)
    refine wpAny_bind (wpAny_storeSet_of o1 rfl ?_ (fits_of_scanBound (by rw [z3];exact b1)))
    refine wpAny_pure ?_
    exact fin _ _ Jr _ t3 (Mz.trans (OW _ a _)) (R4 o1 rfl Jr t3) hex rfl p3 f3 (l3.1.trans l2) l3.2
   ·exact wpAny_pure (fin _ _ Au _ t2 Mz o1 hex rfl (List.Perm.refl _) f2 l2 Oq)
  refine wpAny_bind (gw _ _ _ ?_)
  split
  ·next LB=>
   refine wpAny_bind ?_
   rw [hashByValue_scannable 8 K3]
   refine wpAny_pure ?_
   refine wpAny_mono (tail { t1 with plain:=false } (SetTable.fits_plain_off f1) l1 rfl) (fun r s' q=>?_) fun _ _ e=>e
   cases r with
   | none=>exact q.elim
   | some b=>exact wpAny_pure q
  ·next LB=>
   refine wpAny_bind (wpAny_pure ?_)
   simp only [↓reduceIte]
   refine wpAny_mono (tail t1 f1 l1 (by simpa using LB)) (fun r s' q=>?_) fun _ _ e=>e
   cases r with
   | none=>exact q.elim
   | some b=>exact wpAny_pure q
end
section
variable {prog:Program}{w:World}{A:Around}
end
def T4 {prog:Program}{w:World}{l:List (Int×Value)}(h:ElemsOf (PySem.strKind prog w) l):∃ ts,StrsAre (l.map (·.2)) ts/\∀ k,k∈ts↔∃ e∈l,(PySem.strKind prog w).is k e.2=true:=by
 induction l with
 | nil=>exact ⟨[],.nil,fun k=>by simp⟩
 | cons e r ih=>
  obtain ⟨ts,h1,h2⟩:=ih h.tail
  obtain ⟨⟨k,hk,_⟩,_⟩:=h.head
  obtain ⟨tk,he⟩:=Value.isStrOf_shape hk
  refine ⟨k :: ts,?_,fun k'=>?_⟩
  ·rw [BL,he];exact .cons k tk h1
  ·rw [EW,h2 k']
   constructor
   ·rintro (rfl | ⟨x,hx,q⟩)
    ·exact ⟨e,HH,hk⟩
    ·exact ⟨x,Fx _ hx,q⟩
   ·rintro ⟨x,hx,q⟩
    rcases List.mem_cons.mp hx with rfl | hx
    ·exact .inl ((PySem.strKind prog w).inj x.2 k' k q hk)
    ·exact .inr ⟨x,hx,q⟩
theorem StrsAre.len:∀ {vs:List Value}{ss:List Str},StrsAre vs ss->vs.length=ss.length
 | _,_,.nil=>rfl
 | _,_,.cons _ _ h=>by rw [BZ,BZ,StrsAre.len h]
section
variable {prog:Program}{w:World}{A:Around}{E:Value->Shared->Prop}{s:Shared}
end
section
variable {prog:Program}{w:World}{A:Around}{R:Result->Shared->Prop}{I:Addr}{fp wr:List Addr}{G:Array GenState->Array GenState->Prop}{n:Nat}{P:Nat->Value->Prop}{St:Nat->Shared->Prop}{ss:List Str}
end
section
variable {prog:Program}{w:World}{A:Around}{E:Value->Shared->Prop}{s:Shared}{ss:List Str}
end
def V6 (P:Program) (w:World) (a:Addr) (f:Str->Bool) (n:Nat):HO:=.ext fun h=>QL P w h a f n
section
variable {X:Cx}
def Inv.drew {pins:ZAZ}{σ:St} {H:Hp}{s:Shared}(I:Inv X pins σ H s) (d:Drawn):Inv X pins σ H { s with drawn:=d }:=
 I.step (h':=s.heap) (g':=s.gens) (t':=s.toks) (d':=d) (ch:=[]) (fun _ z=>nomatch z) (fun b o _ _ _ e _=>e) (fun b o _ _ _ e _=>⟨o.slots,e⟩) (fun _ _ _ _ n=>n) (fun b o _ e=>⟨o,e⟩) (fun _ _ e=>e) (fun _ _ _ e=>e) (fun b ps e=>⟨#[],by rw [e];simp⟩) (fun m hm=>hm) I.AF I.bare
end
section
variable {prog:Program}{w:World}{A:Around}{E:Value->Shared->Prop}{s:Shared}
end
section
variable {X:Cx}
def nZ (K:ZAY):List V->Hp->VK->Prop:=fun xs H Q=>∃ (p:Addr) (tp:Bool) (ss:List Str),xs=[.ref p]/\Ej K tp H p (ss.map V.str)/\ss.length < 64/\∀ l A8,H l=none->A8.Perm ss->sortedS A8=true->Q (.ref l) (upd H l (.lst (A8.map V.str)))
def uA (P:Program) (w:World):List V->Hp->VK->Prop:=fun xs H Q=>∃ (p:Addr) (f:Str->Bool) (n:Nat),xs=[.ref p]/\H p=some (V6 P w p f n)/\n < 64/\∀ l ts,H l=none->ts.length=n->(∀ k,f k=true↔k∈ts)->sortedS ts=true->Q (.ref l) (upd H l (.lst (ts.map V.str)))
end
inductive Hn (K:ZAY) (H:Hp):Nat->V->V->Prop where
 | flat {d:Nat}{x y:V}:Dd x=true->Dd y=true->Ca x y=true->Hn K H d x y
 | same {d:Nat}{p:Addr}:Hn K H d (.ref p) (.ref p)
 | tup {d:Nat}{p q:Addr}{xs ys:List V}:Ab K H p xs->Ab K H q ys->xs.length=ys.length->(∀ (j:Nat) (x y:V),xs[j]?=some x->ys[j]?=some y->Hn K H d x y)->Hn K H (d+1) (.ref p) (.ref q)
def Hn.mono {K:ZAY}{H H':Hp}(s:AD H H'){d:Nat}{x y:V}(h:Hn K H d x y):Hn K H' d x y:=by
 induction h with
 | flat a b c=>exact .flat a b c
 | same=>exact .same
 | tup a b c _ ih=>exact .tup (s.Nb a) (s.Nb b) c ih
section
variable {X:Cx}{pins:ZAZ}{σ:St} {H:Hp}{s:Shared}
end
def UJ (b:Bool) (v:Value):Bool:=match v with
 | .bool c=>c == b
 | _=>false
def JO {b:Bool}{v:Value}(h:UJ b v=true):v=.bool b:=by
 cases v <;> simp_all [UJ]
def dF (b:Bool):Int:=if b then 1 else 0
def qR {prog:Program}{w:World}{A:Around}{E:Value->Shared->Prop}{s:Shared}{b:Bool}{Q:Int->Shared->Prop}(h:Q (dF b) { s with toks:=s.toks+1 }) :
  wpAny (model prog w) A (PySem.pyHash (.bool b)) Q E s:=by
 unfold PySem.pyHash
 have hT:s.TypeIs (.bool b) "bool" := rfl
 have hv:[Value.bool b].any Value.onHeap=false:=rfl
 refine wpAny_bind ?_
 rw [cRoomFor,if_neg (by rw [hv];exact CQ)];refine wpAny_pure ?_
 refine wpAny_bind (wpAny_specialOf hT F.slot_bool_hash.lookup ?_)
 show wpAny _ _ (if (some (Value.builtin "int.__hash__") == some Value.none)=true then _ else _) Q E s
 rw [if_neg (by rw [beq_builtin_none];exact CQ)]
 refine wpAny_bind (wpAny_specialOf hT F.slot_bool_hash.lookup ?_)
 show wpAny _ _ (callSpecialIfBoundUnlessNone? (.bool b) "__hash__" _ >>= _) Q E s
 refine wpAny_bind (wpAny_callSpecialIfBoundUnlessNone?_slot hT F.slot_bool_hash
  (wpAny_call_entry F.slot_bool_hash hT entry_int_hash ?_ (args_int_hash _)))
 cases b
 ·refine (show wpAny _ _ (do ret (<- mkInt 0)) _ _ s from wpAny_ret_mkInt ?_)
  show wpAny _ _ (if (decide (-(2:Int) ^ 63<=0) && decide ((0:Int) < 2 ^ 63))=true then _ else _) Q E _
  rw [if_pos (by decide)]
  exact wpAny_pure h
 ·refine (show wpAny _ _ (do ret (<- mkInt 1)) _ _ s from wpAny_ret_mkInt ?_)
  show wpAny _ _ (if (decide (-(2:Int) ^ 63<=1) && decide ((1:Int) < 2 ^ 63))=true then _ else _) Q E _
  rw [if_pos (by decide)]
  exact wpAny_pure h
def nE (prog:Program) (w:World):PySem.KeyKind prog w Bool where
 is:=UJ
 hash:=dF
 inj:=fun v a b ha hb=>by
  cases JO ha
  have q:=JO hb
  injection q
 byValue:=fun k v h=>by cases JO h;rfl
 pyHash:=fun hv h=>by cases JO hv;exact qR h
 eqBool:=fun {A E s a b u v Q} hu hv h=>by
  cases JO hu;cases JO hv
  exact SeqAt.EqAt.bool_bool a b _ _ _ _ (by
   have e:(a == b)=decide (a=b):=by cases a <;> cases b <;> rfl
   rw [e];exact h)
 «strs»:=fun k x t v h=>by cases JO h
section
variable {prog:Program}{w:World}{A:Around}{E:Value->Shared->Prop}{s:Shared}
end
theorem Sn:∀ {ss:List Int}{us:List Value},Vals (ss.map V.int) us->IntsAre us ss
 | [],_,.nil=>.nil
 | x :: r,_,.cons ⟨t,e⟩ h=>by rw [e];exact .cons x t (Sn h)
section
variable {X:Cx}
end
end L2
namespace HT
open AutoSeq1 (wpAny_loadPart')
def pK (tu:Addr) (vals:Array Value) (k:Nat) (dc:Option Addr) (Uj:Array (Option Value)) :
  Meets (Builtin.«enumerate.__new__» ⟨[.type "enumerate", .ref tu],[]⟩) (fun _ R s=>s.heap.get? tu=some { cls:=.type "tuple", dict:=dc,data:=.seq vals k,slots:=Uj }/\R (.ok (.ret (.ref (s.heap.push { cls:=.type "tuple_iterator", data:=.fields #[.ref tu,.int 0 0] }).objs.size)))
    { s with heap:=(s.heap.push { cls:=.type "tuple_iterator", data:=.fields #[.ref tu,.int 0 0] }).push { cls:=.type "enumerate", data:=.fields #[.none,.bool false,.ref s.heap.objs.size,rawInt 0,.none,.none] } }):=.of_wp fun prog w A R s h=>by
 obtain ⟨hp,g,d,tk,os⟩:=s;obtain ⟨ho,h⟩:=h;have sb:=sub_enumerate
 have hT:Heap.IsTuple (Shared.heap ⟨hp,g,d,tk,os⟩) tu vals:=⟨_,ho,rfl,k,rfl⟩
 wp_walk using wpAny_loadPart' ho
 refine wpAny_stack_any fun fr=>wpAny_pure ?_
 split
 ·rename_i c _ _ _ _ _
  cases (c == Value.type "enumerate") <;> (wp_walk using wpAny_loadPart' ho,wpAny_pyIter_tuple hT;exact ⟨_,rfl,h⟩)
 ·wp_walk using wpAny_loadPart' ho,wpAny_pyIter_tuple hT
  exact ⟨_,rfl,h⟩
section
variable {prog:Program}{w:World}{A:Around}{E:Value->Shared->Prop}{s:Shared}
def vp {tu:Addr}{vals:Array Value}{Q:Value->Shared->Prop}(hT:s.heap.IsTuple tu vals)
  (q:∀ h',IsEnum h' (s.heap.objs.size+1) s.heap.objs.size 0 .none->h'.IsTupleIter s.heap.objs.size tu 0->h'.objs.size=s.heap.objs.size+2->(∀ b o,s.heap.get? b=some o->h'.get? b=some o)->Q (.ref (s.heap.objs.size+1)) { s with heap:=h' }) :
  wpAny (model prog w) A (call (.type "enumerate") [.ref tu]) Q E s:=by
 obtain ⟨⟨c,dc,dt,Uj⟩,ho,hc,k,hd⟩:=hT
 replace hc:c=.type "tuple" := hc;replace hd:dt=.seq vals k:=hd;subst hc hd
 refine callType_new F.called_enumerate (by decide) (F.typeCall_enumerate_1 _) (F.newCall_enumerate_1 _) (fun ob=>F.args_object_init_2 ob _) F.entry_enumerate_new (pK tu vals k dc Uj) ⟨ho,?_⟩
 have z:(s.heap.push { cls:=.type "tuple_iterator", data:=.fields #[.ref tu,.int 0 0] }).objs.size=s.heap.objs.size+1:=JH ..
 show _/\_
 rw [z]
 have he:IsEnum ((s.heap.push { cls:=.type "tuple_iterator", data:=.fields #[.ref tu,.int 0 0] }).push { cls:=.type "enumerate", data:=.fields #[.none,.bool false,.ref s.heap.objs.size,rawInt 0,.none,.none] }) (s.heap.objs.size+1) s.heap.objs.size 0 .none:=by
  have y:=DD (s.heap.push { cls:=.type "tuple_iterator", data:=.fields #[.ref tu,.int 0 0] }) (o:={ cls:=.type "enumerate", data:=.fields #[.none,.bool false,.ref s.heap.objs.size,rawInt 0,.none,.none] }) rfl
  rw [z] at y;exact y
 exact ⟨⟨_,he,rfl⟩,q _ he ⟨_,Br _ (DD _ rfl),rfl,rfl⟩ (by rw [JH,z]) fun b o y=>Br _ (Br _ y)⟩
def iq {it tu:Addr}{i:Nat}{vals:Array Value}{v:Value}{Q:Value->Shared->Prop}(hi:s.heap.IsTupleIter it tu i) (ht:s.heap.IsTuple tu vals) (hv:vals[i]?=some v)
  (q:∀ h',h'.IsTupleIter it tu (i+1)->Heap.SameBut it s.heap h'->Q v { s with heap:=h' }):wpAny (model prog w) A (Builtin.SmallTypes.nextOf (.ref it)) Q E s:=by
 obtain ⟨o,ho,hc,hd⟩:=id hi;obtain ⟨o2,ND,_,k,hd2⟩:=ht;unfold Builtin.SmallTypes.nextOf
 refine wpAny_bind (wpAny_callSpecial?_slot (name:=Str.ofString "__next__") hi.typeIs Xc (wpAny_call_entry Xc hi.typeIs zK ?_ (zJ _)))
 show wpAny _ _ (field (.ref it) 0 >>= _) _ _ s;refine wpAny_bind (wpAny_field ho hd (x:=.ref tu) rfl ?_)
 show wpAny _ _ (if (Value.ref tu == Value.none)=true then _ else _) _ _ s;rw [if_neg (show ¬ ((Value.ref tu == Value.none)=true) from CQ)]
 show wpAny _ _ (field (.ref it) 1 >>= _) _ _ s;refine wpAny_bind (wpAny_field ho hd (x:=.int i 0) rfl ?_)
 show wpAny _ _ (seqItems? (.ref tu) >>= _) _ _ s;refine wpAny_bind (wpAny_seqItems ND hd2 ?_);simp only [IF,hv]
 refine wpAny_bind (wpAny_setField ho hd (by simp) (wpAny_pure ⟨v,rfl,wpAny_pure (q _ ?_ (OW ..))⟩))
 exact ⟨_,OX _ ho (Obj.isFreed_of_fields (Obj.data_mapFields hd _)),(Obj.cls_mapFields ..).trans hc,by rw [Obj.data_mapFields hd];simp [rawInt]⟩
def bO {it tu:Addr}{i:Nat}{vals:Array Value}{Q:Value->Shared->Prop}(hh:A.handled=none) (hi:s.heap.IsTupleIter it tu i) (ht:s.heap.IsTuple tu vals) (hv:vals[i]?=none)
  (q:∀ h' e,Heap.ExtBut it s.heap h'->(∃ o,h'.get? e=some o/\o.cls=.type "StopIteration")->E (.ref e) { s with heap:=h' }):wpAny (model prog w) A (Builtin.SmallTypes.nextOf (.ref it)) Q E s:=by
 obtain ⟨o,ho,hc,hd⟩:=id hi;obtain ⟨o2,ND,_,k,hd2⟩:=ht;unfold Builtin.SmallTypes.nextOf
 refine wpAny_bind (wpAny_callSpecial?_slot (name:=Str.ofString "__next__") hi.typeIs Xc (wpAny_call_entry Xc hi.typeIs zK ?_ (zJ _)))
 show wpAny _ _ (field (.ref it) 0 >>= _) _ _ s;refine wpAny_bind (wpAny_field ho hd (x:=.ref tu) rfl ?_)
 show wpAny _ _ (if (Value.ref tu == Value.none)=true then _ else _) _ _ s;rw [if_neg (show ¬ ((Value.ref tu == Value.none)=true) from CQ)]
 show wpAny _ _ (field (.ref it) 1 >>= _) _ _ s;refine wpAny_bind (wpAny_field ho hd (x:=.int i 0) rfl ?_)
 show wpAny _ _ (seqItems? (.ref tu) >>= _) _ _ s;refine wpAny_bind (wpAny_seqItems ND hd2 ?_);simp only [IF,hv]
 refine wpAny_bind (wpAny_rule (wpAny_bind (wpAny_setField ho hd (by simp) ?_)));show wpAny _ _ (newExc (.type "StopIteration") [] >>= _) _ _ _
 refine wpAny_bind ?_;simp only [newExc,newTuple];refine wpAny_bind (wpAny_newObj_type ?_ (by size_fits))
 refine wpAny_bind (m:=firstArgMember _ _) (wpAny_of_eq (a:=Value.none) (by first | rfl | (simp only [firstArgMember];rfl)) ?_);refine wpAny_newObj_type ?_ (by size_fits)
 simp only [raiseNew];refine wpAny_bind (wpAny_handled ?_);first | rw [show A.in1.handled=none from hh] | rw [hh]
 refine wpAny_bind (wpAny_pure (wpAny_throw ?_));exact q _ _ (((OW ..).extBut.push _).push _) ⟨_,DD _ rfl,rfl⟩
def wM {e it tu:Addr}{vals:Array Value}{i:Nat}{j:Int}{old:Value}{Q:Option Value->Shared->Prop}(hh:A.handled=none) (he:IsEnum s.heap e it j old) (hi:s.heap.IsTupleIter it tu i) (ht:s.heap.IsTuple tu vals) (hv:vals[i]?=none)
  (q:∀ h',Heap.ExtBut it s.heap h'->Q none { s with heap:=h' }):wpAny (model prog w) A (pyNext (.ref e)) Q E s:=by
 have ty:s.TypeIs (.ref e) "enumerate" := ⟨_,he,rfl⟩
 unfold pyNext;refine wpAny_bind (wpAny_attempt (wpAny_callSpecial?_slot (name:=Str.ofString "__next__") ty F.slot_enumerate_next (wpAny_call_entry F.slot_enumerate_next ty F.entry_enumerate_next ?_ (F.args_enumerate_next_1 _))))
 show wpAny _ _ (field (.ref e) 2 >>= _) _ _ _;refine wpAny_bind (wpAny_field he rfl (x:=.ref it) rfl ?_);refine wpAny_bind (bO (show A.in1.handled=none from hh) hi ht hv fun h' x eb hx=>?_)
 obtain ⟨o,ho,hc⟩:=hx
 exact wpAny_bind (wpAny_isInstance (T := "StopIteration") (b:=true) ⟨o,ho,hc⟩ isSubtype_stop (wpAny_pure (q _ eb)))
end
def y9 {prog:Program}{w:World}{A:Around}(hh:A.handled=none) (it tu:Addr) (Ao:tu≠it) (vals:Array Value) :
  Draws prog w A it [it,tu] vals.size (fun i v=>vals[i]?=some v) (fun i h=>h.IsTupleIter it tu i/\h.IsTuple tu vals) where
 live:=fun _ _ st=>by obtain ⟨o,ho,_⟩:=st.1;exact ⟨o,ho⟩
 frame:=fun _ _ _ st hk=>by
  obtain ⟨⟨o,ho,r⟩,o2,ND,r2⟩:=st
  exact ⟨⟨o,hk it (by simp) o ho,r⟩,o2,hk tu (by simp) o2 ND,r2⟩
 item:=fun i s Q E hi st hQ=>iq st.1 st.2 (v:=vals[i]) (by simp [hi]) fun h' a b=>hQ _ h' s.toks (by simp [hi]) ⟨a,st.2.extBut b.extBut Ao⟩ b
 done:=fun s Q E st hE=>bO hh st.1 st.2 (by simp) hE
end HT
namespace L2
section
variable {X:Cx}
def fW (K:ZAY) (tp:Bool) (a:Addr) (xs:List V):It:=
 ⟨fun i H=>Ej K tp H a xs/\i < xs.length,fun i H x H'=>∃ p y,xs[i]?=some y/\x=.ref p/\H p=none/\H'=upd H p (.tup [.int i,y]),fun i H=>Ej K tp H a xs/\xs.length<=i⟩
def hC {P:Program}{w:World}{K:ZAY}{es:List Expr}{k1:Nat}{p1:Pos}(a e it:Addr) (xs:List V) (Ld:e≠it) :
  Turn P w K (.Tuple es k1 p1) (fW K true a xs) [e,it] e (fun i h=>(∃ old,IsEnum h e it i old)/\h.IsTupleIter it a i) where
 mem:=by simp
 obj:=fun i h st b hb=>by
  obtain ⟨⟨old,h1⟩,o,h2,_,d⟩:=st
  rcases List.mem_cons.mp hb with z | z
  ·subst z;exact ⟨_,h1,fun v z=>by cases z⟩
  ·have y:b=it:=by simpa using z
   subst y;exact ⟨o,h2,fun v z=>by rw [d] at z;cases z⟩
 keep:=fun i h h' st k=>⟨let ⟨old,h1⟩:=st.1;⟨old,k e (by simp) _ h1⟩,let ⟨o,h2,r⟩:=st.2;⟨o,k it (by simp) o h2,r⟩⟩
 item:=by
  intro X hP hw hK hc i pins s σ H E I hf st hg
  subst hP hw hK
  obtain ⟨hq,hi⟩:=hg;obtain ⟨⟨old,he⟩,hit⟩:=st
  obtain ⟨A1,rv,ht,hz⟩:=I.tuple hq
  obtain ⟨u,hu,ru⟩:=rv.get (Ad hi)
  have EA:A1.toArray[i]?=some u:=by simpa using hu
  have hla:a < s.heap.objs.size:=ht.lt
  have ha:a≠it:=by
   rintro rfl
   obtain ⟨o,q1,q2,_⟩:=hit;obtain ⟨o2,q3,q4,_⟩:=ht
   rw [q1] at q3;cases q3;rw [q2] at q4;exact absurd q4 (by decide)
  have rY:e≠a:=by
   rintro rfl
   obtain ⟨o2,q3,q4,_⟩:=ht
   have q1:=he
   unfold IsEnum at q1
   rw [q1] at q3;cases q3;exact absurd (show Value.type "enumerate" = Value.type "tuple" from q4) (by decide)
  have AN:e < s.heap.objs.size:=B0 he
  refine wpAny_pyNext_enum_itemD (n:=A1.toArray.size) (HT.y9 (show X.A.in1.handled=none from I.ok.hd hc) it a ha A1.toArray) he ⟨hit,ht⟩ (by rw [Bh,<- rv.length];exact hi) Ld (by simp [Ld,rY]) fun v h1 T8 pv Ge vB Tt ay WE=>⟨_,rfl,?_⟩
  have ev:v=u:=by rw [EA] at pv;exact (BG pv).symm
  subst ev
  refine wpAny_letOwnedTupleGo_enum Ge fun h2 U5 CD=>?_
  have MM:h2.get? s.heap.objs.size=some { cls:=.type "tuple", data:=.seq #[.int i T8,v] }:=(CD.2 _ (Oh AN)).trans Tt
  have kp:∀ b o,b∉[e,it]->s.heap.get? b=some o->h2.get? b=some o:=fun b o hb q=>by
   have y:b≠e/\b≠it:=by simpa using hb
   exact (CD.2 b y.1).trans (WE b o y.1 y.2 q)
  refine ⟨.ref s.heap.objs.size,_,I.fL (t':=T8+1) (a:=s.heap.objs.size) (o:=.tup [.int i,xs[i]]) hf kp (Ae _) ?_,rfl,⟨_,_,Ad hi,rfl,I.AF.fresh (Ae _),rfl⟩,⟨⟨_,U5⟩,?_⟩,fun b hb=>?_⟩
  ·exact ⟨(by show 2<=sizeLine;decide),[.int i T8,v],.cons ⟨_,rfl⟩ (.cons ru .nil),⟨_,MM,rfl,_,rfl⟩,fun ob q=>by rw [MM] at q;cases q;rfl⟩
  ·obtain ⟨o,q,r⟩:=vB.1
   exact ⟨o,(CD.2 it (Bi Ld)).trans q,r⟩
  ·have y:b < s.heap.objs.size:=by
    rcases List.mem_cons.mp hb with z | z
    ·rw [z];exact AN
    ·have z':b=it:=by simpa using z
     obtain ⟨o,q,_⟩:=hit
     rw [z'];exact B0 q
   rw [AR (C8 y)]
   exact (hf b hb).1
 done:=by
  intro X hP hw hK hc i pins s σ H E I hf st hg
  subst hP hw hK
  obtain ⟨hq,hx⟩:=hg;obtain ⟨⟨old,he⟩,hit⟩:=st
  obtain ⟨A1,rv,ht,hz⟩:=I.tuple hq
  have hl:=rv.length
  exact HT.wM (I.ok.hd hc) he hit ht (by simp;omega) fun h' eb=>⟨rfl,I.eY (t':=s.toks) hf fun b o hb q=>eb b o (fun z=>hb (by simp [z])) q⟩
 self:=fun _ _ _ _ _ st h=>let ⟨⟨_,he⟩,_⟩:=st;wpAny_pyIter_enum he h
def W6 (K:ZAY) (t:TA):TI:=fun σ H R=>t σ H fun vs H1=>∃ a tp xs,vs=[.ref a]/\Ej K tp H1 a xs/\R (fW K tp a xs) H1
def tI {es:List Expr}{k1:Nat}{p1 p pos:Pos}{l:Expr}{t:TA}(hg:Gl X "enumerate") (hm:X.mg "enumerate" = none) (ha:PA X [l] t) (hs:starEach [l] X.env=[(false,eval l X.env)]:=by rfl) :
  PI X (.Tuple es k1 p1) (.Call (.Name "enumerate" p) [l] [] pos) (W6 X.K t):=by
 intro pins s σ H R I h
 refine wpAny_Call_Name_kw (LC I hg hm (show bootBuiltins "enumerate" = some (.type "enumerate") by decide +kernel) ?_ (by decide) (by decide))
 refine Xx (AH (ha pos pins s σ H _ I h) fun us s1 ⟨vs,H1,I1,r1,q1⟩=>?_) hs rfl
 obtain ⟨a,tp,xs,rfl,hq,q⟩:=q1
 obtain ⟨u,rfl,rx⟩:=vals1 r1
 cases rx
 have Ao:s1.heap.objs.size+1≠s1.heap.objs.size:=Nat.succ_ne_self _
 have fp:∀ b∈[s1.heap.objs.size+1,s1.heap.objs.size],Bv X pins H1 b:=fun b hb=>by
  have y:s1.heap.objs.size<=b:=by
   rcases List.mem_cons.mp hb with z | z
   ·rw [z];exact Of _
   ·have z':b=s1.heap.objs.size:=by simpa using z
    rw [z'];exact Ae _
  exact I1.IQ y (I1.AF.fresh y)
 cases tp with
 | false=>
  obtain ⟨A1,rv,p,hz⟩:=I1.list hq
  refine call_enumerate_list p.isList fun h' he hit hsz kp=>wpAny_pyIter_enum he ?_
  exact ⟨s1.heap.objs.size+1,[s1.heap.objs.size+1,s1.heap.objs.size],_,_,H1,rfl,I1.kept (t':=s1.toks) kp,nt a _ _ xs Ao,⟨⟨_,he⟩,hit⟩,fp,q⟩
 | true=>
  obtain ⟨A1,rv,ht,hz⟩:=I1.tuple hq
  refine HT.vp ht fun h' he hit hsz kp=>wpAny_pyIter_enum he ?_
  exact ⟨s1.heap.objs.size+1,[s1.heap.objs.size+1,s1.heap.objs.size],_,_,H1,rfl,I1.kept (t':=s1.toks) kp,hC a _ _ xs Ao,⟨⟨_,he⟩,hit⟩,fp,q⟩
def qS {es:List Expr}{k1:Nat}{p1 p pos:Pos}{l:Expr}{t:TA}(hg:Gl X "enumerate") (hm:X.mg "enumerate" = none) (ha:QA X [l] t) (hs:starEach [l] X.env=[(false,eval l X.env)]:=by rfl) :
  QI X (.Tuple es k1 p1) (.Call (.Name "enumerate" p) [l] [] pos) (W6 X.K t):=⟨tI hg hm ha.h hs⟩
end
end L2
namespace MA
def lets (n:Nat):List Nat:=if h:n < 26 then [97+n] else (97+n % 26) :: lets (n / 26)
termination_by n
decreasing_by omega
def vals:List Nat->Nat
 | []=>0
 | c :: r=>(c - 97)+26 * vals r
def MD {n:Nat}(h:n < 26):lets n=[97+n]:=by unfold lets;simp [h]
def OR {n:Nat}(h:¬ n < 26):lets n=(97+n % 26) :: lets (n / 26):=by rw [lets];simp [h]
def Zx:∀ n,vals (lets n)=n:=by
 intro n
 induction n using Nat.strongRecOn with
 | _ n ih=>
  by_cases h:n < 26
  ·rw [MD h];simp [vals]
  ·rw [OR h]
   have:=ih (n / 26) (by omega)
   simp only [vals,this]
   omega
def i3 {a b:Nat}(h:lets a=lets b):a=b:=by rw [<- Zx a,h,Zx]
def XM (n:Nat):1<=(lets n).length:=by
 by_cases h:n < 26
 ·rw [MD h];simp
 ·rw [OR h];simp
theorem RK:∀ (k n:Nat),n < 26 ^ (k+1)->(lets n).length<=k+1
 | 0,n,h=>by rw [MD (by simpa using h)];simp
 | k+1,n,h=>by
  by_cases h1:n < 26
  ·rw [MD h1];simp
  ·rw [OR h1]
   have:=RK k (n / 26) (by rw [Nat.pow_succ] at h;exact Nat.div_lt_of_lt_mul (by rw [Nat.mul_comm];exact h))
   simp only [BZ];omega
def jm:∀ n,∀ c∈lets n,97<=c/\c<=122:=by
 intro n
 induction n using Nat.strongRecOn with
 | _ n ih=>
  by_cases h:n < 26
  ·rw [MD h];intro c hc;simp at hc;omega
  ·rw [OR h]
   intro c hc
   rcases List.mem_cons.mp hc with e | e
   ·omega
   ·exact ih (n / 26) (by omega) c e
theorem Ya {α:Type} [DecidableEq α]:∀ (k:Nat) (f:Nat->α) (l:List α),(∀ i j,i < k->j < k->f i=f j->i=j)->(∀ i,i < k->f i∈l)->k<=l.length
 | 0,_,_,_,_=>CJ _
 | k+1,f,l,hi,hm=>by
  have h1:=hm k (gk k)
  have:=Ya k f (l.erase (f k)) (fun i j a b e=>hi i j (by omega) (by omega) e) (fun i a=>by
   have Ao:f i≠f k:=fun e=>by have:=hi i k (by omega) (by omega) e;omega
   exact (zb Ao).mpr (hm i (by omega)))
  rw [zY h1] at this
  have hp:=zZ h1
  omega
end MA
namespace Lw
open L2
def B3 (H:Hp) (p:Addr):Prop:=∃ a b:Int,H p=some (.lst [.int a,.int b])/\0<=a/\a < 10 ^ 256/\0<=b/\b < 2147483647
structure Bq (p:Addr) (H H':Hp):Prop where
 AK:B3 H' p
 same:Ei p H H'
theorem Bq.trans {p:Addr}{H H1 H2:Hp}(a:Bq p H H1) (b:Bq p H1 H2):Bq p H H2:=⟨b.AK,a.same.trans b.same⟩
theorem Bq.of {p:Addr}{H H':Hp}(h:B3 H p) (s:AD H H'):Bq p H H':=by
 obtain ⟨a,b,e,r⟩:=h
 exact ⟨⟨a,b,s _ _ e,r⟩,Ei.of s⟩
def B3.same {p:Addr}{H H':Hp}(h:B3 H p) (s:AD H H'):B3 H' p:=(Bq.of h s).AK
def Bq.O2 {K:ZAY}{p a:Addr}{H H':Hp}{xs:List V}(s:Bq p H H') (h:AJ K H a xs) (Ao:a≠p):AJ K H' a xs:=by
 rcases h with (h | ⟨o,h⟩) | h
 ·exact .inl (.inl (s.same _ _ Ao h))
 ·exact .inl (.inr ⟨o,s.same _ _ Ao h⟩)
 ·exact .inr h
def Bq.at' {p a:Addr}{H H':Hp}{o:HO}(s:Bq p H H') (h:H a=some o) (Ao:a≠p):H' a=some o:=s.same _ _ Ao h
def MB {a:Int}(h0:-(10 ^ 20) < a) (h1:a < 10 ^ 20):a.natAbs < 2 ^ 1000:=by
 have h4:a.natAbs < 10 ^ 20:=by omega
 exact gm h4 (by decide +kernel)
def OE (K:ZAY):Sp:=fun vs H Q _=>∃ (a:Addr) (ns:List Int) (k:Int),vs=[.ref a,.int k]/\AJ K H a (ns.map V.int)/\0<=k/\k<=1000/\∀ p H',H p=none->AD H H'->B3 H' p->Q (.ref p) H'
def LO:Sp:=fun vs H Q _=>∃ (p:Addr) (m:Int),vs=[.ref p,.int m]/\B3 H p/\0 < m/\m < 10 ^ 18/\∀ r H',0<=r->r < m->Bq p H H'->Q (.int r) H'
def Ce (l:List Nat):Str:=⟨l.toArray⟩
def bI:Sp:=fun vs H Q _=>∃ r:Int,vs=[.int r]/\0<=r/\r < 26 ^ 8/\Q (.str (Ce (MA.lets r.toNat))) H
def Ly {α:Type} {xs:List α}{k:Int}{v:α}(h0:0<=k) (h:xs[k.toNat]?=some v):B5 xs k=some v:=by
 have ek:k=((k.toNat:Nat):Int):=by omega
 have q:=Gn h
 rw [<- ek] at q
 exact q
abbrev GZ:Str := "abcdefghijklmnopqrstuvwxyz"
def yw:∀ j,j < 26->GZ.cps.toList[j]?=some (97+j):=by decide +kernel
def af {k:Int}(h0:0<=k) (h1:k < 26):B5 GZ.cps.toList k=some (97+k.toNat):=Ly h0 (yw _ (by omega))
def aX (l:List Nat) (c:Nat):Ce l++(⟨#[c]⟩:Str)=Ce (l++[c]):=by
 show (⟨l.toArray++#[c]⟩:Str)=⟨(l++[c]).toArray⟩
 simp
def PU (l:List Nat):(Ce l).length=l.length:=by simp [Ce,Str.length]
def Y3 {l:List Nat}:(V.str (Ce l)=V.str (Str.ofString ""))↔l=[]:=by
 constructor
 ·intro h
  injection h with h
  have h2:=congrArg (fun x=>x.cps.toList) h
  have e:(Str.ofString "").cps.toList=[]:=by decide +kernel
  rw [e] at h2
  simpa [Ce] using h2
 ·rintro rfl;rfl
def small {n:Nat}(h:n<=100000):n<=sizeLine:=Dj h (by decide +kernel)
def aS {n k:Nat}{pre:List Nat}(h:pre++MA.lets k=MA.lets n):(0 < k / 26->(pre++[97+k % 26])++MA.lets (k / 26)=MA.lets n)/\(k / 26=0->pre++[97+k % 26]=MA.lets n):=by
 constructor
 ·intro h1
  rw [MA.OR (by omega)] at h
  rw [<- h,CH];rfl
 ·intro h1
  have h2:k < 26:=by omega
  rw [MA.MD h2] at h
  rw [<- h,Nat.mod_eq_of_lt h2]
def Nm (x:Str):Prop:=1<=x.length/\x.length<=8/\∀ c∈x.cps.toList,97<=c/\c<=122
instance (x:Str):Decidable (Nm x):=by unfold Nm;exact inferInstance
def HB (x:Str):x.length=x.cps.toList.length:=by simp [Str.length]
def SH {n:Nat}(h:n < 26 ^ 8):Nm (Ce (MA.lets n)):=by
 refine ⟨by rw [PU];exact MA.XM n,by rw [PU];exact MA.RK 7 n h,fun c hc=>MA.jm n c (by simpa [Ce] using hc)⟩
def menu:List Str:=["put", "take", "none", "ahead", "all", "over", "next", "a", "ab", "abc", "abcdefgh", "b", "step"]
def nG:∀ x∈menu,Nm x:=by decide +kernel
def Q8:List V:=[.str "put", .str "take", .str "none", .str "ahead", .str "all", .str "over", .str "next", .str "a", .str "ab", .str "abc", .str "abcdefgh", .str "b", .str "step"]
def yL {i:Int}(h0:0<=i) (h1:i < 13):∃ x,B5 Q8 i=some (.str x)/\Nm x:=by
 have hl:menu.length=13:=rfl
 have hi:i.toNat < menu.length:=by omega
 have e:Q8=menu.map V.str:=rfl
 refine ⟨menu[i.toNat],Ly h0 ?_,nG _ (HE hi)⟩
 rw [e,Ag,Ad hi];rfl
def eD {ns:List Str}{i:Int}(h0:0<=i) (h1:i < ns.length):∃ x,B5 (ns.map V.str) i=some (.str x)/\x∈ns/\ns[i.toNat]?=some x:=by
 have hi:i.toNat < ns.length:=by omega
 exact ⟨ns[i.toNat],Ly h0 (by rw [Ag,Ad hi];rfl),HE hi,Ad hi⟩
def JX (ns:List Str):(ns.map V.str).all Dd=true:=by
 rw [HD];intro x hx
 obtain ⟨y,_,rfl⟩:=List.mem_map.mp hx;rfl
def XA (x:Str) (ns:List Str):Qb (.str x) (ns.map V.str)=decide (x∈ns):=by
 unfold Qb
 rw [OU,List.any_eq_true,decide_eq_true_iff]
 constructor
 ·rintro ⟨v,hv,h⟩
  obtain ⟨y,hy,rfl⟩:=List.mem_map.mp hv
  have h':(y == x)=true:=h
  have:y=x:=by simpa using h'
  rw [<- this];exact hy
 ·intro h
  exact ⟨.str x,List.mem_map.mpr ⟨x,h,rfl⟩,by show (x == x)=true;simp⟩
def fY (xs:List V):GP xs []=decide (xs=[]):=by
 cases xs with
 | nil=>rfl
 | cons x r=>rw [LZ (by simp)];simp
def xZ {x y:Str}(h:x.cps.toList=y.cps.toList):x=y:=by
 cases x;cases y;simp only [Str.mk.injEq];exact Array.toList_inj.mp h
def kP (z:Str){a b:Nat}{lo hi:Option Int}(FF:a<=b) (hb:b<=z.length) (e:Builtin.Str.strSliceIndices lo hi 1 z.length=Builtin.Str.strSliceIndices (some (a:Int)) (some (b:Int)) 1 z.length) :
  (Txt.slice z lo hi).cps.toList=(z.cps.toList.drop a).take (b - a):=by
 have q:=StrLaws.sliced_plain z FF hb
 rw [<- e] at q
 unfold Txt.slice
 split
 ·rename_i h
  have hl:(Builtin.Str.strSliceIndices lo hi 1 z.length).length=z.length:=by simpa using h
  rw [e,StrLaws.strSliceIndices_plain FF hb,AE,Rn] at hl
  have h1:a=0:=by omega
  have h2:b=z.length:=by omega
  subst h1;subst h2
  rw [JJ,Ru,HB,FL]
 ·rw [<- q]
def yu (z:Str){j:Int}(h:0<=j):(Txt.slice z none (some j)).cps.toList=z.cps.toList.take j.toNat:=by
 have e:=kP z (a:=0) (b:=min j.toNat z.length) (lo:=none) (hi:=some j) (CJ _) (Nat.min_le_right _ _) (by
  have h1:¬ j < 0:=by omega
  have h2:¬ (((min j.toNat z.length:Nat):Int) < 0):=by omega
  have h3:max (0:Int) (min j (z.length:Int))=max 0 (min ((min j.toNat z.length:Nat):Int) (z.length:Int)):=by omega
  simp only [Builtin.Str.strSliceIndices,h1,h2,if_false,h3]
  rfl)
 rw [e,JJ,Ru]
 rcases Xs j.toNat z.length with h1 | h1
 ·rw [Og h1]
 ·rw [Xu h1,HB,FL,Kq (by rw [<- HB];exact h1)]
def fT {z:Str}{j:Int}(h:1<=j) (hj:j<=8) (hz:1<=z.length) (hc:∀ c∈z.cps.toList,97<=c/\c<=122):Nm (Txt.slice z none (some j)):=by
 have e:=yu z (j:=j) (by omega)
 refine ⟨?_,?_,fun c HL=>hc c ?_⟩
 ·rw [HB,e,C7,<- HB];omega
 ·rw [HB,e,C7];omega
 ·rw [e] at HL;exact Rp HL
def YY (x y:Str):(x++y).cps.toList=x.cps.toList++y.cps.toList:=by
 show (x.cps++y.cps).toList=_
 simp
def ZA (x y:Str):(x++y).length=x.length+y.length:=by rw [HB,YY,BK,<- HB,<- HB]
def WQ (K:ZAY):Sp:=fun vs H Q _=>∃ (p q:Addr) (ns:List Str),vs=[.ref p,.ref q]/\B3 H p/\AJ K H q (ns.map V.str)/\q≠p/\(∀ x∈ns,Nm x)/\ns.length<=1000/\∀ x H',Nm x->x∉ns->Bq p H H'->Q (.str x) H'
def i4 {ns:List Str}{k:Nat}(h:∀ j,j < k->Ce (MA.lets j)∈ns):k<=ns.length:=
 MA.Ya k (fun j=>Ce (MA.lets j)) ns (fun i j _ _ e=>MA.i3 (by
  have:=congrArg (fun x=>x.cps.toList) e
  simpa [Ce] using this)) h
def uk:1000 < 26 ^ 8:=by decide +kernel
def jz:(1000:Int) < 26 ^ 8:=by decide +kernel
def ic:(26:Int) ^ (8:Int).toNat - 26 < 26 ^ 8:=by decide +kernel
def lU:(26:Int) < 26 ^ 8:=by decide +kernel
def iw:(0:Int) < 26 ^ (8:Int).toNat - 26:=by decide +kernel
def qL:(26:Int) ^ (8:Int).toNat - 26 < 10 ^ 18:=by decide +kernel
def fM {r:Int}(h0:0<=r) (h:r < 26 ^ 8):r.toNat < 26 ^ 8:=by omega
theorem Bq.upd {p l:Addr}{H H2:Hp}{o:HO}(s:Bq p H H2) (h:H l=none) (Ao:l≠p):Bq p H (upd H2 l o):=by
 obtain ⟨a,b,e,r⟩:=s.AK
 refine ⟨⟨a,b,by rw [AR (Bi Ao)];exact e,r⟩,fun c u hc q=>?_⟩
 rw [AR (DA q h)]
 exact s.same c u hc q
def B3.ne {p l:Addr}{H:Hp}(h:B3 H p) (hl:H l=none):l≠p:=by
 obtain ⟨_,_,e,_⟩:=h
 exact (DA e hl).symm
theorem AD.none {l:Addr}{H H2:Hp}(s:AD H H2) (h:H2 l=none):H l=none:=by
 cases q:H l with
 | none=>rfl
 | some o=>rw [s l o q] at h;cases h
def WG:Sp:=fun vs H Q _=>∃ (p:Addr) (m:Int),vs=[.ref p,.int m]/\B3 H p/\0<=m/\m<=100/\
 ∀ l H' (ns:List Str),H l=none->Bq p H H'->H' l=some (.lst (ns.map V.str))->(ns.length:Int)=m->(∀ x∈ns,Nm x)->ns.Nodup->Q (.ref l) H'
def c8:Sp:=fun vs H Q _=>∃ (p:Addr) (m:Int),vs=[.ref p,.int m]/\B3 H p/\1<=m/\m<=100/\
 ∀ l H' (ns:List Str),H l=none->Bq p H H'->H' l=some (.lst (ns.map V.str))->(ns.length:Int)<=m->(∀ x∈ns,Nm x)->ns.Nodup->Q (.ref l) H'
def Hm {α:Type} {l:List α}{x:α}(h:l.Nodup) (hx:x∉l):(l++[x]).Nodup:=by
 rw [CI]
 exact ⟨h,by simp,fun a ha b hb=>by
  have:b=x:=by simpa using hb
  subst this
  rintro rfl
  exact hx ha⟩
def LQ (c:Nat):Bool:=!(Builtin.Str.occurrences GZ ⟨#[c]⟩ 0 GZ.length 1).isEmpty
def isNm (x:Str):Bool:=decide ((1:Int)<=x.length) && (decide ((x.length:Int)<=8) && x.cps.toList.all LQ)
def SY:Sp:=fun vs H Q _=>∃ x:Str,vs=[.str x]/\x.length<=1000/\∀ H',AD H H'->Q (.bl (isNm x)) H'
def jP {α:Type} (l:List α):l.filter (fun _=>true)=l:=List.filter_eq_self.mpr fun _ _=>rfl
def fq:V->V
 | .str y=>.bl (!(Builtin.Str.occurrences GZ y 0 GZ.length 1).isEmpty)
 | _=>.bl false
def tm (x:Str):((FP x).filter (fun _=>true)).map fq=(x.cps.toList.map LQ).map V.bl:=by
 unfold FP
 rw [jP,DF,DF]
 rfl
def signs_get {x:Str}{i:Nat}{v:V}(h:(FP x)[i]?=some v):∃ c,v=.str ⟨#[c]⟩:=by
 unfold FP at h
 rw [Ag] at h
 cases q:x.cps.toList[i]? with
 | none=>rw [q] at h;cases h
 | some c=>rw [q] at h;simp at h;exact ⟨c,h.symm⟩
theorem all_map {α:Type} (f:α->Bool) (l:List α):(l.map f).all id=l.all f:=by rw [List.all_map];rfl
def tZ (xs:List Str):GP (xs.map V.str) (xs.map V.str)=true:=by
 rw [Lm rfl,HD]
 intro j hj
 have XC:j < xs.length:=by simpa using hj
 have e:(xs.map V.str)[j]?=some (.str xs[j]):=by rw [Ag,Ad XC];rfl
 rw [OL e];show (xs[j] == xs[j])=true;simp
def X2 (K:ZAY) (t:String):PySem.W.kitOne K (.type t) (.type t)=some true:=by
 unfold PySem.W.kitOne;rw [if_pos (by simp)]
def Mm (K:ZAY):Sp:=fun vs H Q _=>∃ (a:Addr) (ns:List Int),vs=[.ref a]/\AJ K H a (ns.map V.int)/\ns.length<=63/\∀ H',Q (.bl true) H'
inductive BA where
 | put (x:Str) (i:Nat) | take (x:Str) | move (x:Str) (i:Nat) | turn (lo hi:Nat)
def BA.vals:BA->List V
 | .put x i=>[.str "put", .str x,.int i]
 | .take x=>[.str "take", .str x]
 | .move x i=>[.str "move", .str x,.int i]
 | .turn lo hi=>[.str "turn", .int lo,.int hi]
def BA.Ok (m:Nat) (ns:List Str):BA->Prop
 | .put x i=>Nm x/\x∉ns/\i<=ns.length/\ns.length < m
 | .take x=>x∈ns
 | .move x i=>x∈ns/\i < ns.length
 | .turn lo hi=>lo<=hi/\hi<=ns.length
def ins (ns:List Str) (x:Str) (i:Nat):List Str:=ns.take i++x :: ns.drop i
def wo (ns:List Str) (x:Str):List Str:=ns.filter fun y=>!decide (y=x)
def Fe (ns:List Str) (lo hi:Nat):List Str:=ns.take lo++((ns.drop lo).take (hi - lo)).reverse++ns.drop hi
def BA.done (ns:List Str):BA->List Str
 | .put x i=>ins ns x i
 | .take x=>wo ns x
 | .move x i=>ins (wo ns x) x i
 | .turn lo hi=>Fe ns lo hi
def BA.back (ns:List Str):BA->BA
 | .put x _=>.take x
 | .take x=>.put x (ns.idxOf x)
 | .move x _=>.move x (ns.idxOf x)
 | .turn lo hi=>.turn lo hi
def RY {ns:List Str}{x:Str}(h:x∉ns):wo ns x=ns:=by
 unfold wo
 rw [List.filter_eq_self]
 intro y hy
 have:y≠x:=fun e=>h (e▸hy)
 simp [this]
def Gy {ns:List Str}{x y:Str}:y∈wo ns x↔y∈ns/\y≠x:=by
 unfold wo
 rw [gg]
 simp
def Zi {ns:List Str}{x:Str}(h:ns.Nodup):(wo ns x).Nodup:=h.filter _
def Yy (as bs:List Str) (x:Str):wo (as++bs) x=wo as x++wo bs x:=by unfold wo;rw [MI]
def gG (bs:List Str) (x:Str):wo (x :: bs) x=wo bs x:=by unfold wo;rw [gY];simp
def Mf {ns:List Str}{x:Str}(h:x∈ns):ns=ns.take (ns.idxOf x)++x :: ns.drop (ns.idxOf x+1):=by
 have hj:ns.idxOf x < ns.length:=List.idxOf_lt_length_iff.mpr h
 have e:ns[ns.idxOf x]=x:=IG hj
 conv=>lhs;rw [<- HI (ns.idxOf x) ns,Xf hj,e]
def UL {ns:List Str}{x:Str}(h:x∈ns):x∉ns.take (ns.idxOf x):=by
 intro hm
 obtain ⟨m,qH,e⟩:=List.mem_iff_getElem.mp hm
 rw [C7] at qH
 rw [JK] at e
 exact UC x ns m (by omega) (by omega) e
def Ox {ns:List Str}{x:Str}(h:x∈ns) (nd:ns.Nodup):x∉ns.drop (ns.idxOf x+1):=by
 rw [Mf h] at nd
 have h2:=(List.nodup_append.mp nd).2.1
 exact (List.nodup_cons.mp h2).1
def Yg {ns:List Str}{x:Str}(h:x∈ns) (nd:ns.Nodup):wo ns x=ns.take (ns.idxOf x)++ns.drop (ns.idxOf x+1):=by
 conv=>lhs;rw [Mf h]
 rw [Yy,gG,RY (UL h),RY (Ox h nd)]
def PR {ns:List Str}{x:Str}(h:x∈ns) (nd:ns.Nodup):(wo ns x).length+1=ns.length:=by
 have hj:ns.idxOf x < ns.length:=List.idxOf_lt_length_iff.mpr h
 rw [Yg h nd,BK,C7,HF]
 omega
def Pc {ns:List Str}{x:Str}{i:Nat}:(ins ns x i).length=ns.length+1:=by
 unfold ins
 rw [BK,BZ,C7,HF]
 omega
def RG {ns:List Str}{x y:Str}{i:Nat}:y∈ins ns x i↔y=x∨y∈ns:=by
 unfold ins
 rw [Fw,EW]
 have:y∈ns↔y∈ns.take i∨y∈ns.drop i:=by rw [<- Fw,HI]
 rw [this]
 constructor
 ·rintro (h | h | h)
  ·exact .inr (.inl h)
  ·exact .inl h
  ·exact .inr (.inr h)
 ·rintro (h | h | h)
  ·exact .inr (.inl h)
  ·exact .inl h
  ·exact .inr (.inr h)
def UA {ns:List Str}{x:Str}{i:Nat}(h:ns.Nodup) (hx:x∉ns):(ins ns x i).Nodup:=by
 unfold ins
 have e:(ns.take i++ns.drop i).Nodup:=by rw [HI];exact h
 obtain ⟨h1,h2,h3⟩:=List.nodup_append.mp e
 rw [CI]
 refine ⟨h1,List.nodup_cons.mpr ⟨fun z=>hx (Ro z),h2⟩,fun a ha b hb=>?_⟩
 rcases List.mem_cons.mp hb with z | z
 ·rw [z];rintro rfl;exact hx (Rp ha)
 ·exact h3 a ha b z
def c9 {ns:List Str}{lo hi:Nat}(h1:lo<=hi) (h2:hi<=ns.length):(Fe ns lo hi).length=ns.length:=by
 unfold Fe
 rw [BK,BK,List.length_reverse,C7,C7,HF,HF]
 omega
def bR {ns:List Str}{lo hi:Nat}(h1:lo<=hi):ns=ns.take lo++(ns.drop lo).take (hi - lo)++ns.drop hi:=by
 have:ns.drop hi=(ns.drop lo).drop (hi - lo):=by rw [gT];congr 1;omega
 rw [this,CH,HI,HI]
def Zz {ns:List Str}{lo hi:Nat}(h1:lo<=hi){y:Str}:y∈Fe ns lo hi↔y∈ns:=by
 conv=>rhs;rw [bR (ns:=ns) h1]
 unfold Fe
 simp only [Fw,List.mem_reverse]
def yi {ns:List Str}{lo hi:Nat}(h1:lo<=hi) (nd:ns.Nodup):(Fe ns lo hi).Nodup:=by
 have p:List.Perm (Fe ns lo hi) ns:=by
  conv=>rhs;rw [bR (ns:=ns) h1]
  unfold Fe
  exact ((List.reverse_perm _).append_left _).append_right _
 exact p.nodup_iff.mpr nd
def BA.step {m:Nat}{ns:List Str}{d:BA}(h:d.Ok m ns) (nd:ns.Nodup) (hN:∀ x∈ns,Nm x) (hm:ns.length<=m) :
  (d.done ns).Nodup/\(∀ x∈d.done ns,Nm x)/\(d.done ns).length<=m:=by
 cases d with
 | put x i=>
  obtain ⟨h1,h2,h3,h4⟩:=h
  refine ⟨UA nd h2,fun y hy=>?_,?_⟩
  ·rcases RG.mp hy with e | e
   ·rw [e];exact h1
   ·exact hN y e
  ·show (ins ns x i).length<=m
   rw [Pc];omega
 | take x=>
  refine ⟨Zi nd,fun y hy=>hN y (Gy.mp hy).1,?_⟩
  have:=PR h nd
  show (wo ns x).length<=m
  omega
 | move x i=>
  obtain ⟨h1,h2⟩:=h
  refine ⟨UA (Zi nd) (fun z=>(Gy.mp z).2 rfl),fun y hy=>?_,?_⟩
  ·rcases RG.mp hy with e | e
   ·rw [e];exact hN x h1
   ·exact hN y (Gy.mp e).1
  ·have:=PR h1 nd
   show (ins (wo ns x) x i).length<=m
   rw [Pc];omega
 | turn lo hi=>
  obtain ⟨h1,h2⟩:=h
  exact ⟨yi h1 nd,fun y hy=>hN y ((Zz h1).mp hy),by show (Fe ns lo hi).length<=m;rw [c9 h1 h2];exact hm⟩
def dG (xs:List V) (i:Nat):FT xs none (some (i:Int))=xs.take i:=by
 unfold FT
 rw [HT.SF,HT.T3,JJ,Ru]
 rcases Xs i xs.length with h | h
 ·rw [Og h]
 ·rw [Xu h,FL,Kq h]
def DK (tp:Bool) (xs:List V):HO:=match tp with
 | false=>.lst xs
 | true=>.tup xs
def DK.sq {K:ZAY}{tp:Bool}{H:Hp}{a:Addr}{xs:List V}(h:H a=some (DK tp xs)):Ej K tp H a xs:=by
 cases tp
 ·exact AJ.of h
 ·exact Ab.of h
def iR:Sp:=fun vs H Q _=>∃ (a:Addr) (tp:Bool) (ns:List Str) (x:Str),vs=[.ref a,.str x]/\H a=some (DK tp (ns.map V.str))/\x∈ns/\Q (.int (ns.idxOf x:Nat)) H
def t6 (H:Hp) (Q:VK) (ns:List Str):Prop:=∀ l H',H l=none->AD H H'->H' l=some (.lst (ns.map V.str))->Q (.ref l) H'
def r6:Sp:=fun vs H Q _=>∃ (a t:Addr) (ns:List Str) (d:BA),vs=[.ref a,.ref t]/\H a=some (.lst (ns.map V.str))/\H t=some (.tup d.vals)/\d.Ok 40 ns/\ns.length<=40/\ns.Nodup/\t6 H Q (d.done ns)
def mD:Sp:=fun vs H Q _=>∃ (p a:Addr) (m:Nat) (ns:List Str),vs=[.ref p,.ref a,.int m]/\B3 H p/\H a=some (.lst (ns.map V.str))/\a≠p/\(∀ x∈ns,Nm x)/\ns.length<=m/\1<=m/\m<=100/\
 ∀ (d:BA) t H',H t=none->Bq p H H'->H' t=some (.tup d.vals)->d.Ok m ns->Q (.ref t) H'
def Bm {c A B:Prop} [Decidable c] (h:¬ c) (b:B):if c then A else B:=by rw [if_neg h];exact b
def i8:∀ j,j < 26->LQ (97+j)=true:=by decide +kernel
def se {x:Str}(h:Nm x):isNm x=true:=by
 obtain ⟨h1,h2,h3⟩:=h
 unfold isNm
 rw [decide_eq_true (by omega),decide_eq_true (by omega),MG,MG,HD]
 intro c hc
 obtain ⟨a,b⟩:=h3 c hc
 have:=i8 (c - 97) (by omega)
 have e:97+(c - 97)=c:=by omega
 rw [e] at this
 exact this
end Lw
namespace Fz
open L2 Lw
inductive PV where
 | A5 | bl (b:Bool) | int (i:Int) | str (x:Str) | lst (xs:List PV) | tup (xs:List PV)
 | Ap (ks:List Key) (xs:List PV) | obj (C:Addr) (ns:List Str) (xs:List PV) | exc (C:Addr) (ns:List Str) (xs:List PV) | con (a:Addr) (xs:List PV)
def Yj (a C:Addr) (dx:Option Addr):HO:=.ext fun h=>∃ ob vs,h.get? a=some ob/\ob.cls=.ref C/\ob.dict=dx/\ob.data=.fields vs
mutual
inductive Rep (F:Hp):V->PV->Prop where
 | A5:Rep F .A5 .A5
 | bl (b:Bool):Rep F (.bl b) (.bl b)
 | int (i:Int):Rep F (.int i) (.int i)
 | str (x:Str):Rep F (.str x) (.str x)
 | lst {a:Addr}{vs:List V}{xs:List PV}:F a=some (.lst vs)->AG F vs xs->Rep F (.ref a) (.lst xs)
 | tup {a:Addr}{vs:List V}{xs:List PV}:F a=some (.tup vs)->AG F vs xs->Rep F (.ref a) (.tup xs)
 | Ap {a:Addr}{ks:List Key}{vs:List V}{xs:List PV}:F a=some (.dK (ks.zip vs))->ks.length=vs.length->AG F vs xs->Rep F (.ref a) (.Ap ks xs)
 | obj {a C dx:Addr}{ns:List Str}{vs:List V}{xs:List PV}:F a=some (.ins C dx (ns.zip vs))->F dx=some (.own a)->ns.length=vs.length->AG F vs xs->Rep F (.ref a) (.obj C ns xs)
 | con {a:Addr}{xs:List PV}:Rep F (.ref a) (.con a xs)
 | RQ {a C:Addr}:F a=some (Yj a C none)->Rep F (.ref a) (.exc C [] [])
 | exc {a C dx:Addr}{ns:List Str}{vs:List V}{xs:List PV}:F a=some (Yj a C (some dx))->F dx=some (.xd (ns.zip vs))->ns.length=vs.length->AG F vs xs->Rep F (.ref a) (.exc C ns xs)
inductive AG (F:Hp):List V->List PV->Prop where
 | nil:AG F [] []
 | cons {v:V}{p:PV}{vs:List V}{ps:List PV}:Rep F v p->AG F vs ps->AG F (v :: vs) (p :: ps)
end
mutual
theorem Rep.mono {F F':Hp}(s:AD F F'):∀ {v:V}{p:PV},Rep F v p->Rep F' v p
 | _,_,.A5=>.A5
 | _,_,.bl b=>.bl b
 | _,_,.int i=>.int i
 | _,_,.str x=>.str x
 | _,_,.lst h r=>.lst (s _ _ h) (AG.mono s r)
 | _,_,.tup h r=>.tup (s _ _ h) (AG.mono s r)
 | _,_,.Ap h e r=>.Ap (s _ _ h) e (AG.mono s r)
 | _,_,.obj h h2 e r=>.obj (s _ _ h) (s _ _ h2) e (AG.mono s r)
 | _,_,.con=>.con
 | _,_,.RQ h=>.RQ (s _ _ h)
 | _,_,.exc h h2 e r=>.exc (s _ _ h) (s _ _ h2) e (AG.mono s r)
theorem AG.mono {F F':Hp}(s:AD F F'):∀ {vs:List V}{ps:List PV},AG F vs ps->AG F' vs ps
 | _,_,.nil=>.nil
 | _,_,.cons r t=>.cons (Rep.mono s r) (AG.mono s t)
end
theorem AG.length {F:Hp}:∀ {vs:List V}{ps:List PV},AG F vs ps->vs.length=ps.length
 | [],_,.nil=>rfl
 | _ :: _,_,.cons _ t=>by rw [BZ,BZ,AG.length t]
theorem AG.get {F:Hp}:∀ {vs:List V}{ps:List PV}{i:Nat}{p:PV},AG F vs ps->ps[i]?=some p->∃ v,vs[i]?=some v/\Rep F v p
 | _,_,_,_,.nil,e=>by simp at e
 | _,_,0,_,.cons r _,e=>by simp at e;subst e;exact ⟨_,rfl,r⟩
 | _,_,i+1,p,.cons _ t,e=>by
  obtain ⟨u,h1,h2⟩:=AG.get (i:=i) (p:=p) t (by simpa using e)
  exact ⟨u,by simpa using h1,h2⟩
theorem AG.get' {F:Hp}:∀ {vs:List V}{ps:List PV}{i:Nat}{v:V},AG F vs ps->vs[i]?=some v->∃ p,ps[i]?=some p/\Rep F v p
 | _,_,_,_,.nil,e=>by simp at e
 | _,_,0,_,.cons r _,e=>by simp at e;subst e;exact ⟨_,rfl,r⟩
 | _,_,i+1,p,.cons _ t,e=>by
  obtain ⟨u,h1,h2⟩:=AG.get' (i:=i) (v:=p) t (by simpa using e)
  exact ⟨u,by simpa using h1,h2⟩
theorem AG.append {F:Hp}:∀ {vs ws:List V}{ps qs:List PV},AG F vs ps->AG F ws qs->AG F (vs++ws) (ps++qs)
 | _,_,_,_,.nil,s=>s
 | _,_,_,_,.cons r t,s=>.cons r (AG.append t s)
theorem AG.take {F:Hp}:∀ {vs:List V}{ps:List PV}(n:Nat),AG F vs ps->AG F (vs.take n) (ps.take n)
 | _,_,0,_=>by simp only [List.take_zero];exact .nil
 | _,_,_+1,.nil=>.nil
 | _,_,n+1,.cons r t=>.cons r (AG.take n t)
theorem AG.drop {F:Hp}:∀ {vs:List V}{ps:List PV}(n:Nat),AG F vs ps->AG F (vs.drop n) (ps.drop n)
 | _,_,0,r=>r
 | _,_,_+1,.nil=>.nil
 | _,_,n+1,.cons _ t=>AG.drop n t
def AG.one {F:Hp}{v:V}{p:PV}(r:Rep F v p):AG F [v] [p]:=.cons r .nil
theorem AG.reverse {F:Hp}:∀ {vs:List V}{ps:List PV},AG F vs ps->AG F vs.reverse ps.reverse
 | _,_,.nil=>.nil
 | _,_,.cons r t=>by rw [Xn,Xn];exact (AG.reverse t).append (.one r)
def flat:PV->Bool
 | .lst _=>false
 | .tup _=>false
 | .Ap _ _=>false
 | .obj _ _ _=>false
 | .exc _ _ _=>false
 | .con _ _=>false
 | _=>true
def enc:PV->V
 | .bl b=>.bl b
 | .int i=>.int i
 | .str x=>.str x
 | _=>.A5
theorem Rep.enc {F:Hp}{v:V}{p:PV}(h:flat p=true) (r:Rep F v p):v=enc p:=by
 cases r <;> first | rfl | cases h
def ye {F:Hp}{p:PV}(h:flat p=true):Rep F (enc p) p:=by
 cases p with
 | A5=>exact .A5
 | bl b=>exact .bl b
 | int i=>exact .int i
 | str x=>exact .str x
 | lst xs=>cases h
 | tup xs=>cases h
 | Ap ks xs=>cases h
 | obj C ns xs=>cases h
 | exc C ns xs=>cases h
 | con a xs=>cases h
theorem AG.enc {F:Hp}:∀ {vs:List V}{ps:List PV},ps.all flat=true->AG F vs ps->vs=ps.map enc
 | _,_,_,.nil=>rfl
 | _,_,h,.cons r t=>by
  rw [Rk,Ek] at h
  rw [BL,<- Rep.enc h.1 r,<- AG.enc h.2 t]
theorem R6 {F:Hp}:∀ {ps:List PV},ps.all flat=true->AG F (ps.map enc) ps
 | [],_=>.nil
 | p :: r,h=>by
  rw [Rk,Ek] at h
  exact .cons (ye h.1) (R6 h.2)
def RL {p:PV}(h:flat p=true):Dd (Fz.enc p)=true:=by cases p <;> first | rfl | cases h
def SS (ns:List Str):(ns.map PV.str).all flat=true:=by
 rw [HD];intro x hx
 obtain ⟨y,_,rfl⟩:=List.mem_map.mp hx;rfl
def Yq (ns:List Int):(ns.map PV.int).all flat=true:=by
 rw [HD];intro x hx
 obtain ⟨y,_,rfl⟩:=List.mem_map.mp hx;rfl
def kN (ns:List Bool):(ns.map PV.bl).all flat=true:=by
 rw [HD];intro x hx
 obtain ⟨y,_,rfl⟩:=List.mem_map.mp hx;rfl
def W8 (ns:List Str):(ns.map PV.str).map Fz.enc=ns.map V.str:=by rw [DF];rfl
def pH (ns:List Bool):(ns.map PV.bl).map Fz.enc=ns.map V.bl:=by rw [DF];rfl
def fZ (ns:List Int):(ns.map PV.int).map Fz.enc=ns.map V.int:=by rw [DF];rfl
def AG.strs {F:Hp}{vs:List V}{ns:List Str}(r:AG F vs (ns.map PV.str)):vs=ns.map V.str:=(r.enc (SS ns)).trans (W8 ns)
def KQ {F:Hp}(ns:List Str):AG F (ns.map V.str) (ns.map PV.str):=by rw [<- W8];exact R6 (SS ns)
def AG.dJ {F:Hp}{vs:List V}{ns:List Bool}(r:AG F vs (ns.map PV.bl)):vs=ns.map V.bl:=(r.enc (kN ns)).trans (pH ns)
def AG.ints {F:Hp}{vs:List V}{ns:List Int}(r:AG F vs (ns.map PV.int)):vs=ns.map V.int:=(r.enc (Yq ns)).trans (fZ ns)
inductive NK where
 | lst | Ap (ks:List Key) | obj (C dx:Addr) (ns:List Str)
def NK.ho:NK->List V->HO
 | .lst,vs=>.lst vs
 | .Ap ks,vs=>.dK (ks.zip vs)
 | .obj C dx ns,vs=>.ins C dx (ns.zip vs)
def NK.more:NK->List Addr
 | .obj _ dx _=>[dx]
 | _=>[]
def NK.side (k:NK) (a:Addr) (H:Hp):Prop:=match k with
 | .obj _ dx _=>H dx=some (.own a)
 | _=>True
def NK.fit (k:NK) (n:Nat):Prop:=match k with
 | .Ap ks=>ks.length=n
 | .obj _ _ ns=>ns.length=n
 | _=>True
inductive OV where
 | fz (p:PV)
 | tp (xs:List OV)
 | nd (k:NK) (a:Addr) (xs:List OV)
mutual
def OV.addrs:OV->List Addr
 | .fz _=>[]
 | .tp xs=>OV.AU xs
 | .nd k a xs=>a :: (k.more++OV.AU xs)
def OV.AU:List OV->List Addr
 | []=>[]
 | x :: r=>x.addrs++OV.AU r
end
mutual
def OV.pv:OV->PV
 | .fz p=>p
 | .tp xs=>.tup (OV.BD xs)
 | .nd .lst _ xs=>.lst (OV.BD xs)
 | .nd (.Ap ks) _ xs=>.Ap ks (OV.BD xs)
 | .nd (.obj C _ ns) _ xs=>.obj C ns (OV.BD xs)
def OV.BD:List OV->List PV
 | []=>[]
 | x :: r=>x.pv :: OV.BD r
end
mutual
inductive As (F H:Hp):V->OV->Prop where
 | fz {v:V}{p:PV}:Rep F v p->As F H v (.fz p)
 | tp {a:Addr}{vs:List V}{xs:List OV}:F a=some (.tup vs)->Af F H vs xs->As F H (.ref a) (.tp xs)
 | nd {k:NK}{a:Addr}{vs:List V}{xs:List OV}:H a=some (k.ho vs)->k.side a H->k.fit vs.length->Af F H vs xs->As F H (.ref a) (.nd k a xs)
inductive Af (F H:Hp):List V->List OV->Prop where
 | nil:Af F H [] []
 | cons {v:V}{t:OV}{vs:List V}{ts:List OV}:As F H v t->Af F H vs ts->Af F H (v :: vs) (t :: ts)
end
def OV.Cf {k:NK}{a:Addr}{xs:List OV}:(OV.nd k a xs).addrs=a :: (k.more++OV.AU xs):=by rw [OV.addrs]
def OV.EX {xs:List OV}:(OV.tp xs).addrs=OV.AU xs:=by rw [OV.addrs]
def OV.Nv {p:PV}:(OV.fz p).addrs=[]:=by rw [OV.addrs]
def OV.D3 {x:OV}{r:List OV}:OV.AU (x :: r)=x.addrs++OV.AU r:=by rw [OV.AU]
def OV.Ep:OV.AU []=[]:=by rw [OV.AU]
def NK.bC {k:NK}{a:Addr}{H H':Hp}(h:k.side a H) (s:∀ b∈k.more,∀ o,H b=some o->H' b=some o):k.side a H':=by
 cases k with
 | obj C dx ns=>exact s dx (by simp [NK.more]) _ h
 | _=>trivial
mutual
theorem As.mono {F F' H H':Hp}(f:AD F F'):∀ {v:V}{t:OV},As F H v t->(∀ a∈t.addrs,∀ o,H a=some o->H' a=some o)->As F' H' v t
 | _,_,.fz r,_=>.fz (r.mono f)
 | _,_,.tp h r,s=>by
  rw [OV.EX] at s
  exact .tp (f _ _ h) (Af.mono f r s)
 | _,_,.nd h sd ft r,s=>by
  rw [OV.Cf] at s
  exact .nd (s _ (by simp) _ h) (NK.bC sd fun b hb=>s b (by simp [hb])) ft (Af.mono f r fun a ha=>s a (by simp [ha]))
theorem Af.mono {F F' H H':Hp}(f:AD F F'):∀ {vs:List V}{ts:List OV},Af F H vs ts->(∀ a∈OV.AU ts,∀ o,H a=some o->H' a=some o)->Af F' H' vs ts
 | _,_,.nil,_=>.nil
 | _,_,.cons r t,s=>by
  rw [OV.D3] at s
  exact .cons (As.mono f r fun a ha=>s a (by simp [ha])) (Af.mono f t fun a ha=>s a (by simp [ha]))
end
mutual
theorem As.there {F H:Hp}:∀ {v:V}{t:OV},As F H v t->∀ a∈t.addrs,H a≠none
 | _,_,.fz _,a,ha=>by rw [OV.addrs] at ha;cases ha
 | _,_,.tp _ r,a,ha=>by rw [OV.EX] at ha;exact Af.there r a ha
 | _,_,@As.nd _ _ k b vs xs h sd ft r,a,ha=>by
  rw [OV.Cf,EW,Fw] at ha
  rcases ha with rfl | ha | ha
  ·rw [h];simp
  ·cases k with
   | obj C dx ns=>
    have e:a=dx:=by simpa [NK.more] using ha
    subst e
    have Wj:H a=some (.own b):=sd
    rw [Wj];simp
   | _=>simp [NK.more] at ha
  ·exact Af.there r a ha
theorem Af.there {F H:Hp}:∀ {vs:List V}{ts:List OV},Af F H vs ts->∀ a∈OV.AU ts,H a≠none
 | _,_,.nil,a,ha=>by rw [OV.Ep] at ha;cases ha
 | _,_,.cons r t,a,ha=>by
  rw [OV.D3,Fw] at ha
  rcases ha with ha | ha
  ·exact As.there r a ha
  ·exact Af.there t a ha
end
theorem Af.length {F H:Hp}:∀ {vs:List V}{ts:List OV},Af F H vs ts->vs.length=ts.length
 | [],_,.nil=>rfl
 | _ :: _,_,.cons _ t=>by rw [BZ,BZ,Af.length t]
inductive Slot where
 | any | is (p:PV) | own (xs:List PV) | AK | sq (tp:Bool) (xs:List PV) | raw (P:Hp->V->Prop) | ow (lt:Bool) (t:OV)
structure Ent0 where
 A:List Addr
 F0:Hp
 H0:Hp
 B:List Addr
abbrev E3 (A:List Addr) (F H:Hp):Ent0:=⟨A,F,H,[]⟩
def Ok (E:Ent0) (F H:Hp):Slot->Option (Option V)->Prop
 | .any,_=>True
 | .is p,o=>∃ v,o=some (some v)/\Rep F v p
 | .own xs,o=>∃ l vs,o=some (some (.ref l))/\F l=none/\E.H0 l=none/\H l=some (.lst vs)/\AG F vs xs
 | .AK,o=>∃ l,o=some (some (.ref l))/\F l=none/\(E.H0 l=none∨l∈E.A)/\B3 H l
 | .sq true xs,o=>∃ v,o=some (some v)/\Rep F v (.tup xs)
 | .sq false xs,o=>∃ l vs,o=some (some (.ref l))/\(l∉E.A/\l∉E.B)/\E.H0 l=some (.lst vs)/\AG F vs xs
 | .raw P,o=>∃ v,o=some (some v)/\P F v/\∀ F F',AD F F'->P F v->P F' v
 | .ow lt t,o=>∃ v,o=some (some v)/\As F H v t/\t.addrs.Nodup/\∀ a∈t.addrs,F a=none/\(E.H0 a=none∨(lt=true/\a∈E.B))
def B2:Slot->Option (Option V)->Addr->Prop
 | .own _,o,l=>o=some (some (.ref l))
 | .AK,o,l=>o=some (some (.ref l))
 | .ow _ t,_,l=>l∈t.addrs
 | _,_,_=>False
structure Fin (E:Ent0) (F H:Hp):Prop where
 fh:AD F H
 f0:AD E.F0 F
 keep:∀ a o,(a∉E.A/\a∉E.B)->E.H0 a=some o->H a=some o
 fresh:∀ a o,F a=some o->E.F0 a=some o∨E.H0 a=none
 FV:∀ a,a∈E.A->B3 H a
 Lo:∀ a,a∈E.A->F a=none
 a0:∀ a,a∈E.A->E.H0 a≠none
 bF:∀ a,a∈E.B->F a=none
 bH:∀ a,a∈E.B->H a≠none
 b0:∀ a,a∈E.B->E.H0 a≠none/\a∉E.A
structure Sg (E:Ent0) (ss:List Slot) (σ:L2.St) (F H:Hp):Prop extends Fin E F H where
 len:ss.length=σ.length
 ok:∀ (i:Nat) s,ss[i]?=some s->Ok E F H s σ[i]?
 Bg:∀ (i j:Nat) s u l,i≠j->ss[i]?=some s->ss[j]?=some u->B2 s σ[i]? l->¬ B2 u σ[j]? l
structure Ex where
 C:Addr
 ns:List Str
 xs:List PV
def Ex.at (x:Ex) (F:Hp) (C:Value) (dx:Option Addr):Prop:=
 C=.ref x.C/\((x.ns=[]/\x.xs=[]/\dx=none)∨∃ a vs,dx=some a/\F a=some (.xd (x.ns.zip vs))/\x.ns.length=vs.length/\AG F vs x.xs)
class Xw where
 e:L2.St->XK
 J:List Slot->Prop
 D:Ex->Prop
structure Ent [Xw] extends Ent0 where
 hx:∀ (ss:List Slot) (σ:L2.St) (F H:Hp) (x:Ex) (C:Value) (dx:Option Addr),Xw.J ss->Sg toEnt0 ss σ F H->Xw.D x->x.at F C dx->Xw.e σ C dx H
instance [Xw]:CoeOut Ent Ent0:=⟨Ent.toEnt0⟩
instance bg:Xw:=⟨fun _=>E0,fun _=>True,fun _=>False⟩
def Bs (ss:List Slot) (σ:L2.St) (a:Addr):Prop:=∀ i:Nat,ss[i]?=some .AK->σ[i]?≠some (some (.ref a))
structure Mv (E:Ent0) (ss:List Slot) (σ:L2.St) (F H F' H':Hp):Prop where
 st:Sg E ss σ F' H'
 ff:AD F F'
 hh:∀ a o,Bs ss σ a->H a=some o->H' a=some o
 nn:∀ a o,F' a=some o->F a=some o∨H a=none
def Sg.HN {E:Ent0}{ss:List Slot}{σ:L2.St} {F H:Hp}(S:Sg E ss σ F H){l:Addr}(h:H l=none):Bs ss σ l:=fun i hi e=>by
 obtain ⟨l',e1,_,_,_,_,e2,_⟩:=S.ok i _ hi
 rw [e] at e1
 cases e1
 rw [h] at e2;cases e2
theorem Mv.none {E:Ent0}{ss:List Slot}{σ:L2.St} {F H F' H':Hp}(m:Mv E ss σ F H F' H'){a:Addr}(h:H' a=none):H a=none:=by
 cases e:H a with
 | none=>rfl
 | some o=>rw [m.hh a o (m.st.HN h) e] at h;cases h
theorem Mv.refl {E:Ent0}{ss:List Slot}{σ:L2.St} {F H:Hp}(S:Sg E ss σ F H):Mv E ss σ F H F H:=⟨S,AD.refl _,fun _ _ _ e=>e,fun _ _ e=>.inl e⟩
theorem Mv.trans {E:Ent0}{ss:List Slot}{σ:L2.St} {F H F1 H1 F2 H2:Hp}(a:Mv E ss σ F H F1 H1) (b:Mv E ss σ F1 H1 F2 H2):Mv E ss σ F H F2 H2:=
 ⟨b.st,a.ff.trans b.ff,fun c o n e=>b.hh c o n (a.hh c o n e),fun c o e=>(b.nn c o e).elim (fun e=>a.nn c o e) fun e=>.inr (a.none e)⟩
section
variable {E:Ent0}{ss:List Slot}{σ:L2.St} {F H F' H':Hp}
def Sg.CO (S:Sg E ss σ F H){p:Addr}(h:H p=none):E.H0 p=none:=by
 cases e:E.H0 p with
 | none=>rfl
 | some o=>
  by_cases q:p∈E.A
  ·obtain ⟨_,_,e1,_⟩:=S.FV p q
   rw [h] at e1;cases e1
  ·by_cases qb:p∈E.B
   ·exact absurd h (S.bH p qb)
   ·rw [S.keep p o ⟨q,qb⟩ e] at h;cases h
def Sg.B9 (S:Sg E ss σ F H){p:Addr}(h:H p=none):F p=none:=AD.none S.fh h
def B3.keep {H H':Hp}{l:Addr}(h:B3 H l) (k:∀ o,H l=some o->H' l=some o):B3 H' l:=by
 obtain ⟨a,b,e,r⟩:=h
 exact ⟨a,b,k _ e,r⟩
def Sg.ah (S:Sg E ss σ F H){l:Addr}{o:HO}(h:F l=some o):Bs ss σ l:=fun i hi e=>by
 obtain ⟨l',e1,e2,_⟩:=S.ok i _ hi
 rw [e] at e1
 cases e1
 rw [h] at e2;cases e2
def Sg.ZY (S:Sg E ss σ F H){l:Addr}{o:HO}(hA:l∉E.A) (h:E.H0 l=some o):Bs ss σ l:=fun i hi e=>by
 obtain ⟨l',e1,_,q,_⟩:=S.ok i _ hi
 rw [e] at e1
 cases e1
 rcases q with q | q
 ·rw [h] at q;cases q
 ·exact hA q
def Sg.rb (S:Sg E ss σ F H){l:Addr}(h:l∈E.B):Bs ss σ l:=fun i hi e=>by
 obtain ⟨l',e1,_,q,_⟩:=S.ok i _ hi
 rw [e] at e1
 cases e1
 obtain ⟨h0,hA⟩:=S.b0 l h
 rcases q with q | q
 ·exact h0 q
 ·exact hA q
def Sg.DQ (S:Sg E ss σ F H){i:Nat}{s:Slot}{l:Addr}(h:ss[i]?=some s) (m:B2 s σ[i]? l):H l≠none:=by
 have k:=S.ok i s h
 cases s with
 | own xs=>obtain ⟨l',vs,e1,_,_,e2,_⟩:=k;rw [show σ[i]?=some (some (.ref l)) from m] at e1;cases e1;rw [e2];simp
 | AK=>obtain ⟨l',e1,_,_,_,_,e2,_⟩:=k;rw [show σ[i]?=some (some (.ref l)) from m] at e1;cases e1;rw [e2];simp
 | ow lt t=>obtain ⟨v,_,r,_⟩:=k;exact r.there l m
 | _=>cases m
def Sg.jX (S:Sg E ss σ F H){i:Nat}{s:Slot}{l:Addr}(h:ss[i]?=some s) (m:B2 s σ[i]? l):F l=none:=by
 have k:=S.ok i s h
 cases s with
 | own xs=>obtain ⟨l',vs,e1,e2,_⟩:=k;rw [show σ[i]?=some (some (.ref l)) from m] at e1;cases e1;exact e2
 | AK=>obtain ⟨l',e1,e2,_⟩:=k;rw [show σ[i]?=some (some (.ref l)) from m] at e1;cases e1;exact e2
 | ow lt t=>obtain ⟨v,_,r,_,q⟩:=k;exact (q l m).1
 | _=>cases m
def Sg.HU (S:Sg E ss σ F H){i:Nat}{s:Slot}{l:Addr}(h:ss[i]?=some s) (hl:H l=none):¬ B2 s σ[i]? l:=fun m=>S.DQ h m hl
def Sg.LM (S:Sg E ss σ F H){i:Nat}{s:Slot}{l:Addr}(h:ss[i]?=some s) (m:B2 s σ[i]? l) (np:s≠.AK):Bs ss σ l:=fun j hj ej=>
 S.Bg i j s _ l (by rintro rfl;rw [h] at hj;exact np (BG hj)) h hj m ej
def Ok.go (S:Sg E ss σ F H){i:Nat}{s:Slot}(hi:ss[i]?=some s) (ff:AD F F') (hk:∀ a o,B2 s σ[i]? a->H a=some o->H' a=some o) (B9:∀ a,H a≠none->F a=none->F' a=none) (np:s≠.AK):Ok E F' H' s σ[i]?:=by
 have k:=S.ok i s hi
 cases s with
 | any=>trivial
 | is p=>obtain ⟨v,e,r⟩:=k;exact ⟨v,e,r.mono ff⟩
 | own xs=>
  obtain ⟨l,vs,e,e1,e2,e3,r⟩:=k
  exact ⟨l,vs,e,B9 l (by rw [e3];simp) e1,e2,hk l _ e e3,r.mono ff⟩
 | AK=>exact absurd rfl np
 | sq tp xs=>
  cases tp with
  | true=>obtain ⟨v,e,r⟩:=k;exact ⟨v,e,r.mono ff⟩
  | false=>obtain ⟨l,vs,e,e1,e2,r⟩:=k;exact ⟨l,vs,e,e1,e2,r.mono ff⟩
 | raw P=>obtain ⟨v,e,r,st⟩:=k;exact ⟨v,e,st _ _ ff r,st⟩
 | ow lt t=>
  obtain ⟨v,e,r,nd,q⟩:=k
  exact ⟨v,e,r.mono ff fun a ha o=>hk a o ha,nd,fun a ha=>⟨B9 a (r.there a ha) (q a ha).1,(q a ha).2⟩⟩
def Sg.step (S:Sg E ss σ F H) (ff:AD F F') (fh:AD F' H') (hk:∀ a o,Bs ss σ a->H a=some o->H' a=some o) (hn:∀ a o,F' a=some o->F a=some o∨H a=none)
  (hp:∀ (i:Nat) l,ss[i]?=some .AK->σ[i]?=some (some (.ref l))->B3 H' l):Mv E ss σ F H F' H':=by
 have B9:∀ a,H a≠none->F a=none->F' a=none:=fun a h1 h2=>by
  cases e:F' a with
  | none=>rfl
  | some o=>
   rcases hn a o e with q | q
   ·rw [h2] at q;cases q
   ·exact absurd q h1
 have lE:∀ a,B3 H a->Bs ss σ a->B3 H' a:=fun a p n=>B3.keep p fun o e=>hk a o n e
 refine ⟨⟨⟨fh,S.f0.trans ff,fun a o hA e=>?_,fun a o e=>?_,fun a hA=>?_,fun a hA=>?_,S.a0,fun a hB=>B9 a (S.bH a hB) (S.bF a hB),fun a hB=>?_,S.b0⟩,S.len,fun i s hi=>?_,S.Bg⟩,ff,hk,hn⟩
 ·exact hk a o (S.ZY hA.1 e) (S.keep a o hA e)
 ·rcases hn a o e with q | q
  ·exact S.fresh a o q
  ·exact .inr (S.CO q)
 ·by_cases q:∃ i:Nat,ss[i]?=some .AK/\σ[i]?=some (some (.ref a))
  ·obtain ⟨i,q1,q2⟩:=q
   exact hp i a q1 q2
  ·exact lE a (S.FV a hA) fun i h1 h2=>q ⟨i,h1,h2⟩
 ·refine B9 a ?_ (S.Lo a hA)
  obtain ⟨_,_,e1,_⟩:=S.FV a hA
  rw [e1];simp
 ·obtain ⟨o,e⟩:=Option.ne_none_iff_exists'.mp (S.bH a hB)
  rw [hk a o (S.rb hB) e];simp
 ·by_cases np:s=.AK
  ·subst np
   obtain ⟨l,e,e1,e2,e3⟩:=S.ok i _ hi
   have Jd:=e3
   obtain ⟨_,_,e4,_⟩:=Jd
   exact ⟨l,e,B9 l (by rw [e4];simp) e1,e2,hp i l hi e⟩
  ·exact Ok.go S hi ff (fun a o m=>hk a o (S.LM hi m np)) B9 np
def Sg.Cp (S:Sg E ss σ F H){i:Nat}{l:Addr}(hi:ss[i]?=some .AK) (e:σ[i]?=some (some (.ref l))):B3 H l:=by
 obtain ⟨l',e1,_,_,p⟩:=S.ok i _ hi
 rw [e] at e1;cases e1;exact p
def Sg.alloc (S:Sg E ss σ F H){p:Addr}(h:H p=none) (o:HO):Mv E ss σ F H (upd F p o) (upd H p o):=by
 refine S.step (Cs (S.B9 h) _) (fun a u e=>?_) (fun a u _ e=>Cs h o a u e) (fun a u e=>?_) fun i l hi e=>B3.keep (S.Cp hi e) fun u e=>Cs h o l u e
 ·by_cases q:a=p
  ·subst q;rw [Aa] at e ⊢;exact e
  ·rw [AR q] at e ⊢;exact S.fh a u e
 ·by_cases q:a=p
  ·subst q;exact .inr h
  ·rw [AR q] at e;exact .inl e
def Sg.make (S:Sg E ss σ F H){p:Addr}(h:H p=none) (o:HO):Mv E ss σ F H F (upd H p o):=
 S.step (AD.refl _) (S.fh.trans (Cs h o)) (fun a u _ e=>Cs h o a u e) (fun a u e=>.inl e) fun i l hi e=>B3.keep (S.Cp hi e) fun u e=>Cs h o l u e
def Sg.grow (S:Sg E ss σ F H) (s:AD H H'):Mv E ss σ F H F H':=
 S.step (AD.refl _) (S.fh.trans s) (fun a u _ e=>s a u e) (fun a u e=>.inl e) fun i l hi e=>B3.keep (S.Cp hi e) fun u e=>s l u e
def Sg.setG (S:Sg E ss σ F H){j:Nat}{s:Slot}{v:V}(AF:Ok E F H s (some (some v))) (bW:∀ l,B2 s (some (some v)) l->∀ (i:Nat) u,i≠j->ss[i]?=some u->¬ B2 u σ[i]? l):Sg E (ss.set j s) (σ.set j (some v)) F H:=by
 refine ⟨S.toFin,by rw [HG,HG];exact S.len,fun i u hi=>?_,fun i k u w l Qu hi hk mu mw=>?_⟩
 ·by_cases q:i=j
  ·subst q
   have AN:i < ss.length:=by have:=(List.getElem?_eq_some_iff.mp hi).1;simpa using this
   rw [CS AN] at hi
   cases hi
   rw [CS (by rw [<- S.len];exact AN)]
   exact AF
  ·rw [CB (Bi q)] at hi ⊢
   exact S.ok i u hi
 ·by_cases q:i=j
  ·subst q
   have AN:i < ss.length:=by have:=(List.getElem?_eq_some_iff.mp hi).1;simpa using this
   rw [CS AN] at hi
   rw [CS (by rw [<- S.len];exact AN)] at mu
   cases hi
   rw [CB Qu] at hk mw
   exact bW l mu k w (Bi Qu) hk mw
  ·rw [CB (Bi q)] at hi mu
   by_cases q2:k=j
   ·subst q2
    have AN:k < ss.length:=by have:=(List.getElem?_eq_some_iff.mp hk).1;simpa using this
    rw [CS AN] at hk
    cases hk
    rw [CS (by rw [<- S.len];exact AN)] at mw
    exact bW l mw i u Qu hi mu
   ·rw [CB (Bi q2)] at hk mw
    exact S.Bg i k u w l Qu hi hk mu mw
def Sg.Ga (S:Sg E ss σ F H){j:Nat}{v:V}{p:PV}(r:Rep F v p):Sg E (ss.set j (.is p)) (σ.set j (some v)) F H:=S.setG ⟨v,rfl,r⟩ fun _ h=>by cases h
end
def Sv (ss:List Slot) (σ:L2.St) (F H:Hp) (v:V):Bool->List PV->Prop
 | true,xs=>Rep F v (.tup xs)
 | false,xs=>∃ l vs,v=.ref l/\Bs ss σ l/\H l=some (.lst vs)/\AG F vs xs
def Fv (E:Ent0) (F:Hp) (v:V):Bool->List PV->Prop
 | true,xs=>Rep F v (.tup xs)
 | false,xs=>∃ l vs,v=.ref l/\(F l=some (.lst vs)∨((l∉E.A/\l∉E.B)/\E.H0 l=some (.lst vs)))/\AG F vs xs
structure Wp [Xw] (ss:List Slot) (t:TE) (k:PV->Prop):Prop where
 go:∀ (E:Ent) (σ:L2.St) (F H:Hp) (Q:VK),Sg E ss σ F H->(∀ v p F' H',Mv E ss σ F H F' H'->Rep F' v p->k p->Q v H')->t σ H Q
structure Wn [Xw] (ss:List Slot) (t:TE) (k:List PV->Prop):Prop where
 go:∀ (E:Ent) (σ:L2.St) (F H:Hp) (Q:VK),Sg E ss σ F H->(∀ l vs xs F' H',Mv E ss σ F H F' H'->F' l=none->H l=none->H' l=some (.lst vs)->AG F' vs xs->k xs->Q (.ref l) H')->t σ H Q
structure Wq [Xw] (ss:List Slot) (t:TE) (k:Bool->List PV->Prop):Prop where
 go:∀ (E:Ent) (σ:L2.St) (F H:Hp) (Q:VK),Sg E ss σ F H->(∀ v tp xs F' H',Mv E ss σ F H F' H'->Sv ss σ F' H' v tp xs->k tp xs->Q v H')->t σ H Q
structure Wz [Xw] (ss:List Slot) (t:TE) (k:Bool->List PV->Prop):Prop where
 go:∀ (E:Ent) (σ:L2.St) (F H:Hp) (Q:VK),Sg E ss σ F H->(∀ v tp xs F' H',Mv E ss σ F H F' H'->Fv E F' v tp xs->k tp xs->Q v H')->t σ H Q
structure Wt [Xw] (ss:List Slot) (t:TT) (k:Bool->Prop):Prop where
 go:∀ (E:Ent) (σ:L2.St) (F H:Hp) (Q:Bool->Hp->Prop),Sg E ss σ F H->(∀ b F' H',Mv E ss σ F H F' H'->k b->Q b H')->t σ H Q
def Av (ss:List Slot) (σ:L2.St) (F H:Hp) (v:V):Slot->Prop
 | .is p=>Rep F v p
 | .sq tp xs=>Sv ss σ F H v tp xs
 | .raw P=>P F v/\∀ F F',AD F F'->P F v->P F' v
 | _=>False
inductive E6 (ss:List Slot) (σ:L2.St) (F H:Hp):List V->List Slot->Prop where
 | nil:E6 ss σ F H [] []
 | cons {v:V}{s:Slot}{vs:List V}{l:List Slot}:Av ss σ F H v s->E6 ss σ F H vs l->E6 ss σ F H (v :: vs) (s :: l)
structure Wa [Xw] (ss:List Slot) (t:TA) (k:List Slot->Prop):Prop where
 go:∀ (E:Ent) (σ:L2.St) (F H:Hp) (Q:List V->Hp->Prop),Sg E ss σ F H->(∀ vs l F' H',Mv E ss σ F H F' H'->E6 ss σ F' H' vs l->k l->Q vs H')->t σ H Q
inductive Ak where
 | is (k:PV->Prop) | new (k:List PV->Prop) | AK | ow (k:OV->Prop) | mt (k:PV->OV->Prop)
def OV.val:OV->V
 | .nd _ a _=>.ref a
 | _=>.A5
def Ak.ok (R:Ak) (E:Ent0) (F' H':Hp) (v:V):Prop:=match R with
 | .is k=>∃ p,Rep F' v p/\k p
 | .new k=>∃ l vs xs,v=.ref l/\F' l=none/\E.H0 l=none/\H' l=some (.lst vs)/\AG F' vs xs/\k xs
 | .AK=>∃ l,v=.ref l/\F' l=none/\E.H0 l=none/\B3 H' l
 | .ow k=>∃ t,As F' H' v t/\t.addrs.Nodup/\(∀ a∈t.addrs,F' a=none/\E.H0 a=none)/\k t
 | .mt k=>∃ p t,Rep F' v p/\As F' H' t.val t/\t.addrs.Nodup/\(∀ a∈t.addrs,F' a=none/\(E.H0 a=none∨a∈E.B))/\k p t
structure Ws [Xw] (ss:List Slot) (t:TS) (nx:List Slot->Prop) (R:Ak):Prop where
 go:∀ (E:Ent) (D:Ends) (σ:L2.St) (F H:Hp),Sg E ss σ F H->(∀ A8 σ' F' H',nx A8->Sg E A8 σ' F' H'->AD F F'->D.nx σ' H')->(∀ v F' H',Fin E F' H'->R.ok E F' H' v->D.rt v H')->t D σ H
section
variable [Xw]
variable {E:Ent0}{ss:List Slot}{σ:L2.St} {F H F' H':Hp}{K:ZAY}{ta tb tc te:TE}{k:PV->Prop}{v:V}{tp:Bool}{xs:List PV}{nx:List Slot->Prop}{R:Ak}
def Sv.mv (h:Sv ss σ F H v tp xs) (m:Mv E ss σ F H F' H'):Sv ss σ F' H' v tp xs:=by
 cases tp with
 | true=>exact Rep.mono m.ff h
 | false=>
  obtain ⟨l,vs,e,n,r,q⟩:=h
  exact ⟨l,vs,e,n,m.hh l _ n r,q.mono m.ff⟩
def Sv.seq (S:Sg E ss σ F H) (h:Sv ss σ F H v tp xs):∃ l vs,v=.ref l/\H l=some (DK tp vs)/\AG F vs xs:=by
 cases tp with
 | true=>cases h with | tup e r=>exact ⟨_,_,rfl,S.fh _ _ e,r⟩
 | false=>obtain ⟨l,vs,e,_,r,q⟩:=h;exact ⟨l,vs,e,r,q⟩
def Fv.sv (S:Sg E ss σ F H) (h:Fv E F v tp xs):Sv ss σ F H v tp xs:=by
 cases tp with
 | true=>exact h
 | false=>
  obtain ⟨l,vs,e,h1 | ⟨hA,h1⟩,r⟩:=h
  ·exact ⟨l,vs,e,S.ah h1,S.fh _ _ h1,r⟩
  ·exact ⟨l,vs,e,S.ZY hA.1 h1,S.keep _ _ hA h1,r⟩
theorem Fv.mono (h:Fv E F v tp xs) (s:AD F F'):Fv E F' v tp xs:=by
 cases tp with
 | true=>exact Rep.mono s h
 | false=>
  obtain ⟨l,vs,e,h1,r⟩:=h
  exact ⟨l,vs,e,h1.imp (fun h=>s _ _ h) id,r.mono s⟩
theorem Av.mv {s:Slot}(h:Av ss σ F H v s) (m:Mv E ss σ F H F' H'):Av ss σ F' H' v s:=by
 cases s with
 | is p=>exact Rep.mono m.ff h
 | sq tp xs=>exact Sv.mv h m
 | raw P=>exact ⟨h.2 _ _ m.ff h.1,h.2⟩
 | _=>exact h
theorem E6.mv {vs:List V}{l:List Slot}(h:E6 ss σ F H vs l) (m:Mv E ss σ F H F' H'):E6 ss σ F' H' vs l:=by
 induction h with
 | nil=>exact .nil
 | cons a _ ih=>exact .cons (a.mv m) ih
def Wp.mono {k':PV->Prop}(h:Wp ss te k) (i:∀ p,k p->k' p):Wp ss te k':=⟨fun E σ F H Q S q=>h.go E σ F H Q S fun v p F' H' m r kk=>q v p F' H' m r (i p kk)⟩
def A9 {i:Nat}{p:PV}(h:ss[i]?=some (.is p)) (hk:k p):Wp ss (BM i) k:=⟨fun E σ F H Q S q=>by
 obtain ⟨v,hv,r⟩:=S.ok i _ h
 exact ⟨v,hv,q v p F H (.refl S) r hk⟩⟩
def Aw {i:Int}(hk:k (.int i)):Wp ss (tC (.int i)) k:=⟨fun E σ F H Q S q=>q _ _ F H (.refl S) (.int i) hk⟩
def EK {x:Str}(hk:k (.str x)):Wp ss (tC (.str x)) k:=⟨fun E σ F H Q S q=>q _ _ F H (.refl S) (.str x) hk⟩
def Lz {b:Bool}(hk:k (.bl b)):Wp ss (tC (.bl b)) k:=⟨fun E σ F H Q S q=>q _ _ F H (.refl S) (.bl b) hk⟩
def Gq (hk:k .A5):Wp ss (tC .A5) k:=⟨fun E σ F H Q S q=>q _ _ F H (.refl S) .A5 hk⟩
def Bo (h:Wn ss te (fun xs=>k (.lst xs))):Wp ss te k:=⟨fun E σ F H Q S q=>h.go E σ F H Q S fun l vs xs F' H' m fl hl Du r kk=>by
 have S':=m.st
 have fr:Mv E ss σ F H (upd F' l (.lst vs)) H':=by
  have nF:∀ a,H' a≠none->a≠l->F' a=none->upd F' l (.lst vs) a=none:=fun a _ h1 h2=>by rw [AR h1];exact h2
  refine ⟨⟨⟨fun a u e=>?_,S'.f0.trans (Cs fl _),S'.keep,fun a u e=>?_,S'.FV,fun a hA=>?_,S'.a0,fun a hB=>?_,S'.bH,S'.b0⟩,S'.len,fun i s hi=>?_,S'.Bg⟩,m.ff.trans (Cs fl _),m.hh,fun a u e=>?_⟩
  ·by_cases q:a=l
   ·subst q;rw [Aa] at e;rw [<- e];exact Du
   ·rw [AR q] at e;exact S'.fh a u e
  ·by_cases q:a=l
   ·subst q;exact .inr (S.CO hl)
   ·rw [AR q] at e;exact S'.fresh a u e
  ·by_cases q:a=l
   ·subst q
    obtain ⟨_,_,e,_⟩:=S.FV _ hA
    rw [hl] at e;cases e
   ·rw [AR q];exact S'.Lo a hA
  ·by_cases q:a=l
   ·subst q;exact absurd hl (S.bH _ hB)
   ·rw [AR q];exact S'.bF a hB
  ·have V8:∀ a,B2 s σ[i]? a->a≠l:=by
    rintro a m rfl;exact S.HU hi hl m
   have kk:=S'.ok i s hi
   cases s with
   | any=>trivial
   | is p=>obtain ⟨v,e,r⟩:=kk;exact ⟨v,e,r.mono (Cs fl _)⟩
   | own ys=>
    obtain ⟨l',ws,e,e1,e2,e3,r⟩:=kk
    exact ⟨l',ws,e,by rw [AR (V8 l' e)];exact e1,e2,e3,r.mono (Cs fl _)⟩
   | AK=>
    obtain ⟨l',e,e1,e2,e3⟩:=kk
    exact ⟨l',e,by rw [AR (V8 l' e)];exact e1,e2,e3⟩
   | sq tp ys=>
    cases tp with
    | true=>obtain ⟨v,e,r⟩:=kk;exact ⟨v,e,r.mono (Cs fl _)⟩
    | false=>obtain ⟨l',ws,e,e1,e2,r⟩:=kk;exact ⟨l',ws,e,e1,e2,r.mono (Cs fl _)⟩
   | raw P=>obtain ⟨v,e,r,st⟩:=kk;exact ⟨v,e,st _ _ (Cs fl _) r,st⟩
   | ow lt t=>
    obtain ⟨v,e,r,nd,q⟩:=kk
    exact ⟨v,e,r.mono (Cs fl _) fun a _ o h=>h,nd,fun a ha=>⟨by rw [AR (V8 a ha)];exact (q a ha).1,(q a ha).2⟩⟩
  ·by_cases q:a=l
   ·subst q;exact .inr hl
   ·rw [AR q] at e;exact m.nn a u e
 exact q _ _ _ _ fr (.lst Aa (r.mono (Cs fl _))) kk⟩
def Bz {k:Bool->List PV->Prop}(h:Wp ss te (fun p=>∃ xs,(p=.lst xs/\k false xs)∨(p=.tup xs/\k true xs))):Wq ss te k:=⟨fun E σ F H Q S q=>h.go E σ F H Q S fun v p F' H' m r ⟨xs,h⟩=>by
 rcases h with ⟨rfl,kk⟩ | ⟨rfl,kk⟩
 ·cases r with | lst h r=>exact q _ false xs F' H' m ⟨_,_,rfl,m.st.ah h,m.st.fh _ _ h,r⟩ kk
 ·exact q v true xs F' H' m r kk⟩
def C9 {i:Nat}{k:Bool->List PV->Prop}(h:ss[i]?=some (.is (.lst xs))) (hk:k false xs):Wq ss (BM i) k:=Bz (A9 h ⟨xs,.inl ⟨rfl,hk⟩⟩)
def BU {i:Nat}{k:Bool->List PV->Prop}(h:ss[i]?=some (.is (.tup xs))) (hk:k true xs):Wq ss (BM i) k:=Bz (A9 h ⟨xs,.inr ⟨rfl,hk⟩⟩)
def pT {i:Nat}{k:Bool->List PV->Prop}(h:ss[i]?=some (.own xs)) (hk:k false xs):Wq ss (BM i) k:=⟨fun E σ F H Q S q=>by
 obtain ⟨l,vs,e,e1,e2,e3,r⟩:=S.ok i _ h
 exact ⟨_,e,q _ false xs F H (.refl S) ⟨l,vs,rfl,S.LM h e (by simp),e3,r⟩ hk⟩⟩
def eK {i:Nat}{k:Bool->List PV->Prop}(h:ss[i]?=some (.sq tp xs)) (hk:k tp xs):Wz ss (BM i) k:=⟨fun E σ F H Q S q=>by
 have kk:=S.ok i _ h
 cases tp with
 | true=>obtain ⟨v,e,r⟩:=kk;exact ⟨_,e,q _ true xs F H (.refl S) r hk⟩
 | false=>
  obtain ⟨l,vs,e,hA,h0,r⟩:=kk
  exact ⟨_,e,q _ false xs F H (.refl S) ⟨l,vs,rfl,.inr ⟨hA,h0⟩,r⟩ hk⟩⟩
def E4 {k:Bool->List PV->Prop}(h:Wp ss te (fun p=>∃ xs,(p=.lst xs/\k false xs)∨(p=.tup xs/\k true xs))):Wz ss te k:=⟨fun E σ F H Q S q=>h.go E σ F H Q S fun v p F' H' m r ⟨xs,h⟩=>by
 rcases h with ⟨rfl,kk⟩ | ⟨rfl,kk⟩
 ·cases r with | lst h r=>exact q _ false xs F' H' m ⟨_,_,rfl,.inl h,r⟩ kk
 ·exact q _ true xs F' H' m r kk⟩
def Xz {k:Bool->List PV->Prop}(h:Wz ss te k):Wq ss te k:=⟨fun E σ F H Q S q=>h.go E σ F H Q S fun v tp xs F' H' m f kk=>q v tp xs F' H' m (f.sv m.st) kk⟩
def JR {i:Nat}{k:Bool->List PV->Prop}(h:ss[i]?=some (.sq tp xs)) (hk:k tp xs):Wq ss (BM i) k:=Xz (eK h hk)
def ja {C:Int->Int->Prop}{f:Int->Int->Int}(h:Wp ss ta fun x=>∃ i,x=.int i/\Wp ss tb fun y=>∃ j,y=.int j/\C i j/\k (.int (f i j))):Wp ss (BH (rI C fun i j=>.int (f i j)) ta tb) k:=⟨fun E σ F H Q S q=>
 h.go E σ F H _ S fun v p F1 H1 m1 r1 ⟨i,e1,h2⟩=>by
  subst e1;cases r1
  exact h2.go E σ F1 H1 _ m1.st fun v2 p2 F2 H2 m2 r2 ⟨j,e2,c,kk⟩=>by
   subst e2;cases r2
   exact ⟨i,j,rfl,rfl,c,q _ _ F2 H2 (m1.trans m2) (.int _) kk⟩⟩
def Su {f:Int->Int->Int}(h:Wp ss ta fun x=>∃ i,x=.int i/\Wp ss tb fun y=>∃ j,y=.int j/\k (.int (f i j))):Wp ss (BH (Fs fun i j=>.int (f i j)) ta tb) k:=⟨fun E σ F H Q S q=>
 h.go E σ F H _ S fun v p F1 H1 m1 r1 ⟨i,e1,h2⟩=>by
  subst e1;cases r1
  exact h2.go E σ F1 H1 _ m1.st fun v2 p2 F2 H2 m2 r2 ⟨j,e2,kk⟩=>by
   subst e2;cases r2
   exact ⟨i,j,rfl,rfl,q _ _ F2 H2 (m1.trans m2) (.int _) kk⟩⟩
def Y2 {f:Int->Int->Bool}(h:Wp ss ta fun x=>∃ i,x=.int i/\Wp ss tb fun y=>∃ j,y=.int j/\k (.bl (f i j))):Wp ss (BH (Fs fun i j=>.bl (f i j)) ta tb) k:=⟨fun E σ F H Q S q=>
 h.go E σ F H _ S fun v p F1 H1 m1 r1 ⟨i,e1,h2⟩=>by
  subst e1;cases r1
  exact h2.go E σ F1 H1 _ m1.st fun v2 p2 F2 H2 m2 r2 ⟨j,e2,kk⟩=>by
   subst e2;cases r2
   exact ⟨i,j,rfl,rfl,q _ _ F2 H2 (m1.trans m2) (.bl _) kk⟩⟩
def RF {f:Int->Int}(h:Wp ss ta fun x=>∃ i,x=.int i/\k (.int (f i))):Wp ss (Qx (rU fun i=>.int (f i)) ta) k:=⟨fun E σ F H Q S q=>
 h.go E σ F H _ S fun v p F1 H1 m1 r1 ⟨i,e1,kk⟩=>by
  subst e1;cases r1
  exact ⟨i,rfl,q _ _ F1 H1 m1 (.int _) kk⟩⟩
def alike:PV->PV->Bool
 | .int i,.int j=>decide (i=j)
 | .str i,.str j=>decide (i=j)
 | .bl i,.bl j=>decide (i=j)
 | .A5,.A5=>true
 | _,_=>false
def L4 (p q:PV):Bool:=flat p && flat q && Pn (Fz.enc p) (Fz.enc q)
def cb {p q:PV}(h:L4 p q=true):decide (Fz.enc p=Fz.enc q)=alike p q:=by
 unfold L4 at h
 rw [Ek,Ek] at h
 obtain ⟨⟨h1,h2⟩,h3⟩:=h
 cases p <;> cases q <;> first | (simp [Fz.enc,alike];done) | (simp [flat] at h1;done) | (simp [flat] at h2;done) | (simp [Fz.enc,Pn] at h3;done)
def QK (h:Wp ss ta fun x=>Wp ss tb fun y=>L4 x y=true/\k (.bl (alike x y))):Wp ss (BH ee ta tb) k:=⟨fun E σ F H Q S q=>
 h.go E σ F H _ S fun v p F1 H1 m1 r1 h2=>h2.go E σ F1 H1 _ m1.st fun v2 p2 F2 H2 m2 r2 ⟨sc,kk⟩=>by
  have VF:=sc
  unfold L4 at sc
  rw [Ek,Ek] at sc
  rw [r1.enc sc.1.1,r2.enc sc.1.2]
  refine ⟨sc.2,?_⟩
  rw [cb VF]
  exact q _ _ F2 H2 (m1.trans m2) (.bl _) kk⟩
def Qk (h:Wp ss ta fun x=>Wp ss tb fun y=>L4 x y=true/\k (.bl (!alike x y))):Wp ss (BH Yr ta tb) k:=⟨fun E σ F H Q S q=>
 h.go E σ F H _ S fun v p F1 H1 m1 r1 h2=>h2.go E σ F1 H1 _ m1.st fun v2 p2 F2 H2 m2 r2 ⟨sc,kk⟩=>by
  have VF:=sc
  unfold L4 at sc
  rw [Ek,Ek] at sc
  rw [r1.enc sc.1.1,r2.enc sc.1.2]
  refine ⟨sc.2,?_⟩
  rw [cb VF]
  exact q _ _ F2 H2 (m1.trans m2) (.bl _) kk⟩
def bq (h:Wp ss ta fun x=>∃ c,x=.bl c/\if c=true then Wp ss tb k else k (.bl false)):Wp ss (Uz ta tb) k:=⟨fun E σ F H Q S q=>
 h.go E σ F H _ S fun v p F1 H1 m1 r1 ⟨c,e,h2⟩=>by
  subst e;cases r1
  refine ⟨c,rfl,?_⟩
  cases c with
  | true=>rw [if_pos rfl] at h2 ⊢;exact h2.go E σ F1 H1 _ m1.st fun v2 p2 F2 H2 m2 r2 kk=>q _ _ F2 H2 (m1.trans m2) r2 kk
  | false=>rw [if_neg (by decide)] at h2 ⊢;exact q _ _ F1 H1 m1 (.bl _) h2⟩
def qI (h:Wp ss ta fun x=>∃ c,x=.bl c/\if c=true then k (.bl true) else Wp ss tb k):Wp ss (oN ta tb) k:=⟨fun E σ F H Q S q=>
 h.go E σ F H _ S fun v p F1 H1 m1 r1 ⟨c,e,h2⟩=>by
  subst e;cases r1
  refine ⟨c,rfl,?_⟩
  cases c with
  | true=>rw [if_pos rfl] at h2 ⊢;exact q _ _ F1 H1 m1 (.bl _) h2
  | false=>rw [if_neg (by decide)] at h2 ⊢;exact h2.go E σ F1 H1 _ m1.st fun v2 p2 F2 H2 m2 r2 kk=>q _ _ F2 H2 (m1.trans m2) r2 kk⟩
def mR (h:Wp ss ta fun x=>∃ c,x=.bl c/\k (.bl (!c))):Wp ss (nC ta) k:=⟨fun E σ F H Q S q=>
 h.go E σ F H _ S fun v p F1 H1 m1 r1 ⟨c,e,kk⟩=>by subst e;cases r1;exact ⟨c,rfl,q _ _ F1 H1 m1 (.bl _) kk⟩⟩
def lG {f g:Int->Int->Bool}(h:Wp ss ta fun x=>∃ i,x=.int i/\Wp ss tb fun y=>∃ j,y=.int j/\if f i j=true then Wp ss tc (fun z=>∃ l,z=.int l/\k (.bl (g j l))) else k (.bl false)) :
  Wp ss (N7 (Fs fun i j=>.bl (f i j)) (Fs fun i j=>.bl (g i j)) ta tb tc) k:=⟨fun E σ F H Q S q=>
 h.go E σ F H _ S fun v p F1 H1 m1 r1 ⟨i,e1,h2⟩=>by
  subst e1;cases r1
  exact h2.go E σ F1 H1 _ m1.st fun v2 p2 F2 H2 m2 r2 ⟨j,e2,h3⟩=>by
   subst e2;cases r2
   refine ⟨i,j,rfl,rfl,f i j,rfl,?_⟩
   cases c:f i j with
   | true=>
    rw [c,if_pos rfl] at h3
    rw [if_pos rfl]
    exact h3.go E σ F2 H2 _ m2.st fun v3 p3 F3 H3 m3 r3 ⟨l,e3,kk⟩=>by
     subst e3;cases r3
     exact ⟨j,l,rfl,rfl,q _ _ F3 H3 (m1.trans (m2.trans m3)) (.bl _) kk⟩
   | false=>
    rw [c,if_neg (by decide)] at h3
    rw [if_neg (by decide)]
    exact q _ _ F2 H2 (m1.trans m2) (.bl _) h3⟩
def Bn {k:Bool->Prop}(h:Wp ss te fun x=>∃ c,x=.bl c/\k c):Wt ss (Lh te) k:=⟨fun E σ F H Q S q=>
 h.go E σ F H _ S fun v p F1 H1 m1 r1 ⟨c,e,kk⟩=>by subst e;cases r1;exact ⟨c,rfl,q _ F1 H1 m1 kk⟩⟩
def G4 {k:Bool->Prop}(h:Wp ss te fun x=>∃ c,x=.bl c/\k c):Wt ss (tB te) k:=⟨fun E σ F H Q S q=>
 h.go E σ F H _ S fun v p F1 H1 m1 r1 ⟨c,e,kk⟩=>by subst e;cases r1;exact ⟨c,rfl,q _ F1 H1 m1 kk⟩⟩
def HZ {k:Bool->Prop}(h:k true):Wt ss W4 k:=⟨fun E σ F H Q S q=>q _ F H (.refl S) h⟩
def Jk {t:TT}{k:Bool->Prop}(h:Wt ss t fun c=>k (!c)):Wt ss (Qm t) k:=⟨fun E σ F H Q S q=>h.go E σ F H _ S fun c F1 H1 m1 kk=>q _ F1 H1 m1 kk⟩
def Vo {t u:TT}{k:Bool->Prop}(h:Wt ss t fun c=>if c=true then Wt ss u k else k false):Wt ss (W3 t u) k:=⟨fun E σ F H Q S q=>
 h.go E σ F H _ S fun c F1 H1 m1 h2=>by
  show if c=true then _ else _
  cases c with
  | true=>rw [if_pos rfl] at h2 ⊢;exact h2.go E σ F1 H1 _ m1.st fun c2 F2 H2 m2 kk=>q _ F2 H2 (m1.trans m2) kk
  | false=>rw [if_neg (by decide)] at h2 ⊢;exact q _ F1 H1 m1 h2⟩
def Jy {t u:TT}{k:Bool->Prop}(h:Wt ss t fun c=>if c=true then k true else Wt ss u k):Wt ss (WO t u) k:=⟨fun E σ F H Q S q=>
 h.go E σ F H _ S fun c F1 H1 m1 h2=>by
  show if c=true then _ else _
  cases c with
  | true=>rw [if_pos rfl] at h2 ⊢;exact q _ F1 H1 m1 h2
  | false=>rw [if_neg (by decide)] at h2 ⊢;exact h2.go E σ F1 H1 _ m1.st fun c2 F2 H2 m2 kk=>q _ F2 H2 (m1.trans m2) kk⟩
end
structure We [Xw] (ss:List Slot) (t:TA) (k:List PV->Prop):Prop where
 go:∀ (E:Ent) (σ:L2.St) (F H:Hp) (Q:List V->Hp->Prop),Sg E ss σ F H->(∀ vs ps F' H',Mv E ss σ F H F' H'->AG F' vs ps->k ps->Q vs H')->t σ H Q
structure Wo [Xw] (ss:List Slot) (t:TO) (k:Option Int->Prop):Prop where
 go:∀ (E:Ent) (σ:L2.St) (F H:Hp) (Q:Option Int->Hp->Prop),Sg E ss σ F H->(∀ o F' H',Mv E ss σ F H F' H'->k o->Q o H')->t σ H Q
section
variable [Xw]
variable {E:Ent0}{ss:List Slot}{σ:L2.St} {F H F' H':Hp}{K:ZAY}{ta tb tc te:TE}{k:PV->Prop}{v:V}{tp:Bool}{xs:List PV}{nx:List Slot->Prop}{R:Ak}
def FO {k:List PV->Prop}(h:k []):We ss An k:=⟨fun E σ F H Q S q=>q _ _ F H (.refl S) .nil h⟩
def Dw {k:List PV->Prop}{t:TA}(h:Wp ss te fun p=>We ss t fun ps=>k (p :: ps)):We ss (AO te t) k:=⟨fun E σ F H Q S q=>
 h.go E σ F H _ S fun v p F1 H1 m1 r1 h2=>h2.go E σ F1 H1 _ m1.st fun vs ps F2 H2 m2 r2 kk=>q _ _ F2 H2 (m1.trans m2) (.cons (r1.mono m2.ff) r2) kk⟩
def BO {k:List Slot->Prop}(h:k []):Wa ss An k:=⟨fun E σ F H Q S q=>q _ _ F H (.refl S) .nil h⟩
def Ac {k:List Slot->Prop}{t:TA}(h:Wp ss te fun p=>Wa ss t fun l=>k (.is p :: l)):Wa ss (AO te t) k:=⟨fun E σ F H Q S q=>
 h.go E σ F H _ S fun v p F1 H1 m1 r1 h2=>h2.go E σ F1 H1 _ m1.st fun vs l F2 H2 m2 r2 kk=>q _ _ F2 H2 (m1.trans m2) (.cons (s:=.is p) (r1.mono m2.ff) r2) kk⟩
def G3 {k:List Slot->Prop}{t:TA}(h:Wq ss te fun tp xs=>Wa ss t fun l=>k (.sq tp xs :: l)):Wa ss (AO te t) k:=⟨fun E σ F H Q S q=>
 h.go E σ F H _ S fun v tp xs F1 H1 m1 r1 h2=>h2.go E σ F1 H1 _ m1.st fun vs l F2 H2 m2 r2 kk=>q _ _ F2 H2 (m1.trans m2) (.cons (s:=.sq tp xs) (r1.mv m2) r2) kk⟩
def PK {k:Option Int->Prop}(h:k none):Wo ss SI k:=⟨fun E σ F H Q S q=>q _ F H (.refl S) h⟩
def R7 {k:Option Int->Prop}(h:Wp ss te fun p=>∃ i,p=.int i/\k (some i)):Wo ss (UH te) k:=⟨fun E σ F H Q S q=>
 h.go E σ F H _ S fun v p F1 H1 m1 r1 ⟨i,e,kk⟩=>by subst e;cases r1;exact ⟨i,rfl,q _ F1 H1 m1 kk⟩⟩
def J9 {n:Nat}(h:n<=99999):n < sizeLine:=Cy (Nat.lt_succ_of_le h) (small (Ae 100000))
def JB {t:TA}(h:We ss t fun ps=>ps.length<=100000/\k (.tup ps)):Wp ss (Pq t) k:=⟨fun E σ F H Q S q=>
 h.go E σ F H _ S fun vs ps F1 H1 m1 r1 ⟨hz,kk⟩=>⟨small (by rw [r1.length];exact hz),fun a ha=>by
  have m2:=m1.st.alloc ha (.tup vs)
  exact q _ _ _ _ (m1.trans m2) (.tup Aa (r1.mono m2.ff)) kk⟩⟩
def Jv {t:TA}{k:List PV->Prop}(h:We ss t fun ps=>ps.length<=100000/\k ps):Wn ss (VY t) k:=⟨fun E σ F H Q S q=>
 h.go E σ F H _ S fun vs ps F1 H1 m1 r1 ⟨hz,kk⟩=>⟨small (by rw [r1.length];exact hz),fun a ha=>by
  have m2:=m1.st.make ha (.lst vs)
  refine q a vs ps F1 _ (m1.trans m2) (m1.st.B9 ha) ?_ Aa r1 kk
  cases e:H a with
  | none=>rfl
  | some o=>rw [m1.hh a o (m1.st.HN ha) e] at ha;cases ha⟩⟩
def QV (h:Wq ss te fun _ xs=>k (.int xs.length)):Wp ss (C1 (Nd K) (AO te An)) k:=⟨fun E σ F H Q S q=>
 h.go E σ F H _ S fun v tp xs F1 H1 m1 sv kk=>by
  obtain ⟨l,vs,rfl,hl,r⟩:=sv.seq m1.st
  refine ⟨l,vs,rfl,(DK.sq (K:=K) hl).or,?_⟩
  rw [r.length]
  exact q _ _ F1 H1 m1 (.int _) kk⟩
theorem AG.B5 {vs:List V}{i:Int}{p:PV}(r:AG F vs xs) (h:L2.B5 xs i=some p):∃ u,L2.B5 vs i=some u/\Rep F u p:=by
 unfold L2.B5 at h ⊢
 rw [r.length]
 cases e:Eh xs.length i with
 | none=>rw [e] at h;cases h
 | some j=>
  rw [e] at h
  exact r.get h
def FY (h:Wq ss ta fun tp xs=>tp=false/\Wp ss tb fun y=>∃ i p,y=.int i/\L2.B5 xs i=some p/\k p):Wp ss (BH (MF K) ta tb) k:=⟨fun E σ F H Q S q=>
 h.go E σ F H _ S fun v tp xs F1 H1 m1 sv ⟨et,h2⟩=>h2.go E σ F1 H1 _ m1.st fun v2 p2 F2 H2 m2 r2 ⟨i,p,e,ha,kk⟩=>by
  subst e;cases r2;subst et
  obtain ⟨l,vs,rfl,hl,r⟩:=(sv.mv m2).seq m2.st
  obtain ⟨u,hu,ru⟩:=r.B5 ha
  exact ⟨l,vs,i,u,rfl,rfl,AJ.of hl,hu,q _ _ F2 H2 (m1.trans m2) ru kk⟩⟩
def BW (h:Wq ss ta fun tp xs=>tp=true/\Wp ss tb fun y=>∃ i p,y=.int i/\L2.B5 xs i=some p/\k p):Wp ss (BH (EC K) ta tb) k:=⟨fun E σ F H Q S q=>
 h.go E σ F H _ S fun v tp xs F1 H1 m1 sv ⟨et,h2⟩=>h2.go E σ F1 H1 _ m1.st fun v2 p2 F2 H2 m2 r2 ⟨i,p,e,ha,kk⟩=>by
  subst e;cases r2;subst et
  obtain ⟨l,vs,rfl,hl,r⟩:=(sv.mv m2).seq m2.st
  obtain ⟨u,hu,ru⟩:=r.B5 ha
  exact ⟨l,vs,i,u,rfl,rfl,Ab.of hl,hu,q _ _ F2 H2 (m1.trans m2) ru kk⟩⟩
def xG (h:Wq ss ta fun tp xs=>Wp ss tb fun y=>∃ i p,y=.int i/\L2.B5 xs i=some p/\k p):Wp ss (BH (fun x y H Q=>MF K x y H Q∨EC K x y H Q) ta tb) k:=⟨fun E σ F H Q S q=>
 h.go E σ F H _ S fun v tp xs F1 H1 m1 sv h2=>h2.go E σ F1 H1 _ m1.st fun v2 p2 F2 H2 m2 r2 ⟨i,p,e,ha,kk⟩=>by
  subst e;cases r2
  obtain ⟨l,vs,rfl,hl,r⟩:=(sv.mv m2).seq m2.st
  obtain ⟨u,hu,ru⟩:=r.B5 ha
  cases tp with
  | false=>exact .inl ⟨l,vs,i,u,rfl,rfl,AJ.of hl,hu,q _ _ F2 H2 (m1.trans m2) ru kk⟩
  | true=>exact .inr ⟨l,vs,i,u,rfl,rfl,Ab.of hl,hu,q _ _ F2 H2 (m1.trans m2) ru kk⟩⟩
def Zd {neg:Bool}(h:Wp ss ta fun p=>∃ x,p=.str x/\Wq ss tb fun _ ys=>∃ ns:List Str,ys=ns.map PV.str/\k (.bl (if neg then !decide (x∈ns) else decide (x∈ns)))):Wp ss (BH (Iv K neg) ta tb) k:=⟨fun E σ F H Q S q=>
 h.go E σ F H _ S fun v p F1 H1 m1 r1 ⟨x,e,h2⟩=>by
  subst e;cases r1
  exact h2.go E σ F1 H1 _ m1.st fun v2 tp ys F2 H2 m2 sv ⟨ns,e2,kk⟩=>by
   subst e2
   obtain ⟨l,vs,rfl,hl,r⟩:=sv.seq m2.st
   rw [r.strs] at hl
   refine ⟨l,_,rfl,(DK.sq (K:=K) hl).or,rfl,JX ns,?_⟩
   rw [XA]
   exact q _ _ F2 H2 (m1.trans m2) (.bl _) kk⟩
def M4 {k:List PV->Prop}{r:List V->Hp->VK->Prop}(hr:r=fun xs H Q=>∃ p ys,xs=[.ref p]/\(AJ K H p ys∨Ab K H p ys)/\∀ l,H l=none->Q (.ref l) (upd H l (.lst ys))) (h:Wq ss te fun _ xs=>k xs):Wn ss (C1 r (AO te An)) k:=⟨fun E σ F H Q S q=>
 h.go E σ F H _ S fun v tp xs F1 H1 m1 sv kk=>by
  subst hr
  obtain ⟨l,vs,rfl,hl,r⟩:=sv.seq m1.st
  refine ⟨l,vs,rfl,(DK.sq (K:=K) hl).or,fun a ha=>?_⟩
  have m2:=m1.st.make ha (.lst vs)
  exact q a vs xs F1 _ (m1.trans m2) (m1.st.B9 ha) (m1.none ha) Aa r kk⟩
def QB {r:List V->Hp->VK->Prop}(hr:r=fun xs H Q=>∃ p ys,xs=[.ref p]/\((AJ K H p ys/\∀ l,H l=none->Q (.ref l) (upd H l (.tup ys)))∨(Ab K H p ys/\Q (.ref p) H))) (h:Wq ss te fun _ xs=>k (.tup xs)):Wp ss (C1 r (AO te An)) k:=⟨fun E σ F H Q S q=>
 h.go E σ F H _ S fun v tp xs F1 H1 m1 sv kk=>by
  subst hr
  cases tp with
  | false=>
   obtain ⟨l,vs,rfl,hl,r⟩:=sv.seq m1.st
   refine ⟨l,vs,rfl,.inl ⟨AJ.of hl,fun a ha=>?_⟩⟩
   have m2:=m1.st.alloc ha (.tup vs)
   exact q _ _ _ _ (m1.trans m2) (.tup Aa (r.mono m2.ff)) kk
  | true=>
   have Tn:Rep F1 v (.tup xs):=sv
   cases Tn with
   | tup e r=>exact ⟨_,_,rfl,.inr ⟨Ab.of (m1.st.fh _ _ e),q _ _ F1 H1 m1 (.tup e r) kk⟩⟩⟩
def PL {k:List PV->Prop}(h:Wq ss ta fun tp xs=>tp=false/\Wq ss tb fun BP ys=>BP=false/\xs.length+ys.length<=100000/\k (xs++ys)):Wn ss (BH YI ta tb) k:=⟨fun E σ F H Q S q=>
 h.go E σ F H _ S fun v tp xs F1 H1 m1 sv ⟨et,h2⟩=>h2.go E σ F1 H1 _ m1.st fun v2 BP ys F2 H2 m2 IE ⟨JZ,hz,kk⟩=>by
  subst et;subst JZ
  obtain ⟨l,vs,rfl,hl,r⟩:=(sv.mv m2).seq m2.st
  obtain ⟨l2,Eb,rfl,Bw,r2⟩:=IE.seq m2.st
  refine ⟨l,l2,vs,Eb,rfl,rfl,hl,Bw,small (by rw [r.length,r2.length];exact hz),fun a ha=>?_⟩
  have m3:=m2.st.make ha (.lst (vs++Eb))
  exact q a _ _ F2 _ (m1.trans (m2.trans m3)) (m2.st.B9 ha) ((m1.trans m2).none ha) Aa (r.append r2) kk⟩
def Cu {α:Type} (xs:List α) (lo hi:Option Int):List α:=(xs.drop (HT.CF xs.length 0 lo)).take (HT.CF xs.length xs.length hi - HT.CF xs.length 0 lo)
def AG.cut {vs:List V}(r:AG F vs xs) (lo hi:Option Int):AG F (FT vs lo hi) (Cu xs lo hi):=by
 unfold FT Cu
 rw [r.length]
 exact (r.drop _).take _
def P8 {k:List PV->Prop}{tl th:TO}(h:Wq ss te fun tp xs=>tp=false/\Wo ss tl fun lo=>Wo ss th fun hi=>k (Cu xs lo hi)):Wn ss (Lq (X4 K) te tl th) k:=⟨fun E σ F H Q S q=>
 h.go E σ F H _ S fun v tp xs F1 H1 m1 sv ⟨et,h2⟩=>h2.go E σ F1 H1 _ m1.st fun lo F2 H2 m2 h3=>h3.go E σ F2 H2 _ m2.st fun hi F3 H3 m3 kk=>by
  subst et
  obtain ⟨l,vs,rfl,hl,r⟩:=(sv.mv (m2.trans m3)).seq m3.st
  refine ⟨l,vs,rfl,AJ.of hl,fun a ha=>?_⟩
  have m4:=m3.st.make ha (.lst (FT vs lo hi))
  exact q a _ _ F3 _ (m1.trans (m2.trans (m3.trans m4))) (m3.st.B9 ha) ((m1.trans (m2.trans m3)).none ha) Aa (r.cut lo hi) kk⟩
def ZI (tp:Bool) (xs:List PV):PV:=if tp then .tup xs else .lst xs
def Uc (K:ZAY):V->Option Int->Option Int->Hp->VK->Prop:=fun x lo hi H Q=>X4 K x lo hi H Q∨xC K x lo hi H Q
def bE {tl th:TO}(h:Wq ss te fun tp xs=>Wo ss tl fun lo=>Wo ss th fun hi=>k (ZI tp (Cu xs lo hi))):Wp ss (Lq (Uc K) te tl th) k:=⟨fun E σ F H Q S q=>
 h.go E σ F H _ S fun v tp xs F1 H1 m1 sv h2=>h2.go E σ F1 H1 _ m1.st fun lo F2 H2 m2 h3=>h3.go E σ F2 H2 _ m2.st fun hi F3 H3 m3 kk=>by
  have cJ:=sv.mv (m2.trans m3)
  have Fy:=m1.trans (m2.trans m3)
  cases tp with
  | false=>
   obtain ⟨l,vs,rfl,hl,r⟩:=cJ.seq m3.st
   refine .inl ⟨l,vs,rfl,AJ.of hl,fun a ha=>?_⟩
   have m4:=m3.st.alloc ha (.lst (FT vs lo hi))
   exact q _ _ _ _ (Fy.trans m4) (.lst Aa ((r.cut lo hi).mono m4.ff)) kk
  | true=>
   have Tn:Rep F3 v (.tup xs):=cJ
   cases Tn with
   | @tup _ vs _ e r=>
    refine .inr ⟨_,vs,rfl,Ab.of (m3.st.fh _ _ e),fun hw=>?_,fun hw a ha=>?_⟩
    ·have ew:Cu xs lo hi=xs:=by
      rw [r.length] at hw
      unfold Cu;rw [hw.1,hw.2];simp
     refine q _ _ F3 H3 Fy (.tup e r) ?_
     have fB:=kk
     rw [ew] at fB
     exact fB
    ·have m4:=m3.st.alloc ha (.tup (FT vs lo hi))
     exact q _ _ _ _ (Fy.trans m4) (.tup Aa ((r.cut lo hi).mono m4.ff)) kk⟩
def oZ {k:List PV->Prop}(h:Wq ss te fun _ xs=>∃ ns:List Str,xs=ns.map PV.str/\ns.length < 64/\∀ EF:List Str,EF.Perm ns->sortedS EF=true->k (EF.map PV.str)):Wn ss (C1 (nZ K) (AO te An)) k:=⟨fun E σ F H Q S q=>
 h.go E σ F H _ S fun v tp xs F1 H1 m1 sv ⟨ns,e,hz,kk⟩=>by
  subst e
  obtain ⟨l,vs,rfl,hl,r⟩:=sv.seq m1.st
  rw [r.strs] at hl
  refine ⟨l,tp,ns,rfl,DK.sq hl,hz,fun a EF ha hp hs=>?_⟩
  have m2:=m1.st.make ha (.lst (EF.map V.str))
  exact q a _ _ F1 _ (m1.trans m2) (m1.st.B9 ha) (m1.none ha) Aa (KQ EF) (kk EF hp hs)⟩
def ir (xs ys:List Str):GP (xs.map V.str) (ys.map V.str)=decide (xs=ys):=by
 by_cases h:xs=ys
 ·subst h;rw [tZ,decide_eq_true rfl]
 ·rw [decide_eq_false h]
  by_cases hl:xs.length=ys.length
  ·rw [Lm (by simpa using hl)]
   cases c:(List.range (xs.map V.str).length).all fun j=>Ca ((xs.map V.str).getD j .A5) ((ys.map V.str).getD j .A5) with
   | false=>rfl
   | true=>
    exfalso
    apply h
    apply zR hl
    intro j h1 h2
    have q:=List.all_eq_true.mp c j (List.mem_range.mpr (by simpa using h1))
    have e1:(xs.map V.str)[j]?=some (.str xs[j]):=by rw [Ag,Ad h1];rfl
    have e2:(ys.map V.str)[j]?=some (.str ys[j]):=by rw [Ag,Ad h2];rfl
    rw [OL e1,OL e2] at q
    have q':(xs[j] == ys[j])=true:=q
    simpa using q'
  ·rw [LZ (by simpa using hl)]
def ZJ {neg:Bool}(h:Wq ss ta fun tp xs=>∃ ns:List Str,xs=ns.map PV.str/\Wq ss tb fun BP ys=>BP=tp/\∃ ms:List Str,ys=ms.map PV.str/\k (.bl (if neg then !decide (ns=ms) else decide (ns=ms)))):Wp ss (BH (OI K neg) ta tb) k:=⟨fun E σ F H Q S q=>
 h.go E σ F H _ S fun v tp xs F1 H1 m1 sv ⟨ns,e1,h2⟩=>h2.go E σ F1 H1 _ m1.st fun v2 BP ys F2 H2 m2 IE ⟨et,ms,e2,kk⟩=>by
  subst e1;subst e2;subst et
  obtain ⟨l,vs,rfl,hl,r⟩:=(sv.mv m2).seq m2.st
  obtain ⟨l2,Eb,rfl,Bw,r2⟩:=IE.seq m2.st
  rw [r.strs] at hl
  rw [r2.strs] at Bw
  refine ⟨l,l2,ns.map V.str,ms.map V.str,rfl,rfl,?_,JX _,JX _,?_⟩
  ·cases BP
   ·exact .inl ⟨AJ.of hl,AJ.of Bw⟩
   ·exact .inr ⟨Ab.of hl,Ab.of Bw⟩
  ·rw [ir]
   cases neg
   ·exact q _ _ F2 H2 (m1.trans m2) (.bl _) kk
   ·exact q _ _ F2 H2 (m1.trans m2) (.bl _) kk⟩
def wY {r:List V->Hp->VK->Prop}(hr:r=fun xs H Q=>∃ (p:Addr) (bs:List Bool),xs=[.ref p]/\AJ K H p (bs.map V.bl)/\Q (.bl (bs.all id)) H) (h:Wq ss te fun tp xs=>tp=false/\∃ bs:List Bool,xs=bs.map PV.bl/\k (.bl (bs.all id))):Wp ss (C1 r (AO te An)) k:=⟨fun E σ F H Q S q=>
 h.go E σ F H _ S fun v tp xs F1 H1 m1 sv ⟨et,bs,e,kk⟩=>by
  subst hr;subst e;subst et
  obtain ⟨l,vs,rfl,hl,r⟩:=sv.seq m1.st
  rw [r.dJ] at hl
  exact ⟨l,bs,rfl,AJ.of hl,q _ _ F1 H1 m1 (.bl _) kk⟩⟩
def qK {r:List V->Hp->VK->Prop}(hr:r=fun xs H Q=>∃ (p:Addr) (bs:List Bool),xs=[.ref p]/\AJ K H p (bs.map V.bl)/\Q (.bl (bs.any id)) H) (h:Wq ss te fun tp xs=>tp=false/\∃ bs:List Bool,xs=bs.map PV.bl/\k (.bl (bs.any id))):Wp ss (C1 r (AO te An)) k:=⟨fun E σ F H Q S q=>
 h.go E σ F H _ S fun v tp xs F1 H1 m1 sv ⟨et,bs,e,kk⟩=>by
  subst hr;subst e;subst et
  obtain ⟨l,vs,rfl,hl,r⟩:=sv.seq m1.st
  rw [r.dJ] at hl
  exact ⟨l,bs,rfl,AJ.of hl,q _ _ F1 H1 m1 (.bl _) kk⟩⟩
def tyP:PV->String
 | .A5 => "NoneType"
 | .bl _ => "bool"
 | .int _ => "int"
 | .str _ => "str"
 | .lst _ => "list"
 | .tup _ => "tuple"
 | .Ap _ _ => "dict"
 | _ => ""
def Js:PV->Value
 | .obj _ _ _=>.none
 | .exc _ _ _=>.none
 | .con _ _=>.none
 | p=>.type (tyP p)
def R0 {n:String}{b:Bool}(h:PySem.W.kitOne K .none (.type n)=some b):False:=by
 unfold PySem.W.kitOne PySem.W.kitCls PySem.W.subIn at h
 simp at h
def Rep.vN {p:PV}{n:String}{b:Bool}(s:AD F H) (r:Rep F v p) (hb:PySem.W.kitOne K (Js p) (.type n)=some b):EN K H v (Js p):=by
 cases r with
 | A5=>exact .A5
 | bl b=>exact .bl b
 | int i=>exact .int i
 | str x=>exact .str x
 | lst h _=>exact .lst (s _ _ h)
 | tup h _=>exact .tup (s _ _ h)
 | Ap h _ _=>exact .dK (s _ _ h)
 | obj _ _ _ _=>exact (R0 hb).elim
 | RQ _=>exact (R0 hb).elim
 | con=>exact (R0 hb).elim
 | exc _ _ _ _=>exact (R0 hb).elim
def ao {n:String}(h:Wp ss te fun p=>∃ b,PySem.W.kitOne K (Js p) (.type n)=some b/\k (.bl b)):Wp ss (C1 (Ql K) (AO te (AO (tC (.ty n)) An))) k:=⟨fun E σ F H Q S q=>
 h.go E σ F H _ S fun v p F1 H1 m1 r ⟨b,hb,kk⟩=>⟨v,n,_,b,rfl,r.vN m1.st.fh hb,hb,q _ _ F1 H1 m1 (.bl _) kk⟩⟩
def vI {n:String}(h:Wq ss te fun tp xs=>∃ b,PySem.W.kitOne K (.type (tyP (ZI tp xs))) (.type n)=some b/\k (.bl b)):Wp ss (C1 (Ql K) (AO te (AO (tC (.ty n)) An))) k:=⟨fun E σ F H Q S q=>
 h.go E σ F H _ S fun v tp xs F1 H1 m1 sv ⟨b,hb,kk⟩=>by
  obtain ⟨l,vs,rfl,hl,r⟩:=sv.seq m1.st
  refine ⟨_,n,_,b,rfl,?_,hb,q _ _ F1 H1 m1 (.bl _) kk⟩
  cases tp
  ·exact .lst hl
  ·exact .tup hl⟩
def lX {r:List V->Hp->VK->Prop}(hr:r=fun xs H Q=>∃ i j,xs=[.int i,.int j]/\Q (.int (if j > i then j else i)) H) (h:Wp ss ta fun x=>∃ i,x=.int i/\Wp ss tb fun y=>∃ j,y=.int j/\k (.int (if j > i then j else i))):Wp ss (C1 r (AO ta (AO tb An))) k:=⟨fun E σ F H Q S q=>
 h.go E σ F H _ S fun v p F1 H1 m1 r1 ⟨i,e1,h2⟩=>by
  subst hr;subst e1;cases r1
  exact h2.go E σ F1 H1 _ m1.st fun v2 p2 F2 H2 m2 r2 ⟨j,e2,kk⟩=>by
   subst e2;cases r2
   exact ⟨i,j,rfl,q _ _ F2 H2 (m1.trans m2) (.int _) kk⟩⟩
def jr {r:List V->Hp->VK->Prop}(hr:r=fun xs H Q=>∃ i j,xs=[.int i,.int j]/\Q (.int (if j < i then j else i)) H) (h:Wp ss ta fun x=>∃ i,x=.int i/\Wp ss tb fun y=>∃ j,y=.int j/\k (.int (if j < i then j else i))):Wp ss (C1 r (AO ta (AO tb An))) k:=⟨fun E σ F H Q S q=>
 h.go E σ F H _ S fun v p F1 H1 m1 r1 ⟨i,e1,h2⟩=>by
  subst hr;subst e1;cases r1
  exact h2.go E σ F1 H1 _ m1.st fun v2 p2 F2 H2 m2 r2 ⟨j,e2,kk⟩=>by
   subst e2;cases r2
   exact ⟨i,j,rfl,q _ _ F2 H2 (m1.trans m2) (.int _) kk⟩⟩
end
structure Src (E:Ent0) (F1:Hp) (J:It) (xs:List PV):Prop where
 go:∀ (ss:List Slot) (σ:L2.St) (F H:Hp) (i:Nat),AD F1 F->Sg E ss σ F H->i < xs.length->J.go i H
 stop:∀ (ss:List Slot) (σ:L2.St) (F H:Hp),AD F1 F->Sg E ss σ F H->J.stop xs.length H
 Dx:∀ (ss:List Slot) (σ:L2.St) (F H:Hp) (i:Nat) (x:V) (H':Hp),AD F1 F->Sg E ss σ F H->i < xs.length->J.Dx i H x H'->∃ p F',xs[i]?=some p/\Mv E ss σ F H F' H'/\Rep F' x p
structure Wi [Xw] (ss:List Slot) (wi:TI) (k:List PV->Prop):Prop where
 go:∀ (E:Ent) (σ:L2.St) (F H:Hp) (R:It->Hp->Prop),Sg E ss σ F H->(∀ J xs F' H',Mv E ss σ F H F' H'->Src E F' J xs->k xs->R J H')->wi σ H R
structure Wg [Xw] (ss:List Slot) (g:TG) (p:PV) (k:List Slot->Prop):Prop where
 go:∀ (E:Ent) (σ:L2.St) (F H:Hp) (v:V) (Q:L2.St->Hp->Prop),Sg E ss σ F H->Rep F v p->(∀ A8 σ',k A8->Sg E A8 σ' F H->Q σ' H)->g v σ H Q
section
variable [Xw]
variable {E:Ent0}{ss:List Slot}{σ:L2.St} {F H F' H':Hp}{K:ZAY}{ta tb tc te:TE}{k:PV->Prop}{v:V}{tp:Bool}{xs:List PV}{nx:List Slot->Prop}{R:Ak}
def aE {l:Addr}{vs:List V}(h:∀ (ss:List Slot) (σ:L2.St) (F H:Hp),AD F' F->Sg E ss σ F H->H l=some (DK tp vs)) (r:AG F' vs xs):Src E F' (Ov K tp l vs) xs where
 go:=fun ss σ F H i s S hi=>⟨DK.sq (h ss σ F H s S),by rw [r.length];exact hi⟩
 stop:=fun ss σ F H s S=>⟨DK.sq (h ss σ F H s S),by rw [r.length];exact Ae _⟩
 Dx:=fun ss σ F H i x H' s S hi y=>by
  obtain ⟨e,hx⟩:=y
  subst e
  obtain ⟨p,hp,rp⟩:=r.get' hx
  exact ⟨p,F,hp,.refl S,rp.mono s⟩
def Ef {k:List PV->Prop}(h:Wz ss te fun _ xs=>k xs):Wi ss (QJ K te) k:=⟨fun E σ F H R S q=>
 h.go E σ F H _ S fun v tp xs F1 H1 m1 f kk=>by
  cases tp with
  | true=>
   have f':Rep F1 v (.tup xs):=f
   cases f' with
   | tup e r=>exact ⟨true,_,_,rfl,Ab.of (m1.st.fh _ _ e),q _ _ F1 H1 m1 (aE (tp:=true) (fun ss σ F H s S=>S.fh _ _ (s _ _ e)) r) kk⟩
  | false=>
   obtain ⟨l,vs,rfl,h1,r⟩:=f
   have hl:∀ (ss:List Slot) (σ:L2.St) (F H:Hp),AD F1 F->Sg E ss σ F H->H l=some (.lst vs):=fun ss σ F H s S=>by
    rcases h1 with h1 | ⟨hA,h1⟩
    ·exact S.fh _ _ (s _ _ h1)
    ·exact S.keep _ _ hA h1
   exact ⟨false,l,vs,rfl,AJ.of (hl ss σ F1 H1 (AD.refl _) m1.st),q _ _ F1 H1 m1 (aE (tp:=false) hl r) kk⟩⟩
def Et (n:Nat):List PV:=(List.range n).map fun i:Nat=>PV.int (i:Int)
def Hd (n:Nat):(Et n).length=n:=by simp [Et]
def TM {n i:Nat}{p:PV}(h:(Et n)[i]?=some p):i < n/\p=.int (i:Int):=by
 have hi:i < n:=by have:=(List.getElem?_eq_some_iff.mp h).1;rwa [Hd] at this
 unfold Et at h
 rw [Ag,Ob hi] at h
 exact ⟨hi,(BG h).symm⟩
def eJ {k:List PV->Prop}(h:Wp ss te fun p=>∃ j:Int,p=.int j/\j<=1000000/\-1000000<=j/\k (Et j.toNat)):Wi ss (Vj (AO te An)) k:=⟨fun E σ F H R S q=>
 h.go E σ F H _ S fun v p F1 H1 m1 r ⟨j,e,h1,h2,kk⟩=>by
  subst e;cases r
  refine ⟨j,rfl,by omega,by omega,q _ (Et j.toNat) F1 H1 m1 ⟨fun ss σ F H i s S hi=>?_,fun ss σ F H s S=>?_,fun ss σ F H i x H' s S hi y=>?_⟩ kk⟩
  ·rw [Hd] at hi;exact hi
  ·show _<=_
   rw [Hd];exact Ae _
  ·obtain ⟨e,hx⟩:=y
   subst e;subst hx
   rw [Hd] at hi
   refine ⟨.int (i:Int),F,?_,.refl S,?_⟩
   ·unfold Et;rw [Ag,Ob hi];rfl
   ·rw [Int.zero_add];exact .int _⟩
def FG {j:Nat}{p:PV}{k:List Slot->Prop}(h:k (ss.set j (.is p))):Wg ss (CV j) p k:=⟨fun E σ F H v Q S r q=>q _ _ h (S.Ga r)⟩
def tX {i j:Nat}{p:PV}{k:List Slot->Prop}(h:∃ a b,p=.tup [a,b]/\k ((ss.set i (.is a)).set j (.is b))):Wg ss (P2 K 2 (Ie (CV i) (Ie (CV j) Nz))) p k:=⟨fun E σ F H v Q S r q=>by
 obtain ⟨a,b,rfl,kk⟩:=h
 cases r with
 | tup e r=>
  cases r with
  | cons r1 r=>cases r with
   | cons r2 r=>cases r with
    | nil=>exact ⟨_,_,rfl,Ab.of (S.fh _ _ e),rfl,_,_,rfl,_,_,rfl,rfl,q _ _ kk ((S.Ga r1).Ga r2)⟩⟩
def AX {t u:TS}(h:Ws ss t (fun A8=>Ws A8 u nx R) R):Ws ss (My t u) nx R:=⟨fun E D σ F H S hn hr=>
 h.go E { D with nx:=u D } σ F H S (fun A8 σ' F' H' w S' s=>w.go E D σ' F' H' S' (fun Bp σ2 F2 H2 n2 S2 s2=>hn Bp σ2 F2 H2 n2 S2 (s.trans s2)) hr) hr⟩
def Fh {t:TS}(h:Ws ss t nx R):Ws ss (X3 t) nx R:=⟨fun E D σ F H S hn hr=>⟨D.nx,h.go E { D with nx:=D.nx } σ F H S hn hr,fun _ _ q=>q⟩⟩
def Ws.mono {t:TS}{Po:List Slot->Prop}(h:Ws ss t nx R) (i:∀ s,nx s->Po s):Ws ss t Po R:=⟨fun E D σ F H S hn hr=>h.go E D σ F H S (fun A8 σ' F' H' n=>hn A8 σ' F' H' (i _ n)) hr⟩
def o8 {t u:TS}(J:List Slot->Prop) (h:Ws ss t J R) (h2:∀ A8,J A8->Ws A8 u nx R):Ws ss (My t u) nx R:=AX (h.mono h2)
def GL {i:Nat}(h:Wp ss te fun p=>nx (ss.set i (.is p))):Ws ss (E8 te (CV i)) nx R:=⟨fun E D σ F H S hn hr=>
 h.go E σ F H _ S fun v p F1 H1 m1 r kk=>hn _ _ F1 H1 kk (m1.st.Ga r) m1.ff⟩
def KD {i:Nat}(h:Wn ss te fun xs=>nx (ss.set i (.own xs))):Ws ss (E8 te (CV i)) nx R:=⟨fun E D σ F H S hn hr=>
 h.go E σ F H _ S fun l vs xs F1 H1 m1 fl hl Jg r kk=>hn _ _ F1 H1 kk (m1.st.setG ⟨l,vs,rfl,fl,S.CO hl,Jg,r⟩ fun l' e j u _ hu mu=>by cases e;exact S.HU hu hl mu) m1.ff⟩
def GW {k:PV->Prop}(h:Wp ss te k):Ws ss (KL te) nx (.is k):=⟨fun E D σ F H S hn hr=>
 h.go E σ F H _ S fun v p F1 H1 m1 r kk=>hr v F1 H1 m1.st.toFin ⟨p,r,kk⟩⟩
def J0 {k:List PV->Prop}(h:Wn ss te k):Ws ss (KL te) nx (.new k):=⟨fun E D σ F H S hn hr=>
 h.go E σ F H _ S fun l vs xs F1 H1 m1 fl hl Jg r kk=>hr _ F1 H1 m1.st.toFin ⟨l,vs,xs,rfl,fl,S.CO hl,Jg,r,kk⟩⟩
def ZT {i:Nat}{k:List PV->Prop}(h:ss[i]?=some (.own xs)) (kk:k xs):Ws ss (KL (BM i)) nx (.new k):=⟨fun E D σ F H S hn hr=>by
 obtain ⟨l,vs,e,e1,e2,e3,r⟩:=S.ok i _ h
 exact ⟨_,e,hr _ F H S.toFin ⟨l,vs,xs,rfl,e1,e2,e3,r,kk⟩⟩⟩
def By {c:TT}{t u:TS}(h:Wt ss c fun b=>if b=true then Ws ss t nx R else Ws ss u nx R):Ws ss (VH c t u) nx R:=⟨fun E D σ F H S hn hr=>
 h.go E σ F H _ S fun b F1 H1 m1 w=>by
  show if b=true then _ else _
  cases b with
  | true=>rw [if_pos rfl] at w ⊢;exact w.go E D σ F1 H1 m1.st (fun Bp σ2 F2 H2 n S2 s2=>hn Bp σ2 F2 H2 n S2 (m1.ff.trans s2)) hr
  | false=>rw [if_neg (by decide)] at w ⊢;exact w.go E D σ F1 H1 m1.st (fun Bp σ2 F2 H2 n S2 s2=>hn Bp σ2 F2 H2 n S2 (m1.ff.trans s2)) hr⟩
def Bb (h:nx ss):Ws ss UI nx R:=⟨fun E D σ F H S hn hr=>hn ss σ F H h S (AD.refl _)⟩
def K6 (h:Wp ss te fun _=>nx ss):Ws ss (GY te) nx R:=⟨fun E D σ F H S hn hr=>
 h.go E σ F H _ S fun v p F1 H1 m1 r kk=>hn ss σ F1 H1 kk m1.st m1.ff⟩
def Sg.drop (S:Sg E ss σ F H) (i:Nat):Sg E (ss.set i .any) σ F H:=by
 have Dr:∀ (j:Nat) u,(ss.set i .any)[j]?=some u->u=.any∨ss[j]?=some u:=fun j u hj=>by
  by_cases q:j=i
  ·subst q
   have AN:j < ss.length:=by have:=(List.getElem?_eq_some_iff.mp hj).1;simpa using this
   rw [CS AN] at hj
   exact .inl (BG hj).symm
  ·rw [CB (Bi q)] at hj;exact .inr hj
 refine ⟨S.toFin,by rw [HG];exact S.len,fun j u hj=>?_,fun j k u w l Lb hj hk mu mw=>?_⟩
 ·rcases Dr j u hj with rfl | h
  ·trivial
  ·exact S.ok j u h
 ·rcases Dr j u hj with rfl | h
  ·cases mu
  ·rcases Dr k w hk with rfl | h2
   ·cases mw
   ·exact S.Bg j k u w l Lb h h2 mu mw
def Oy {i:Nat}{v:V}(e:σ[i]?=some (some v)):σ.set i (some v)=σ:=by
 apply zS
 intro j
 by_cases q:j=i
 ·subst q
  rw [CS (List.getElem?_eq_some_iff.mp e).1,e]
 ·rw [CB (Bi q)]
def Sg.LR (S:Sg E ss σ F H){a:Addr}{o:HO}(fa:F a=none) (h0:E.H0 a=none∨a∈E.B) (hn:∀ (i:Nat) s,ss[i]?=some s->¬ B2 s σ[i]? a):Sg E ss σ F (upd H a o):=by
 have hb:∀ b u,b≠a->H b=some u->upd H a o b=some u:=fun b u h e=>by rw [AR h];exact e
 refine ⟨⟨fun b u e=>?_,S.f0,fun b u hA e=>?_,S.fresh,fun b hA=>?_,S.Lo,S.a0,S.bF,fun b hB=>?_,S.b0⟩,S.len,fun i s hi=>?_,S.Bg⟩
 ·exact hb b u (DA e fa) (S.fh b u e)
 ·refine hb b u ?_ (S.keep b u hA e)
  rintro rfl
  rcases h0 with h0 | h0
  ·rw [h0] at e;cases e
  ·exact hA.2 h0
 ·refine B3.keep (S.FV b hA) fun u e=>hb b u ?_ e
  rintro rfl
  rcases h0 with h0 | h0
  ·exact S.a0 _ hA h0
  ·exact (S.b0 _ h0).2 hA
 ·by_cases q:b=a
  ·subst q;rw [Aa];simp
  ·rw [AR q];exact S.bH b hB
 ·by_cases np:s=.AK
  ·subst np
   obtain ⟨l,e,e1,e2,e3⟩:=S.ok i _ hi
   exact ⟨l,e,e1,e2,B3.keep e3 fun u h=>hb l u (by rintro rfl;exact hn i _ hi e) h⟩
  ·exact Ok.go S hi (AD.refl _) (fun b u m h=>hb b u (by rintro rfl;exact hn i _ hi m) h) (fun _ _ h=>h) np
def Sg.put (S:Sg E ss σ F H){i:Nat}{l:Addr}{Bk:List V}{xs ys:List PV}(hi:ss[i]?=some (.own xs)) (e:σ[i]?=some (some (.ref l))) (fl:F l=none) (h0:E.H0 l=none) (r:AG F Bk ys):Sg E (ss.set i (.own ys)) σ F (upd H l (.lst Bk)):=by
 have ne1:∀ (j:Nat) s,(ss.set i .any)[j]?=some s->¬ B2 s σ[j]? l:=fun j s hj mj=>by
  by_cases q:j=i
  ·subst q
   have AN:j < ss.length:=(List.getElem?_eq_some_iff.mp hi).1
   rw [CS AN] at hj
   cases hj;cases mj
  ·rw [CB (Bi q)] at hj
   exact S.Bg j i s _ l q hj hi mj e
 have S2:=(S.drop i).LR (o:=.lst Bk) fl (.inl h0) ne1
 have S3:=S2.setG (j:=i) (s:=.own ys) (v:=.ref l) ⟨l,Bk,rfl,fl,h0,Aa,r⟩ fun l' e' j u hj hu mu=>by cases e';exact ne1 j u hu mu
 rw [Oy e,Xp] at S3
 exact S3
def Z7 {i:Nat}(hi:ss[i]?=some (.own xs)) (h:Wp ss te fun p=>xs.length<=99999/\nx (ss.set i (.own (xs++[p])))):Ws ss (GY (J8 K "list" RU (BM i) (AO te An))) nx R:=⟨fun E D σ F H S hn hr=>by
 obtain ⟨l,vs,e,e1,e2,e3,r⟩:=S.ok i _ hi
 refine ⟨_,e,.inl ⟨rfl,_,AJ.of e3⟩,h.go E σ F H _ S fun v p F1 H1 m1 rv ⟨hz,kk⟩=>?_⟩
 obtain ⟨l',Bk,e',C3,AY,Jd,r'⟩:=m1.st.ok i _ hi
 rw [e] at e'
 cases e'
 refine ⟨l,Bk,v,rfl,rfl,Jd,J9 (by rw [r'.length];exact hz),?_⟩
 exact hn _ σ F1 _ kk (m1.st.put hi e C3 AY (r'.append (.one rv))) m1.ff⟩
def Zf {i:Nat}(hi:ss[i]?=some (.own xs)) (h:Wp ss ta fun a=>∃ j:Int,a=.int j/\0<=j/\j<=xs.length/\Wp ss te fun p=>xs.length<=99999/\nx (ss.set i (.own (xs.take j.toNat++p :: xs.drop j.toNat)))) :
  Ws ss (GY (J8 K "list" Uv (BM i) (AO ta (AO te An)))) nx R:=⟨fun E D σ F H S hn hr=>by
 obtain ⟨l,vs,e,e1,e2,e3,r⟩:=S.ok i _ hi
 refine ⟨_,e,.inl ⟨rfl,_,AJ.of e3⟩,h.go E σ F H _ S fun v1 p1 F1 H1 m1 nU ⟨j,ej,j0,j1,h2⟩=>?_⟩
 subst ej;cases nU
 refine h2.go E σ F1 H1 _ m1.st fun v p F2 H2 m2 rv ⟨hz,kk⟩=>?_
 obtain ⟨l',Bk,e',C3,AY,Jd,r'⟩:=m2.st.ok i _ hi
 rw [e] at e'
 cases e'
 refine ⟨l,Bk,j,v,rfl,rfl,Jd,j0,by rw [r'.length];exact j1,J9 (by rw [r'.length];exact hz),?_⟩
 exact hn _ σ F2 _ kk (m2.st.put hi e C3 AY ((r'.take _).append (.cons rv (r'.drop _)))) (m1.ff.trans m2.ff)⟩
def pe {i:Nat}(hi:ss[i]?=some (.own xs)) (h:nx (ss.set i (.own xs.reverse))):Ws ss (GY (MV K "list" pB (BM i))) nx R:=⟨fun E D σ F H S hn hr=>by
 obtain ⟨l,vs,e,e1,e2,e3,r⟩:=S.ok i _ hi
 exact ⟨_,e,.inl ⟨rfl,_,AJ.of e3⟩,l,vs,rfl,rfl,e3,hn _ σ F _ h (S.put hi e e1 e2 r.reverse) (AD.refl _)⟩⟩
def CU (F H:Hp) (as:List Addr):Hp:=fun a=>if a∈as then H a else F a
def Sg.lay (S:Sg E ss σ F H) (as:List Addr) (h0:∀ a∈as,F a=none/\E.H0 a=none/\H a≠none) (hn:∀ a∈as,∀ (i:Nat) s,ss[i]?=some s->¬ B2 s σ[i]? a):Sg E ss σ (CU F H as) H/\AD F (CU F H as):=by
 have T5:∀ a,a∈as->CU F H as a=H a:=fun a h=>if_pos h
 have Qj:∀ a,a∉as->CU F H as a=F a:=fun a h=>if_neg h
 have ff:AD F (CU F H as):=fun a o e=>by
  by_cases q:a∈as
  ·rw [(h0 a q).1] at e;cases e
  ·rw [Qj a q];exact e
 have nF:∀ a,a∉as->F a=none->CU F H as a=none:=fun a q h=>by rw [Qj a q];exact h
 refine ⟨⟨⟨fun a o e=>?_,S.f0.trans ff,S.keep,fun a o e=>?_,S.FV,fun a hA=>?_,S.a0,fun a hB=>?_,S.bH,S.b0⟩,S.len,fun i s hi=>?_,S.Bg⟩,ff⟩
 ·by_cases q:a∈as
  ·rw [T5 a q] at e;exact e
  ·rw [Qj a q] at e;exact S.fh a o e
 ·by_cases q:a∈as
  ·exact .inr (h0 a q).2.1
  ·rw [Qj a q] at e;exact S.fresh a o e
 ·exact nF a (fun q=>S.a0 a hA (h0 a q).2.1) (S.Lo a hA)
 ·exact nF a (fun q=>(S.b0 a hB).1 (h0 a q).2.1) (S.bF a hB)
 ·have no:∀ a,B2 s σ[i]? a->a∉as:=fun a m q=>hn a q i s hi m
  have kk:=S.ok i s hi
  cases s with
  | any=>trivial
  | is p=>obtain ⟨v,e,r⟩:=kk;exact ⟨v,e,r.mono ff⟩
  | own ys=>
   obtain ⟨l',ws,q,q1,q2,q3,r⟩:=kk
   exact ⟨l',ws,q,nF l' (no l' q) q1,q2,q3,r.mono ff⟩
  | AK=>
   obtain ⟨l',q,q1,q2,q3⟩:=kk
   exact ⟨l',q,nF l' (no l' q) q1,q2,q3⟩
  | sq tp ys=>
   cases tp with
   | true=>obtain ⟨v,e,r⟩:=kk;exact ⟨v,e,r.mono ff⟩
   | false=>obtain ⟨l',ws,q,q1,q2,r⟩:=kk;exact ⟨l',ws,q,q1,q2,r.mono ff⟩
  | raw P=>obtain ⟨v,e,r,st⟩:=kk;exact ⟨v,e,st _ _ ff r,st⟩
  | ow lt t=>
   obtain ⟨v,e,r,nd,q⟩:=kk
   exact ⟨v,e,r.mono ff fun a _ o h=>h,nd,fun a ha=>⟨nF a (no a ha) (q a ha).1,(q a ha).2⟩⟩
def M5 {t:TS}(i:Nat) (hi:ss[i]?=some (.own xs)) (h:Ws (ss.set i (.is (.lst xs))) t nx R):Ws ss t nx R:=⟨fun E D σ F H S hn hr=>by
 obtain ⟨l,vs,e,e1,e2,e3,r⟩:=S.ok i _ hi
 have one:∀ a,a∈[l]->a=l:=fun a h=>by simpa using h
 obtain ⟨S1,nf⟩:=(S.drop i).lay [l] (fun a h=>by rw [one a h,e3];exact ⟨e1,e2,by simp⟩) fun a h j s hj m=>by
  rw [one a h] at m
  by_cases q:j=i
  ·subst q
   rw [CS (List.getElem?_eq_some_iff.mp hi).1] at hj
   cases hj;cases m
  ·rw [CB (Bi q)] at hj
   exact S.Bg j i s _ l q hj hi m e
 have S2:=S1.Ga (j:=i) (v:=.ref l) (p:=.lst xs) (.lst (by unfold CU;rw [if_pos (by simp)];exact e3) (r.mono nf))
 rw [Oy e,Xp] at S2
 exact h.go E D σ _ H S2 (fun Bp σ2 F2 H2 n S2 s2=>hn Bp σ2 F2 H2 n S2 (nf.trans s2)) hr⟩
def EZ {wi:TI}{g:TG}{tb:TS}(I:List PV->Nat->List Slot->Prop) (h:Wi ss wi fun xs=>I xs 0 ss/\(∀ (i:Nat) p A8,xs[i]?=some p->I xs i A8->Wg A8 g p fun Bp=>Ws Bp tb (I xs (i+1)) R)/\∀ A8,I xs xs.length A8->nx A8):Ws ss (RT wi g tb) nx R:=⟨fun E D σ F H S hn hr=>
 h.go E σ F H _ S fun J xs F1 H1 m1 sr ⟨i0,hs,hd⟩=>by
  refine ⟨fun i m σ' H'=>m=xs.length - i/\i<=xs.length/\∃ A8 F',I xs i A8/\Sg E A8 σ' F' H'/\AD F1 F',⟨_,rfl,CJ _,ss,F1,i0,m1.st,AD.refl _⟩,?_⟩
  rintro i m σ' H' ⟨rfl,hi,A8,F',hI,S',s'⟩
  by_cases AN:i < xs.length
  ·refine .inr ⟨sr.go A8 σ' F' H' i s' S' AN,fun σ2 H2=>∃ Bp F2,I xs (i+1) Bp/\Sg E Bp σ2 F2 H2/\AD F1 F2,fun σ2 H2 ⟨Bp,F2,a,b,c⟩=>⟨_,by omega,rfl,AN,Bp,F2,a,b,c⟩,fun x H3 y=>?_⟩
   obtain ⟨p,F3,hp,m3,rp⟩:=sr.Dx A8 σ' F' H' i x H3 s' S' AN y
   refine (hs i p A8 hp hI).go E σ' F3 H3 x _ m3.st rp fun kZ σ4 w S4=>?_
   exact w.go E _ σ4 F3 H3 S4 (fun Ml σ5 F5 H5 n5 S5 s5=>⟨Ml,F5,n5,S5,(s'.trans m3.ff).trans s5⟩) hr
  ·have e:i=xs.length:=by omega
   subst e
   exact .inl ⟨sr.stop A8 σ' F' H' s' S',hn A8 σ' F' H' (hd A8 hI) S' (m1.ff.trans s')⟩⟩
def wQ {c:TT}{tb:TS}(I:Nat->List Slot->Prop) (m0:Nat) (h0:I m0 ss) (h:∀ m A8,I m A8->Wt A8 c fun b=>if b=true then Ws A8 tb (fun Bp=>∃ m',m' < m/\I m' Bp) R else nx A8):Ws ss (WL c tb) nx R:=⟨fun E D σ F H S hn hr=>by
 refine ⟨fun m σ' H'=>∃ A8 F',I m A8/\Sg E A8 σ' F' H'/\AD F F',⟨m0,ss,F,h0,S,AD.refl _⟩,?_⟩
 rintro m σ' H' ⟨A8,F',hI,S',s'⟩
 refine (h m A8 hI).go E σ' F' H' _ S' fun b F1 H1 m1 w=>?_
 cases b with
 | true=>
  rw [if_pos rfl] at w
  refine ⟨fun σ2 H2=>∃ Bp F2,(∃ m',m' < m/\I m' Bp)/\Sg E Bp σ2 F2 H2/\AD F F2,fun σ2 H2 ⟨Bp,F2,⟨m',l,i⟩,b,c⟩=>⟨m',l,Bp,F2,i,b,c⟩,?_⟩
  exact w.go E _ σ' F1 H1 m1.st (fun Ml σ5 F5 H5 n5 S5 s5=>⟨Ml,F5,n5,S5,(s'.trans m1.ff).trans s5⟩) hr
 | false=>
  rw [if_neg (by decide)] at w
  exact hn A8 σ' F1 H1 w m1.st (s'.trans m1.ff)⟩
end
def Bl (js:List Nat) (ss:List Slot):List Slot:=js.map fun j=>(ss[j]?).getD .any
def OM (js:List Nat) (ss:List Slot):Bool:=js.all fun j=>match ss[j]? with
 | some .AK=>false
 | _=>true
section
variable [Xw]
variable {E:Ent0}{ss:List Slot}{σ:L2.St} {F H F' H':Hp}{K:ZAY}{js:List Nat}
def dk {i:Nat}{s:Slot}{j:Nat}(h:js[i]?=some j) (e:(Bl js ss)[i]?=some s):s=(ss[j]?).getD .any:=by
 unfold Bl at e
 rw [Ag,h] at e
 exact (BG e).symm
def Sg.A6 (S:Sg E ss σ F H) (nd:js.Nodup){vs:List V}{ps:List PV}(r:AG F vs ps):Sg E (Bl js ss++ps.map .is) (AS js σ++vs.map some) F H:=by
 have hl:(Bl js ss).length=js.length:=by simp [Bl]
 have Bw:(AS js σ).length=js.length:=by simp [AS]
 have Dr:∀ (i:Nat) (hi:i < js.length),(Bl js ss++ps.map .is)[i]?=some ((ss[js[i]]?).getD .any)/\(AS js σ++vs.map some)[i]?=some ((σ[js[i]]?).join):=fun i hi=>by
  rw [CZ (by rw [hl];exact hi),CZ (by rw [Bw];exact hi)]
  unfold Bl AS
  rw [Ag,Ag,Ad hi]
  exact ⟨rfl,rfl⟩
 have at2:∀ (i:Nat) s,js.length<=i->(Bl js ss++ps.map .is)[i]?=some s->∃ p v,s=.is p/\(AS js σ++vs.map some)[i]?=some (some v)/\Rep F v p:=fun i s hi e=>by
  rw [Dh (by rw [hl];exact hi),hl,Ag] at e
  rw [Dh (by rw [Bw];exact hi),Bw,Ag]
  cases q:ps[i - js.length]? with
  | none=>rw [q] at e;cases e
  | some p=>
   rw [q] at e
   obtain ⟨v,hv,rv⟩:=r.get q
   rw [hv]
   exact ⟨p,v,(BG e).symm,rfl,rv⟩
 have fx:∀ (s:Slot) (m:Nat) (l:Addr),B2 s (some (σ[m]?).join) l->B2 s σ[m]? l:=fun s m l o=>by
  have fy:∀ l,some (σ[m]?).join=some (some (V.ref l))->σ[m]?=some (some (.ref l)):=fun l e=>by
   cases q:σ[m]? with
   | none=>rw [q] at e;cases e
   | some o=>rw [q] at e;cases o with
    | none=>cases e
    | some v=>simpa using e
  cases s with
  | own xs=>exact fy l o
  | AK=>exact fy l o
  | ow lt t=>exact o
  | _=>exact o
 have sm:∀ (i:Nat) s l,(Bl js ss++ps.map .is)[i]?=some s->B2 s (AS js σ++vs.map some)[i]? l->∃ hi:i < js.length,ss[js[i]]?=some s/\B2 s σ[js[i]]? l:=fun i s l e m=>by
  by_cases hi:i < js.length
  ·rw [(Dr i hi).2] at m
   refine ⟨hi,?_,fx s _ l m⟩
   rw [(Dr i hi).1] at e
   cases q:ss[js[i]]? with
   | none=>rw [q] at e;cases e;cases m
   | some u=>rw [q] at e;exact e
  ·obtain ⟨p,v,rfl,_⟩:=at2 i s (by omega) e
   cases m
 refine ⟨S.toFin,?_,fun i s e=>?_,fun i j s u l Fq hi hj ms mu=>?_⟩
 ·rw [BK,BK,hl,Bw,AE,AE,r.length]
 ·by_cases hi:i < js.length
  ·obtain ⟨a,b⟩:=Dr i hi
   rw [a] at e
   rw [b]
   cases q:ss[js[i]]? with
   | none=>rw [q] at e;cases e;trivial
   | some u=>
    rw [q] at e
    have eu:u=s:=BG e
    subst eu
    have kk:=S.ok _ _ q
    cases u with
    | any=>trivial
    | is p=>obtain ⟨v,e,r⟩:=kk;rw [e];exact ⟨v,rfl,r⟩
    | own xs=>obtain ⟨l,vs,e,r⟩:=kk;rw [e];exact ⟨l,vs,rfl,r⟩
    | AK=>obtain ⟨l,e,r⟩:=kk;rw [e];exact ⟨l,rfl,r⟩
    | sq tp xs=>
     cases tp with
     | true=>obtain ⟨v,e,r⟩:=kk;rw [e];exact ⟨v,rfl,r⟩
     | false=>obtain ⟨l,vs,e,r⟩:=kk;rw [e];exact ⟨l,vs,rfl,r⟩
    | raw P=>obtain ⟨v,e,r⟩:=kk;rw [e];exact ⟨v,rfl,r⟩
    | ow lt t=>obtain ⟨v,e,r⟩:=kk;rw [e];exact ⟨v,rfl,r⟩
  ·obtain ⟨p,v,rfl,hv,rv⟩:=at2 i s (by omega) e
   rw [hv];exact ⟨v,rfl,rv⟩
 ·obtain ⟨li,qi,oi⟩:=sm i s l hi ms
  obtain ⟨lj,qj,oj⟩:=sm j u l hj mu
  refine S.Bg js[i] js[j] s u l (fun e=>Fq ?_) qi qj oi oj
  exact (zV nd).mp e
def Mv.out {ps:List PV}{τ:L2.St} (S:Sg E ss σ F H) (np:OM js ss=true) (m:Mv E (Bl js ss++ps.map .is) τ F H F' H'):Mv E ss σ F H F' H':=by
 have nn:∀ a,Bs (Bl js ss++ps.map .is) τ a:=fun a i hi _=>by
  by_cases h:i < (Bl js ss).length
  ·rw [CZ h] at hi
   have hj:i < js.length:=by simpa [Bl] using h
   have q:=dk (Ad hj) hi
   have z:=List.all_eq_true.mp np js[i] (HE hj)
   cases w:ss[js[i]]? with
   | none=>rw [w] at q;cases q
   | some u=>rw [w] at q z;cases q;cases z
  ·rw [Dh (by omega),Ag] at hi
   cases w:ps[i - (Bl js ss).length]? with
   | none=>rw [w] at hi;cases hi
   | some p=>rw [w] at hi;cases hi
 have hk:∀ a o,H a=some o->H' a=some o:=fun a o e=>m.hh a o (nn a) e
 exact S.step m.ff m.st.fh (fun a o _ e=>hk a o e) m.nn fun i l hi e=>B3.keep (S.Cp hi e) fun o e=>hk l o e
def fK {wi:TI}{tt:TT}{te:TE}{k:List PV->Prop}(f:PV->Bool) (g:PV->PV)
  (h:Wi ss wi fun xs=>xs.length<=100000/\(∀ x∈xs,Wt (Bl js ss++[.is x]) tt fun b=>b=f x)/\(∀ x∈xs,f x=true->Wp (Bl js ss++[.is x]) te fun p=>p=g x)/\k ((xs.filter f).map g))
  (nd:js.Nodup:=by decide) (np:OM js ss=true:=by rfl):Wn ss (Iu wi js tt te) k:=⟨fun E σ F H Q S q=>
 h.go E σ F H _ S fun J xs F1 H1 m1 sr ⟨hz,ht,he,kk⟩ acc Az=>by
  have Em:Bs ss σ acc:=m1.st.HN Az
  have IU:=m1.st.CO Az
  have Jj:∀ (i:Nat) s,ss[i]?=some s->¬ B2 s σ[i]? acc:=fun i s hi=>m1.st.HU hi Az
  refine ⟨fun i m H2=>m=xs.length - i/\i<=xs.length/\∃ F2 vs,Mv E ss σ F1 H1 F2 H2/\F2 acc=none/\H2 acc=some (.lst vs)/\AG F2 vs (((xs.take i).filter f).map g),⟨_,rfl,CJ _,F1,[],m1.st.make Az _,m1.st.B9 Az,Aa,.nil⟩,?_⟩
  rintro i m H2 ⟨rfl,hi,F2,vs,m2,fa,ha,rv⟩
  by_cases AN:i < xs.length
  ·refine .inr ⟨sr.go ss σ F2 H2 i m2.ff m2.st AN,fun x H3 y=>?_⟩
   obtain ⟨p,F3,hp,m3,rp⟩:=sr.Dx ss σ F2 H2 i x H3 m2.ff m2.st AN y
   have HQ:p∈xs:=CC hp
   have Ik:(xs.take (i+1))=xs.take i++[p]:=by
    have e2:xs[i]=p:=by rw [Ad AN] at hp;exact BG hp
    rw [Rr AN,e2]
   have e1:List.filter f (xs.take (i+1))=(xs.take i).filter f++(if f p=true then [p] else []):=by
    rw [Ik,MI];congr 1
    by_cases hf:f p=true <;> simp [hf]
   have Hj:∀ {F4:Hp},(∀ a o,F4 a=some o->F2 a=some o∨H2 a=none)->F4 acc=none:=fun {F4} n=>by
    cases e:F4 acc with
    | none=>rfl
    | some o=>
     rcases n acc o e with w | w
     ·rw [fa] at w;cases w
     ·rw [ha] at w;cases w
   have S3:=m3.st.A6 (js:=js) nd (.one rp)
   refine (ht p HQ).go E _ F3 H3 _ S3 fun b F4 H4 m4 hb=>?_
   have CA:=m3.trans (m4.out (ps:=[p]) m3.st np)
   show if b=true then _ else _
   rw [hb]
   by_cases hf:f p=true
   ·rw [if_pos hf]
    have S4:=CA.st.A6 (js:=js) nd (.one (rp.mono (m4.out (ps:=[p]) m3.st np).ff))
    refine (he p HQ hf).go E _ F4 H4 _ S4 fun w pw F5 H5 m5 HV ew=>?_
    have m45:=m4.out (ps:=[p]) m3.st np
    have Je:=m5.out (ps:=[p]) CA.st np
    have Ct:=CA.trans Je
    have K2:=Ct.hh acc _ Em ha
    have GK:=Hj Ct.nn
    have hlen:vs.length<=99999:=by
     rw [rv.length,AE]
     have:=Rm f (xs.take i)
     rw [C7] at this
     omega
    refine ⟨vs,K2,J9 hlen,xs.length - (i+1),by omega,rfl,AN,F5,vs++[w],?_,GK,Aa,?_⟩
    ·have DH:=m2.trans Ct
     refine ⟨DH.st.LR GK (.inl IU) Jj,DH.ff,fun a o n e=>?_,DH.nn⟩
     rw [AR (DA e Az)];exact DH.hh a o n e
    ·rw [e1,if_pos hf,DE]
     rw [ew] at HV
     exact (rv.mono Ct.ff).append (.one HV)
   ·have Mj:f p=false:=by simpa using hf
    rw [Mj,if_neg (by decide)]
    refine ⟨xs.length - (i+1),by omega,rfl,AN,F4,vs,m2.trans CA,Hj CA.nn,CA.hh acc _ Em ha,?_⟩
    rw [e1,if_neg hf,E9]
    exact rv.mono CA.ff
  ·have e:i=xs.length:=by omega
   subst e
   refine .inl ⟨sr.stop ss σ F2 H2 m2.ff m2.st,q acc vs _ F2 H2 (m1.trans m2) fa (m1.none Az) ha ?_ kk⟩
   rw [FL] at rv
   exact rv⟩
end
abbrev Pre:=List Slot->Ak->Prop
def AV (pre:Pre):Sp:=fun vs H Q _=>∃ (ss:List Slot) (R:Ak) (F:Hp) (A:List Addr),pre ss R/\Sg (E3 A F H) ss (vs.map some) F H/\∀ v F' H',Fin (E3 A F H) F' H'->R.ok (E3 A F H) F' H' v->Q v H'
section
variable [Xw]
variable {E:Ent0}{ss:List Slot}{σ:L2.St} {F H F' H':Hp}{pre:Pre}{t:TA}{k:PV->Prop}
theorem E6.at {vs:List V}{l:List Slot}(h:E6 ss σ F H vs l):∀ {i:Nat}{s:Slot},l[i]?=some s->∃ v,vs[i]?=some v/\Av ss σ F H v s:=by
 induction h with
 | nil=>intro i s e;simp at e
 | cons a _ ih=>
  intro i s e
  cases i with
  | zero=>simp at e;subst e;exact ⟨_,rfl,a⟩
  | succ i=>exact ih (by simpa using e)
def E6.len {vs:List V}{l:List Slot}(h:E6 ss σ F H vs l):l.length=vs.length:=by
 induction h with
 | nil=>rfl
 | cons a _ ih=>rw [BZ,BZ,ih]
def Av.ok {A:List Addr}{v:V}{s:Slot}(S:Sg E ss σ F H) (a:Av ss σ F H v s) (hA:∀ l,Bs ss σ l->l∉A):Ok (E3 A F H) F H s (some (some v))/\∀ o l,¬ B2 s o l:=by
 cases s with
 | is p=>exact ⟨⟨v,rfl,a⟩,fun _ _ z=>z⟩
 | sq tp xs=>
  cases tp with
  | true=>exact ⟨⟨v,rfl,a⟩,fun _ _ z=>z⟩
  | false=>obtain ⟨l,vs,rfl,n,h,r⟩:=a;exact ⟨⟨l,vs,rfl,⟨hA l n,Ai⟩,h,r⟩,fun _ _ z=>z⟩
 | raw P=>exact ⟨⟨v,rfl,a⟩,fun _ _ z=>z⟩
 | any=>exact a.elim
 | own xs=>exact a.elim
 | AK=>exact a.elim
 | ow lt t=>exact a.elim
def Sg.Ph (S:Sg E ss σ F H){vs:List V}{l:List Slot}(a:E6 ss σ F H vs l):Sg (E3 [] F H) l (vs.map some) F H:=by
 have nn:∀ {p:Prop}(a:Addr),a∈([]:List Addr)->p:=fun a h=>absurd h Ai
 refine ⟨⟨S.fh,AD.refl _,fun _ _ _ e=>e,fun _ _ e=>.inl e,fun a h=>nn a h,fun a h=>nn a h,fun a h=>nn a h,fun a h=>nn a h,fun a h=>nn a h,fun a h=>nn a h⟩,by rw [AE];exact a.len,fun i s hi=>?_,fun i j s u l Fq hi hj ms mu=>?_⟩
 ·obtain ⟨v,hv,q⟩:=a.at hi
  rw [Ag,hv]
  exact (q.ok S fun _ _ h=>absurd h Ai).1
 ·obtain ⟨v,hv,q⟩:=a.at hi
  exact (q.ok S (A:=[]) fun _ _ h=>absurd h Ai).2 _ _ ms
def Sg.VM (S:Sg E ss σ F H){i0:Nat}{p:Addr}(hi:ss[i0]?=some .AK) (e:σ[i0]?=some (some (.ref p))){vs:List V}{l:List Slot}(a:E6 ss σ F H vs l):Sg (E3 [p] F H) (.AK :: l) ((V.ref p :: vs).map some) F H:=by
 obtain ⟨p',e',fp,_,pp⟩:=S.ok i0 _ hi
 rw [e] at e'
 cases e'
 have hA:∀ l,Bs ss σ l->l∉[p]:=fun l n h=>by
  have:l=p:=by simpa using h
  subst this
  exact n i0 hi e
 have one:∀ a,a∈[p]->a=p:=fun a h=>by simpa using h
 have nn:∀ {p:Prop}(a:Addr),a∈([]:List Addr)->p:=fun a h=>absurd h Ai
 refine ⟨⟨S.fh,AD.refl _,fun _ _ _ e=>e,fun _ _ e=>.inl e,fun a h=>(one a h)▸pp,fun a h=>(one a h)▸fp,fun a h=>?_,fun a h=>nn a h,fun a h=>nn a h,fun a h=>nn a h⟩,by rw [AE,BZ,BZ];rw [a.len],fun i s hi=>?_,fun i j s u l' Fq hi hj ms mu=>?_⟩
 ·rw [one a h]
  obtain ⟨_,_,q,_⟩:=pp
  show H p≠none
  rw [q];simp
 ·cases i with
  | zero=>simp at hi;subst hi;exact ⟨p,rfl,fp,.inr (by simp),pp⟩
  | succ i=>
   obtain ⟨v,hv,q⟩:=a.at (i:=i) (s:=s) (by simpa using hi)
   have:((V.ref p :: vs).map some)[i+1]?=some (some v):=by rw [BL,List.getElem?_cons_succ,Ag,hv];rfl
   rw [this]
   exact (q.ok S hA).1
 ·have z:∀ (i:Nat) s o l',(Slot.AK :: l)[i]?=some s->B2 s o l'->i=0:=fun i s o l' h m=>by
   cases i with
   | zero=>rfl
   | succ i=>
    obtain ⟨v,hv,q⟩:=a.at (i:=i) (s:=s) (by simpa using h)
    exact ((q.ok S hA).2 _ _ m).elim
  exact absurd ((z i s _ _ hi ms).trans (z j u _ _ hj mu).symm) Fq
def Sg.back (S:Sg E ss σ F H){A:List Addr}(hA:∀ a,a∈A->∃ i:Nat,ss[i]?=some .AK/\σ[i]?=some (some (.ref a))) (f:Fin (E3 A F H) F' H'):Mv E ss σ F H F' H':=by
 refine S.step f.f0 f.fh (fun a o n e=>f.keep a o ⟨fun h=>?_,Ai⟩ e) f.fresh fun i l hi e=>?_
 ·obtain ⟨i,q1,q2⟩:=hA a h
  exact n i q1 q2
 ·by_cases q:l∈A
  ·exact f.FV l q
  ·exact B3.keep (S.Cp hi e) fun o e=>f.keep l o ⟨q,Ai⟩ e
def wp_call (h:Wa ss t fun l=>∃ k',pre l (.is k')/\∀ p,k' p->k p):Wp ss (CL (AV pre) [] E0 t) k:=⟨fun E σ F H Q S q=>
 h.go E σ F H _ S fun vs l F1 H1 m1 a ⟨k',hp,kk⟩=>by
  rw [E9]
  refine ⟨l,.is k',F1,[],hp,m1.st.Ph a,fun v F' H' f ⟨p,r,kp⟩=>?_⟩
  exact q v p F' H' (m1.trans (m1.st.back (fun _ h=>absurd h Ai) f)) r (kk p kp)⟩
def Gj {k:List PV->Prop}(h:Wa ss t fun l=>∃ k',pre l (.new k')/\∀ xs,k' xs->k xs):Wn ss (CL (AV pre) [] E0 t) k:=⟨fun E σ F H Q S q=>
 h.go E σ F H _ S fun vs l F1 H1 m1 a ⟨k',hp,kk⟩=>by
  rw [E9]
  refine ⟨l,.new k',F1,[],hp,m1.st.Ph a,fun v F' H' f ⟨l,vs,xs,e,fl,hl,Du,r,kx⟩=>?_⟩
  subst e
  exact q l vs xs F' H' (m1.trans (m1.st.back (fun _ h=>absurd h Ai) f)) fl (m1.none hl) Du r (kk xs kx)⟩
def sf {i:Nat}(hi:ss[i]?=some .AK) (h:Wa ss t fun l=>∃ k',pre (.AK :: l) (.is k')/\∀ p,k' p->k p):Wp ss (CL (AV pre) [] E0 (AO (BM i) t)) k:=⟨fun E σ F H Q S q=>by
 obtain ⟨p,e,_⟩:=S.ok i _ hi
 refine ⟨_,e,h.go E σ F H _ S fun vs l F1 H1 m1 a ⟨k',hp,kk⟩=>?_⟩
 show AV pre ((V.ref p :: vs)++[]) H1 Q E0
 rw [E9]
 refine ⟨.AK :: l,.is k',F1,[p],hp,m1.st.VM hi e a,fun v F' H' f ⟨pv,r,kp⟩=>?_⟩
 exact q v pv F' H' (m1.trans (m1.st.back (A:=[p]) (fun a h=>⟨i,hi,(show a=p from by simpa using h)▸e⟩) f)) r (kk pv kp)⟩
def mI {i:Nat}{k:List PV->Prop}(hi:ss[i]?=some .AK) (h:Wa ss t fun l=>∃ k',pre (.AK :: l) (.new k')/\∀ xs,k' xs->k xs):Wn ss (CL (AV pre) [] E0 (AO (BM i) t)) k:=⟨fun E σ F H Q S q=>by
 obtain ⟨p,e,_⟩:=S.ok i _ hi
 refine ⟨_,e,h.go E σ F H _ S fun vs l F1 H1 m1 a ⟨k',hp,kk⟩=>?_⟩
 show AV pre ((V.ref p :: vs)++[]) H1 Q E0
 rw [E9]
 refine ⟨.AK :: l,.new k',F1,[p],hp,m1.st.VM hi e a,fun v F' H' f ⟨l,vs,xs,e2,fl,hl,Du,r,kx⟩=>?_⟩
 subst e2
 exact q l vs xs F' H' (m1.trans (m1.st.back (A:=[p]) (fun a h=>⟨i,hi,(show a=p from by simpa using h)▸e⟩) f)) fl (m1.none hl) Du r (kk xs kx)⟩
def Sg.grown (S:Sg E ss σ F H) (n:Nat):Sg E (ss++List.replicate n .any) (σ++List.replicate n none) F H:=by
 have Dr:∀ (i:Nat) s,(ss++List.replicate n .any)[i]?=some s->s≠.any->ss[i]?=some s/\(σ++List.replicate n none)[i]?=σ[i]?:=fun i s e hs=>by
  by_cases h:i < ss.length
  ·rw [CZ h] at e
   rw [CZ (by rw [<- S.len];exact h)]
   exact ⟨e,rfl⟩
  ·rw [Dh (by omega),gc] at e
   split at e
   ·exact absurd (BG e).symm hs
   ·cases e
 refine ⟨S.toFin,by simp [S.len],fun i s e=>?_,fun i j s u l Fq hi hj ms mu=>?_⟩
 ·cases s with
  | any=>trivial
  | _=>obtain ⟨a,b⟩:=Dr i _ e (by simp);rw [b];exact S.ok i _ a
 ·have ns:s≠.any:=by rintro rfl;cases ms
  have nu:u≠.any:=by rintro rfl;cases mu
  obtain ⟨a,b⟩:=Dr i s hi ns
  obtain ⟨c,d⟩:=Dr j u hj nu
  rw [b] at ms
  rw [d] at mu
  exact S.Bg i j s u l Fq a c ms mu
end
section
variable {E:Ent0}{ss:List Slot}{σ:L2.St} {F H F' H':Hp}{pre:Pre}{t:TA}{k:PV->Prop}
def OC (E:Ent0):Ent:=⟨E,fun _ _ _ _ _ _ _ _ _ d=>d.elim⟩
def CY {N:List Str}{n:Nat}{vs:List V}{Q:VK}{X:XK}{t:TS}(h:AV pre vs H Q X) (hl:∀ ss R,pre ss R->ss.length=n)
  (hw:∀ ss R,pre ss R->Ws (ss++List.replicate (N.length - n) .any) t (fun _=>∃ k,R=.is k/\k .A5) R):t { nx:=fun _ H'=>Q .A5 H',rt:=Q } (L2.start N vs) H:=by
 obtain ⟨ss,R,F,A,hp,S,q⟩:=h
 have e:vs.length=n:=by have:=S.len;rw [AE] at this;rw [<- this];exact hl ss R hp
 unfold L2.start
 rw [e]
 refine (hw ss R hp).go (OC (E3 A F H)) _ _ F H (S.grown _) (fun A8 σ' F' H' ⟨k,e,kn⟩ S' _=>?_) fun v F' H' f ok=>q v F' H' f ok
 subst e
 exact q .A5 F' H' S'.toFin ⟨.A5,.A5,kn⟩
def CW {n:Nat}{vs:List V}{Q:VK}{X:XK}(hl:∀ ss R,pre ss R->ss.length=n) (h:AV pre vs H Q X):vs.length=n:=by
 obtain ⟨ss,R,F,A,hp,S,q⟩:=h
 have:=S.len
 rw [AE] at this
 rw [<- this];exact hl ss R hp
end
end Fz
namespace L2
section
variable {X:Cx}
def d8 (K:ZAY):R2:=fun x y H Q=>∃ p q xs,x=.ref p/\y=.ref q/\AJ K H p xs/\AJ K H q []/\Q (.bl (!decide (xs=[]))) H
def yl (hu:X.A.units < cLine):Ay X (compareOp .NotEq) (d8 X.K):=by
 intro pins s σ H x y v u Q I rx ry h
 obtain ⟨p,q,xs,rfl,rfl,ha,hb,hQ⟩:=h
 cases rx;cases ry
 obtain ⟨A1,r1,p1,z1⟩:=I.list ha
 obtain ⟨BJ,r2,p2,z2⟩:=I.list hb
 have l1:=r1.length;have l2:=r2.length
 cases xs with
 | nil=>exact WB hu pins s σ H _ _ _ _ Q I (show RelV (.ref p) (.ref p) from rfl) (show RelV (.ref q) (.ref q) from rfl) ⟨p,q,[],[],rfl,rfl,.inl ⟨ha,hb⟩,rfl,rfl,hQ⟩
 | cons y ys=>
  have Ao:(A1.toArray.size != BJ.toArray.size)=true:=by simp only [Bh,<- l1,<- l2];simp
  exact zv p1.isList p2.isList Ao hu _ _ _ _ ⟨.bl true,H,I,rfl,hQ⟩
def p0 (K:ZAY):R2:=fun x y H Q=>∃ p q xs,x=.ref p/\y=.ref q/\AJ K H p xs/\AJ K H q []/\Q (.bl (decide (xs=[]))) H
end
end L2
namespace Lw
open L2
inductive Tr (lr lb:Addr) (H:Hp):List V->List V->Addr->List Str->Prop where
 | base {l:Addr}{rs:List Str}:l≠lr->l≠lb->H l=some (.lst (rs.map V.str))->Tr lr lb H [.ref l] [] l rs
 | snoc {vs bs:List V}{l:Addr}{rs:List Str}{l':Addr}{Ms:List Str}{t:Addr}{d:BA}:Tr lr lb H vs bs l rs->l'≠lr->l'≠lb->t≠lr->t≠lb->H l'=some (.lst (Ms.map V.str))->H t=some (.tup d.vals)->
   d.Ok 40 Ms->Ms.length<=40->d.done Ms=rs->Tr lr lb H (vs++[.ref l']) (bs++[.ref t]) l' Ms
def Tr.mono {lr lb:Addr}{H H':Hp}(k:∀ b o,b≠lr->b≠lb->H b=some o->H' b=some o){vs bs:List V}{l:Addr}{rs:List Str}(h:Tr lr lb H vs bs l rs):Tr lr lb H' vs bs l rs:=by
 induction h with
 | base a b c=>exact .base a b (k _ _ a b c)
 | snoc _ a b c d e f g i j ih=>exact .snoc ih a b c d (k _ _ a b e) (k _ _ c d f) g i j
def Tr.len {lr lb:Addr}{H:Hp}{vs bs:List V}{l:Addr}{rs:List Str}(h:Tr lr lb H vs bs l rs):vs.length=bs.length+1:=by
 induction h with
 | base a b c=>rfl
 | snoc _ a b c d e f g i j ih=>simp [ih]
theorem Z9:∀ l:List Nat,¬ l < l
 | [],h=>by simp at h
 | a :: r,h=>by
  rw [Xe] at h
  rcases h with h | ⟨_,h⟩
  ·omega
  ·exact Z9 r h
theorem dZ:∀ {a b c:List Nat},a < b->b < c->a < c
 | _,[],_,h,_=>by simp at h
 | _,_ :: _,[],_,h=>by simp at h
 | [],_ :: _,_ :: _,_,_=>by simp
 | a :: r,b :: s,c :: t,h,h'=>by
  rw [Xe] at h h' ⊢
  rcases h with h | ⟨rfl,h⟩
  ·rcases h' with h' | ⟨rfl,h'⟩
   ·left;omega
   ·left;exact h
  ·rcases h' with h' | ⟨rfl,h'⟩
   ·left;exact h'
   ·right;exact ⟨rfl,dZ h h'⟩
theorem Yh:∀ a b:List Nat,a < b∨a=b∨b < a
 | [],[]=>.inr (.inl rfl)
 | [],_ :: _=>.inl (by simp)
 | _ :: _,[]=>.inr (.inr (by simp))
 | a :: r,b :: s=>by
  rw [Xe,Xe]
  rcases gn a b with h | rfl | h
  ·exact .inl (.inl h)
  ·rcases Yh r s with h | rfl | h
   ·exact .inl (.inr ⟨rfl,h⟩)
   ·exact .inr (.inl rfl)
   ·exact .inr (.inr (.inr ⟨rfl,h⟩))
  ·exact .inr (.inr (.inl h))
abbrev Nl (a b:Str):Prop:=a.cps.toList < b.cps.toList
def xB (a b:Str):Nl a b∨a=b∨Nl b a:=by
 rcases Yh a.cps.toList b.cps.toList with h | h | h
 ·exact .inl h
 ·exact .inr (.inl (xZ h))
 ·exact .inr (.inr h)
abbrev Up (ss:List Str):Prop:=ss.Pairwise Nl
def e9 {ss:List Str}(h:Up ss):ss.Nodup:=by
 refine zL (fun {a b} (FF:Nl a b) (e:a=b)=>?_) h
 subst e
 exact Z9 _ FF
theorem Fo:∀ {as bs:List Str},as.Nodup->(∀ x∈as,x∈bs)->as.length<=bs.length
 | [],_,_,_=>CJ _
 | a :: as,bs,nd,h=>by
  obtain ⟨h1,h2⟩:=List.nodup_cons.mp nd
  have ha:=h a HH
  have q:=Fo (bs:=bs.erase a) h2 fun x hx=>(zb (fun e:x=a=>h1 (by rw [<- e];exact hx))).mpr (h x (Fx _ hx))
  have e:=zY ha
  have p:=zZ ha
  simp only [BZ]
  omega
def QN:List Str:=["none", "ahead", "all"]
def Zc (ss:List Str):Bool:=decide (Up ss)
def Za (ns ss:List Str):Bool:=ss.all fun x=>decide (x∈ns)
def cP (n:Nat) (g:Int):Bool:=decide (0<=g) && decide (g<=(n:Int))
def Vl (ns:List Str) (r:Str) (g:Int) (ss:List Str):Bool:=decide (r∈QN) && (cP ns.length g && (Zc ss && Za ns ss))
def LoopAt (K:ZAY) (H:Hp) (t:Addr) (r:Str) (g:Int) (ss:List Str):Prop:=∃ c,Ab K H t [.str r,.int g,.ref c]/\Ab K H c (ss.map V.str)
def LoopAt.same {K:ZAY}{H H':Hp}{t:Addr}{r:Str}{g:Int}{ss:List Str}(s:AD H H') (h:LoopAt K H t r g ss):LoopAt K H' t r g ss:=by
 obtain ⟨c,h1,h2⟩:=h
 exact ⟨c,s.Nb h1,s.Nb h2⟩
def FK (ss:List Str) (x:Str):Bool:=decide (x∈ss)
def Dg (ns:List Str) (g:Nat) (ss:List Str):List Str:=(ns.drop g).filter (FK ss)++(ns.take g).filter (FK ss)
def wq (ns:List Str) (g:Nat) (ss:List Str):(ns.drop g++ns.take g).filter (FK ss)=Dg ns g ss:=MI ..
def Pw {ns:List Str}{g:Nat}{ss:List Str}{x:Str}:x∈Dg ns g ss↔x∈ns/\x∈ss:=by
 unfold Dg
 rw [Fw,gg,gg]
 have e:(x∈ns)↔(x∈ns.take g∨x∈ns.drop g):=by
  rw [<- Fw,HI]
 unfold FK
 simp only [decide_eq_true_eq]
 rw [e]
 constructor
 ·rintro (⟨a,b⟩ | ⟨a,b⟩)
  ·exact ⟨.inr a,b⟩
  ·exact ⟨.inl a,b⟩
 ·rintro ⟨a | a,b⟩
  ·exact .inr ⟨a,b⟩
  ·exact .inl ⟨a,b⟩
def He (H:Hp) (t:Addr) (r:Str) (g:Int) (ss:List Str):Prop:=∃ c,H t=some (.tup [.str r,.int g,.ref c])/\H c=some (.tup (ss.map V.str))
def He.same {H H':Hp}{t:Addr}{r:Str}{g:Int}{ss:List Str}(s:AD H H') (h:He H t r g ss):He H' t r g ss:=by
 obtain ⟨c,a,b⟩:=h
 exact ⟨c,s _ _ a,s _ _ b⟩
structure C5 (ns:List Str) (r:Str) (g:Int) (ss:List Str):Prop where
 rule:r∈QN
 g0:0<=g
 g1:g<=(ns.length:Int)
 up:Up ss
 sub:∀ x∈ss,x∈ns
theorem C5.Vl {ns:List Str}{r:Str}{g:Int}{ss:List Str}(h:C5 ns r g ss):Vl ns r g ss=true:=by
 unfold Lw.Vl cP Zc Za
 rw [decide_eq_true h.rule,decide_eq_true h.g0,decide_eq_true h.g1,decide_eq_true h.up,MG,MG,MG,MG,HD]
 intro x hx
 exact decide_eq_true (h.sub x hx)
def SU {ss:List Str}(x:Str) (h:Up ss):Up (wo ss x):=h.filter _
def tO {ss:List Str}{x:Str}(nd:ss.Nodup) (h:x∈ss):(wo ss x).length+1=ss.length:=by
 have e:=Mf h
 have h1:=UL h
 have h2:=Ox h nd
 have:wo ss x=ss.take (ss.idxOf x)++ss.drop (ss.idxOf x+1):=by
  conv=>lhs;rw [e]
  rw [Yy,gG,RY h1,RY h2]
 rw [this]
 conv=>rhs;rw [e]
 simp only [BK,BZ]
 omega
def C5.step {ns:List Str}{r:Str}{g:Int}{ss:List Str}(h:C5 ns r g ss){x:Str}(hx:x∈ns):C5 ns r ((ns.idxOf x:Nat)+1) (wo ss x):=by
 have hj:ns.idxOf x < ns.length:=List.idxOf_lt_length_iff.mpr hx
 exact ⟨h.rule,by omega,by omega,SU x h.up,fun y hy=>h.sub y (Gy.mp hy).1⟩
def De (ns:List Str) (g:Nat) (ss:List Str):Option Str:=(Dg ns g ss).head?
def Fc (ns:List Str) (g:Nat) (ss:List Str):Nat:=match De ns g ss with
 | none=>g
 | some x=>ns.idxOf x+1
def Dz (ns:List Str) (g:Nat) (ss:List Str):List Str:=match De ns g ss with
 | none=>ss
 | some x=>wo ss x
def oa:Option Str->V
 | none=>.A5
 | some x=>.str x
def U8 (H:Hp) (t':Addr) (ns:List Str) (r:Str) (g:Nat) (ss:List Str):Prop:=∃ td,H t'=some (.tup [oa (De ns g ss),.ref td])/\He H td r (Fc ns g ss:Nat) (Dz ns g ss)
theorem U8.same {H H':Hp}{t':Addr}{ns:List Str}{r:Str}{g:Nat}{ss:List Str}(s:AD H H') (h:U8 H t' ns r g ss):U8 H' t' ns r g ss:=by
 obtain ⟨td,a,b⟩:=h
 exact ⟨td,s _ _ a,b.same s⟩
def vW {ns:List Str}{r:Str}{g:Nat}{ss:List Str}(h:C5 ns r g ss):C5 ns r (Fc ns g ss:Nat) (Dz ns g ss)/\(Dz ns g ss).length<=ss.length - 1:=by
 unfold Fc Dz
 cases e:De ns g ss with
 | none=>
  refine ⟨h,?_⟩
  have er:Dg ns g ss=[]:=List.head?_eq_none_iff.mp e
  have:ss=[]:=by
   cases hs:ss with
   | nil=>rfl
   | cons x q=>
    have hx:x∈ss:=by rw [hs];exact HH
    have:x∈Dg ns g ss:=Pw.mpr ⟨h.sub x hx,hx⟩
    rw [er] at this;simp at this
  show ss.length<=ss.length - 1
  rw [this];exact Ae _
 | some x=>
  have hx:x∈Dg ns g ss:=zc e
  obtain ⟨h1,h2⟩:=Pw.mp hx
  have:=tO (e9 h.up) h2
  exact ⟨h.step h1,by show (wo ss x).length<=_;omega⟩
structure Ent where
 a:Addr
 ns:List Str
 t:Addr
 r:Str
 g:Nat
 ss:List Str
structure Ent.Ok (H:Hp) (lr lp:Addr) (e:Ent):Prop where
 ar:e.a≠lr
 ap:e.a≠lp
 ha:H e.a=some (.lst (e.ns.map V.str))
 hl:He H e.t e.r e.g e.ss
 good:C5 e.ns e.r e.g e.ss
 len:e.ns.length<=40
def He.mono {H H':Hp}{lr lp t:Addr}{r:Str}{g:Int}{ss:List Str}{vs ws:List V}(h:He H t r g ss) (hr:H lr=some (.lst vs)) (hp:H lp=some (.lst ws)) (k:∀ b o,b≠lr->b≠lp->H b=some o->H' b=some o):He H' t r g ss:=by
 obtain ⟨c,a,b⟩:=h
 have ne:∀ {x y:Addr}{us vs:List V},H x=some (.tup us)->H y=some (.lst vs)->x≠y:=fun h1 h2 e=>by subst e;rw [h1] at h2;cases h2
 exact ⟨c,k _ _ (ne a hr) (ne a hp) a,k _ _ (ne b hr) (ne b hp) b⟩
theorem Ent.Ok.mono {H H':Hp}{lr lp:Addr}{e:Ent}{vs ws:List V}(h:e.Ok H lr lp) (hr:H lr=some (.lst vs)) (hp:H lp=some (.lst ws)) (k:∀ b o,b≠lr->b≠lp->H b=some o->H' b=some o):e.Ok H' lr lp:=
 ⟨h.ar,h.ap,k _ _ h.ar h.ap h.ha,h.hl.mono hr hp k,h.good,h.len⟩
theorem Ent.Ok.same {H H':Hp}{lr lp:Addr}{e:Ent}(h:e.Ok H lr lp) (s:AD H H'):e.Ok H' lr lp:=⟨h.ar,h.ap,s _ _ h.ha,h.hl.same s,h.good,h.len⟩
end Lw
namespace L2
section
variable {X:Cx}
end
end L2
namespace Lw
open L2
def IS (i g:Nat):Nat:=if i < g then g+1 else g
def Iy (p g:Nat):Nat:=if p < g then g - 1 else g
def BA.gap (ns:List Str) (g:Nat):BA->Nat
 | .put _ i=>IS i g
 | .take x=>Iy (ns.idxOf x) g
 | .move x i=>IS i (Iy (ns.idxOf x) g)
 | .turn _ _=>g
def Fn:List Str->Str->List Str
 | [],x=>[x]
 | y :: r,x=>if Nl x y then x :: y :: r else y :: Fn r x
def Hi (r:Str) (g i:Nat):Bool:=if decide (V.str r=V.str "all")=true then true else if decide (V.str r=V.str "ahead")=true then decide ((g:Int)<=(i:Int)) else false
def BA.Gk (r:Str) (g:Nat) (ss:List Str):BA->List Str
 | .put x i=>if Hi r g i=true then Fn ss x else ss
 | .take x=>wo ss x
 | .move _ _=>ss
 | .turn _ _=>ss
theorem MS {x k:Str}:∀ {ss:List Str},k∈Fn ss x↔k=x∨k∈ss
 | []=>by simp [Fn]
 | y :: r=>by
  unfold Fn
  split
  ·simp
  ·rw [EW,MS (ss:=r),EW]
   constructor
   ·rintro (h | h | h)
    ·exact .inr (.inl h)
    ·exact .inl h
    ·exact .inr (.inr h)
   ·rintro (h | h | h)
    ·exact .inr (.inl h)
    ·exact .inl h
    ·exact .inr (.inr h)
theorem Vg {x:Str}:∀ {ss:List Str},Up ss->x∉ss->Up (Fn ss x)
 | [],_,_=>List.pairwise_singleton _ _
 | y :: r,h,hx=>by
  obtain ⟨h1,h2⟩:=List.pairwise_cons.mp h
  unfold Fn
  split
  ·next c=>exact List.pairwise_cons.mpr ⟨fun k hk=>(List.mem_cons.mp hk).elim (fun e=>by rw [e];exact c) fun hk=>dZ c (h1 k hk),h⟩
  ·next c=>
   refine List.pairwise_cons.mpr ⟨fun k hk=>?_,Vg h2 fun hm=>hx (Fx _ hm)⟩
   rcases MS.mp hk with rfl | hk
   ·rcases xB k y with z | z | z
    ·exact absurd z c
    ·exact absurd (by rw [z];exact HH) hx
    ·exact z
   ·exact h1 k hk
def C5.len {ns:List Str}{r:Str}{g:Int}{ss:List Str}(h:C5 ns r g ss):ss.length<=ns.length:=Fo (e9 h.up) h.sub
def C5.led {ns:List Str}{r:Str}{g:Nat}{ss:List Str}{d:BA}(h:C5 ns r g ss) (ok:d.Ok 40 ns) (nd:ns.Nodup):C5 (d.done ns) r (d.gap ns g:Nat) (d.Gk r g ss):=by
 have g1:=h.g1
 cases d with
 | put x i=>
  obtain ⟨h1,h2,h3,h4⟩:=ok
  refine ⟨h.rule,by omega,?_,?_,?_⟩
  ·show ((IS i g:Nat):Int)<=((ins ns x i).length:Int)
   rw [Pc]
   unfold IS
   split <;> omega
  ·show Up (if Hi r g i=true then Fn ss x else ss)
   split
   ·exact Vg h.up fun hm=>h2 (h.sub x hm)
   ·exact h.up
  ·intro k hk
   show k∈ins ns x i
   rw [RG]
   have MY:k∈(if Hi r g i=true then Fn ss x else ss):=hk
   split at MY
   ·rcases MS.mp MY with z | z
    ·exact .inl z
    ·exact .inr (h.sub k z)
   ·exact .inr (h.sub k MY)
 | take x=>
  have hx:x∈ns:=ok
  have hl:=PR hx nd
  have hj:ns.idxOf x < ns.length:=List.idxOf_lt_length_iff.mpr hx
  refine ⟨h.rule,by omega,?_,SU x h.up,fun k hk=>?_⟩
  ·show ((Iy (ns.idxOf x) g:Nat):Int)<=((wo ns x).length:Int)
   unfold Iy
   split <;> omega
  ·obtain ⟨a,b⟩:=Gy.mp (show k∈wo ss x from hk)
   exact Gy.mpr ⟨h.sub k a,b⟩
 | move x i=>
  obtain ⟨hx,hi⟩:=ok
  have hl:=PR hx nd
  have hj:ns.idxOf x < ns.length:=List.idxOf_lt_length_iff.mpr hx
  refine ⟨h.rule,by omega,?_,h.up,fun k hk=>?_⟩
  ·show ((IS i (Iy (ns.idxOf x) g):Nat):Int)<=((ins (wo ns x) x i).length:Int)
   rw [Pc]
   unfold IS Iy
   split <;> split <;> omega
  ·show k∈ins (wo ns x) x i
   rw [RG,Gy]
   by_cases e:k=x
   ·exact .inl e
   ·exact .inr ⟨h.sub k hk,e⟩
 | turn lo hi=>
  obtain ⟨h1,h2⟩:=ok
  refine ⟨h.rule,by omega,?_,h.up,fun k hk=>(Zz h1).mpr (h.sub k hk)⟩
  show ((g:Nat):Int)<=((Fe ns lo hi).length:Int)
  rw [c9 h1 h2];exact g1
def TZ {r:Str}{g:Nat}{ss:List Str}{x:Str}{i:Nat}(h:Hi r g i=false):BA.Gk r g ss (.put x i)=ss:=by show (if _ then _ else _)=_;rw [if_neg (by rw [h];decide)]
structure Ah (rs:List Str) (g:Nat) (ss:List Str):Prop where
 good:C5 rs "ahead" g ss
 mem:∀ x,x∈ss↔x∈rs.drop g
def YF {rs:List Str}(nd:rs.Nodup){g:Nat}{x:Str}(h:x∈rs.take g):x∉rs.drop g:=by
 rw [<- HI g rs,CI] at nd
 exact fun h2=>nd.2.2 x h x h2 rfl
def Ah.rest {rs ss:List Str}{g:Nat}(h:Ah rs g ss) (nd:rs.Nodup):Dg rs g ss=rs.drop g:=by
 unfold Dg
 have e1:(rs.drop g).filter (FK ss)=rs.drop g:=List.filter_eq_self.mpr fun x hx=>decide_eq_true ((h.mem x).mpr hx)
 have e2:(rs.take g).filter (FK ss)=[]:=List.filter_eq_nil_iff.mpr fun x hx hm=>YF nd hx ((h.mem x).mp (of_decide_eq_true hm))
 rw [e1,e2,E9]
theorem Ah.De {rs ss:List Str}{g:Nat}(h:Ah rs g ss) (nd:rs.Nodup):De rs g ss=rs[g]?:=by
 unfold Lw.De
 rw [h.rest nd,List.head?_drop]
def Om {rs:List Str}(nd:rs.Nodup){g:Nat}{x:Str}(h:rs[g]?=some x):rs.idxOf x=g:=by
 obtain ⟨hg,e⟩:=List.getElem?_eq_some_iff.mp h
 have hx:x∈rs:=CC h
 have hj:rs.idxOf x < rs.length:=List.idxOf_lt_length_iff.mpr hx
 have e2:rs[rs.idxOf x]=x:=IG hj
 have pw:=List.pairwise_iff_getElem.mp nd
 rcases gn (rs.idxOf x) g with c | c | c
 ·exact absurd (e2.trans e.symm) (pw _ _ hj hg c)
 ·exact c
 ·exact absurd (e.trans e2.symm) (pw _ _ hg hj c)
def Ah.step {rs ss:List Str}{g:Nat}(h:Ah rs g ss) (nd:rs.Nodup):Fc rs g ss=min (g+1) rs.length/\Ah rs (Fc rs g ss) (Dz rs g ss):=by
 have gd:=(vW h.good).1
 have g1:=h.good.g1
 have eo:=h.De nd
 unfold Fc Dz at gd ⊢
 rw [eo] at gd ⊢
 cases e:rs[g]? with
 | none=>
  rw [e] at gd
  have:rs.length<=g:=List.getElem?_eq_none_iff.mp e
  exact ⟨by show g=_;omega,h⟩
 | some x=>
  rw [e] at gd
  obtain ⟨hg,ex⟩:=List.getElem?_eq_some_iff.mp e
  have ei:=Om nd e
  refine ⟨by show rs.idxOf x+1=_;omega,⟨gd,fun y=>?_⟩⟩
  show y∈wo ss x↔y∈rs.drop (rs.idxOf x+1)
  rw [Gy,h.mem y,ei,Xf hg,ex,EW]
  have hx:x∉rs.drop (g+1):=by
   have:=Ox (CC e) nd
   rw [ei] at this
   exact this
  constructor
  ·rintro ⟨z | z,hn⟩
   ·exact absurd z hn
   ·exact z
  ·intro z
   exact ⟨.inr z,fun e=>hx (e▸z)⟩
def t8 (g i:Nat):Hi "ahead" g i=decide ((g:Int)<=(i:Int)):=by
 unfold Hi
 rw [if_neg (by decide),if_pos (by decide)]
def uW (rs:List Str):BA->Prop
 | .put _ _=>True
 | .take _=>True
 | .move _ _=>False
 | .turn _ _=>rs=[]
theorem Ah.led {rs ss:List Str}{g:Nat}{d:BA}(h:Ah rs g ss) (nd:rs.Nodup) (ok:d.Ok 40 rs) (hd:uW rs d):Ah (d.done rs) (d.gap rs g) (d.Gk "ahead" g ss):=by
 refine ⟨h.good.led ok nd,fun y=>?_⟩
 have g1:=h.good.g1
 cases d with
 | put x i=>
  obtain ⟨h1,h2,h3,h4⟩:=ok
  show y∈(if Hi "ahead" g i=true then Fn ss x else ss)↔y∈(ins rs x i).drop (IS i g)
  rw [t8]
  have Vi:(rs.take i).length=i:=by rw [C7];omega
  unfold ins IS
  by_cases c:i < g
  ·rw [if_pos c,if_neg (by simp;omega),OY,Vi,Xg (by omega:(rs.take i).length<=g+1),JL,show g+1 - i=(g - i)+1 by omega,List.drop_succ_cons,gT,h.mem y]
   rw [show i+(g - i)=g by omega]
  ·rw [if_neg c,if_pos (by simp;omega),MS,h.mem y,OY,Vi,show g - i=0 by omega,JJ,Fw,EW]
   have e:rs.drop g=(rs.take i).drop g++rs.drop i:=by
    conv=>lhs;rw [<- HI i rs]
    rw [OY,Vi,show g - i=0 by omega,JJ]
   rw [e,Fw]
   constructor
   ·rintro (z | z | z)
    ·exact .inr (.inl z)
    ·exact .inl z
    ·exact .inr (.inr z)
   ·rintro (z | z | z)
    ·exact .inr (.inl z)
    ·exact .inl z
    ·exact .inr (.inr z)
 | take x=>
  have hx:x∈rs:=ok
  have hj:rs.idxOf x < rs.length:=List.idxOf_lt_length_iff.mpr hx
  show y∈wo ss x↔y∈(wo rs x).drop (Iy (rs.idxOf x) g)
  have e0:=Mf hx
  have n1:=UL hx
  have n2:=Ox hx nd
  rw [Gy,h.mem y,Yg hx nd]
  generalize hp:rs.idxOf x=p at *
  have Vc:(rs.take p).length=p:=by rw [C7];omega
  unfold Iy
  by_cases c:p < g
  ·rw [if_pos c,OY,Vc,Xg (by omega:(rs.take p).length<=g - 1),JL,gT,show p+1+(g - 1 - p)=g by omega]
   have hn:x∉rs.drop g:=by
    refine YF nd (g:=g) ?_
    rw [List.mem_take_iff_getElem]
    have e2:rs[p]=x:=by
     have:=IG (xs:=rs) (x:=x) (by rw [hp];exact hj)
     simpa [hp] using this
    exact ⟨p,by omega,e2⟩
   exact ⟨fun z=>z.1,fun z=>⟨z,fun e=>hn (e▸z)⟩⟩
  ·rw [if_neg c,OY,Vc,show g - p=0 by omega,JJ,Fw]
   have e:rs.drop g=(rs.take p).drop g++x :: rs.drop (p+1):=by
    conv=>lhs;rw [e0]
    rw [OY,Vc,show g - p=0 by omega,JJ]
   rw [e,Fw,EW]
   constructor
   ·rintro ⟨z | z | z,hn⟩
    ·exact .inl z
    ·exact absurd z hn
    ·exact .inr z
   ·rintro (z | z)
    ·exact ⟨.inl z,fun e=>n1 (e▸Ro z)⟩
    ·exact ⟨.inr (.inr z),fun e=>n2 (e▸z)⟩
 | move x i=>exact hd.elim
 | turn lo hi=>
  have NC:rs=[]:=hd
  obtain ⟨h1,h2⟩:=ok
  subst NC
  show y∈ss↔y∈(Fe [] lo hi).drop g
  rw [h.mem y]
  simp [Fe]
end Lw
namespace L2
section
variable {X:Cx}{pins:ZAZ}{σ:St} {H2:Hp}{s2:Shared}{elt iter:Expr}{x z:Str}{px pz tp pos:Pos}{tk:Nat}{scope:Scope}{A6:List Str}{js:List Nat}{te:TE}{J:It}{fp:List Addr}{it:Addr}
 {tn:Nat->Heap->Prop}
end
end L2
namespace Fz
open L2 Lw
section
variable [Xw]
variable {E:Ent0}{ss:List Slot}{σ:L2.St} {F H F' H':Hp}{K:ZAY}{js:List Nat}{ta tb te:TE}{k:PV->Prop}{nx:List Slot->Prop}{R:Ak}
def Sg.Ng (S:Sg E ss σ F H){i:Nat}{p:Addr}(hi:ss[i]?=some .AK) (e:σ[i]?=some (some (.ref p))) (s:Bq p H H'):Mv E ss σ F H F H':=by
 obtain ⟨p',e',fp,_,pp⟩:=S.ok i _ hi
 rw [e] at e'
 cases e'
 refine S.step (AD.refl _) (fun a o q=>s.same a o (DA q fp) (S.fh a o q)) (fun a o n q=>s.same a o (fun z=>?_) q) (fun a o q=>.inl q) fun j l hj ej=>?_
 ·rw [z] at n;exact n i hi e
 ·by_cases z:l=p
  ·rw [z];exact s.AK
  ·exact B3.keep (S.Cp hj ej) fun o q=>s.same l o z q
def vZ {i:Nat}(hi:ss[i]?=some .AK) (h:Wp ss te fun x=>∃ m,x=.int m/\0 < m/\m < 10 ^ 18/\∀ r:Int,0<=r->r < m->k (.int r)):Wp ss (CL LO [] E0 (AO (BM i) (AO te An))) k:=⟨fun E σ F H Q S q=>by
 obtain ⟨p,e,_⟩:=S.ok i _ hi
 refine ⟨_,e,h.go E σ F H _ S fun v x F1 H1 m1 r ⟨m,em,m0,GG,kk⟩=>?_⟩
 subst em;cases r
 exact ⟨p,m,rfl,m1.st.Cp hi e,m0,GG,fun r H2 r0 r1 s=>q _ _ F1 H2 (m1.trans (m1.st.Ng hi e s)) (.int r) (kk r r0 r1)⟩⟩
def vw {sp:Sp}{i:Nat}{k:List PV->Prop}(EM:sp=c8) (hi:ss[i]?=some .AK) (h:Wp ss te fun x=>∃ m,x=.int m/\1<=m/\m<=100/\∀ ns:List Str,(ns.length:Int)<=m->(∀ x∈ns,Nm x)->ns.Nodup->k (ns.map PV.str)):Wn ss (CL sp [] E0 (AO (BM i) (AO te An))) k:=⟨fun E σ F H Q S q=>by
 subst EM
 obtain ⟨p,e,_⟩:=S.ok i _ hi
 refine ⟨_,e,h.go E σ F H _ S fun v x F1 H1 m1 r ⟨m,em,m0,GG,kk⟩=>?_⟩
 subst em;cases r
 refine ⟨p,m,rfl,m1.st.Cp hi e,m0,GG,fun l H2 ns hl s Bw hz hN nd=>?_⟩
 have m2:=m1.st.Ng hi e s
 exact q l _ _ F1 H2 (m1.trans m2) (m1.st.B9 hl) (m1.none hl) Bw (KQ ns) (kk ns hz hN nd)⟩
def Dp (K:ZAY) (ns:List Int):Hp->V->Prop:=fun F v=>∃ a,v=.ref a/\AJ K F a (ns.map V.int)
def OT (K:ZAY) (ns:List Int):∀ (v:V) (F F':Hp),AD F F'->Dp K ns F v->Dp K ns F' v:=fun v F F' s ⟨a,e,h⟩=>⟨a,e,by
 rcases h with (h | ⟨o,h⟩) | h
 ·exact .inl (.inl (s _ _ h))
 ·exact .inl (.inr ⟨o,s _ _ h⟩)
 ·exact .inr h⟩
def xI {i:Nat}{ns:List Int}(hi:ss[i]?=some (.raw (Dp K ns))) (h:k (.int ns.length)):Wp ss (C1 (Nd K) (AO (BM i) An)) k:=⟨fun E σ F H Q S q=>by
 obtain ⟨v,e,⟨a,ev,hq⟩,st⟩:=S.ok i _ hi
 subst ev
 obtain ⟨a',ea,FH⟩:=OT K ns _ F H S.fh ⟨a,rfl,hq⟩
 cases ea
 refine ⟨_,e,a,_,rfl,.inl FH,?_⟩
 rw [AE]
 exact q _ _ F H (.refl S) (.int _) h⟩
def cK {i j:Nat}{ns:List Int}(hi:ss[i]?=some (.raw (Dp K ns))) (h:Wp ss te fun x=>∃ m,x=.int m/\0<=m/\m<=1000/\nx (ss.set j .AK)):Ws ss (E8 (CL (OE K) [] E0 (AO (BM i) (AO te An))) (CV j)) nx R:=⟨fun E D σ F H S hn hr=>by
 obtain ⟨v,e,⟨a,ev,hq⟩,st⟩:=S.ok i _ hi
 subst ev
 refine ⟨_,e,h.go E σ F H _ S fun v x F1 H1 m1 r ⟨m,em,m0,GG,kk⟩=>?_⟩
 subst em;cases r
 obtain ⟨v',e',O6,_⟩:=m1.st.ok i _ hi
 rw [e] at e';cases e'
 obtain ⟨a',ea,FH⟩:=OT K ns _ F1 H1 m1.st.fh O6
 cases ea
 refine ⟨a,ns,m,rfl,FH,m0,GG,fun p H2 hp s pp=>?_⟩
 have m2:=m1.st.grow s
 exact hn _ _ F1 H2 kk (m2.st.setG ⟨p,rfl,m1.st.B9 hp,.inl (m1.st.CO hp),pp⟩ fun l e b u _ hu mu=>by cases e;exact m1.st.HU hu hp mu) m1.ff⟩
end
section
variable {E:Ent0}{ss:List Slot}{σ:L2.St} {F H F' H':Hp}{K:ZAY}
def p6 {N:List Str}{vs:List V}{Q:VK}{X:XK}{t:TS}(h:Mm K vs H Q X) (hw:∀ ns:List Int,ns.length<=63->Ws (.raw (Dp K ns) :: List.replicate (N.length - 1) .any) t (fun _=>False) (.is fun p=>p=.bl true)):t { nx:=fun _ H'=>Q .A5 H',rt:=Q } (L2.start N vs) H:=by
 obtain ⟨a,ns,rfl,hS,cV,q⟩:=h
 have S:Sg (E3 [] H H) [.raw (Dp K ns)] [some (.ref a)] H H:=by
  have nn:∀ {p:Prop}(a:Addr),a∈([]:List Addr)->p:=fun a h=>absurd h Ai
  refine ⟨⟨AD.refl _,AD.refl _,fun _ _ _ e=>e,fun _ _ e=>.inl e,fun a h=>nn a h,fun a h=>nn a h,fun a h=>nn a h,fun a h=>nn a h,fun a h=>nn a h,fun a h=>nn a h⟩,rfl,fun i s hi=>?_,fun i j s u l Fq hi hj ms=>?_⟩
  ·cases i with
   | zero=>cases hi;exact ⟨_,rfl,⟨a,rfl,hS⟩,OT K ns _⟩
   | succ i=>simp at hi
  ·cases i with
   | zero=>cases hi;cases ms
   | succ i=>simp at hi
 refine (hw ns cV).go (OC (E3 [] H H)) _ _ H H (S.grown _) (fun _ _ _ _ h=>h.elim) fun v F' H' f ok=>?_
 obtain ⟨p,r,rfl⟩:=ok
 cases r
 exact q H'
end
section
variable [Xw]
variable {E:Ent0}{ss:List Slot}{σ:L2.St} {F H F' H':Hp}{K:ZAY}{js:List Nat}{ta tb te:TE}{k:PV->Prop}{nx:List Slot->Prop}{R:Ak}
def Wi.mono {wi:TI}{k k':List PV->Prop}(h:Wi ss wi k) (i:∀ xs,k xs->k' xs):Wi ss wi k':=⟨fun E σ F H R S q=>h.go E σ F H R S fun J xs F' H' m s kk=>q J xs F' H' m s (i xs kk)⟩
def Wt.mono {t:TT}{k k':Bool->Prop}(h:Wt ss t k) (i:∀ b,k b->k' b):Wt ss t k':=⟨fun E σ F H Q S q=>h.go E σ F H Q S fun b F' H' m kk=>q b F' H' m (i b kk)⟩
def GX {α:Type} {wi:TI}{tt:TT}{te:TE}{k:List PV->Prop}(c:α->PV) (f:α->Bool) (g:α->PV)
  (h:Wi ss wi fun xs=>∃ ns:List α,xs=ns.map c/\ns.length<=100000/\(∀ x∈ns,Wt (Bl js ss++[.is (c x)]) tt fun b=>b=f x)/\(∀ x∈ns,f x=true->Wp (Bl js ss++[.is (c x)]) te fun p=>p=g x)/\k ((ns.filter f).map g))
  (inj:∀ x y,c x=c y->x=y) (nd:js.Nodup:=by decide) (np:OM js ss=true:=by rfl):Wn ss (Iu wi js tt te) k:=by
 by_cases hα:Nonempty α
 ·obtain ⟨x0⟩:=hα
  have inv:∀ p:PV,∃ x:α,∀ y,c y=p->y=x:=fun p=>by
   by_cases q:∃ y,c y=p
   ·obtain ⟨y,hy⟩:=q
    exact ⟨y,fun z hz=>inj _ _ (hz.trans hy.symm)⟩
   ·exact ⟨x0,fun y hy=>absurd ⟨y,hy⟩ q⟩
  let d:PV->α:=fun p=>Classical.choose (inv p)
  have hd:∀ x,d (c x)=x:=fun x=>(zH (inv (c x)) x rfl).symm
  refine fK (fun p=>f (d p)) (fun p=>g (d p)) (h.mono fun xs ⟨ns,e,hz,h1,h2,kk⟩=>?_) nd np
  subst e
  refine ⟨by rw [AE];exact hz,fun x hx=>?_,fun x hx hf=>?_,?_⟩
  ·obtain ⟨y,hy,rfl⟩:=List.mem_map.mp hx
   rw [hd];exact h1 y hy
  ·obtain ⟨y,hy,rfl⟩:=List.mem_map.mp hx
   rw [hd] at hf ⊢;exact h2 y hy hf
  ·have e:((ns.map c).filter fun p=>f (d p)).map (fun p=>g (d p))=(ns.filter f).map g:=by
    rw [List.filter_map,DF]
    congr 1
    ·funext x;show g (d (c x))=g x;rw [hd]
    ·congr 1;funext x;show f (d (c x))=f x;rw [hd]
   rw [e];exact kk
 ·refine fK (fun _=>true) (fun p=>p) (h.mono fun xs ⟨ns,e,hz,h1,h2,kk⟩=>?_) nd np
  have en:ns=[]:=by
   cases ns with
   | nil=>rfl
   | cons x r=>exact absurd ⟨x⟩ hα
  subst en;subst e
  exact ⟨by simp,fun x hx=>absurd hx (by simp),fun x hx=>absurd hx (by simp),kk⟩
def str_inj:∀ x y:Str,PV.str x=PV.str y->x=y:=fun _ _ e=>by injection e
def Lx (h:Wp ss ta fun p=>∃ x,p=.str x/\Wq ss tb fun _ ys=>∃ ns:List Str,ys=ns.map PV.str/\k (.bl (decide (x∈ns)))):Wp ss (BH (Iv K false) ta tb) k:=Zd h
def MQ (h:Wp ss ta fun p=>∃ x,p=.str x/\Wq ss tb fun _ ys=>∃ ns:List Str,ys=ns.map PV.str/\k (.bl (!decide (x∈ns)))):Wp ss (BH (Iv K true) ta tb) k:=Zd h
def ZU (h:Wq ss ta fun tp xs=>∃ ns:List Str,xs=ns.map PV.str/\Wq ss tb fun BP ys=>BP=tp/\∃ ms:List Str,ys=ms.map PV.str/\k (.bl (decide (ns=ms)))):Wp ss (BH (OI K false) ta tb) k:=ZJ h
def pq (h:Wq ss ta fun tp xs=>∃ ns:List Str,xs=ns.map PV.str/\Wq ss tb fun BP ys=>BP=tp/\∃ ms:List Str,ys=ms.map PV.str/\k (.bl (!decide (ns=ms)))):Wp ss (BH (OI K true) ta tb) k:=ZJ h
def Wq.mono {k k':Bool->List PV->Prop}(h:Wq ss te k) (i:∀ b xs,k b xs->k' b xs):Wq ss te k':=⟨fun E σ F H Q S q=>h.go E σ F H Q S fun v tp xs F' H' m s kk=>q v tp xs F' H' m s (i tp xs kk)⟩
def Wo.mono {t:TO}{k k':Option Int->Prop}(h:Wo ss t k) (i:∀ o,k o->k' o):Wo ss t k':=⟨fun E σ F H Q S q=>h.go E σ F H Q S fun o F' H' m kk=>q o F' H' m (i o kk)⟩
def Y5 {tl th:TO}{k:Bool->List PV->Prop}(h:Wq ss te fun tp xs=>Wo ss tl fun lo=>Wo ss th fun hi=>k tp (Cu xs lo hi)):Wz ss (Lq (Uc K) te tl th) k:=
 E4 (bE (h.mono fun tp xs h=>h.mono fun lo h=>h.mono fun hi h=>by
  cases tp
  ·exact ⟨_,.inl ⟨rfl,h⟩⟩
  ·exact ⟨_,.inr ⟨rfl,h⟩⟩))
def wH {tl th:TO}{k:Bool->List PV->Prop}(h:Wq ss te fun tp xs=>Wo ss tl fun lo=>Wo ss th fun hi=>k tp (Cu xs lo hi)):Wq ss (Lq (Uc K) te tl th) k:=Xz (Y5 h)
def Oj {α β:Type} (c:α->β) (xs:List α) (lo hi:Option Int):Cu (xs.map c) lo hi=(Cu xs lo hi).map c:=by
 unfold Cu;rw [AE,Xl,gf]
def kb {α β:Type} (c:α->β) (xs ys:List α):xs.map c++ys.map c=(xs++ys).map c:=by rw [DE]
def Yk {α:Type} (xs:List α) (g:Nat):Cu xs none (some (g:Int))=xs.take g:=by
 unfold Cu
 rw [HT.T3,HT.SF,JJ,Ru]
 rcases Xs g xs.length with h | h
 ·rw [Og h]
 ·rw [Xu h,FL,Kq h]
def qX {α:Type} (xs:List α) (g:Nat):Cu xs (some (g:Int)) none=xs.drop g:=by
 unfold Cu
 rw [HT.T3,HT.SF]
 rcases Xs g xs.length with h | h
 ·rw [Og h,Kq (by rw [HF];omega)]
 ·rw [Xu h,gU,Xg h];simp
def mZ {α:Type} (g:α->Bool) (xs:List α):xs.map (fun x=>PV.bl (g x))=(xs.map g).map PV.bl:=by rw [DF];rfl
def b2:PV->Bool
 | .bl b=>b
 | _=>false
end
section
variable [Xw]
variable {E:Ent0}{ss:List Slot}{σ:L2.St} {F H F' H':Hp}{K:ZAY}{js:List Nat}{ta tb te:TE}{k:PV->Prop}{nx:List Slot->Prop}{R:Ak}{xs ys:List PV}
def m7 (h:Wq ss ta fun _ xs=>∃ ns:List Str,xs=ns.map PV.str/\Wp ss tb fun p=>∃ x,p=.str x/\x∈ns/\k (.int (ns.idxOf x:Nat))):Wp ss (CL iR [] E0 (AO ta (AO tb An))) k:=⟨fun E σ F H Q S q=>
 h.go E σ F H _ S fun v tp xs F1 H1 m1 sv ⟨ns,e,h2⟩=>h2.go E σ F1 H1 _ m1.st fun v2 p2 F2 H2 m2 r2 ⟨x,e2,hx,kk⟩=>by
  subst e;subst e2;cases r2
  obtain ⟨l,vs,rfl,hl,r⟩:=(sv.mv m2).seq m2.st
  rw [r.strs] at hl
  exact ⟨l,tp,ns,x,rfl,hl,hx,q _ _ F2 H2 (m1.trans m2) (.int _) kk⟩⟩
def Uk (h:Wq ss ta fun tp xs=>tp=false/\∃ ns:List Str,xs=ns.map PV.str/\Wp ss tb fun p=>∃ x,p=.str x/\x∈ns/\k (.int (ns.idxOf x:Nat))):Wp ss (J8 K "list" (b6 K) ta (AO tb An)) k:=⟨fun E σ F H Q S q=>
 h.go E σ F H _ S fun v tp xs F1 H1 m1 sv ⟨et,ns,e,h2⟩=>by
  subst e;subst et
  obtain ⟨l,vs,rfl,hl,r⟩:=sv.seq m1.st
  refine ⟨.inl ⟨rfl,_,AJ.of hl⟩,h2.go E σ F1 H1 _ m1.st fun v2 p2 F2 H2 m2 r2 ⟨x,e2,hx,kk⟩=>?_⟩
  subst e2;cases r2
  obtain ⟨l',Bk,e',Du,r'⟩:=(sv.mv m2).seq m2.st
  cases e'
  rw [r'.strs] at Du
  exact ⟨l,ns,x,rfl,rfl,AJ.of Du,hx,q _ _ F2 H2 (m1.trans m2) (.int _) kk⟩⟩
def JW (xs:List PV):List PV:=(List.range xs.length).map fun i:Nat=>.tup [.int (i:Int),xs.getD i .A5]
def XI (xs:List PV):(JW xs).length=xs.length:=by simp [JW]
def Z1 {xs:List PV}{i:Nat}{x:PV}(h:xs[i]?=some x):(JW xs)[i]?=some (.tup [.int (i:Int),x]):=by
 have hi:i < xs.length:=(List.getElem?_eq_some_iff.mp h).1
 unfold JW
 rw [Ag,Ob hi]
 show some (PV.tup [PV.int (i:Int),xs.getD i PV.A5])=_
 rw [Kp,h];rfl
def si {xs:List PV}{i:Nat}{p:PV}(h:(JW xs)[i]?=some p):∃ x,xs[i]?=some x/\p=.tup [.int (i:Int),x]:=by
 have hi:i < xs.length:=by have:=(List.getElem?_eq_some_iff.mp h).1;rwa [XI] at this
 have e:=Ad hi
 refine ⟨xs[i],e,?_⟩
 rw [Z1 e] at h
 exact (BG h).symm
def pC {k:List PV->Prop}(h:Wz ss te fun _ xs=>k (JW xs)):Wi ss (W6 K (AO te An)) k:=⟨fun E σ F H R S q=>
 h.go E σ F H _ S fun v tp xs F1 H1 m1 f kk=>by
  obtain ⟨l,vs,ev,hl,r⟩:∃ l vs,v=.ref l/\(∀ (ss:List Slot) (σ:L2.St) (F H:Hp),AD F1 F->Sg E ss σ F H->H l=some (DK tp vs))/\AG F1 vs xs:=by
   cases tp with
   | true=>
    have f':Rep F1 v (.tup xs):=f
    cases f' with
    | tup e r=>exact ⟨_,_,rfl,fun ss σ F H s S=>S.fh _ _ (s _ _ e),r⟩
   | false=>
    obtain ⟨l,vs,e,h1,r⟩:=f
    refine ⟨l,vs,e,fun ss σ F H s S=>?_,r⟩
    rcases h1 with h1 | ⟨hA,h1⟩
    ·exact S.fh _ _ (s _ _ h1)
    ·exact S.keep _ _ hA h1
  subst ev
  refine ⟨l,tp,vs,rfl,DK.sq (hl ss σ F1 H1 (AD.refl _) m1.st),q _ (JW xs) F1 H1 m1 ⟨fun ss σ F H i s S hi=>?_,fun ss σ F H s S=>?_,fun ss σ F H i x H' s S hi y=>?_⟩ kk⟩
  ·rw [XI] at hi;exact ⟨DK.sq (hl ss σ F H s S),by rw [r.length];exact hi⟩
  ·refine ⟨DK.sq (hl ss σ F H s S),?_⟩
   rw [XI,r.length];exact Ae _
  ·obtain ⟨p,y,hy,ex,hp,eH⟩:=y
   subst ex;subst eH
   obtain ⟨z,hz,rz⟩:=r.get' hy
   have m:=S.alloc hp (.tup [.int i,y])
   exact ⟨_,_,Z1 hz,m,.tup Aa (.cons (.int _) (.one (rz.mono (s.trans m.ff))))⟩⟩
def Kz (a:Str×Str):PV:=.tup [.str a.1,.str a.2]
def lS {k:List PV->Prop}(h:Wq ss te fun _ xs=>k xs.reverse):Wn ss (kj K (AO te An)) k:=⟨fun E σ F H Q S q=>
 h.go E σ F H _ S fun v tp xs F1 H1 m1 sv kk=>by
  obtain ⟨l,vs,rfl,hl,r⟩:=sv.seq m1.st
  refine ⟨l,tp,vs,rfl,DK.sq hl,fun a ha=>?_⟩
  have m2:=m1.st.make ha (.lst vs.reverse)
  exact q a _ _ F1 _ (m1.trans m2) (m1.st.B9 ha) (m1.none ha) Aa r.reverse kk⟩
def jg (h:Wq ss ta fun tp xs=>tp=false/\Wq ss tb fun BP ys=>BP=false/\ys=[]/\k (.bl (decide (xs.length=0)))):Wp ss (BH (p0 K) ta tb) k:=⟨fun E σ F H Q S q=>
 h.go E σ F H _ S fun v tp xs F1 H1 m1 sv ⟨et,h2⟩=>h2.go E σ F1 H1 _ m1.st fun v2 BP ys F2 H2 m2 IE ⟨JZ,ey,kk⟩=>by
  subst et;subst JZ;subst ey
  obtain ⟨l,vs,rfl,hl,r⟩:=(sv.mv m2).seq m2.st
  obtain ⟨l2,Eb,rfl,Bw,r2⟩:=IE.seq m2.st
  cases r2
  refine ⟨l,l2,vs,rfl,rfl,AJ.of hl,AJ.of Bw,?_⟩
  have e:decide (vs=[])=decide (xs.length=0):=by
   rw [<- r.length]
   cases vs <;> simp
  rw [e]
  exact q _ _ F2 H2 (m1.trans m2) (.bl _) kk⟩
def kz {r:List V->Hp->VK->Prop}(hr:r=fun xs H Q=>(∃ i,xs=[.int i]/\Q (.int i) H)∨∃ k,xs=[.bl k]/\Q (.int (if k then 1 else 0)) H) (h:Wp ss te fun p=>∃ b,p=.bl b/\k (.int (if b then 1 else 0))):Wp ss (C1 r (AO te An)) k:=⟨fun E σ F H Q S q=>
 h.go E σ F H _ S fun v p F1 H1 m1 r ⟨b,e,kk⟩=>by
  subst hr;subst e;cases r
  exact .inr ⟨b,rfl,q _ _ F1 H1 m1 (.int _) kk⟩⟩
end
def Ji {c A B:Prop} [Decidable c] (h:c) (a:A):if c then A else B:=by rw [if_pos h];exact a
end Fz
namespace L2
def qB {X:Cx}{tg:Expr}{a b:Expr}{ta:TA}{p pos:Pos}(hg:Gl X "range") (hm:X.mg "range" = none) (ha:QA X [a,b] ta) (hs:starEach [a,b] X.env=[(false,eval a X.env),(false,eval b X.env)]:=by rfl) (CD:starEach [b] X.env=[(false,eval b X.env)]:=by rfl):QI X tg (.Call (.Name "range" p) [a,b] [] pos) (TR ta):=⟨uL hg hm ha.h hs CD⟩
end L2
namespace Fz
open L2 Lw
section
variable [Xw]
variable {E:Ent0}{ss:List Slot}{σ:L2.St} {F H F' H':Hp}{K:ZAY}{js:List Nat}{ta tb tc te:TE}{k:PV->Prop}{nx:List Slot->Prop}{R:Ak}{xs ys:List PV}
def Jq (i:Int) (n:Nat):List PV:=(List.range n).map fun j:Nat=>PV.int (i+(j:Int))
def RO (i:Int) (n:Nat):(Jq i n).length=n:=by simp [Jq]
def n9 {i:Int}{n j:Nat}{p:PV}(h:(Jq i n)[j]?=some p):j < n/\p=.int (i+(j:Int)):=by
 have hj:j < n:=by have:=(List.getElem?_eq_some_iff.mp h).1;rwa [RO] at this
 unfold Jq at h
 rw [Ag,Ob hj] at h
 exact ⟨hj,(BG h).symm⟩
def iW {k:List PV->Prop}(h:Wp ss ta fun p=>∃ i:Int,p=.int i/\Wp ss tb fun p=>∃ j:Int,p=.int j/\(i<=1000000/\-1000000<=i/\j<=1000000/\-1000000<=j)/\k (Jq i (j - i).toNat)):Wi ss (TR (AO ta (AO tb An))) k:=⟨fun E σ F H R S q=>
 h.go E σ F H _ S fun v p F1 H1 m1 r ⟨i,e,h2⟩=>by
  subst e;cases r
  exact h2.go E σ F1 H1 _ m1.st fun v2 p2 F2 H2 m2 r2 ⟨j,e2,hb,kk⟩=>by
   subst e2;cases r2
   refine ⟨i,j,rfl,by omega,q _ (Jq i (j - i).toNat) F2 H2 (m1.trans m2) ⟨fun ss σ F H n s S hn=>?_,fun ss σ F H s S=>?_,fun ss σ F H n x H' s S hn y=>?_⟩ kk⟩
   ·rw [RO] at hn;exact hn
   ·show _<=_
    rw [RO];exact Ae _
   ·obtain ⟨e,hx⟩:=y
    subst e;subst hx
    rw [RO] at hn
    refine ⟨.int (i+(n:Int)),F,?_,.refl S,.int _⟩
    unfold Jq;rw [Ag,Ob hn];rfl⟩
def v9 {r:List V->Hp->VK->Prop}(hr:r=fun xs H Q=>∃ i,xs=[.int i]/\Q (.int (if i < 0 then -i else i)) H) (h:Wp ss te fun p=>∃ i:Int,p=.int i/\k (.int (if i < 0 then -i else i))):Wp ss (C1 r (AO te An)) k:=⟨fun E σ F H Q S q=>
 h.go E σ F H _ S fun v p F1 H1 m1 r ⟨i,e,kk⟩=>by
  subst hr;subst e;cases r
  exact ⟨i,rfl,q _ _ F1 H1 m1 (.int _) kk⟩⟩
def dP:BA->PV
 | .put x i=>.tup [.str "put", .str x,.int i]
 | .take x=>.tup [.str "take", .str x]
 | .move x i=>.tup [.str "move", .str x,.int i]
 | .turn lo hi=>.tup [.str "turn", .int lo,.int hi]
def qE {d:BA}{t:Addr}(h:F t=some (.tup d.vals)):Rep F (.ref t) (dP d):=by
 cases d with
 | put x i=>exact .tup h (.cons (.str _) (.cons (.str _) (.one (.int _))))
 | take x=>exact .tup h (.cons (.str _) (.one (.str _)))
 | move x i=>exact .tup h (.cons (.str _) (.cons (.str _) (.one (.int _))))
 | turn lo hi=>exact .tup h (.cons (.str _) (.cons (.int _) (.one (.int _))))
def rR {d:BA}{v:V}(r:Rep F v (dP d)):∃ t,v=.ref t/\F t=some (.tup d.vals):=by
 cases d with
 | put x i=>cases r with | tup h r=>cases r with | cons a r=>cases r with | cons b r=>cases r with | cons c r=>cases r;cases a;cases b;cases c;exact ⟨_,rfl,h⟩
 | take x=>cases r with | tup h r=>cases r with | cons a r=>cases r with | cons b r=>cases r;cases a;cases b;exact ⟨_,rfl,h⟩
 | move x i=>cases r with | tup h r=>cases r with | cons a r=>cases r with | cons b r=>cases r with | cons c r=>cases r;cases a;cases b;cases c;exact ⟨_,rfl,h⟩
 | turn lo hi=>cases r with | tup h r=>cases r with | cons a r=>cases r with | cons b r=>cases r with | cons c r=>cases r;cases a;cases b;cases c;exact ⟨_,rfl,h⟩
def Sg.adopt (S:Sg E ss σ F H) (m:Mv E ss σ F H F H'){t:Addr}{o:HO}(ht:H t=none) (e:H' t=some o):Mv E ss σ F H (upd F t o) H':=by
 have fn:=S.B9 ht
 refine S.step (Cs fn o) (fun a u q=>?_) m.hh (fun a u q=>?_) fun i l hi ei=>m.st.Cp hi ei
 ·by_cases z:a=t
  ·subst z;rw [Aa] at q;rw [<- q];exact e
  ·rw [AR z] at q;exact m.st.fh a u q
 ·by_cases z:a=t
  ·subst z;exact .inr ht
  ·rw [AR z] at q;exact .inl q
def oI {i:Nat}(hi:ss[i]?=some .AK) (h:Wq ss ta fun tp xs=>tp=false/\∃ ns:List Str,xs=ns.map PV.str/\Wp ss tb fun p=>∃ m:Nat,p=.int m/\(∀ x∈ns,Nm x)/\ns.length<=m/\1<=m/\m<=100/\∀ d:BA,d.Ok m ns->k (dP d)) :
  Wp ss (CL mD [] E0 (AO (BM i) (AO ta (AO tb An)))) k:=⟨fun E σ F H Q S q=>by
 obtain ⟨p,e,_⟩:=S.ok i _ hi
 refine ⟨_,e,h.go E σ F H _ S fun v tp xs F1 H1 m1 sv ⟨et,ns,ex,h2⟩=>h2.go E σ F1 H1 _ m1.st fun v2 p2 F2 H2 m2 r2 ⟨m,em,hN,hz,h1,h3,kk⟩=>?_⟩
 subst et;subst ex;subst em;cases r2
 obtain ⟨l,vs,ev,hn,hl,r⟩:=sv.mv m2
 subst ev
 rw [r.strs] at hl
 refine ⟨p,l,m,ns,rfl,m2.st.Cp hi e,hl,fun z=>hn i hi (z▸e),hN,hz,h1,h3,fun d t H3 ht s e3 hd=>?_⟩
 have m3:=m2.st.adopt (m2.st.Ng hi e s) ht e3
 exact q _ _ _ H3 (m1.trans (m2.trans m3)) (qE Aa) (kk d hd)⟩
def yq {k:List PV->Prop}(h:Wq ss ta fun tp xs=>tp=false/\∃ ns:List Str,xs=ns.map PV.str/\Wp ss tb fun p=>∃ d:BA,p=dP d/\d.Ok 40 ns/\ns.length<=40/\ns.Nodup/\k ((d.done ns).map PV.str)) :
  Wn ss (CL r6 [] E0 (AO ta (AO tb An))) k:=⟨fun E σ F H Q S q=>
 h.go E σ F H _ S fun v tp xs F1 H1 m1 sv ⟨et,ns,ex,h2⟩=>h2.go E σ F1 H1 _ m1.st fun v2 p2 F2 H2 m2 r2 ⟨d,em,hd,hz,nd,kk⟩=>by
  subst et;subst ex;subst em
  obtain ⟨l,vs,ev,hl,r⟩:=(sv.mv m2).seq m2.st
  subst ev
  rw [r.strs] at hl
  obtain ⟨t,et,ht⟩:=rR r2
  subst et
  refine ⟨l,t,ns,d,rfl,hl,m2.st.fh _ _ ht,hd,hz,nd,fun a H3 ha s e3=>?_⟩
  have m3:=m2.st.grow s
  exact q a _ _ F2 H3 (m1.trans (m2.trans m3)) (m2.st.B9 ha) ((m1.trans m2).none ha) e3 (KQ _) kk⟩
theorem c4:∀ (ps:List PV){vs:List V},E6 ss σ F H vs (ps.map Slot.is)->AG F vs ps
 | [],_,h=>by cases h;exact .nil
 | p :: ps,_,h=>by
  rw [BL] at h
  cases h with
  | cons a t=>exact .cons a (c4 ps t)
theorem d5 {ss:List Slot}{σ:L2.St}:∀ {ps:List PV}{vs:List V},AG F vs ps->E6 ss σ F H vs (ps.map Slot.is)
 | _,_,.nil=>.nil
 | _,_,.cons r t=>.cons (s:=.is _) r (d5 t)
def qo {pre:Pre}{t:TA}{i:Nat}{ns:List Int}(hi:ss[i]?=some (.raw (Dp K ns))) (h:Wp ss te fun x=>∃ m,x=.int m/\0<=m/\m<=1000/\Wa ss t fun l=>∃ (ps:List PV) (k':PV->Prop),l=ps.map Slot.is/\pre (.AK :: l) (.is k')/\∀ p,k' p->k p) :
  Wp ss (CL (AV pre) [] E0 (AO (CL (OE K) [] E0 (AO (BM i) (AO te An))) t)) k:=⟨fun E σ F H Q S q=>by
 obtain ⟨v,e,⟨a,ev,hq⟩,st⟩:=S.ok i _ hi
 subst ev
 refine ⟨_,e,h.go E σ F H _ S fun v x F1 H1 m1 r ⟨m,em,m0,GG,hw⟩=>?_⟩
 subst em;cases r
 obtain ⟨v',e',O6,_⟩:=m1.st.ok i _ hi
 rw [e] at e';cases e'
 obtain ⟨a',ea,FH⟩:=OT K ns _ F1 H1 m1.st.fh O6
 cases ea
 refine ⟨a,ns,m,rfl,FH,m0,GG,fun p H2 hp s pp=>?_⟩
 have m2:=m1.st.grow s
 refine hw.go E σ F1 H2 _ m2.st fun vs l F3 H3 m3 av ⟨ps,k',el,IY,kk⟩=>?_
 show AV pre ((V.ref p :: vs)++[]) H3 Q E0
 rw [E9]
 have Qf:=m1.trans (m2.trans m3)
 have Jx:∀ (j:Nat) s,ss[j]?=some s->¬ B2 s σ[j]? p:=fun j s hj=>m1.st.HU hj hp
 have np:Bs ss σ p:=fun j hj=>Jx j _ hj
 have T9:B3 H3 p:=B3.keep pp fun o eo=>m3.hh p o np eo
 have Tf:F3 p=none:=by
  cases z:F3 p with
  | none=>rfl
  | some o=>
   rcases m3.nn p o z with w | w
   ·rw [m1.st.B9 hp] at w;cases w
   ·obtain ⟨_,_,w2,_⟩:=pp
    rw [w] at w2;cases w2
 have S':Sg E (ss++[.AK]) (σ++[some (.ref p)]) F3 H3:=by
  have S3:=m3.st
  have Dr:∀ (j:Nat) s,(ss++[Slot.AK])[j]?=some s->(ss[j]?=some s/\(σ++[some (V.ref p)])[j]?=σ[j]?)∨(s=.AK/\(σ++[some (V.ref p)])[j]?=some (some (.ref p))/\j=ss.length):=fun j s hj=>by
   by_cases AN:j < ss.length
   ·rw [CZ AN] at hj
    rw [CZ (by rw [<- S3.len];exact AN)]
    exact .inl ⟨hj,rfl⟩
   ·rw [Dh (by omega)] at hj
    have S8:j - ss.length=0:=by
     have:=(List.getElem?_eq_some_iff.mp hj).1
     simpa using this
    rw [S8] at hj
    refine .inr ⟨by simpa using hj.symm,?_,by omega⟩
    rw [Dh (by rw [<- S3.len];omega),<- S3.len,S8];rfl
  refine ⟨S3.toFin,by simp [S3.len],fun j s hj=>?_,fun j j2 s u l cj hj Pj ms mu=>?_⟩
  ·rcases Dr j s hj with ⟨a1,a2⟩ | ⟨rfl,a2,_⟩
   ·rw [a2];exact S3.ok j s a1
   ·rw [a2];exact ⟨p,rfl,Tf,.inl (m1.st.CO hp),T9⟩
  ·rcases Dr j s hj with ⟨a1,a2⟩ | ⟨rfl,a2,a3⟩
   ·rcases Dr j2 u Pj with ⟨b1,b2⟩ | ⟨rfl,b2,_⟩
    ·rw [a2] at ms;rw [b2] at mu;exact S3.Bg j j2 s u l cj a1 b1 ms mu
    ·rw [a2] at ms;rw [b2] at mu;cases mu;exact Jx j s a1 ms
   ·rcases Dr j2 u Pj with ⟨b1,b2⟩ | ⟨rfl,b2,b3⟩
    ·rw [a2] at ms;cases ms;rw [b2] at mu;exact Jx j2 u b1 mu
    ·exact absurd (a3.trans b3.symm) cj
 have vD:(ss++[Slot.AK])[ss.length]?=some .AK:=by rw [Dh (Ae _)];simp
 have ou:(σ++[some (V.ref p)])[ss.length]?=some (some (.ref p)):=by rw [m3.st.len,Dh (Ae _)];simp
 have ia:E6 (ss++[Slot.AK]) (σ++[some (V.ref p)]) F3 H3 vs l:=by
  subst el
  exact d5 (c4 ps av)
 refine ⟨.AK :: l,.is k',F3,[p],IY,S'.VM vD ou ia,fun v F' H' f ⟨pv,r,kp⟩=>?_⟩
 have hA:∀ a,a≠p->a∉[p]:=fun a h z=>h (by simpa using z)
 have yD:H p=none:=m1.none hp
 have mv:Mv E ss σ F H F' H':=by
  refine S.step (Qf.ff.trans f.f0) f.fh (fun a o n e=>f.keep a o ⟨hA a (DA e yD),Ai⟩ (Qf.hh a o n e)) (fun a o e=>?_) fun j l hj ej=>?_
  ·rcases f.fresh a o e with w | w
   ·exact Qf.nn a o w
   ·exact .inr (Qf.none w)
  ·exact B3.keep (m3.st.Cp hj ej) fun o eo=>f.keep l o ⟨hA l (by rintro rfl;exact Jx j _ hj ej),Ai⟩ eo
 exact q v pv F' H' mv r (kk pv kp)⟩
end
end Fz
namespace L2
section
variable {X:Cx}
end
end L2
namespace Fz
open L2 Lw
section
variable [Xw]
variable {E:Ent0}{ss:List Slot}{σ:L2.St} {F H F' H':Hp}{K:ZAY}{js:List Nat}{ta tb tc te:TE}{k:PV->Prop}{nx:List Slot->Prop}{R:Ak}{xs ys:List PV}{P:Program}{w:World}
def rN (h:Wp ss ta fun p=>∃ a,p=.bl a/\Wp ss tb fun q=>∃ b,q=.bl b/\k (.bl (a == b))):Wp ss (BH (fun x y H Q=>∃ a b,x=.bl a/\y=.bl b/\Q (.bl (a == b)) H) ta tb) k:=⟨fun E σ F H Q S q=>
 h.go E σ F H _ S fun v p F1 H1 m1 r1 ⟨a,e1,h2⟩=>by
  subst e1;cases r1
  exact h2.go E σ F1 H1 _ m1.st fun v2 p2 F2 H2 m2 r2 ⟨b,e2,kk⟩=>by
   subst e2;cases r2
   exact ⟨a,b,rfl,rfl,q _ _ F2 H2 (m1.trans m2) (.bl _) kk⟩⟩
def wb (h:Wp ss ta fun p=>∃ a,p=.bl a/\Wp ss tb fun q=>∃ b,q=.bl b/\k (.bl (!(a == b)))):Wp ss (BH (fun x y H Q=>∃ a b,x=.bl a/\y=.bl b/\Q (.bl (!(a == b))) H) ta tb) k:=⟨fun E σ F H Q S q=>
 h.go E σ F H _ S fun v p F1 H1 m1 r1 ⟨a,e1,h2⟩=>by
  subst e1;cases r1
  exact h2.go E σ F1 H1 _ m1.st fun v2 p2 F2 H2 m2 r2 ⟨b,e2,kk⟩=>by
   subst e2;cases r2
   exact ⟨a,b,rfl,rfl,q _ _ F2 H2 (m1.trans m2) (.bl _) kk⟩⟩
def nO (h:Wq ss ta fun tp xs=>tp=false/\Wq ss tb fun BP ys=>BP=false/\ys=[]/\k (.bl (!decide (xs.length=0)))):Wp ss (BH (d8 K) ta tb) k:=⟨fun E σ F H Q S q=>
 h.go E σ F H _ S fun v tp xs F1 H1 m1 sv ⟨et,h2⟩=>h2.go E σ F1 H1 _ m1.st fun v2 BP ys F2 H2 m2 IE ⟨JZ,ey,kk⟩=>by
  subst et;subst JZ;subst ey
  obtain ⟨l,vs,rfl,hl,r⟩:=(sv.mv m2).seq m2.st
  obtain ⟨l2,Eb,rfl,Bw,r2⟩:=IE.seq m2.st
  cases r2
  refine ⟨l,l2,vs,rfl,rfl,AJ.of hl,AJ.of Bw,?_⟩
  have e:decide (vs=[])=decide (xs.length=0):=by
   rw [<- r.length]
   cases vs <;> simp
  rw [e]
  exact q _ _ F2 H2 (m1.trans m2) (.bl _) kk⟩
def u4 {k:List PV->Prop}(h:Wq ss te fun _ xs=>∃ ns:List Str,xs=ns.map PV.str/\ns.length < 64/\∀ ts:List Str,ts.length=(dd ns).length->(∀ x,(dd ns).any (· == x)=true↔x∈ts)->sortedS ts=true->k (ts.map PV.str)) :
  Wn ss (C1 (uA P w) (AO (C1 (fun xs H Q=>∃ (p:Addr) (tp:Bool) (ss:List Str),xs=[.ref p]/\Ej K tp H p (ss.map V.str)/\ss.length < 4000/\∀ l,H l=none->Q (.ref l) (upd H l (V6 P w l (fun k'=>(dd ss).any (· == k')) (dd ss).length))) (AO te An)) An)) k:=⟨fun E σ F H Q S q=>
 h.go E σ F H _ S fun v tp xs F1 H1 m1 sv ⟨ns,e,hz,kk⟩=>by
  subst e
  obtain ⟨l,vs,rfl,hl,r⟩:=sv.seq m1.st
  rw [r.strs] at hl
  refine ⟨l,tp,ns,rfl,DK.sq hl,by omega,fun a ha=>?_⟩
  have m2:=m1.st.make ha (V6 P w a (fun k'=>(dd ns).any (· == k')) (dd ns).length)
  refine ⟨a,_,_,rfl,Aa,Rt (yn ns) hz,fun b ts hb Bw hm hs=>?_⟩
  have m3:=m2.st.make hb (.lst (ts.map V.str))
  exact q b _ _ F1 _ (m1.trans (m2.trans m3)) (m2.st.B9 hb) ((m1.trans m2).none hb) Aa (KQ ts) (kk ts Bw hm hs)⟩
def j9 (h:Wq ss te fun _ xs=>∃ ns:List Str,xs=ns.map PV.str/\ns.length < 4000/\k (.int ((dd ns).length:Nat))) :
  Wp ss (C1 (fun xs H Q=>∃ l f n,xs=[.ref l]/\H l=some (Ra P w l f n)/\Q (.int (n:Nat)) H) (AO (C1 (fun xs H Q=>∃ (p:Addr) (tp:Bool) (ss:List Str),xs=[.ref p]/\Ej K tp H p (ss.map V.str)/\ss.length < 4000/\∀ l,H l=none->Q (.ref l) (upd H l (Ra P w l (fun k'=>(dd ss).any (· == k')) (dd ss).length))) (AO te An)) An)) k:=⟨fun E σ F H Q S q=>
 h.go E σ F H _ S fun v tp xs F1 H1 m1 sv ⟨ns,e,hz,kk⟩=>by
  subst e
  obtain ⟨l,vs,rfl,hl,r⟩:=sv.seq m1.st
  rw [r.strs] at hl
  refine ⟨l,tp,ns,rfl,DK.sq hl,hz,fun a ha=>?_⟩
  have m2:=m1.st.make ha (Ra P w a (fun k'=>(dd ns).any (· == k')) (dd ns).length)
  exact ⟨a,_,_,rfl,Aa,q _ _ F1 _ (m1.trans m2) (.int _) kk⟩⟩
end
end Fz
namespace L2
section
variable {X:Cx}{pins:ZAZ}{σ:St} {H:Hp}{s:Shared}
def y8 (K:ZAY):R2:=fun x y H Q=>∃ p q xs ys,x=.ref p/\y=.ref q/\AJ K H p xs/\AJ K H q ys/\xs.length=ys.length/\(∀ (j:Nat) (x y:V),xs[j]?=some x->ys[j]?=some y->Hn K H 8 x y)/\Q (.bl false) H
def wU (t:TA):TE:=fun σ H Q=>t σ H fun vs H1=>∃ n:Nat,vs=[.int n]/\n<=1000/\∀ l,H1 l=none->Q (.ref l) (upd H1 l (.lst ((List.range n).map fun i:Nat=>V.int i)))
end
end L2
namespace Fz
open L2 Lw
section
variable [Xw]
variable {K:ZAY}{E:Ent0}{ss:List Slot}{σ:L2.St} {F H:Hp}{te ta tb:TE}{k:PV->Prop}{nx:List Slot->Prop}{R:Ak}{xs ys:List PV}
def uU {k:List PV->Prop}(h:Wp ss te fun p=>∃ j:Int,p=.int j/\0<=j/\j<=1000/\k (Et j.toNat)):Wn ss (wU (AO te An)) k:=⟨fun E σ F H Q S q=>
 h.go E σ F H _ S fun v p F1 H1 m1 r ⟨j,e,h0,hz,kk⟩=>by
  subst e;cases r
  generalize hn:j.toNat=n at kk
  refine ⟨n,by rw [<- hn,Int.toNat_of_nonneg h0],by omega,fun a ha=>?_⟩
  have m2:=m1.st.make ha (.lst ((List.range n).map fun i:Nat=>V.int i))
  have rr:AG F1 ((List.range n).map fun i:Nat=>V.int i) (Et n):=by
   have e1:Et n=((List.range n).map fun i:Nat=>(i:Int)).map PV.int:=by unfold Et;rw [DF];rfl
   have e2:((List.range n).map fun i:Nat=>V.int (i:Int))=(Et n).map Fz.enc:=by rw [e1,fZ,DF];rfl
   rw [e2]
   exact R6 (by rw [e1];exact Yq _)
  exact q a _ _ F1 _ (m1.trans m2) (m1.st.B9 ha) (m1.none ha) Aa rr kk⟩
def vM {K:ZAY}{F H:Hp}(fh:AD F H){v u:V}{a:Str×Str}(r1:Rep F v (Kz a)) (r2:Rep F u (Kz a)):Hn K H 8 v u:=by
 cases r1 with
 | tup h1 q1=>
  cases r2 with
  | tup h2 q2=>
   have e1:=q1.enc (ps:=[.str a.1,.str a.2]) rfl
   have e2:=q2.enc (ps:=[.str a.1,.str a.2]) rfl
   subst e1;subst e2
   refine .tup (d:=7) (Ab.of (fh _ _ h1)) (Ab.of (fh _ _ h2)) rfl fun j x y hx hy=>?_
   rw [hx] at hy;cases hy
   have hm:=CC hx
   rcases List.mem_cons.mp hm with rfl | hm
   ·exact .flat rfl rfl (by simp [Fz.enc,Ca])
   ·have:=List.mem_singleton.mp hm
    subst this
    exact .flat rfl rfl (by simp [Fz.enc,Ca])
def yx (h:Wq ss ta fun tp xs=>tp=false/\Wq ss tb fun BP ys=>BP=false/\(∃ ps:List (Str×Str),xs=ps.map Kz/\ys=ps.map Kz)/\k (.bl false)):Wp ss (BH (y8 K) ta tb) k:=⟨fun E σ F H Q S q=>
 h.go E σ F H _ S fun v tp xs F1 H1 m1 sv ⟨et,h2⟩=>h2.go E σ F1 H1 _ m1.st fun v2 BP ys F2 H2 m2 IE ⟨JZ,⟨ps,ex,ey⟩,kk⟩=>by
  subst et;subst JZ;subst ex;subst ey
  obtain ⟨l,vs,rfl,hl,r⟩:=(sv.mv m2).seq m2.st
  obtain ⟨l2,Eb,rfl,Bw,r2⟩:=IE.seq m2.st
  refine ⟨l,l2,vs,Eb,rfl,rfl,AJ.of hl,AJ.of Bw,by rw [r.length,r2.length],fun j x y hx hy=>?_,q _ _ F2 H2 (m1.trans m2) (.bl _) kk⟩
  obtain ⟨p,hp,rp⟩:=r.get' hx
  obtain ⟨p2,Nx,nY⟩:=r2.get' hy
  rw [hp] at Nx;cases Nx
  rw [Ag] at hp
  cases ha:ps[j]? with
  | none=>rw [ha] at hp;cases hp
  | some a=>
   rw [ha] at hp;cases hp
   exact vM m2.st.fh rp nY⟩
end
end Fz
namespace L2
end L2
namespace Lw
open L2
def XW (lh:Addr) (H:Hp) (vs:List V):Prop:=∀ v∈vs,∃ (t f d:Addr) (xs:List Str),v=.ref t/\H t=some (.tup [.ref f,.ref d])/\f≠lh/\d≠lh/\H f=some (.lst (xs.map V.str))/\H d=some (.lst (xs.map V.str))
def XW.mono {lh:Addr}{H H':Hp}{vs ws:List V}(h:XW lh H vs) (hl:H lh=some (.lst ws)) (k:∀ b o,b≠lh->H b=some o->H' b=some o):XW lh H' vs:=by
 intro v hv
 obtain ⟨t,f,d,xs,e,h1,h2,h3,h4,h5⟩:=h v hv
 have ht:t≠lh:=fun z=>by subst z;rw [h1] at hl;cases hl
 exact ⟨t,f,d,xs,e,k _ _ ht h1,h2,h3,k _ _ h2 h4,k _ _ h3 h5⟩
def Gf (H:Hp) (t c:Addr) (r:Str) (g:Int) (ss:List Str):Prop:=H t=some (.tup [.str r,.int g,.ref c])/\H c=some (.tup (ss.map V.str))
theorem Gf.h {H:Hp}{t c:Addr}{r:Str}{g:Int}{ss:List Str}(h:Gf H t c r g ss):He H t r g ss:=⟨c,h⟩
def Gf.same {H H':Hp}{t c:Addr}{r:Str}{g:Int}{ss:List Str}(s:AD H H') (h:Gf H t c r g ss):Gf H' t c r g ss:=⟨s _ _ h.1,s _ _ h.2⟩
def j7 (H H':Hp) (t' t:Addr) (ns:List Str) (r:Str) (g:Nat) (ss:List Str):Prop:=
 (Dg ns g ss=[]/\H' t'=some (.tup [.A5,.ref t]))∨∃ x Z8 t2 c2,Dg ns g ss=x :: Z8/\H t2=none/\H c2=none/\H' t'=some (.tup [.str x,.ref t2])/\Gf H' t2 c2 r ((ns.idxOf x:Nat)+1) (wo ss x)
end Lw
namespace Fz
open L2 Lw
def PJ (r:Str) (g:Nat) (ss:List Str):PV:=.tup [.str r,.int g,.tup (ss.map .str)]
section
variable [Xw]
variable {E:Ent0}{ss:List Slot}{σ:L2.St} {F H F1 F' H':Hp}{K:ZAY}{js:List Nat}{ta tb tc te:TE}{nx:List Slot->Prop}{R:Ak}{k:PV->Prop}
def Mv.adopt (m:Mv E ss σ F H F1 H') (S:Sg E ss σ F H){t:Addr}{o:HO}(ht:H t=Option.none) (e:H' t=some o):Mv E ss σ F H (upd F1 t o) H':=by
 have sm:AD F1 (upd F1 t o):=fun a u q=>by
  by_cases z:a=t
  ·subst z
   have w:=m.st.fh _ _ q
   rw [e] at w
   rw [Aa];exact w
  ·rw [AR z];exact q
 refine S.step (m.ff.trans sm) (fun a u q=>?_) m.hh (fun a u q=>?_) fun i l hi ei=>m.st.Cp hi ei
 ·by_cases z:a=t
  ·subst z;rw [Aa] at q;rw [<- q];exact e
  ·rw [AR z] at q;exact m.st.fh a u q
 ·by_cases z:a=t
  ·subst z;exact .inr ht
  ·rw [AR z] at q;exact m.nn a u q
def ZZ {t c:Addr}{r:Str}{g:Nat}{cs:List Str}(h:Gf F t c r g cs):Rep F (.ref t) (PJ r g cs):=.tup h.1 (.cons (.str _) (.cons (.int _) (.one (.tup h.2 (KQ cs)))))
def Mv.jy (m:Mv E ss σ F H F1 H') (S:Sg E ss σ F H){t c c0:Addr}{o:HO}{r:Str}{g:Nat}{cs:List Str}(ht:H t=Option.none) (hc:H c=Option.none∨c=c0) (h0:F c0=some o) (e:Gf H' t c r g cs):∃ F2,Mv E ss σ F H F2 H'/\AD F1 F2/\Rep F2 (.ref t) (PJ r g cs):=by
 have key:∃ F2,Mv E ss σ F H F2 H'/\AD F1 F2/\F2 c=some (.tup (cs.map V.str)):=by
  rcases hc with hc | rfl
  ·refine ⟨_,m.adopt S hc e.2,fun a u q=>?_,Aa⟩
   by_cases z:a=c
   ·subst z
    have w:=m.st.fh _ _ q
    rw [e.2] at w
    rw [Aa];exact w
   ·rw [AR z];exact q
  ·refine ⟨F1,m,AD.refl _,?_⟩
   have w:=m.ff _ _ h0
   have w2:=m.st.fh _ _ w
   rw [e.2] at w2
   rw [w,<- w2]
 obtain ⟨F2,m2,s2,sG⟩:=key
 have sm:AD F2 (upd F2 t (.tup [.str r,.int g,.ref c])):=fun a u q=>by
  by_cases z:a=t
  ·subst z
   have w:=m2.st.fh _ _ q
   rw [e.1] at w
   rw [Aa];exact w
  ·rw [AR z];exact q
 exact ⟨_,m2.adopt S ht e.1,s2.trans sm,ZZ ⟨Aa,sm _ _ sG⟩⟩
def Uq (ns:List Str) (r:Str) (g:Nat) (cs:List Str):PV:=match Dg ns g cs with
 | []=>.tup [.A5,PJ r g cs]
 | x :: _=>.tup [.str x,PJ r (ns.idxOf x+1) (wo cs x)]
def Mv.ZA0 (m:Mv E ss σ F H F1 H') (S:Sg E ss σ F H){t t' c:Addr}{ns:List Str}{r:Str}{g:Nat}{cs:List Str}(ht:H t'=Option.none) (h0:Gf F t c r g cs) (e:j7 H H' t' t ns r g cs):∃ F2,Mv E ss σ F H F2 H'/\Rep F2 (.ref t') (Uq ns r g cs):=by
 rcases e with ⟨er,e⟩ | ⟨x,Z8,t2,c2,er,h2,h3,e,lc⟩
 ·refine ⟨_,m.adopt S ht e,?_⟩
  have sm:=(m.adopt S ht e).ff
  unfold Uq
  rw [er]
  exact .tup Aa (.cons .A5 (.one (ZZ (h0.same sm))))
 ·have uD:Gf H' t2 c2 r ((ns.idxOf x+1:Nat):Int) (wo cs x):=lc
  obtain ⟨F2,m2,_,r2⟩:=m.jy S h2 (.inl h3) h0.1 uD
  refine ⟨_,m2.adopt S ht e,?_⟩
  have sm:AD F2 (upd F2 t' (.tup [.str x,.ref t2])):=fun a u q=>by
   by_cases z:a=t'
   ·subst z
    have w:=m2.st.fh _ _ q
    rw [e] at w
    rw [Aa];exact w
   ·rw [AR z];exact q
  unfold Uq
  rw [er]
  exact .tup Aa (.cons (.str _) (.one (r2.mono sm)))
end
section
variable [Xw]
variable {E:Ent0}{ss:List Slot}{σ:L2.St} {F H F1 F' H':Hp}{K:ZAY}{js:List Nat}{ta tb tc te ti:TE}{nx:List Slot->Prop}{R:Ak}{k:PV->Prop}{xs:List PV}
def jx {n j:Nat}(h:j < n):Eh n (j:Int)=some j:=by
 unfold Eh
 simp;omega
theorem AG.set {vs:List V}:∀ {xs:List PV}(j:Nat){v:V}{p:PV},AG F vs xs->Rep F v p->AG F (vs.set j v) (xs.set j p):=by
 intro xs
 induction vs generalizing xs with
 | nil=>intro j v p h r;cases h;exact .nil
 | cons a vs ih=>
  intro j v p h r
  cases h with
  | cons r1 t=>
   cases j with
   | zero=>exact .cons r t
   | succ j=>exact .cons r1 (ih j t r)
end
mutual
def Ar:PV->PV->Bool
 | .lst xs,.lst ys=>Cj xs ys
 | .tup xs,.tup ys=>Cj xs ys
 | .tup xs,.con _ ys=>Cj xs ys
 | .con _ xs,.tup ys=>Cj xs ys
 | .con _ xs,.con _ ys=>Cj xs ys
 | .A5,.A5=>true
 | .bl a,.bl b=>a == b
 | .bl a,.int b=>(if a then 1 else 0) == b
 | .int a,.bl b=>a == (if b then 1 else 0)
 | .int a,.int b=>a == b
 | .str a,.str b=>a == b
 | _,_=>false
def Cj:List PV->List PV->Bool
 | [],[]=>true
 | x :: r,y :: t=>Ar x y && Cj r t
 | _,_=>false
end
def RC (x y:PV) (r t:List PV):Cj (x :: r) (y :: t)=(Ar x y && Cj r t):=by rw [Cj]
theorem VR:∀ (xs ys:List PV),xs.length≠ys.length->Cj xs ys=false
 | [],[],h=>absurd rfl h
 | [],_ :: _,_=>by rw [Cj];all_goals simp
 | _ :: _,[],_=>by rw [Cj];all_goals simp
 | x :: r,y :: t,h=>by rw [RC,VR r t (by simpa using h),Ri]
theorem UT:∀ (xs ys:List PV),xs.length=ys.length->Cj xs ys=(List.range xs.length).all fun j=>Ar (xs.getD j .A5) (ys.getD j .A5)
 | [],[],_=>by rw [Cj];rfl
 | x :: r,y :: t,h=>by
  rw [RC,UT r t (by simpa using h),BZ,List.range_succ_eq_map,Rk,List.all_map]
  rfl
def dat (K:ZAY):Nat->PV->Prop
 | _,.A5=>True
 | _,.bl _=>True
 | _,.int _=>True
 | _,.str _=>True
 | d+1,.lst xs=>∀ x∈xs,dat K d x
 | d+1,.tup xs=>∀ x∈xs,dat K d x
 | d+1,.con a xs=>(∀ x∈xs,dat K d x)/\xs.all flat=true/\∀ H,Ab K H a (xs.map Fz.enc)
 | _,_=>False
inductive Fj (K:ZAY) (H:Hp):V->PV->Bool->Addr->List V->List PV->Prop where
 | lst {a:Addr}{vs:List V}{xs:List PV}:AJ K H a vs->AG H vs xs->Fj K H (.ref a) (.lst xs) false a vs xs
 | tup {a:Addr}{vs:List V}{xs:List PV}:Ab K H a vs->AG H vs xs->Fj K H (.ref a) (.tup xs) true a vs xs
 | con {a:Addr}{vs:List V}{xs:List PV}:Ab K H a vs->AG H vs xs->Fj K H (.ref a) (.con a xs) true a vs xs
def FI {K:ZAY}{H:Hp}:∀ {d:Nat}{x:V}{p:PV},dat K d p->Rep H x p->(flat p=true/\x=Fz.enc p)∨∃ d' tp a vs xs,d=d'+1/\Fj K H x p tp a vs xs/\∀ y∈xs,dat K d' y:=by
 intro d x p h r
 cases r with
 | A5=>exact .inl ⟨rfl,rfl⟩
 | bl b=>exact .inl ⟨rfl,rfl⟩
 | int b=>exact .inl ⟨rfl,rfl⟩
 | str b=>exact .inl ⟨rfl,rfl⟩
 | lst e r=>cases d with
  | zero=>exact h.elim
  | succ d=>exact .inr ⟨d,_,_,_,_,rfl,.lst (AJ.of e) r,h⟩
 | tup e r=>cases d with
  | zero=>exact h.elim
  | succ d=>exact .inr ⟨d,_,_,_,_,rfl,.tup (Ab.of e) r,h⟩
 | con=>cases d with
  | zero=>exact h.elim
  | succ d=>obtain ⟨h1,h2,h3⟩:=h;exact .inr ⟨d,_,_,_,_,rfl,.con (h3 H) (R6 h2),h1⟩
 | Ap _ _ _=>cases d <;> exact h.elim
 | obj _ _ _ _=>cases d <;> exact h.elim
 | RQ _=>cases d <;> exact h.elim
 | exc _ _ _ _=>cases d <;> exact h.elim
section
variable {X:Cx}{pins:ZAZ}{σ:L2.St} {H:Hp}{s:Shared}
def iN {A:Around}{vs ws:List V}{A1 BJ:List Value}{xs ys:List PV}(r1:Vals vs A1) (r2:Vals ws BJ) (q1:AG H vs xs) (q2:AG H ws ys)
  (h:∀ (x y:V) (p q:PV) (u v:Value),p∈xs->q∈ys->Rep H x p->Rep H y q->RelV x u->RelV y v->SeqAt.EqAt A s u v (Ar p q)) :
  ∀ j (h1:j < A1.toArray.size) (h2:j < BJ.toArray.size),SeqAt.EqAt A s A1.toArray[j] BJ.toArray[j] ((fun j=>Ar (xs.getD j .A5) (ys.getD j .A5)) j):=fun j h1 h2=>by
 have l1:=r1.length
 have l2:=r2.length
 have l3:=q1.length
 have l4:=q2.length
 have D2:j < A1.length:=by simpa using h1
 have DI:j < BJ.length:=by simpa using h2
 have a1:j < xs.length:=by omega
 have a2:j < ys.length:=by omega
 obtain ⟨x,hx,rx⟩:=q1.get (i:=j) (p:=xs[j]) (Ad a1)
 obtain ⟨y,hy,ry⟩:=q2.get (i:=j) (p:=ys[j]) (Ad a2)
 obtain ⟨u,hu,ru⟩:=r1.get hx
 obtain ⟨v,hv,rv⟩:=r2.get hy
 rw [Ad D2] at hu
 rw [Ad DI] at hv
 have EA:A1[j]=u:=BG hu
 have HP:BJ[j]=v:=BG hv
 have q:=h x y _ _ u v (HE a1) (HE a2) rx ry ru rv
 rw [<- EA,<- HP] at q
 show SeqAt.EqAt A s _ _ (Ar (xs.getD j .A5) (ys.getD j .A5))
 rw [Kp,Ad a1,Kp,Ad a2]
 simpa using q
def RP {p:PV}{x:V}{tp:Bool}{a:Addr}{vs:List V}{xs:List PV}{q:PV}(h:Fj X.K H x p tp a vs xs) (f:flat q=true):Ar p q=false/\Ar q p=false:=by
 cases h <;> cases q <;> first | (cases f;done) | exact ⟨by rw [Ar] <;> simp,by rw [Ar] <;> simp⟩
def UM {p q:PV}{x y:V}{a b:Addr}{tp BP:Bool}{vs ws:List V}{xs ys:List PV}(h:Fj X.K H x p tp a vs xs) (h2:Fj X.K H y q BP b ws ys):Ar p q=(if tp=BP then Cj xs ys else false):=by
 cases h <;> cases h2 <;> first | (rw [if_pos rfl,Ar];done) | (rw [if_neg (by decide),Ar] <;> simp)
def Pl {p q:PV}(h:flat p=true) (h2:flat q=true):Ar p q=Ca (Fz.enc p) (Fz.enc q):=by
 cases p <;> cases q <;> first | (cases h;done) | (cases h2;done) | (rw [Ar] <;> first | rfl | simp [Fz.enc,Ca];done)
def va {A:Around}{p q:PV}{u v:Value}(h:flat p=true) (h2:flat q=true) (ru:RelV (Fz.enc p) u) (rv:RelV (Fz.enc q) v):SeqAt.RcAt A s u v (Ar p q)/\SeqAt.RcNeAt A s u v (!Ar p q):=by
 cases p <;> first | (cases h;done) | skip
 all_goals cases q <;> first | (cases h2;done) | skip
 all_goals simp only [Fz.enc,L2.RelV] at ru rv
 ·subst ru;subst rv;rw [Ar];exact ⟨.none_none,.none_none⟩
 ·subst ru;subst rv;rw [Ar] <;> first | exact ⟨.none_bool _,.none_bool _⟩ | simp
 ·subst ru;obtain ⟨t,rfl⟩:=rv;rw [Ar] <;> first | exact ⟨.none_int _ _,.none_int _ _⟩ | simp
 ·subst ru;obtain ⟨t,rfl⟩:=rv;rw [Ar] <;> first | exact ⟨.none_str _ _,.none_str _ _⟩ | simp
 ·subst ru;subst rv;rw [Ar] <;> first | exact ⟨.bool_none _,.bool_none _⟩ | simp
 ·subst ru;subst rv;rw [Ar];exact ⟨.bool_bool _ _,.bool_bool _ _⟩
 ·subst ru;obtain ⟨t,rfl⟩:=rv;rw [Ar];exact ⟨.bool_int _ _ _,.bool_int _ _ _⟩
 ·subst ru;obtain ⟨t,rfl⟩:=rv;rw [Ar] <;> first | exact ⟨.bool_str _ _ _,.bool_str _ _ _⟩ | simp
 ·obtain ⟨t,rfl⟩:=ru;subst rv;rw [Ar] <;> first | exact ⟨.int_none _ _,.int_none _ _⟩ | simp
 ·obtain ⟨t,rfl⟩:=ru;subst rv;rw [Ar];exact ⟨.int_bool _ _ _,.int_bool _ _ _⟩
 ·obtain ⟨t,rfl⟩:=ru;obtain ⟨t2,rfl⟩:=rv;rw [Ar];exact ⟨.int_int _ _ _ _,.int_int _ _ _ _⟩
 ·obtain ⟨t,rfl⟩:=ru;obtain ⟨t2,rfl⟩:=rv;rw [Ar] <;> first | exact ⟨.int_str _ _ _ _,.int_str _ _ _ _⟩ | simp
 ·obtain ⟨t,rfl⟩:=ru;subst rv;rw [Ar] <;> first | exact ⟨.str_none _ _,.str_none _ _⟩ | simp
 ·obtain ⟨t,rfl⟩:=ru;subst rv;rw [Ar] <;> first | exact ⟨.str_bool _ _ _,.str_bool _ _ _⟩ | simp
 ·obtain ⟨t,rfl⟩:=ru;obtain ⟨t2,rfl⟩:=rv;rw [Ar] <;> first | exact ⟨.str_int _ _ _ _,.str_int _ _ _ _⟩ | simp
 ·obtain ⟨t,rfl⟩:=ru;obtain ⟨t2,rfl⟩:=rv;rw [Ar];exact ⟨.str_str _ _ _ _,.str_str _ _ _ _⟩
def Qc (h:Heap) (tp:Bool) (a:Addr) (A1:Array Value):Prop:=if tp then IsTup h a A1 else h.IsList a A1
def Fj.Fp (I:Inv X pins σ H s){x:V}{p:PV}{tp:Bool}{a:Addr}{vs:List V}{xs:List PV}(h:Fj X.K H x p tp a vs xs):∃ A1:List Value,x=.ref a/\Vals vs A1/\Qc s.heap tp a A1.toArray/\AG H vs xs:=by
 cases h with
 | lst h r=>obtain ⟨A1,r1,p1,_⟩:=I.list h;exact ⟨A1,rfl,r1,p1.isList,r⟩
 | tup h r=>obtain ⟨A1,r1,p1,_⟩:=I.tuple h;exact ⟨A1,rfl,r1,p1,r⟩
 | con h r=>obtain ⟨A1,r1,p1,_⟩:=I.tuple h;exact ⟨A1,rfl,r1,p1,r⟩
def P0 {A:Around}{tp:Bool}{a:Addr}{A1:Array Value}{q:PV}{v:Value}(h:Qc s.heap tp a A1) (f:flat q=true) (rv:RelV (Fz.enc q) v) (hu:A.units < cLine) :
  (SeqAt.EqAt A s (.ref a) v false/\SeqAt.EqAt A s v (.ref a) false)/\(SeqAt.RcAt A s (.ref a) v false/\SeqAt.RcAt A s v (.ref a) false)/\(SeqAt.RcNeAt A s (.ref a) v true/\SeqAt.RcNeAt A s v (.ref a) true):=by
 cases tp with
 | false=>
  have h':s.heap.IsList a A1:=h
  cases q <;> first | (cases f;done) | skip
  all_goals simp only [Fz.enc,L2.RelV] at rv
  ·subst rv;exact ⟨⟨.list_none h' hu,.none_list h' hu⟩,⟨.list_none h' hu,.none_list h' hu⟩,⟨.list_none h' hu,.none_list h' hu⟩⟩
  ·subst rv;exact ⟨⟨.list_bool _ h' hu,.bool_list _ h' hu⟩,⟨.list_bool _ h' hu,.bool_list _ h' hu⟩,⟨.list_bool _ h' hu,.bool_list _ h' hu⟩⟩
  ·obtain ⟨t,rfl⟩:=rv;exact ⟨⟨.list_int _ _ h' hu,.int_list _ _ h' hu⟩,⟨.list_int _ _ h' hu,.int_list _ _ h' hu⟩,⟨.list_int _ _ h' hu,.int_list _ _ h' hu⟩⟩
  ·obtain ⟨t,rfl⟩:=rv;exact ⟨⟨.list_str _ _ h' hu,.str_list _ _ h' hu⟩,⟨.list_str _ _ h' hu,.str_list _ _ h' hu⟩,⟨.list_str _ _ h' hu,.str_list _ _ h' hu⟩⟩
 | true=>
  have h':IsTup s.heap a A1:=h
  cases q <;> first | (cases f;done) | skip
  all_goals simp only [Fz.enc,L2.RelV] at rv
  ·subst rv;exact ⟨⟨.tuple_none h' hu,.none_tuple h' hu⟩,⟨.tuple_none h' hu,.none_tuple h' hu⟩,⟨.tuple_none h' hu,.none_tuple h' hu⟩⟩
  ·subst rv;exact ⟨⟨.tuple_bool _ h' hu,.bool_tuple _ h' hu⟩,⟨.tuple_bool _ h' hu,.bool_tuple _ h' hu⟩,⟨.tuple_bool _ h' hu,.bool_tuple _ h' hu⟩⟩
  ·obtain ⟨t,rfl⟩:=rv;exact ⟨⟨.tuple_int _ _ h' hu,.int_tuple _ _ h' hu⟩,⟨.tuple_int _ _ h' hu,.int_tuple _ _ h' hu⟩,⟨.tuple_int _ _ h' hu,.int_tuple _ _ h' hu⟩⟩
  ·obtain ⟨t,rfl⟩:=rv;exact ⟨⟨.tuple_str _ _ h' hu,.str_tuple _ _ h' hu⟩,⟨.tuple_str _ _ h' hu,.str_tuple _ _ h' hu⟩,⟨.tuple_str _ _ h' hu,.str_tuple _ _ h' hu⟩⟩
def Fj.inj (I:Inv X pins σ H s){x y:V}{p q:PV}{tp BP:Bool}{a:Addr}{vs ws:List V}{xs ys:List PV}(h:Fj X.K H x p tp a vs xs) (h2:Fj X.K H y q BP a ws ys):tp=BP/\vs=ws:=by
 have no:∀ {vs ws:List V},AJ X.K H a vs->Ab X.K H a ws->False:=fun {vs ws} h1 h2=>by
  obtain ⟨A1,_,p1,_⟩:=I.list h1
  obtain ⟨BJ,_,p2,_⟩:=I.tuple h2
  obtain ⟨o,n,e,c,_⟩:=p1
  obtain ⟨o2,e2,c2,_⟩:=p2
  rw [e] at e2;cases e2;rw [c] at c2
  exact absurd c2 (by decide)
 cases h with
 | lst h r=>cases h2 with
  | lst h2 _=>exact ⟨rfl,I.Ys h h2⟩
  | tup h2 _=>exact (no h h2).elim
  | con h2 _=>exact (no h h2).elim
 | tup h r=>cases h2 with
  | lst h2 _=>exact (no h2 h).elim
  | tup h2 _=>exact ⟨rfl,I.Nf h h2⟩
  | con h2 _=>exact ⟨rfl,I.Nf h h2⟩
 | con h r=>cases h2 with
  | lst h2 _=>exact (no h2 h).elim
  | tup h2 _=>exact ⟨rfl,I.Nf h h2⟩
  | con h2 _=>exact ⟨rfl,I.Nf h h2⟩
def Zs {p:PV}(h:flat p=true):Ca (Fz.enc p) (Fz.enc p)=true:=by cases p <;> first | (cases h;done) | simp [Fz.enc,Ca]
theorem gB (ih:∀ (x:V) (p q:PV),Rep H x p->Rep H x q->dat X.K d p->dat X.K d q->Ar p q=true):∀ {vs:List V}{xs ys:List PV},AG H vs xs->AG H vs ys->(∀ x∈xs,dat X.K d x)->(∀ y∈ys,dat X.K d y)->Cj xs ys=true
 | _,_,_,.nil,.nil,_,_=>by rw [Cj]
 | _,_,_,.cons r1 t1,.cons r2 t2,h1,h2=>by
  rw [RC,ih _ _ _ r1 r2 (h1 _ (by simp)) (h2 _ (by simp)),gB ih t1 t2 (fun x hx=>h1 x (by simp [hx])) (fun x hx=>h2 x (by simp [hx]))];rfl
def wK (I:Inv X pins σ H s):∀ (d:Nat) (x:V) (p q:PV),Rep H x p->Rep H x q->dat X.K d p->dat X.K d q->Ar p q=true:=fun d=>by
 induction d with
 | zero=>
  intro x p q r1 r2 h1 h2
  rcases FI h1 r1 with ⟨f1,e1⟩ | ⟨d',_,_,_,_,e,_⟩
  ·rcases FI h2 r2 with ⟨f2,e2⟩ | ⟨d',_,_,_,_,e,_⟩
   ·rw [Pl f1 f2,<- e1,e2];exact Zs f2
   ·cases e
  ·cases e
 | succ d ih=>
  intro x p q r1 r2 h1 h2
  rcases FI h1 r1 with ⟨f1,e1⟩ | ⟨d1,tp,a,vs,xs,e,q1,k1⟩
  ·rcases FI h2 r2 with ⟨f2,e2⟩ | ⟨d2,BP,b,ws,ys,e,q2,k2⟩
   ·rw [Pl f1 f2,<- e1,e2];exact Zs f2
   ·obtain ⟨_,ex,_⟩:=q2.Fp I
    subst ex
    cases p <;> first | (cases f1;done) | (cases e1;done)
  ·cases e
   rcases FI h2 r2 with ⟨f2,e2⟩ | ⟨d2,BP,b,ws,ys,e,q2,k2⟩
   ·obtain ⟨_,ex,_⟩:=q1.Fp I
    subst ex
    cases q <;> first | (cases f2;done) | (cases e2;done)
   ·cases e
    obtain ⟨_,ex,_,_,r3⟩:=q1.Fp I
    obtain ⟨_,ey,_,_,r4⟩:=q2.Fp I
    rw [ex] at ey;cases ey
    obtain ⟨et,ev⟩:=q1.inj I q2
    subst ev
    rw [UM q1 q2,if_pos et]
    exact gB ih r3 r4 k1 k2
def ky {vs ws:List V}{A1 BJ:List Value}{xs ys:List PV}(r1:Vals vs A1) (r2:Vals ws BJ) (q1:AG H vs xs) (q2:AG H ws ys):A1.toArray.size=xs.length/\BJ.toArray.size=ys.length:=by
 have l1:=r1.length;have l2:=r2.length;have l3:=q1.length;have l4:=q2.length
 simp only [Bh]
 omega
def Yf {A:Around}{tp BP:Bool}{a b:Addr}{vs ws:List V}{A1 BJ:List Value}{xs ys:List PV}(h1:Qc s.heap tp a A1.toArray) (h2:Qc s.heap BP b BJ.toArray) (r1:Vals vs A1) (r2:Vals ws BJ) (q1:AG H vs xs) (q2:AG H ws ys) (hu:A.units < cLine)
  (h:∀ (x y:V) (p q:PV) (u v:Value),p∈xs->q∈ys->Rep H x p->Rep H y q->RelV x u->RelV y v->SeqAt.EqAt A.in1 s u v (Ar p q)) :
  SeqAt.RcAt A s (.ref a) (.ref b) (if tp=BP then Cj xs ys else false)/\SeqAt.RcNeAt A s (.ref a) (.ref b) (!(if tp=BP then Cj xs ys else false)):=by
 obtain ⟨z1,z2⟩:=ky r1 r2 q1 q2
 have it:=iN (A:=A.in1) r1 r2 q1 q2 h
 cases tp with
 | false=>cases BP with
  | false=>
   rw [if_pos rfl]
   have D2:s.heap.IsList a A1.toArray:=h1
   have DI:s.heap.IsList b BJ.toArray:=h2
   by_cases hl:xs.length=ys.length
   ·rw [UT xs ys hl,<- z1]
    exact ⟨.lists D2 DI (by omega) hu it,.lists D2 DI (by omega) hu it⟩
   ·rw [VR xs ys hl]
    have Ao:(A1.toArray.size != BJ.toArray.size)=true:=by simp only [bne_iff_ne,ne_eq];omega
    exact ⟨.lists_lengths D2 DI Ao hu,.lists_lengths D2 DI Ao hu⟩
  | true=>rw [if_neg (by decide)];exact ⟨.list_tuple h1 h2 hu,.list_tuple h1 h2 hu⟩
 | true=>cases BP with
  | false=>rw [if_neg (by decide)];exact ⟨.tuple_list h1 h2 hu,.tuple_list h1 h2 hu⟩
  | true=>
   rw [if_pos rfl]
   have D2:IsTup s.heap a A1.toArray:=h1
   have DI:IsTup s.heap b BJ.toArray:=h2
   have e:((List.range (min A1.toArray.size BJ.toArray.size)).all (fun j=>Ar (xs.getD j .A5) (ys.getD j .A5)) && A1.toArray.size == BJ.toArray.size)=Cj xs ys:=by
    by_cases hl:xs.length=ys.length
    ·rw [UT xs ys hl,z1,z2,<- hl,gp,beq_self_eq_true,gO]
    ·rw [VR xs ys hl,z1,z2,show (xs.length == ys.length)=false from by simpa using hl,Ri]
   have k1:=SeqAt.RcAt.tuples (A:=A) (e:=fun j=>Ar (xs.getD j .A5) (ys.getD j .A5)) D2 DI hu it
   have k2:=SeqAt.RcNeAt.tuples (A:=A) (e:=fun j=>Ar (xs.getD j .A5) (ys.getD j .A5)) D2 DI hu it
   rw [e] at k1 k2
   exact ⟨k1,k2⟩
def je (I:Inv X pins σ H s):∀ (d:Nat) (x y:V) (p q:PV),Rep H x p->Rep H y q->dat X.K d p->dat X.K d q->∀ (A:Around) (u v:Value),RelV x u->RelV y v->A.units+d < cLine->SeqAt.EqAt A s u v (Ar p q):=fun d=>by
 induction d with
 | zero=>
  intro x y p q r1 r2 h1 h2 A u v ru rv hu
  rcases FI h1 r1 with ⟨f1,e1⟩ | ⟨_,_,_,_,_,e,_⟩
  ·rcases FI h2 r2 with ⟨f2,e2⟩ | ⟨_,_,_,_,_,e,_⟩
   ·subst e1;subst e2
    rw [Pl f1 f2]
    exact PM ru rv (RL f1) (RL f2)
   ·cases e
  ·cases e
 | succ d ih=>
  intro x y p q r1 r2 h1 h2 A u v ru rv hu
  rcases FI h1 r1 with ⟨f1,e1⟩ | ⟨d1,tp,a,vs,xs,e,q1,k1⟩
  ·rcases FI h2 r2 with ⟨f2,e2⟩ | ⟨d2,BP,b,ws,ys,e,q2,k2⟩
   ·subst e1;subst e2
    rw [Pl f1 f2]
    exact PM ru rv (RL f1) (RL f2)
   ·obtain ⟨A1,ey,_,j,_⟩:=q2.Fp I
    subst e1;subst ey
    cases (show v=Value.ref b from rv)
    rw [(RP q2 f1).2]
    exact (P0 j f1 ru (by omega)).1.2
  ·cases e
   rcases FI h2 r2 with ⟨f2,e2⟩ | ⟨d2,BP,b,ws,ys,e,q2,k2⟩
   ·obtain ⟨A1,ex,_,j,_⟩:=q1.Fp I
    subst e2;subst ex
    cases (show u=Value.ref a from ru)
    rw [(RP q1 f2).1]
    exact (P0 j f2 rv (by omega)).1.1
   ·cases e
    obtain ⟨A1,ex,v1,j1,w1⟩:=q1.Fp I
    obtain ⟨BJ,ey,v2,j2,w2⟩:=q2.Fp I
    subst ex;subst ey
    cases (show u=Value.ref a from ru)
    cases (show v=Value.ref b from rv)
    by_cases FF:a=b
    ·subst FF
     rw [wK I (d+1) _ p q r1 r2 h1 h2]
     exact .same _
    ·rw [UM q1 q2]
     refine SeqAt.EqAt.of_refs FF (Yf j1 j2 v1 v2 w1 w2 (by omega) fun x y p q u v hp hq r1 r2 ru rv=>?_).1
     exact ih x y p q r1 r2 (k1 p hp) (k2 q hq) A.in1 u v ru rv (by show A.units+1+d < cLine;omega)
def sR (I:Inv X pins σ H s) (d:Nat) (x y:V) (p q:PV) (r1:Rep H x p) (r2:Rep H y q) (h1:dat X.K d p) (h2:dat X.K d q) (A:Around) (u v:Value) (ru:RelV x u) (rv:RelV y v) (hu:A.units+d < cLine):SeqAt.RcAt A s u v (Ar p q)/\SeqAt.RcNeAt A s u v (!Ar p q):=by
 rcases FI h1 r1 with ⟨f1,e1⟩ | ⟨d1,tp,a,vs,xs,e,q1,k1⟩
 ·rcases FI h2 r2 with ⟨f2,e2⟩ | ⟨d2,BP,b,ws,ys,e,q2,k2⟩
  ·subst e1;subst e2
   exact va f1 f2 ru rv
  ·obtain ⟨A1,ey,_,j,_⟩:=q2.Fp I
   subst e1;subst ey
   cases (show v=Value.ref b from rv)
   rw [(RP q2 f1).2]
   have z:=P0 (A:=A) j f1 ru (by omega)
   exact ⟨z.2.1.2,z.2.2.2⟩
 ·rcases FI h2 r2 with ⟨f2,e2⟩ | ⟨d2,BP,b,ws,ys,e2,q2,k2⟩
  ·obtain ⟨A1,ex,_,j,_⟩:=q1.Fp I
   subst e2;subst ex
   cases (show u=Value.ref a from ru)
   rw [(RP q1 f2).1]
   have z:=P0 (A:=A) j f2 rv (by omega)
   exact ⟨z.2.1.1,z.2.2.1⟩
  ·subst e;cases e2
   obtain ⟨A1,ex,v1,j1,w1⟩:=q1.Fp I
   obtain ⟨BJ,ey,v2,j2,w2⟩:=q2.Fp I
   subst ex;subst ey
   cases (show u=Value.ref a from ru)
   cases (show v=Value.ref b from rv)
   rw [UM q1 q2]
   exact Yf j1 j2 v1 v2 w1 w2 (by omega) fun x y p q u v hp hq r1 r2 ru rv=>je I d1 x y p q r1 r2 (k1 p hp) (k2 q hq) A.in1 u v ru rv (by show A.units+1+d1 < cLine;omega)
def S6 (K:ZAY) (neg:Bool):R2:=fun x y H Q=>∃ p q,Rep H x p/\Rep H y q/\dat K 40 p/\dat K 40 q/\Q (.bl (if neg then !Ar p q else Ar p q)) H
def e5 (hu:X.A.units+64 < cLine):Ay X (compareOp .NotEq) (S6 X.K true):=by
 intro pins s σ H x y v u Q I rx ry h
 obtain ⟨p,q,r1,r2,d1,d2,hQ⟩:=h
 exact (sR I 40 x y p q r1 r2 d1 d2 X.A _ _ rx ry (by omega)).2 _ _ _ _ ⟨.bl (!Ar p q),H,I,rfl,hQ⟩
end
section
variable [Xw]
variable {ss:List Slot}{K:ZAY}{ta tb:TE}{k:PV->Prop}
def yc (h:Wp ss ta fun p=>Wp ss tb fun q=>dat K 40 p/\dat K 40 q/\k (.bl (Ar p q))):Wp ss (BH (S6 K false) ta tb) k:=⟨fun E σ F H Q S q=>
 h.go E σ F H _ S fun v p F1 H1 m1 r1 h2=>h2.go E σ F1 H1 _ m1.st fun v2 p2 F2 H2 m2 r2 ⟨d1,d2,kk⟩=>
  ⟨p,p2,(r1.mono m2.ff).mono m2.st.fh,r2.mono m2.st.fh,d1,d2,q _ _ F2 H2 (m1.trans m2) (.bl _) kk⟩⟩
def UY (h:Wp ss ta fun p=>Wp ss tb fun q=>dat K 40 p/\dat K 40 q/\k (.bl (!Ar p q))):Wp ss (BH (S6 K true) ta tb) k:=⟨fun E σ F H Q S q=>
 h.go E σ F H _ S fun v p F1 H1 m1 r1 h2=>h2.go E σ F1 H1 _ m1.st fun v2 p2 F2 H2 m2 r2 ⟨d1,d2,kk⟩=>
  ⟨p,p2,(r1.mono m2.ff).mono m2.st.fh,r2.mono m2.st.fh,d1,d2,q _ _ F2 H2 (m1.trans m2) (.bl _) kk⟩⟩
end
def OV.at:OV->List Nat->Option OV
 | t,[]=>some t
 | .nd _ _ xs,j :: p=>(xs[j]?).bind fun x=>x.at p
 | .tp xs,j :: p=>(xs[j]?).bind fun x=>x.at p
 | .fz _,_ :: _=>none
termination_by _ p=>p.length
def OV.put:OV->List Nat->OV->OV
 | _,[],n=>n
 | .nd k a xs,j :: p,n=>match xs[j]? with
  | some x=>.nd k a (xs.set j (x.put p n))
  | none=>.nd k a xs
 | .tp xs,j :: p,n=>match xs[j]? with
  | some x=>.tp (xs.set j (x.put p n))
  | none=>.tp xs
 | .fz p,_ :: _,_=>.fz p
termination_by _ p=>p.length
def OV.Hv {t:OV}:t.at []=some t:=by rw [OV.at]
def OV.KU {k:NK}{a:Addr}{xs:List OV}{j:Nat}{p:List Nat}:(OV.nd k a xs).at (j :: p)=(xs[j]?).bind fun x=>x.at p:=by rw [OV.at]
def OV.L6 {xs:List OV}{j:Nat}{p:List Nat}:(OV.tp xs).at (j :: p)=(xs[j]?).bind fun x=>x.at p:=by rw [OV.at]
def OV.Gx {t n:OV}:t.put [] n=n:=by rw [OV.put]
def OV.KR {k:NK}{a:Addr}{xs:List OV}{j:Nat}{p:List Nat}{n x:OV}(h:xs[j]?=some x):(OV.nd k a xs).put (j :: p) n=.nd k a (xs.set j (x.put p n)):=by rw [OV.put,h]
def OV.LA {xs:List OV}{j:Nat}{p:List Nat}{n x:OV}(h:xs[j]?=some x):(OV.tp xs).put (j :: p) n=.tp (xs.set j (x.put p n)):=by rw [OV.put,h]
theorem OV.OA {u w:OV}:∀ {p:List Nat}{t:OV}{j:Nat},t.at p=some u->u.at [j]=some w->t.at (p++[j])=some w
 | [],t,j,h,h2=>by rw [OV.Hv] at h;cases h;exact h2
 | i :: p,.nd k a xs,j,h,h2=>by
  rw [OV.KU] at h
  rw [gR,OV.KU]
  cases e:xs[i]? with
  | none=>rw [e] at h;cases h
  | some x=>rw [e] at h;exact OV.OA (t:=x) h h2
 | i :: p,.tp xs,j,h,h2=>by
  rw [OV.L6] at h
  rw [gR,OV.L6]
  cases e:xs[i]? with
  | none=>rw [e] at h;cases h
  | some x=>rw [e] at h;exact OV.OA (t:=x) h h2
 | i :: p,.fz q,j,h,h2=>by rw [OV.at] at h;cases h
theorem Ib:∀ {xs:List OV}{j:Nat}{x:OV},xs[j]?=some x->∃ l r,OV.AU xs=l++x.addrs++r/\∀ y:OV,OV.AU (xs.set j y)=l++y.addrs++r
 | x :: xs,0,z,h=>by
  simp at h;subst h
  exact ⟨[],OV.AU xs,by rw [OV.D3];rfl,fun y=>by rw [Xo,OV.D3];rfl⟩
 | x :: xs,j+1,z,h=>by
  obtain ⟨l,r,e1,e2⟩:=Ib (xs:=xs) (j:=j) (x:=z) (by simpa using h)
  refine ⟨x.addrs++l,r,by rw [OV.D3,e1];simp [CH],fun y=>by rw [Rq,OV.D3,e2];simp [CH]⟩
theorem OV.split {u:OV}:∀ {p:List Nat}{t:OV},t.at p=some u->∃ l r,t.addrs=l++u.addrs++r/\∀ n:OV,(t.put p n).addrs=l++n.addrs++r
 | [],t,h=>by rw [OV.Hv] at h;cases h;exact ⟨[],[],by simp,fun n=>by rw [OV.Gx];simp⟩
 | j :: p,.nd k a xs,h=>by
  rw [OV.KU] at h
  cases e:xs[j]? with
  | none=>rw [e] at h;cases h
  | some x=>
   rw [e] at h
   obtain ⟨l,r,e1,e2⟩:=Ib e
   obtain ⟨l2,r2,f1,f2⟩:=OV.split (t:=x) h
   refine ⟨a :: (k.more++(l++l2)),r2++r,by rw [OV.Cf,e1,f1];simp [CH],fun n=>by rw [OV.KR e,OV.Cf,e2,f2];simp [CH]⟩
 | j :: p,.tp xs,h=>by
  rw [OV.L6] at h
  cases e:xs[j]? with
  | none=>rw [e] at h;cases h
  | some x=>
   rw [e] at h
   obtain ⟨l,r,e1,e2⟩:=Ib e
   obtain ⟨l2,r2,f1,f2⟩:=OV.split (t:=x) h
   refine ⟨l++l2,r2++r,by rw [OV.EX,e1,f1];simp [CH],fun n=>by rw [OV.LA e,OV.EX,e2,f2];simp [CH]⟩
 | j :: p,.fz q,h=>by rw [OV.at] at h;cases h
theorem Af.get {F H:Hp}:∀ {vs:List V}{ts:List OV}{j:Nat}{t:OV},Af F H vs ts->ts[j]?=some t->∃ v,vs[j]?=some v/\As F H v t
 | _,_,_,_,.nil,e=>by simp at e
 | _,_,0,_,.cons r _,e=>by simp at e;subst e;exact ⟨_,rfl,r⟩
 | _,_,j+1,t,.cons _ q,e=>by
  obtain ⟨u,h1,h2⟩:=Af.get (j:=j) (t:=t) q (by simpa using e)
  exact ⟨u,by simpa using h1,h2⟩
theorem Af.append {F H:Hp}:∀ {vs ws:List V}{xs ys:List OV},Af F H vs xs->Af F H ws ys->Af F H (vs++ws) (xs++ys)
 | _,_,_,_,.nil,s=>s
 | _,_,_,_,.cons r t,s=>.cons r (Af.append t s)
theorem Af.take {F H:Hp}:∀ {vs:List V}{xs:List OV}(n:Nat),Af F H vs xs->Af F H (vs.take n) (xs.take n)
 | _,_,0,_=>by simp only [List.take_zero];exact .nil
 | _,_,_+1,.nil=>.nil
 | _,_,n+1,.cons r t=>.cons r (Af.take n t)
theorem Af.drop {F H:Hp}:∀ {vs:List V}{xs:List OV}(n:Nat),Af F H vs xs->Af F H (vs.drop n) (xs.drop n)
 | _,_,0,r=>r
 | _,_,_+1,.nil=>.nil
 | _,_,n+1,.cons _ t=>Af.drop n t
def Af.one {F H:Hp}{v:V}{t:OV}(r:As F H v t):Af F H [v] [t]:=.cons r .nil
theorem eV {F H:Hp}:∀ {vs:List V}{xs:List PV},AG F vs xs->Af F H vs (xs.map .fz)
 | _,_,.nil=>.nil
 | _,_,.cons r t=>.cons (.fz r) (eV t)
theorem Af.ak {F H:Hp}:∀ {vs:List V}{xs:List PV},Af F H vs (xs.map .fz)->AG F vs xs
 | _,[],.nil=>.nil
 | _,_ :: _,.cons (.fz r) t=>.cons r (Af.ak t)
theorem ba:∀ (xs:List PV),OV.AU (xs.map .fz)=[]
 | []=>by rw [II,OV.AU]
 | x :: r=>by rw [BL,OV.D3,OV.Nv,ba r];rfl
theorem Af.set {F H:Hp}:∀ {vs:List V}{xs:List OV}(j:Nat){v:V}{t:OV},Af F H vs xs->As F H v t->Af F H (vs.set j v) (xs.set j t)
 | _,_,_,_,_,.nil,_=>.nil
 | _,_,0,_,_,.cons _ t,r=>.cons r t
 | _,_,j+1,_,_,.cons q t,r=>.cons q (Af.set j t r)
theorem Af.swap {F H H':Hp}{y:OV}:∀ {vs:List V}{xs:List OV}{j:Nat}{x:OV}{v:V},Af F H vs xs->xs[j]?=some x->vs[j]?=some v->(∀ l r,OV.AU xs=l++x.addrs++r->(∀ z:OV,OV.AU (xs.set j z)=l++z.addrs++r)->∀ b∈l++r,∀ o,H b=some o->H' b=some o)->As F H' v y->Af F H' vs (xs.set j y)
 | _,x :: xs,0,z,w,.cons r t,h,hv,hk,ry=>by
  simp at h hv;subst h;subst hv
  rw [Xo]
  have e:∀ z:OV,OV.AU ((x :: xs).set 0 z)=[]++z.addrs++OV.AU xs:=fun z=>by rw [Xo,OV.D3];rfl
  exact .cons ry (t.mono (AD.refl _) fun b hb o=>hk [] (OV.AU xs) (by rw [OV.D3];rfl) e b (by simpa using hb) o)
 | _,x :: xs,j+1,z,w,.cons r t,h,hv,hk,ry=>by
  rw [Rq]
  have h':xs[j]?=some z:=by simpa using h
  obtain ⟨l,q,e1,e2⟩:=Ib h'
  refine .cons (r.mono (AD.refl _) fun b hb o=>hk (x.addrs++l) q (by rw [OV.D3,e1];simp [CH]) (fun z=>by rw [Rq,OV.D3,e2];simp [CH]) b (by simp [hb]) o) (Af.swap (v:=w) t h' (by simpa using hv) (fun l' r' C3 AY b hb o=>hk (x.addrs++l') r' (by rw [OV.D3,C3];simp [CH]) (fun z=>by rw [Rq,OV.D3,AY];simp [CH]) b (by rcases List.mem_append.mp hb with hz | hz <;> simp [hz]) o) ry)
theorem As.at {F H:Hp}{u:OV}:∀ {p:List Nat}{t:OV}{v:V},As F H v t->t.at p=some u->∃ w,As F H w u/\∀ (H':Hp) (n:OV),As F H' w n->(∀ l r,t.addrs=l++u.addrs++r->(∀ n:OV,(t.put p n).addrs=l++n.addrs++r)->∀ b∈l++r,∀ o,H b=some o->H' b=some o)->As F H' v (t.put p n)
 | [],t,v,h,e=>by rw [OV.Hv] at e;cases e;exact ⟨v,h,fun H' n r _=>by rw [OV.Gx];exact r⟩
 | j :: p,.fz q,v,h,e=>by rw [OV.at] at e;cases e
 | j :: p,.nd k a xs,_,.nd h sd ft r,e=>by
  rw [OV.KU] at e
  cases ex:xs[j]? with
  | none=>rw [ex] at e;cases e
  | some x=>
   rw [ex] at e
   obtain ⟨vj,TY,rj⟩:=r.get ex
   obtain ⟨w,rw_,go⟩:=As.at (t:=x) rj e
   refine ⟨w,rw_,fun H' n rn hk=>?_⟩
   obtain ⟨l2,r2,f1,f2⟩:=OV.split e
   have key:∀ l r,OV.AU xs=l++x.addrs++r->(∀ z:OV,OV.AU (xs.set j z)=l++z.addrs++r)->∀ b,b∈(a :: (k.more++(l++l2)))++(r2++r)->∀ o,H b=some o->H' b=some o:=fun l r e1 e2 b hb o=>
    hk (a :: (k.more++(l++l2))) (r2++r) (by rw [OV.Cf,e1,f1];simp [CH]) (fun n=>by rw [OV.KR ex,OV.Cf,e2,f2];simp [CH]) b hb o
   obtain ⟨l,q,e1,e2⟩:=Ib ex
   rw [OV.KR ex]
   refine .nd (key l q e1 e2 a (by simp) _ h) (NK.bC sd fun b hb=>key l q e1 e2 b (by simp [hb])) ft ?_
   refine r.swap ex TY (fun l' r' C3 AY b hb o=>key l' r' C3 AY b (by rcases List.mem_append.mp hb with hz | hz <;> simp [hz]) o) ?_
   refine go H' n rn fun l' r' g1 g2 b hb o=>?_
   refine hk (a :: (k.more++(l++l'))) (r'++q) (by rw [OV.Cf,e1,g1];simp [CH]) (fun n=>by rw [OV.KR ex,OV.Cf,e2,g2];simp [CH]) b (by rcases List.mem_append.mp hb with hz | hz <;> simp [hz]) o
 | j :: p,.tp xs,_,.tp h r,e=>by
  rw [OV.L6] at e
  cases ex:xs[j]? with
  | none=>rw [ex] at e;cases e
  | some x=>
   rw [ex] at e
   obtain ⟨vj,TY,rj⟩:=r.get ex
   obtain ⟨w,rw_,go⟩:=As.at (t:=x) rj e
   refine ⟨w,rw_,fun H' n rn hk=>?_⟩
   obtain ⟨l2,r2,f1,f2⟩:=OV.split e
   obtain ⟨l,q,e1,e2⟩:=Ib ex
   rw [OV.LA ex]
   refine .tp h (r.swap ex TY (fun l' r' C3 AY b hb o=>?_) (go H' n rn fun l' r' g1 g2 b hb o=>?_))
   ·exact hk (l'++l2) (r2++r') (by rw [OV.EX,C3,f1];simp [CH]) (fun n=>by rw [OV.LA ex,OV.EX,AY,f2];simp [CH]) b (by rcases List.mem_append.mp hb with hz | hz <;> simp [hz]) o
   ·exact hk (l++l') (r'++q) (by rw [OV.EX,e1,g1];simp [CH]) (fun n=>by rw [OV.LA ex,OV.EX,e2,g2];simp [CH]) b (by rcases List.mem_append.mp hb with hz | hz <;> simp [hz]) o
def SJ {l u r n:List Addr}(h:(l++u++r).Nodup) (hn:n.Nodup) (hd:∀ b∈n,b∈u∨b∉l++u++r):(l++n++r).Nodup:=by
 rw [CI] at h ⊢
 obtain ⟨h1,h2,h3⟩:=h
 rw [CI] at h1 ⊢
 obtain ⟨a1,a2,a3⟩:=h1
 refine ⟨⟨a1,hn,fun a ha b hb e=>?_⟩,h2,fun a ha b hb e=>?_⟩
 ·subst e
  rcases hd a hb with z | z
  ·exact a3 a ha a z rfl
  ·exact z (by simp [ha])
 ·subst e
  rcases List.mem_append.mp ha with ha | ha
  ·exact h3 a (by simp [ha]) a hb rfl
  ·rcases hd a ha with z | z
   ·exact h3 a (by simp [z]) a hb rfl
   ·exact z (by simp [hb])
section
variable {E:Ent0}{ss:List Slot}{σ:L2.St} {F H F' H':Hp}
def Sg.WN (S:Sg E ss σ F H){i:Nat}{t n:OV}{p:List Nat}{k:NK}{a:Addr}{xs:List OV}{ho:HO}{lt:Bool}(hi:ss[i]?=some (.ow lt t)) (Bx:t.at p=some (.nd k a xs)) (hn:As F (upd H a ho) (.ref a) n) (nd:n.addrs.Nodup)
  (fE:∀ b∈n.addrs,b∈(OV.nd k a xs).addrs∨(F b=none/\E.H0 b=none/\∀ (j:Nat) s,ss[j]?=some s->¬ B2 s σ[j]? b)):Sg E (ss.set i (.ow lt (t.put p n))) σ F (upd H a ho):=by
 obtain ⟨v,e,r,Sz,q⟩:=S.ok i _ hi
 obtain ⟨l,rr,e1,e2⟩:=OV.split Bx
 have au:a∈(OV.nd k a xs).addrs:=by rw [OV.Cf];simp
 have ut:∀ b∈(OV.nd k a xs).addrs,b∈t.addrs:=fun b hb=>by rw [e1];simp [hb]
 have PD:∀ b∈n.addrs,b∈(OV.nd k a xs).addrs∨b∉t.addrs:=fun b hb=>(fE b hb).imp id fun z m=>z.2.2 i _ hi m
 obtain ⟨w,rw_,go⟩:=r.at Bx
 have ew:w=.ref a:=by cases rw_;rfl
 subst ew
 have ne1:∀ (j:Nat) s,(ss.set i .any)[j]?=some s->∀ b,b∈t.addrs->¬ B2 s σ[j]? b:=fun j s hj b hb m=>by
  by_cases z:j=i
  ·subst z
   rw [CS (List.getElem?_eq_some_iff.mp hi).1] at hj
   cases hj;cases m
  ·rw [CB (Bi z)] at hj
   exact S.Bg j i s _ b z hj hi m hb
 have S2:=(S.drop i).LR (o:=ho) (q a (ut a au)).1 ((q a (ut a au)).2.imp id fun z=>z.2) fun j s hj=>ne1 j s hj a (ut a au)
 have aM:=Sz
 rw [e1,CI,CI] at aM
 obtain ⟨⟨_,_,d1⟩,_,d2⟩:=aM
 have ZAF:∀ b,b∈l++rr->b≠a:=fun b hb z=>by
  subst z
  rcases List.mem_append.mp hb with hb | hb
  ·exact d1 b hb b au rfl
  ·exact d2 b (by simp [au]) b hb rfl
 have r2:As F (upd H a ho) v (t.put p n):=go _ n hn fun l' r' g1 g2 b hb o kH=>by
  rw [AR ?_];exact kH
  rintro rfl
  have dz:=Sz
  rw [g1,CI,CI] at dz
  obtain ⟨⟨_,_,c1⟩,_,c2⟩:=dz
  rcases List.mem_append.mp hb with hb | hb
  ·exact c1 b hb b au rfl
  ·exact c2 b (by simp [au]) b hb rfl
 have ad:∀ b∈(t.put p n).addrs,b∈t.addrs∨(F b=none/\E.H0 b=none/\∀ (j:Nat) s,ss[j]?=some s->¬ B2 s σ[j]? b):=fun b hb=>by
  rw [e2] at hb
  rcases List.mem_append.mp hb with hb | hb
  ·rcases List.mem_append.mp hb with hb | hb
   ·exact .inl (by rw [e1];simp [hb])
   ·exact (fE b hb).imp (ut b) id
  ·exact .inl (by rw [e1];simp [hb])
 have S3:=S2.setG (j:=i) (s:=.ow lt (t.put p n)) (v:=v) ⟨v,rfl,r2,by rw [e2];exact SJ (e1▸Sz) nd fun b hb=>(PD b hb).imp id (by rw [e1];exact id),fun b hb=>(ad b hb).elim (q b) fun z=>⟨z.1,.inl z.2.1⟩⟩ fun b hb j s hj hs m=>by
  rcases ad b hb with z | z
  ·exact ne1 j s hs b z m
  ·rw [CB (Bi hj)] at hs
   exact z.2.2 j s hs m
 rw [Oy e,Xp] at S3
 exact S3
end
structure Wl [Xw] (ss:List Slot) (i:Nat) (t:OV) (te:TE) (k:List Nat->OV->Prop):Prop where
 hi:∃ lt,ss[i]?=some (.ow lt t)
 go:∀ (E:Ent) (σ:L2.St) (F H:Hp) (Q:VK),Sg E ss σ F H->(∀ v p u F' H',Mv E ss σ F H F' H'->As F' H' v u->t.at p=some u->k p u->Q v H')->te σ H Q
def D9:List Nat->List Slot->List Slot
 | [],ss=>ss
 | i :: m,ss=>D9 m (ss.set i .any)
structure Wx [Xw] (ss:List Slot) (te:TE) (k:List Nat->OV->Prop):Prop where
 go:∀ (E:Ent) (σ:L2.St) (F H:Hp) (Q:VK),Sg E ss σ F H->(∀ v m u F' H',Mv E ss σ F H F' H'->As F' H' v u->u.addrs.Nodup->(∀ a∈u.addrs,F' a=none/\E.H0 a=none/\((∃ i∈m,∃ s,s≠Slot.AK/\ss[i]?=some s/\B2 s σ[i]? a)∨H a=none))->k m u->Q v H')->te σ H Q
structure K4 [Xw] (ss:List Slot) (te:TA) (k:List Nat->List OV->Prop):Prop where
 go:∀ (E:Ent) (σ:L2.St) (F H:Hp) (Q:List V->Hp->Prop),Sg E ss σ F H->(∀ vs m us F' H',Mv E ss σ F H F' H'->Af F' H' vs us->(OV.AU us).Nodup->(∀ a∈OV.AU us,F' a=none/\E.H0 a=none/\((∃ i∈m,∃ s,s≠Slot.AK/\ss[i]?=some s/\B2 s σ[i]? a)∨H a=none))->k m us->Q vs H')->te σ H Q
section
variable [Xw]
variable {ss:List Slot}{K:ZAY}{ta tb tc te ti:TE}{nx:List Slot->Prop}{R:Ak}{k:PV->Prop}{xs:List PV}{i:Nat}{t:OV}
def OV.J1 {u:OV}{p:List Nat}(h:t.at p=some u):∀ a∈u.addrs,a∈t.addrs:=fun a ha=>by
 obtain ⟨l,r,e,_⟩:=OV.split h
 rw [e];simp [ha]
def As.mv {E:Ent0}{σ:L2.St} {F H F' H':Hp}{v:V}{u:OV}{p:List Nat}(r:As F H v u) (S:Sg E ss σ F H) (hi:∃ lt,ss[i]?=some (.ow lt t)) (h:t.at p=some u) (m:Mv E ss σ F H F' H'):As F' H' v u:=
 r.mono m.ff fun a ha o e=>m.hh a o (S.LM hi.choose_spec (OV.J1 h a ha) (by simp)) e
def Ci {lt:Bool}{k:List Nat->OV->Prop}(hi:ss[i]?=some (.ow lt t)) (hk:k [] t):Wl ss i t (BM i) k:=⟨⟨lt,hi⟩,fun E σ F H Q S q=>by
 obtain ⟨v,e,r,_,_⟩:=S.ok i _ hi
 exact ⟨v,e,q v [] t F H (.refl S) r OV.Hv hk⟩⟩
def M7 {k:List Nat->OV->Prop}(h:Wl ss i t ta fun p u=>∃ a xs,u=.nd .lst a xs/\Wp ss tb fun q=>∃ (j:Int) (n:Nat) (w:OV),q=.int j/\Eh xs.length j=some n/\xs[n]?=some w/\k (p++[n]) w):Wl ss i t (BH (MF K) ta tb) k:=⟨h.hi,fun E σ F H Q S q=>
 h.go E σ F H _ S fun v p u F1 H1 m1 r1 h1 ⟨a,xs,eu,h2⟩=>h2.go E σ F1 H1 _ m1.st fun v2 p2 F2 H2 m2 r2 ⟨j,n,w,e,hn,hw,kk⟩=>by
  subst e;cases r2
  have r3:=r1.mv m1.st h.hi h1 m2
  subst eu
  cases r3 with
  | nd ha sd ft rr=>
   obtain ⟨x,hx,rx⟩:=rr.get hw
   refine ⟨a,_,j,x,rfl,rfl,AJ.of ha,?_,q x (p++[n]) w F2 H2 (m1.trans m2) rx (OV.OA h1 (by rw [OV.KU,hw];exact OV.Hv)) kk⟩
   unfold L2.B5
   rw [rr.length,hn]
   exact hx⟩
def Io {k:List Nat->OV->Prop}(h:Wl ss i t ta fun p u=>∃ xs,u=.tp xs/\Wp ss tb fun q=>∃ (j:Int) (n:Nat) (w:OV),q=.int j/\Eh xs.length j=some n/\xs[n]?=some w/\k (p++[n]) w):Wl ss i t (BH (EC K) ta tb) k:=⟨h.hi,fun E σ F H Q S q=>
 h.go E σ F H _ S fun v p u F1 H1 m1 r1 h1 ⟨xs,eu,h2⟩=>h2.go E σ F1 H1 _ m1.st fun v2 p2 F2 H2 m2 r2 ⟨j,n,w,e,hn,hw,kk⟩=>by
  subst e;cases r2
  have r3:=r1.mv m1.st h.hi h1 m2
  subst eu
  cases r3 with
  | tp ha rr=>
   obtain ⟨x,hx,rx⟩:=rr.get hw
   refine ⟨_,_,j,x,rfl,rfl,Ab.of (m2.st.fh _ _ ha),?_,q x (p++[n]) w F2 H2 (m1.trans m2) rx (OV.OA h1 (by rw [OV.L6,hw];exact OV.Hv)) kk⟩
   unfold L2.B5
   rw [rr.length,hn]
   exact hx⟩
def Mr (h:Wl ss i t te fun _ u=>∃ p,u=.fz p/\k p):Wp ss te k:=⟨fun E σ F H Q S q=>
 h.go E σ F H _ S fun v p u F1 H1 m1 r1 h1 ⟨p,eu,kk⟩=>by subst eu;cases r1 with | fz r=>exact q v p F1 H1 m1 r kk⟩
def Ut {k:Bool->List PV->Prop}(h:Wl ss i t te fun _ u=>∃ a ps,u=.nd .lst a (ps.map .fz)/\k false ps):Wq ss te k:=⟨fun E σ F H Q S q=>
 h.go E σ F H _ S fun v p u F1 H1 m1 r1 h1 ⟨a,ps,eu,kk⟩=>by
  subst eu
  have np:Bs ss σ a:=m1.st.LM h.hi.choose_spec (OV.J1 h1 a (by rw [OV.Cf];simp)) (by simp)
  cases r1 with
  | nd ha sd ft rr=>exact q _ false ps F1 H1 m1 ⟨a,_,rfl,np,ha,rr.ak⟩ kk⟩
def XY (h:Wl ss i t te fun _ u=>∃ a xs,u=.nd .lst a xs/\k (.int xs.length)):Wp ss (C1 (Nd K) (AO te An)) k:=⟨fun E σ F H Q S q=>
 h.go E σ F H _ S fun v p u F1 H1 m1 r1 h1 ⟨a,xs,eu,kk⟩=>by
  subst eu
  cases r1 with
  | nd ha sd ft rr=>
   refine ⟨a,_,rfl,.inl (AJ.of ha),?_⟩
   rw [rr.length]
   exact q _ _ F1 H1 m1 (.int _) kk⟩
def EY {k:List Nat->OV->Prop}(h:Wp ss te fun p=>k [] (.fz p)):Wx ss te k:=⟨fun E σ F H Q S q=>
 h.go E σ F H _ S fun v p F1 H1 m1 r kk=>q v [] (.fz p) F1 H1 m1 (.fz r) (by rw [OV.Nv];exact MJ) (fun a ha=>by rw [OV.Nv] at ha;cases ha) kk⟩
def aI (a:Addr) (xs:List PV):(OV.nd .lst a (xs.map .fz)).addrs=[a]:=by rw [OV.Cf,ba];rfl
def ME {k:List Nat->OV->Prop}(h:Wn ss te fun xs=>∀ l,k [] (.nd .lst l (xs.map .fz))):Wx ss te k:=⟨fun E σ F H Q S q=>
 h.go E σ F H _ S fun l vs xs F1 H1 m1 fl hl Jg r kk=>q _ [] _ F1 H1 m1 (.nd (k:=.lst) Jg trivial trivial (eV r)) (by rw [aI];simp) (fun a ha=>by
  rw [aI] at ha
  have e:a=l:=by simpa using ha
  subst e
  exact ⟨fl,S.CO hl,.inr hl⟩) (kk l)⟩
def N4 {k:List Nat->List OV->Prop}(h:k [] []):K4 ss An k:=⟨fun E σ F H Q S q=>q _ [] [] F H (.refl S) .nil (by rw [OV.Ep];exact MJ) (fun a ha=>by rw [OV.Ep] at ha;cases ha) h⟩
def X8 {k:List Nat->OV->Prop}(hi:ss[i]?=some (.ow false t)) (h:k [i] t):Wx ss (BM i) k:=⟨fun E σ F H Q S q=>by
 obtain ⟨v,e,r,nd,qa⟩:=S.ok i _ hi
 refine ⟨_,e,q v [i] t F H (.refl S) r nd (fun a ha=>⟨(qa a ha).1,?_,.inl ⟨i,by simp,_,by simp,hi,ha⟩⟩) h⟩
 exact (qa a ha).2.elim id fun z=>by cases z.1⟩
def Wx.tJ {E:Ent0}{σ:L2.St} {F H:Hp}(S:Sg E ss σ F H){m:List Nat}{a:Addr}(h:(∃ i∈m,∃ s,s≠Slot.AK/\ss[i]?=some s/\B2 s σ[i]? a)∨H a=none):Bs ss σ a:=by
 rcases h with ⟨j,_,s,hp,hs,o⟩ | z
 ·exact S.LM hs o hp
 ·exact S.HN z
def Mv.cX {E:Ent0}{σ:L2.St} {F H F' H':Hp}(m:Mv E ss σ F H F' H'){a:Addr}(h:F a=Option.none) (h2:H a≠Option.none):F' a=Option.none:=by
 cases e:F' a with
 | none=>rfl
 | some o=>
  rcases m.nn a o e with z | z
  ·rw [h] at z;cases z
  ·exact absurd z h2
def Ed {k:List Nat->List OV->Prop}{tr:TA}(h:Wx ss te fun m u=>K4 ss tr fun m2 us=>(∀ i∈m,i∉m2)/\k (m++m2) (u :: us)):K4 ss (AO te tr) k:=⟨fun E σ F H Q S q=>
 h.go E σ F H _ S fun v m u F1 H1 m1 r1 EE a1 h2=>h2.go E σ F1 H1 _ m1.st fun vs jc us F2 H2 m2 r2 DM a2 ⟨dj,kk⟩=>by
  have np:∀ a∈u.addrs,Bs ss σ a:=fun a ha=>Wx.tJ S (a1 a ha).2.2
  refine q (v :: vs) (m++jc) (u :: us) F2 H2 (m1.trans m2) (.cons (r1.mono m2.ff fun a ha o e=>m2.hh a o (np a ha) e) r2) ?_ (fun a ha=>?_) kk
  ·rw [OV.D3,CI]
   refine ⟨EE,DM,fun a ha b hb e=>?_⟩
   subst e
   rcases (a2 a hb).2.2 with ⟨j2,Pj,s2,Nx,CD,o2⟩ | z
   ·rcases (a1 a ha).2.2 with ⟨j,hj,s,hp,hs,o⟩ | z
    ·exact S.Bg j j2 s s2 a (by rintro rfl;exact dj j hj Pj) hs CD o o2
    ·exact S.DQ CD o2 z
   ·exact r1.there a ha z
  ·rw [OV.D3] at ha
   rcases List.mem_append.mp ha with ha | ha
   ·obtain ⟨f,h0,w⟩:=a1 a ha
    exact ⟨m2.cX f (r1.there a ha),h0,w.imp (fun ⟨j,hj,z⟩=>⟨j,by simp [hj],z⟩) id⟩
   ·obtain ⟨f,h0,w⟩:=a2 a ha
    exact ⟨f,h0,w.imp (fun ⟨j,hj,z⟩=>⟨j,by simp [hj],z⟩) m1.none⟩⟩
def Mo {k:List Nat->OV->Prop}{tr:TA}(h:K4 ss tr fun m us=>us.length<=100000/\k m (.tp us)):Wx ss (Pq tr) k:=⟨fun E σ F H Q S q=>
 h.go E σ F H _ S fun vs m us F1 H1 m1 r1 EE a1 ⟨hz,kk⟩=>⟨small (by rw [r1.length];exact hz),fun p hp=>by
  have m2:=m1.st.alloc hp (.tup vs)
  refine q _ m (.tp us) _ _ (m1.trans m2) (.tp Aa (r1.mono m2.ff fun a ha o e=>by rw [AR (by rintro rfl;exact r1.there _ ha hp)];exact e)) (by rw [OV.EX];exact EE) (fun a ha=>?_) kk
  rw [OV.EX] at ha
  obtain ⟨f,h0,w⟩:=a1 a ha
  exact ⟨by rw [AR (by rintro rfl;exact r1.there _ ha hp)];exact f,h0,w⟩⟩⟩
theorem N9 {j:Nat}{s:Slot}:∀ {m:List Nat}{ss:List Slot},(D9 m ss)[j]?=some s->s=.any∨(ss[j]?=some s/\j∉m)
 | [],ss,h=>.inr ⟨h,by simp⟩
 | i :: m,ss,h=>by
  rcases N9 (m:=m) (ss:=ss.set i .any) h with e | ⟨e,hm⟩
  ·exact .inl e
  ·by_cases q:j=i
   ·subst q
    have AN:j < ss.length:=by have:=(List.getElem?_eq_some_iff.mp e).1;simpa using this
    rw [CS AN] at e
    exact .inl (BG e).symm
   ·rw [CB (Bi q)] at e
    exact .inr ⟨e,by simp [q,hm]⟩
theorem Sg.D9 {E:Ent0}{σ:L2.St} {F H:Hp}:∀ (m:List Nat){ss:List Slot},Sg E ss σ F H->Sg E (Fz.D9 m ss) σ F H
 | [],_,S=>S
 | i :: m,_,S=>Sg.D9 m (S.drop i)
def Sg.cH {E:Ent0}{σ:L2.St} {F0 F H0 H:Hp}{v:V}{m:List Nat}{u:OV}{j:Nat}(S0:Sg E ss σ F0 H0) (S:Sg E ss σ F H) (r:As F H v u) (nd:u.addrs.Nodup) (hu:∀ a∈u.addrs,F a=none/\E.H0 a=none/\((∃ i∈m,∃ s,s≠Slot.AK/\ss[i]?=some s/\B2 s σ[i]? a)∨H0 a=none)) :
  Sg E ((Fz.D9 m ss).set j (.ow false u)) (σ.set j (some v)) F H:=by
 refine (S.D9 m).setG ⟨v,rfl,r,nd,fun a ha=>⟨(hu a ha).1,.inl (hu a ha).2.1⟩⟩ fun a ha i s Fq hs o=>?_
 rcases N9 hs with e | ⟨EG,hm⟩
 ·subst e;cases o
 ·rcases (hu a ha).2.2 with ⟨i2,Ft,s2,_,CD,o2⟩ | z
  ·exact S.Bg i i2 s s2 a (by rintro rfl;exact hm Ft) EG CD o o2
  ·exact S0.DQ EG o z
def JC {j:Nat}(h:Wx ss te fun m u=>nx ((Fz.D9 m ss).set j (.ow false u))):Ws ss (E8 te (CV j)) nx R:=⟨fun E D σ F H S hn hr=>
 h.go E σ F H _ S fun v m u F1 H1 m1 r nd hu kk=>hn _ _ F1 H1 kk (Sg.cH S m1.st r nd hu) m1.ff⟩
def As.rep {F H F1:Hp}(ff:AD F F1):∀ {v:V}{t:OV},As F H v t->(∀ a∈t.addrs,∀ o,H a=some o->F1 a=some o)->Rep F1 v t.pv:=by
 intro v t r h
 exact As.rec (motive_1:=fun v t _=>(∀ a∈t.addrs,∀ o,H a=some o->F1 a=some o)->Rep F1 v t.pv) (motive_2:=fun vs ts _=>(∀ a∈OV.AU ts,∀ o,H a=some o->F1 a=some o)->AG F1 vs (OV.BD ts))
  (fun {v p} r _=>by rw [OV.pv];exact r.mono ff)
  (fun {a vs xs} e _ ih h=>by rw [OV.pv];exact .tup (ff _ _ e) (ih (by rw [OV.EX] at h;exact h)))
  (fun {k a vs xs} e sd ft _ ih h=>by
   rw [OV.Cf] at h
   have Wd:=ih fun a ha=>h a (by simp [ha])
   have e':=h a (by simp) _ e
   cases k with
   | lst=>rw [OV.pv];exact .lst e' Wd
   | Ap ks=>rw [OV.pv];exact .Ap e' ft Wd
   | obj C dx ns=>rw [OV.pv];exact .obj e' (h dx (by simp [NK.more]) _ sd) ft Wd)
  (fun _=>by rw [OV.BD];exact .nil)
  (fun _ _ OB MO h=>by
   rw [OV.D3] at h
   rw [OV.BD]
   exact .cons (OB fun a ha=>h a (by simp [ha])) (MO fun a ha=>h a (by simp [ha])))
  r h
def P6 {t':TS}(i:Nat) (hi:ss[i]?=some (.ow false t)) (h:Ws (ss.set i (.is t.pv)) t' nx R):Ws ss t' nx R:=⟨fun E D σ F H S hn hr=>by
 obtain ⟨v,e,r,nd,qa⟩:=S.ok i _ hi
 obtain ⟨S1,nf⟩:=(S.drop i).lay t.addrs (fun a ha=>⟨(qa a ha).1,(qa a ha).2.elim id (fun z=>by cases z.1),r.there a ha⟩) fun a ha j s hj m=>by
  by_cases q:j=i
  ·subst q
   rw [CS (List.getElem?_eq_some_iff.mp hi).1] at hj
   cases hj;cases m
  ·rw [CB (Bi q)] at hj
   exact S.Bg j i s _ a q hj hi m ha
 have S2:=S1.Ga (j:=i) (v:=v) (p:=t.pv) (r.rep nf fun a ha o ho=>by unfold CU;rw [if_pos ha];exact ho)
 rw [Oy e,Xp] at S2
 exact h.go E D σ _ H S2 (fun Bp σ2 F2 H2 n S2 s2=>hn Bp σ2 F2 H2 n S2 (nf.trans s2)) hr⟩
end
section
variable [Xw]
variable {ss:List Slot}{K:ZAY}{ta tb tc te ti:TE}{nx:List Slot->Prop}{R:Ak}{k:PV->Prop}{xs:List PV}{i:Nat}{t:OV}{lt:Bool}
def Lc {a:Addr}{us:List OV}:(OV.nd .lst a us).addrs=a :: OV.AU us:=by rw [OV.Cf];rfl
theorem JD:∀ (us ws:List OV),OV.AU (us++ws)=OV.AU us++OV.AU ws
 | [],ws=>by rw [JL,OV.Ep,JL]
 | u :: us,ws=>by rw [gR,OV.D3,OV.D3,JD us ws,CH]
def Jz (u:OV):OV.AU [u]=u.addrs:=by rw [OV.D3,OV.Ep,E9]
def Sg.eI {E:Ent0}{σ:L2.St} {F0 F H0 H:Hp}{p:List Nat}{a:Addr}{us Ba:List OV}{Bk:List V}{m:List Nat}{u:OV}(S0:Sg E ss σ F0 H0) (S:Sg E ss σ F H) (hi:ss[i]?=some (.ow lt t)) (Bx:t.at p=some (.nd .lst a us))
  (hu:∀ a∈u.addrs,F a=none/\E.H0 a=none/\((∃ i∈m,∃ s,s≠Slot.AK/\ss[i]?=some s/\B2 s σ[i]? a)∨H0 a=none)) (Dm:i∉m)
  (hr:Af F H Bk Ba) (O0:(OV.AU Ba).Nodup) (Hx:∀ b∈OV.AU Ba,b∈OV.AU us∨b∈u.addrs):Sg E ((Fz.D9 m ss).set i (.ow lt (t.put p (.nd .lst a Ba)))) σ F (upd H a (.lst Bk)):=by
 have C0:(Fz.D9 m ss)[i]?=some (.ow lt t):=by
  have aux:∀ (m:List Nat) (ss:List Slot),ss[i]?=some (.ow lt t)->i∉m->(Fz.D9 m ss)[i]?=some (.ow lt t):=by
   intro m
   induction m with
   | nil=>intro ss h _;exact h
   | cons j m ih=>
    intro ss h hm
    refine ih _ ?_ fun z=>hm (by simp [z])
    rw [CB (by rintro rfl;exact hm (by simp))];exact h
  exact aux m ss hi Dm
 obtain ⟨v,e,r,nd,q⟩:=S.ok i _ hi
 have ut:∀ b,b∈a :: OV.AU us->b∈t.addrs:=fun b hb=>OV.J1 Bx b (by rw [Lc];exact hb)
 have LP:∀ b∈u.addrs,b∉t.addrs:=fun b hb z=>by
  rcases (hu b hb).2.2 with ⟨j,hj,s,_,hs,o⟩ | w
  ·exact S.Bg j i s _ b (by rintro rfl;exact Dm hj) hs hi o z
  ·exact S0.DQ hi z w
 have DW:(OV.nd .lst a us).addrs.Nodup:=by
  obtain ⟨l,rr,e1,_⟩:=OV.split Bx
  rw [e1,CI,CI] at nd
  exact nd.1.2.1
 rw [Lc] at DW
 have na:∀ b∈OV.AU Ba,b≠a:=fun b hb z=>by
  subst z
  rcases Hx b hb with w | w
  ·exact (List.nodup_cons.mp DW).1 w
  ·exact LP b w (ut b (by simp))
 refine (S.D9 m).WN C0 Bx (.nd (k:=.lst) Aa trivial trivial (hr.mono (AD.refl _) fun b hb o ho=>by rw [AR (na b hb)];exact ho)) (by rw [Lc];exact List.nodup_cons.mpr ⟨fun z=>na a z rfl,O0⟩) fun b hb=>?_
 rw [Lc] at hb ⊢
 rcases List.mem_cons.mp hb with w | w
 ·exact .inl (by simp [w])
 ·rcases Hx b w with z | z
  ·exact .inl (by simp [z])
  ·refine .inr ⟨(hu b z).1,(hu b z).2.1,fun j s hs o=>?_⟩
   rcases N9 hs with y | ⟨EG,hm⟩
   ·subst y;cases o
   ·rcases (hu b z).2.2 with ⟨i2,Ft,s2,_,CD,o2⟩ | y
    ·exact S.Bg j i2 s s2 b (by rintro rfl;exact hm Ft) EG CD o o2
    ·exact S0.DQ EG o y
def ae (h:Wl ss i t ta fun p u=>∃ lt a us,ss[i]?=some (.ow lt t)/\u=.nd .lst a us/\us.length<=99999/\Wx ss te fun m w=>i∉m/\nx ((D9 m ss).set i (.ow lt (t.put p (.nd .lst a (us++[w])))))):Ws ss (GY (J8 K "list" RU ta (AO te An))) nx R:=⟨fun E D σ F H S hn hr=>
 h.go E σ F H _ S fun v p u F1 H1 m1 r1 h1 ⟨lt,a,us,hi,eu,hz,hw⟩=>by
  subst eu
  cases r1 with
  | @nd k a' vs _ ha sd ft rr=>
   refine .inl ⟨rfl,_,AJ.of ha⟩ |> fun q0=>⟨q0,hw.go E σ F1 H1 _ m1.st fun v2 m w F2 H2 m2 r2 DM a2 ⟨Dm,kk⟩=>?_⟩
   have r3:=(As.nd (k:=.lst) ha sd ft rr).mv m1.st h.hi h1 m2
   cases r3 with
   | @nd _ _ qr _ jW sd3 ft3 fG=>
    refine ⟨a,qr,v2,rfl,rfl,jW,J9 (by rw [fG.length];exact hz),?_⟩
    refine hn _ σ F2 _ kk (Sg.eI (u:=w) m1.st m2.st hi h1 a2 Dm (fG.append (.one r2)) ?_ fun b hb=>?_) (m1.ff.trans m2.ff)
    ·rw [JD,Jz,CI]
     obtain ⟨v0,e0,r0,Cg,q0⟩:=m2.st.ok i _ hi
     have DW:(OV.nd .lst a us).addrs.Nodup:=by
      obtain ⟨l,rr,e1,_⟩:=OV.split h1
      rw [e1,CI,CI] at Cg
      exact Cg.1.2.1
     rw [Lc] at DW
     refine ⟨(List.nodup_cons.mp DW).2,DM,fun x hx y hy e=>?_⟩
     subst e
     have xt:x∈t.addrs:=OV.J1 h1 x (by rw [Lc];simp [hx])
     rcases (a2 x hy).2.2 with ⟨j,hj,s,_,hs,o⟩ | w
     ·exact m1.st.Bg j i s _ x (by rintro rfl;exact Dm hj) hs hi o xt
     ·exact m1.st.DQ hi xt w
    ·rw [JD,Jz] at hb
     exact List.mem_append.mp hb⟩
def Lu {k:OV->Prop}(h:Wx ss te fun _ u=>k u):Ws ss (KL te) nx (.ow k):=⟨fun E D σ F H S hn hr=>
 h.go E σ F H _ S fun v m u F1 H1 m1 r nd hu kk=>hr v F1 H1 m1.st.toFin ⟨u,r,nd,fun a ha=>⟨(hu a ha).1,(hu a ha).2.1⟩,kk⟩⟩
def RA {pre:Pre}{ta:TA}{k:List Nat->OV->Prop}(h:Wa ss ta fun l=>∃ k',pre l (.ow k')/\∀ u,k' u->k [] u):Wx ss (CL (AV pre) [] E0 ta) k:=⟨fun E σ F H Q S q=>
 h.go E σ F H _ S fun vs l F1 H1 m1 a ⟨k',hp,kk⟩=>by
  rw [E9]
  refine ⟨l,.ow k',F1,[],hp,m1.st.Ph a,fun v F' H' f ⟨u,r,nd,hu,ku⟩=>?_⟩
  exact q v [] u F' H' (m1.trans (m1.st.back (fun _ h=>absurd h Ai) f)) r nd (fun a ha=>⟨(hu a ha).1,S.CO (m1.none (hu a ha).2),.inr (m1.none (hu a ha).2)⟩) (kk u ku)⟩
end
def ptr (a:Addr):Hp->V->Prop:=fun _ v=>v=.ref a
section
variable [Xw]
variable {ss:List Slot}{K:ZAY}{ta tb tc te ti:TE}{nx:List Slot->Prop}{R:Ak}{k:PV->Prop}{xs ps:List PV}{i j:Nat}{t:OV}{lt:Bool}{p:List Nat}{a:Addr}
def yg {k:List Nat->OV->Prop}{nk:NK}{us:List OV}(hj:ss[j]?=some (.raw (ptr a))) (hi:ss[i]?=some (.ow lt t)) (Bx:t.at p=some (.nd nk a us)) (hk:k p (.nd nk a us)):Wl ss i t (BM j) k:=⟨⟨lt,hi⟩,fun E σ F H Q S q=>by
 obtain ⟨v,e,rv,_⟩:=S.ok j _ hj
 obtain ⟨v2,e2,r2,_,_⟩:=S.ok i _ hi
 obtain ⟨w,rw_,_⟩:=r2.at Bx
 have ew:w=.ref a:=by cases rw_;rfl
 subst ew
 cases (show v=.ref a from rv)
 exact ⟨_,e,q _ p _ F H (.refl S) rw_ Bx hk⟩⟩
end
def BX:List Slot->L2.St->List Addr
 | .own _ :: ss,some (.ref l) :: σ=>l :: BX ss σ
 | .ow _ t :: ss,_ :: σ=>t.addrs++BX ss σ
 | _ :: ss,_ :: σ=>BX ss σ
 | _,_=>[]
theorem Yu:∀ {ss:List Slot}{σ:L2.St} {a:Addr},a∈BX ss σ->∃ (i:Nat) (s:Slot),ss[i]?=some s/\s≠.AK/\B2 s σ[i]? a
 | [],σ,a,h=>by simp [BX] at h
 | s :: ss,[],a,h=>by cases s <;> simp [BX] at h
 | s :: ss,o :: σ,a,h=>by
  have up:a∈BX ss σ->∃ (i:Nat) (s':Slot),(s :: ss)[i]?=some s'/\s'≠.AK/\B2 s' (o :: σ)[i]? a:=fun h=>by
   obtain ⟨i,s',h1,h2,h3⟩:=Yu h
   exact ⟨i+1,s',by simpa using h1,h2,by simpa using h3⟩
  cases s with
  | own xs=>
   cases o with
   | none=>exact up (by simpa [BX] using h)
   | some v=>
    cases v with
    | ref l=>
     rw [BX] at h
     rcases List.mem_cons.mp h with e | h
     ·subst e;exact ⟨0,_,rfl,by simp,rfl⟩
     ·exact up h
    | _=>exact up (by simpa [BX] using h)
  | ow lt t=>
   rw [BX] at h
   rcases List.mem_append.mp h with h | h
   ·exact ⟨0,_,rfl,by simp,h⟩
   ·exact up h
  | _=>exact up (by simpa [BX] using h)
theorem SM:∀ {ss:List Slot}{σ:L2.St} {i:Nat}{s:Slot}{a:Addr},ss.length=σ.length->ss[i]?=some s->s≠.AK->B2 s σ[i]? a->a∈BX ss σ
 | [],σ,i,s,a,_,h,_,_=>by simp at h
 | s0 :: ss,[],i,s,a,hl,_,_,_=>by simp at hl
 | s0 :: ss,o :: σ,0,s,a,hl,h,hp,ho=>by
  simp at h;subst h
  cases s0 with
  | own xs=>
   have e:o=some (.ref a):=by have:some o=some (some (V.ref a)):=ho;exact BG this
   subst e
   rw [BX];simp
  | ow lt t=>rw [BX];exact Oe _ ho
  | AK=>exact absurd rfl hp
  | _=>cases ho
 | s0 :: ss,o :: σ,i+1,s,a,hl,h,hp,ho=>by
  have q:=SM (ss:=ss) (σ:=σ) (i:=i) (a:=a) (by simpa using hl) (by simpa using h) hp (by simpa using ho)
  cases s0 with
  | own xs=>cases o with
   | none=>simpa [BX] using q
   | some v=>cases v with
    | ref l=>rw [BX];simp [q]
    | _=>simpa [BX] using q
  | ow lt t=>rw [BX];exact Di _ q
  | _=>simpa [BX] using q
mutual
theorem As.M9 {F H:Hp}:∀ {v:V}{t:OV},As F H v t->∀ a∈t.addrs,∀ vs,H a≠some (.tup vs)
 | _,_,.fz _,a,ha,_=>by rw [OV.Nv] at ha;cases ha
 | _,_,.tp _ r,a,ha,vs=>by rw [OV.EX] at ha;exact Af.M9 r a ha vs
 | _,_,@As.nd _ _ k b ws xs h sd ft r,a,ha,vs=>by
  rw [OV.Cf,EW,Fw] at ha
  rcases ha with rfl | ha | ha
  ·rw [h];cases k <;> simp [NK.ho]
  ·cases k with
   | obj C dx ns=>
    have e:a=dx:=by simpa [NK.more] using ha
    subst e
    have Wj:H a=some (.own b):=sd
    rw [Wj];simp
   | _=>simp [NK.more] at ha
  ·exact Af.M9 r a ha vs
theorem Af.M9 {F H:Hp}:∀ {vs:List V}{ts:List OV},Af F H vs ts->∀ a∈OV.AU ts,∀ ws,H a≠some (.tup ws)
 | _,_,.nil,a,ha,_=>by rw [OV.Ep] at ha;cases ha
 | _,_,.cons r t,a,ha,ws=>by
  rw [OV.D3,Fw] at ha
  rcases ha with ha | ha
  ·exact As.M9 r a ha ws
  ·exact Af.M9 t a ha ws
end
mutual
def Cr:PV->Bool
 | .lst _=>false
 | .Ap _ _=>false
 | .obj _ _ _=>false
 | .exc _ _ _=>false
 | .tup xs=>FE xs
 | _=>true
def FE:List PV->Bool
 | []=>true
 | x :: r=>Cr x && FE r
end
def ET (F:Hp) (as:List Addr):Hp:=fun a=>if a∈as then none else F a
def Rep.sub {F:Hp}{as:List Addr}(h:∀ a∈as,∀ vs,F a≠some (.tup vs)):∀ {v:V}{p:PV},Rep F v p->Cr p=true->Rep (ET F as) v p:=by
 intro v p r hn
 exact Rep.rec (motive_1:=fun v p _=>Cr p=true->Rep (ET F as) v p) (motive_2:=fun vs ps _=>FE ps=true->AG (ET F as) vs ps)
  (fun _=>.A5) (fun b _=>.bl b) (fun i _=>.int i) (fun x _=>.str x)
  (fun _ _ _ z=>by simp [Cr] at z)
  (fun {a vs xs} e _ ih z=>.tup (by unfold ET;rw [if_neg (fun q=>h a q vs e)];exact e) (ih (by simpa [Cr] using z)))
  (fun _ _ _ _ z=>by simp [Cr] at z)
  (fun _ _ _ _ _ z=>by simp [Cr] at z)
  (fun _=>.con)
  (fun _ z=>by simp [Cr] at z)
  (fun _ _ _ _ _ z=>by simp [Cr] at z)
  (fun _=>.nil)
  (fun _ _ OB MO z=>by
   rw [FE,Ek] at z
   exact .cons (OB z.1) (MO z.2))
  r hn
theorem AG.sub {F:Hp}{as:List Addr}(h:∀ a∈as,∀ vs,F a≠some (.tup vs)):∀ {vs:List V}{ps:List PV},AG F vs ps->FE ps=true->AG (ET F as) vs ps
 | _,_,.nil,_=>.nil
 | _,_,.cons r t,z=>by
  rw [FE,Ek] at z
  exact .cons (r.sub h z.1) (t.sub h z.2)
section
variable {E:Ent0}{ss:List Slot}{σ:L2.St} {F H F' H':Hp}
def Sg.as (S:Sg E ss σ F H){a:Addr}(h:a∈BX ss σ):F a=none/\H a≠none/\(∀ vs,H a≠some (.tup vs))/\Bs ss σ a:=by
 obtain ⟨i,s,hs,hp,ho⟩:=Yu h
 refine ⟨S.jX hs ho,S.DQ hs ho,?_,S.LM hs ho hp⟩
 have k:=S.ok i s hs
 cases s with
 | own xs=>obtain ⟨l,vs,e,_,_,e3,_⟩:=k;rw [show σ[i]?=some (some (.ref a)) from ho] at e;cases e;rw [e3];simp
 | ow lt t=>obtain ⟨v,_,r,_⟩:=k;exact r.M9 a ho
 | AK=>exact absurd rfl hp
 | _=>cases ho
def Sg.IX (S:Sg E ss σ F H):AD F (CU F H (BX ss σ))/\AD (CU F H (BX ss σ)) H:=by
 refine ⟨fun a o e=>?_,fun a o e=>?_⟩
 ·unfold CU
  rw [if_neg (fun q=>by rw [(S.as q).1] at e;cases e)];exact e
 ·unfold CU at e
  split at e
  ·exact e
  ·exact S.fh a o e
def Sg.Pt (S:Sg E ss σ F H) (f:Fin (E3 [] (CU F H (BX ss σ)) H) F' H'):Mv E ss σ F H (ET F' (BX ss σ)) H'/\∀ a∈BX ss σ,∀ vs,F' a≠some (.tup vs):=by
 have kp:∀ a o,H a=some o->H' a=some o:=fun a o e=>f.keep a o ⟨Ai,Ai⟩ e
 refine ⟨S.step (fun a o e=>?_) (fun a o e=>?_) (fun a o _ e=>kp a o e) (fun a o e=>?_) (fun i l hi e=>B3.keep (S.Cp hi e) fun o e=>kp l o e),fun a ha vs e=>?_⟩
 ·unfold ET
  rw [if_neg (fun q=>by rw [(S.as q).1] at e;cases e)]
  exact f.f0 a o (S.IX.1 a o e)
 ·unfold ET at e
  split at e
  ·cases e
  ·exact f.fh a o e
 ·unfold ET at e
  split at e
  ·cases e
  ·rename_i q
   rcases f.fresh a o e with z | z
   ·left
    have z':CU F H (BX ss σ) a=some o:=z
    unfold CU at z'
    rw [if_neg q] at z';exact z'
   ·exact .inr z
 ·obtain ⟨o,ho⟩:=Option.ne_none_iff_exists'.mp (S.as ha).2.1
  have z:F' a=some o:=f.f0 a o (by show CU F H (BX ss σ) a=some o;unfold CU;rw [if_pos ha];exact ho)
  rw [z] at e
  cases e
  exact (S.as ha).2.2.1 vs ho
end
section
variable [Xw]
variable {ss:List Slot}{K:ZAY}{ta tb tc te ti:TE}{tr:TA}{nx:List Slot->Prop}{R:Ak}{k:PV->Prop}{xs ps:List PV}{i j:Nat}{t:OV}{lt:Bool}{pre:Pre}
def gE (h:Wx ss te fun m u=>m=[]/\k u.pv):Wp ss te k:=⟨fun E σ F H Q S q=>
 h.go E σ F H _ S fun v m u F1 H1 m1 r nd hu ⟨em,kk⟩=>by
  subst em
  have EA:∀ a∈u.addrs,H a=none:=fun a ha=>by
   rcases (hu a ha).2.2 with ⟨i,hi,_⟩ | z
   ·cases hi
   ·exact z
  obtain ⟨S1,nf⟩:=m1.st.lay u.addrs (fun a ha=>⟨(hu a ha).1,(hu a ha).2.1,r.there a ha⟩) fun a ha i s hs o=>S.DQ hs o (EA a ha)
  refine q v u.pv _ H1 ⟨S1,m1.ff.trans nf,m1.hh,fun a o e=>?_⟩ (r.rep nf fun a ha o ho=>by unfold CU;rw [if_pos ha];exact ho) kk
  unfold CU at e
  split at e
  ·rename_i z
   exact .inr (EA a z)
  ·exact m1.nn a o e⟩
end
def rS {K:ZAY}{d:Nat}{p:PV}(h:flat p=true):dat K d p:=by
 cases p <;> first | (cases h;done) | (cases d <;> trivial)
def wt {K:ZAY}{d:Nat}{xs:List PV}(h:xs.all flat=true):∀ x∈xs,dat K d x:=fun x hx=>rS (List.all_eq_true.mp h x hx)
def Sd {K:ZAY}{d:Nat}(ns:List Str):∀ x∈ns.map PV.str,dat K d x:=wt (SS ns)
theorem QQ:∀ {xs:List PV},(∀ x∈xs,Ar x x=true)->Cj xs xs=true
 | [],_=>by rw [Cj]
 | x :: r,h=>by rw [RC,h x (by simp),QQ (xs:=r) fun y hy=>h y (by simp [hy])];rfl
def Zb {K:ZAY}:∀ (d:Nat){p:PV},dat K d p->Ar p p=true:=by
 intro d
 induction d with
 | zero=>intro p h;cases p <;> first | exact h.elim | (rw [Ar] <;> simp)
 | succ d ih=>
  intro p h
  cases p with
  | lst xs=>rw [Ar];exact QQ fun x hx=>ih (h x hx)
  | tup xs=>rw [Ar];exact QQ fun x hx=>ih (h x hx)
  | con a xs=>rw [Ar];exact QQ fun x hx=>ih (h.1 x hx)
  | _=>first | exact h.elim | (rw [Ar] <;> simp)
theorem Yx:∀ (xs:List PV),OV.BD (xs.map .fz)=xs
 | []=>by rw [II,OV.BD]
 | x :: r=>by rw [BL,OV.BD,OV.pv,Yx r]
def y0 (a:Addr) (xs:List PV):(OV.nd .lst a (xs.map .fz)).pv=.lst xs:=by rw [OV.pv,Yx]
def nX (a b:OV):(OV.tp [a,b]).pv=.tup [a.pv,b.pv]:=by rw [OV.pv,OV.BD,OV.BD,OV.BD]
def pP (p:PV):(OV.fz p).pv=p:=by rw [OV.pv]
end Fz
namespace L2
structure cn (h:Heap) (ea:Addr) (C:Value) (dx tb:Option Addr):Prop where
 obj:∃ oe vs,h.get? ea=some oe/\oe.cls=C/\oe.dict=dx/\oe.data=.fields vs/\1 < vs.size/\vs[1]?=some (tb.elim Value.none Value.ref)
 ent:∀ T,tb=some T->T≠ea/\∃ oT ts,h.get? T=some oT/\oT.data=.fields ts/\3 < ts.size/\ts[3]?=some Value.none
section
variable {M:Model}{A:Around}{E:Value->Shared->Prop}{s:Shared}{base:Heap}{env:Env}{outer:List Env}{L ea:Addr}{C:Value}{dx tb:Option Addr}{Q:Unit->Shared->Prop}
end
def i7 (P:Program) (w:World):El:=fun outer H s E e s'=>∃ (ea C:Addr) (dx tb:Option Addr) (H':Hp),e=.ref ea/\s'.os=s.os/\AllBare s'.gens/\Un (FX outer) [] H H' s.heap s'.heap/\Bj P w H' s'.heap/\
 cn s'.heap ea (.ref C) dx tb/\(H' ea=none/\s.heap.get? ea=none)/\(∀ T,tb=some T->H' T=none/\s.heap.get? T=none)/\E (.ref C) dx H'
def aa (X:Cx) (E:XK) (e:Value) (s':Shared):Prop:=∃ (pins:ZAZ) (σ:St) (H':Hp) (ea C:Addr) (dx tb:Option Addr),e=.ref ea/\Inv X pins σ H' s'/\
 cn s'.heap ea (.ref C) dx tb/\(H' ea=none/\X.s₀.heap.get? ea=none)/\(∀ T,tb=some T->H' T=none/\X.s₀.heap.get? T=none)/\E (.ref C) dx H'
section
variable {P:Program}{w:World}{K:ZAY}{mg:ZAa}{base:Heap}{N:List Str}{qual:Str}{scope:Scope}{f:Addr}{cd:Value}{A:Around}{outer:List Env}{s:Shared}{H:Hp}{E:XK}
end
section
variable {X:Cx}{P:Program}{w:World}
def aa.of {pins:ZAZ}{σ:St} {H:Hp}{s s':Shared}{E:XK}{e:Value}(I:Inv X pins σ H s) (hex:X.ex=[]) (h:i7 X.prog X.w X.stack H s E e s'):aa X E e s':=by
 have CO:∀ a,s.heap.get? a=none->X.s₀.heap.get? a=none:=fun a ha=>by
  cases q:X.s₀.heap.get? a with
  | none=>rfl
  | some o=>
   obtain ⟨o1,h1⟩:=I.base.there a o q (by rw [hex];simp)
   rw [ha] at h1;cases h1
 obtain ⟨ea,C,dx,tb,H',rfl,os,bare,un,AF,x,⟨u1,u2⟩,ut,hE⟩:=h
 obtain ⟨hh,g,d,t,X5⟩:=s'
 obtain rfl:X5=s.os:=os
 have I2:=I.call (h':=hh) (g':=g) (d':=d) (t':=t) (ch:=[]) un AF bare (fun b z=>absurd z (by simp))
 refine ⟨pins,σ,H',ea,C,dx,tb,rfl,I2,x,⟨u1,CO _ u2⟩,fun T eT=>⟨(ut T eT).1,CO _ (ut T eT).2⟩,hE⟩
end
section
variable {X:Cx}{x:Str}{C:Addr}{E':St->XK}{np Bc pos:Pos}{e0:Expr}{es:List Expr}{t:TA}{E:XK}
end
section
variable {M:Model}{A:Around}{E:Value->Shared->Prop}{env:Env}
variable {nm qn:Str}{C N:Addr}{bs bm:List Value}{mn:Bool}{sn:List Str}{sub:List Value}{ab:Bool}{col:Option Bool}{dd:Option Addr}{k0 k1 k2 k3 k5:Option Value}{newId:String}
end
section
variable {prog:Program}{w:World}{A:Around}{E:Value->Shared->Prop}{h:Heap}{g:Array GenState}{d:Drawn}{t:Nat}{os:OsState}
variable {nm qn:Str}{C N:Addr}{bs bm bmB:List Value}{mn:Bool}{sn:List Str}{sub:List Value}{ab:Bool}{col:Option Bool}{dd:Option Addr}{k0 k1 k2 k3 k5:Option Value}{B newId ZAN:String}
end
section
variable {prog:Program}{w:World}{A:Around}{E:Value->Shared->Prop}{s:Shared}{K:ZAY}{x C t:Addr}{name:Str}{v:Value}
section
open PySem.Builtin PySem.Builtin.ObjectAttr
end
end
section
variable {X:Cx}{pins:ZAZ}{σ:St} {H:Hp}{s:Shared}
end
section
variable {X:Cx}{e:Expr}{te:TE}{pos p1 p2 p3:Pos}{k1 k2:Nat}{c1 c2:Str}
end
section
variable {X:Cx}{S C fI:Addr}{fld:Str}{ini:Option Value}
end
section
variable {X:Cx}{pins:ZAZ}{σ:St} {H:Hp}{s:Shared}
end
section
variable {X:Cx}{x:Str}{C fI:Addr}{fld par:Str}{E':St->XK}{np Bc pos:Pos}{e0:Expr}{t:TA}{kk:Nat}{fd:FuncData}
end
section
variable {X:Cx}{pins:ZAZ}{σ:St} {H:Hp}{s:Shared}{ea:Addr}{C:Value}{dx tb:Option Addr}
end
section
variable {X:Cx}{pins:ZAZ}{σ:St} {H:Hp}{s:Shared}{ea C:Addr}{dx tb:Option Addr}
end
section
variable {X:Cx}{pins ZAI:ZAZ}{σ:St} {H:Hp}{s:Shared}{ea C:Addr}{dx tb:Option Addr}{xe:Value->Shared->Prop}{e:Value}
end
def Ends.drop (D:Ends) (j:Nat):Ends:=⟨fun σ H=>D.nx (σ.set j none) H,D.rt,fun σ H=>D.bk (σ.set j none) H,fun σ H=>D.ct (σ.set j none) H⟩
section
variable {X:Cx}{x n:Str}{S:Addr}{j:Nat}{body bS:List Stmt}{b0:Stmt}{np MT pos:Pos}{fe:(St->XK)->TS}{th:TS}
end
section
variable {P:Program}{w:World}{K:ZAY}{mg:ZAa}{base:Heap}{x qual:Str}{k:Nat}{ps:List Str}{sp:Sp}{st:Stmt}{f:Addr}{fd:FuncData}
end
section
variable {X:Cx}{x:Str}{j k:Nat}{ps:List Str}{sp:Sp}{p pos:Pos}{e:Expr}{es:List Expr}{t:TA}{E:St->XK}
end
section
variable {P:Program}{w:World}{K:ZAY}{mg:ZAa}{base:Heap}{N:List Str}{qual:Str}{scope:Scope}{f:Addr}{cd:Value}{A:Around}{outer:List Env}{s:Shared}{H:Hp}{E:XK}
end
section
variable {X:Cx}{x n:Str}{S C fI:Addr}{i j k kk:Nat}{ps:List Str}{sp:Sp}{p np Bc MT pos:Pos}{e e0:Expr}{es:List Expr}{t:TA}{E:St->XK}{body bS:List Stmt}{b0:Stmt}{fe:(St->XK)->TS}{th:TS}{fd:FuncData}{fld par:Str}
end
section
variable {prog:Program}{w:World}{A:Around}{E:Value->Shared->Prop}{s:Shared}{K:ZAY}{x C:Addr}{ox:Obj}{od:Option Obj}{name:Str}{fill expr:Bool}{tk:Tok}
end
section
variable {X:Cx}
end
section
variable {X:Cx}{e:Expr}{ta:TE}{f:Str}{pos:Pos}
end
section
variable {X:Cx}
end
end L2
namespace Fz
open L2 Lw
structure Fg (K:ZAY) (a:Addr) (xs:List PV):Prop where
 Im:xs.all flat=true
 sq:∀ H,Ab K H a (xs.map Fz.enc)
 ob:∃ o:Obj,K.lookup a=some o/\o.cls=.type "tuple"
def Fg.of {K:ZAY}{a:Addr}{xs:List PV}{vs:List V}(h:∀ H,Ab K H a vs) (e:xs.map Fz.enc=vs) (f:xs.all flat=true):Fg K a xs:=by
 subst e
 refine ⟨f,h,?_⟩
 rcases h (fun _=>none) with h | ⟨o,A1,n,h1,h2,_⟩
 ·rcases h with h | ⟨_,h⟩
  ·cases h
  ·cases h
 ·exact ⟨o,h1,h2⟩
section
variable [Xw]
variable {E:Ent0}{ss:List Slot}{σ:L2.St} {F H F' H':Hp}{K:ZAY}{ta tb tc te:TE}{k:PV->Prop}{v:V}{tp:Bool}{xs:List PV}{nx:List Slot->Prop}{R:Ak}
end
def aV (ns:List Str) (g:Nat) (ms:List Str):List Str:=(ns.take g).filter (fun x=>decide (x∈ms))++(ns.drop g).filter (fun x=>!decide (x∈ms))
def Uw:Pre:=fun l R=>∃ (ns:List Str),l=[.sq false (ns.map .str)]/\ns.length<=1000/\R=.is fun p=>p=.bl true
def yE {α:Type} (ms:List α) (x:α) (j:Nat):(ms.take j++x :: ms.drop j).Perm (x :: ms):=by
 have h:=ze (a:=x) (l₁:=ms.take j) (l₂:=ms.drop j)
 rwa [HI] at h
def UA {ms:List Str}{x:Str}(j:Nat) (h:ms.Nodup) (hx:x∉ms):(ms.take j++x :: ms.drop j).Nodup:=(yE ms x j).nodup_iff.mpr (List.nodup_cons.mpr ⟨hx,h⟩)
structure Gr where
 n:Nat
 g:Nat
 u:List Str
 ps:List (Str×Str)
def T1 (cs:List Str) (s:Gr) (x:Str):Gr:=
 if x∈cs then ⟨s.n+1,s.g,s.u++[x],s.ps⟩
 else if s.u=[] then ⟨s.n+1,s.n+1,s.u,s.ps⟩
 else ⟨s.n+1,s.g,s.u.dropLast,s.ps++[(s.u.getLastD "", x)]⟩
def gr (cs ns:List Str):Gr:=ns.foldl (T1 cs) ⟨0,0,[],[]⟩
def cC (cs ns:List Str):Nat:=(ns.filter fun x=>decide (x∈cs)).length
def cN (cs ns:List Str):Nat:=(ns.filter fun x=>!decide (x∈cs)).length
def PX (cs ns:List Str) (x:Str):cC cs (ns++[x])=cC cs ns+if x∈cs then 1 else 0:=by
 unfold cC;rw [MI,BK]
 by_cases h:x∈cs <;> simp [h]
def ax (cs ns:List Str) (x:Str):cN cs (ns++[x])=cN cs ns+if x∈cs then 0 else 1:=by
 unfold cN;rw [MI,BK]
 by_cases h:x∈cs <;> simp [h]
structure GI (cs pre:List Str) (s:Gr):Prop where
 hn:s.n=pre.length
 hg:s.g<=pre.length
 fi:s.ps.length=cC cs (pre.take s.g)+cN cs (pre.drop s.g)
 QD:s.ps.length+s.u.length=cC cs pre
 hu:∀ x∈s.u,x∈pre/\x∈cs
 hp:∀ a∈s.ps,(a.1∈pre/\a.1∈cs)/\a.2∈pre/\a.2∉cs
 ord:∀ a∈s.ps,pre.idxOf a.1 < pre.idxOf a.2
 EE:(s.u++s.ps.map Prod.fst).Nodup
 DM:(s.ps.map Prod.snd).Nodup
def Jc {pre:List Str}{x y:Str}(h:y∈pre):(pre++[x]).idxOf y=pre.idxOf y:=by
 rw [zW,if_pos h]
def wN {pre:List Str}{x:Str}(h:x∉pre):(pre++[x]).idxOf x=pre.length:=by
 rw [zW,if_neg h];simp
def yN {u:List Str}(h:u≠[]):u.getLastD "" ∈ u/\u=u.dropLast++[u.getLastD ""]:=by
 have e:u.getLastD "" = u.getLast h:=by
  cases u with
  | nil=>exact absurd rfl h
  | cons a r=>rw [List.getLastD_cons,List.getLast_eq_getLastD]
 rw [e]
 exact ⟨List.getLast_mem h,(gS h).symm⟩
def GI.step {cs pre:List Str}{s:Gr}{x:Str}(I:GI cs pre s) (hx:x∉pre):GI cs (pre++[x]) (T1 cs s x):=by
 have hl:(pre++[x]).length=pre.length+1:=by simp
 have Gd:∀ {y},y∈pre->y∈pre++[x]:=fun h=>Oe _ h
 have cq:x∈pre++[x]:=by simp
 have tk:(pre++[x]).take s.g=pre.take s.g:=zf I.hg
 have dr:(pre++[x]).drop s.g=pre.drop s.g++[x]:=List.drop_append_of_le_length I.hg
 unfold T1
 by_cases c:x∈cs
 ·rw [if_pos c]
  refine ⟨by show s.n+1=_;rw [hl,I.hn],by show s.g<=_;have:=I.hg;omega,?_,?_,?_,fun a ha=>?_,fun a ha=>?_,?_,I.DM⟩
  ·show s.ps.length=_
   rw [tk,dr,ax,if_pos c];exact I.fi
  ·show s.ps.length+(s.u++[x]).length=_
   rw [PX,if_pos c,BK,<- Nat.add_assoc,I.QD];rfl
  ·intro y hy
   rcases List.mem_append.mp hy with h | h
   ·exact ⟨Gd (I.hu y h).1,(I.hu y h).2⟩
   ·have:y=x:=by simpa using h
    rw [this];exact ⟨cq,c⟩
  ·obtain ⟨⟨a1,a2⟩,a3,a4⟩:=I.hp a ha
   exact ⟨⟨Gd a1,a2⟩,Gd a3,a4⟩
  ·obtain ⟨⟨a1,a2⟩,a3,a4⟩:=I.hp a ha
   rw [Jc a1,Jc a3];exact I.ord a ha
  ·show ((s.u++[x])++s.ps.map Prod.fst).Nodup
   have pm:((s.u++[x])++s.ps.map Prod.fst).Perm (x :: (s.u++s.ps.map Prod.fst)):=by
    rw [CH];exact ze
   rw [pm.nodup_iff,List.nodup_cons]
   refine ⟨fun h=>?_,I.EE⟩
   rcases List.mem_append.mp h with h | h
   ·exact hx (I.hu x h).1
   ·obtain ⟨a,ha,e⟩:=List.mem_map.mp h
    exact hx (e▸(I.hp a ha).1.1)
 ·rw [if_neg c]
  by_cases d:s.u=[]
  ·rw [if_pos d]
   refine ⟨by show s.n+1=_;rw [hl,I.hn],by show s.n+1<=_;rw [hl,I.hn];exact Ae _,?_,?_,fun y hy=>?_,fun a ha=>?_,fun a ha=>?_,I.EE,I.DM⟩
   ·show s.ps.length=cC cs ((pre++[x]).take (s.n+1))+cN cs ((pre++[x]).drop (s.n+1))
    rw [I.hn,<- hl,FL,gU,PX,if_neg c]
    have:=I.QD
    rw [d] at this
    simpa [cN] using this
   ·show s.ps.length+s.u.length=_
    rw [PX,if_neg c];exact I.QD
   ·exact ⟨Gd (I.hu y hy).1,(I.hu y hy).2⟩
   ·obtain ⟨⟨a1,a2⟩,a3,a4⟩:=I.hp a ha
    exact ⟨⟨Gd a1,a2⟩,Gd a3,a4⟩
   ·obtain ⟨⟨a1,a2⟩,a3,a4⟩:=I.hp a ha
    rw [Jc a1,Jc a3];exact I.ord a ha
  ·rw [if_neg d]
   obtain ⟨z1,z2⟩:=yN d
   generalize hz:s.u.getLastD "" = z at z1 z2
   have PQ:=I.hu z z1
   have zw:s.u.length=s.u.dropLast.length+1:=by
    have:=congrArg List.length z2
    rwa [BK] at this
   refine ⟨by show s.n+1=_;rw [hl,I.hn],by show s.g<=_;have:=I.hg;omega,?_,?_,fun y hy=>?_,fun a ha=>?_,fun a ha=>?_,?_,?_⟩
   ·show (s.ps++[(z,x)]).length=_
    rw [tk,dr,ax,if_neg c,BK,I.fi,Nat.add_assoc];rfl
   ·show (s.ps++[(z,x)]).length+s.u.dropLast.length=_
    rw [PX,if_neg c,BK]
    have:=I.QD
    simp only [BZ,Od]
    omega
   ·have QH:y∈s.u:=List.dropLast_subset _ hy
    exact ⟨Gd (I.hu y QH).1,(I.hu y QH).2⟩
   ·rcases List.mem_append.mp ha with h | h
    ·obtain ⟨⟨a1,a2⟩,a3,a4⟩:=I.hp a h
     exact ⟨⟨Gd a1,a2⟩,Gd a3,a4⟩
    ·have:a=(z,x):=by simpa using h
     rw [this];exact ⟨⟨Gd PQ.1,PQ.2⟩,cq,c⟩
   ·rcases List.mem_append.mp ha with h | h
    ·obtain ⟨⟨a1,a2⟩,a3,a4⟩:=I.hp a h
     rw [Jc a1,Jc a3];exact I.ord a h
    ·have:a=(z,x):=by simpa using h
     rw [this]
     show (pre++[x]).idxOf z < (pre++[x]).idxOf x
     rw [Jc PQ.1,wN hx]
     exact List.idxOf_lt_length_iff.mpr PQ.1
   ·show (s.u.dropLast++(s.ps++[(z,x)]).map Prod.fst).Nodup
    have pm:(s.u.dropLast++(s.ps++[(z,x)]).map Prod.fst).Perm (s.u++s.ps.map Prod.fst):=by
     rw [DE]
     conv=>rhs;rw [z2]
     rw [CH]
     exact (gi).append_left _
    exact pm.nodup_iff.mpr I.EE
   ·show ((s.ps++[(z,x)]).map Prod.snd).Nodup
    rw [DE]
    refine Hm I.DM fun h=>?_
    obtain ⟨a,ha,e⟩:=List.mem_map.mp h
    have e':a.2=x:=e
    exact hx (e'▸(I.hp a ha).2.1)
def nc (ns cs:List Str) (p:PV):Prop:=∃ ts:List Str,ts.Perm (aV ns (gr cs ns).g cs)/\sortedS ts=true/\p=.tup [.tup [.int ((gr cs ns).g:Nat),.tup (ts.map .str)],.lst ((gr cs ns).ps.map Kz)]
section
variable [Xw]
variable {E:Ent0}{ss:List Slot}{σ:L2.St} {F H F' H':Hp}{K:ZAY}{ta tb tc te:TE}{k:PV->Prop}{v:V}{tp:Bool}{xs:List PV}{nx:List Slot->Prop}{R:Ak}
end
def rv (n:Nat):Nat->Nat
 | 0=>0
 | i+1=>2 * rv n i+n / 2 ^ i % 2
section
variable [Xw]
variable {E:Ent0}{ss:List Slot}{σ:L2.St} {F H F1 F' H':Hp}{K:ZAY}{js:List Nat}{ta tb tc te ti:TE}{nx:List Slot->Prop}{R:Ak}{k:PV->Prop}{xs:List PV}
def tH {sp:Sp}{i:Nat}{ns:List Int}{k:List PV->Prop}(EM:sp=c8) (hi:ss[i]?=some (.raw (Dp K ns))) (h:Wp ss te fun x=>∃ m,x=.int m/\0<=m/\m<=1000/\Wp ss tb fun y=>∃ m2,y=.int m2/\1<=m2/\m2<=100/\∀ rs:List Str,(rs.length:Int)<=m2->(∀ x∈rs,Nm x)->rs.Nodup->k (rs.map PV.str)) :
  Wn ss (CL sp [] E0 (AO (CL (OE K) [] E0 (AO (BM i) (AO te An))) (AO tb An))) k:=⟨fun E σ F H Q S q=>by
 subst EM
 obtain ⟨v,e,⟨a,ev,hq⟩,st⟩:=S.ok i _ hi
 subst ev
 refine ⟨_,e,h.go E σ F H _ S fun v x F1 H1 m1 r ⟨m,em,m0,GG,hw⟩=>?_⟩
 subst em;cases r
 obtain ⟨v',e',O6,_⟩:=m1.st.ok i _ hi
 rw [e] at e';cases e'
 obtain ⟨a',ea,FH⟩:=OT K ns _ F1 H1 m1.st.fh O6
 cases ea
 refine ⟨a,ns,m,rfl,FH,m0,GG,fun p H2 hp s pp=>?_⟩
 have m2:=m1.st.grow s
 refine hw.go E σ F1 H2 _ m2.st fun v2 y F3 H3 m3 r3 ⟨mm,yO,u5,sZ,kk⟩=>?_
 subst yO;cases r3
 have Jx:∀ (j:Nat) s,ss[j]?=some s->¬ B2 s σ[j]? p:=fun j s hj=>m1.st.HU hj hp
 have np:Bs ss σ p:=fun j hj=>Jx j _ hj
 have T9:B3 H3 p:=B3.keep pp fun o eo=>m3.hh p o np eo
 have Tf:F3 p=Option.none:=by
  cases z:F3 p with
  | none=>rfl
  | some o=>
   obtain ⟨_,_,w,_⟩:=pp
   rcases m3.nn p o z with z | z
   ·rw [m1.st.B9 hp] at z;cases z
   ·rw [w] at z;cases z
 refine ⟨p,mm,rfl,T9,u5,sZ,fun l H4 rs hl s4 Bw hz hN nd=>?_⟩
 have Fy:=m1.trans (m2.trans m3)
 have jT:Mv E ss σ F H F3 H4:=by
  refine S.step Fy.ff (fun b o z=>s4.same b o (DA z Tf) (Fy.st.fh b o z)) (fun b o n z=>s4.same b o (fun w=>?_) (Fy.hh b o n z)) Fy.nn fun j l' hj ej=>?_
  ·subst w;rw [m1.none hp] at z;cases z
  ·exact B3.keep (Fy.st.Cp hj ej) fun o z=>s4.same l' o (fun w=>Jx j _ hj (w▸ej)) z
 exact q l _ _ F3 H4 jT (Fy.st.B9 hl) (Fy.none hl) Bw (KQ rs) (kk rs hz hN nd)⟩
def bc {i:Nat}(hi:ss[i]?=some .AK) (h:Wq ss ta fun tp xs=>tp=false/\∃ ns:List Str,xs=ns.map PV.str/\(∀ x∈ns,Nm x)/\ns.length<=1000/\∀ x:Str,Nm x->x∉ns->k (.str x)) :
  Wp ss (CL (WQ K) [] E0 (AO (BM i) (AO ta An))) k:=⟨fun E σ F H Q S q=>by
 obtain ⟨p,e,_⟩:=S.ok i _ hi
 refine ⟨_,e,h.go E σ F H _ S fun v tp xs F1 H1 m1 sv ⟨et,ns,ex,hN,hz,kk⟩=>?_⟩
 subst et;subst ex
 obtain ⟨l,vs,ev,hn,hl,r⟩:=sv
 subst ev
 rw [r.strs] at hl
 exact ⟨p,l,ns,rfl,m1.st.Cp hi e,AJ.of hl,fun z=>hn i hi (z▸e),hN,hz,fun x H3 hx UX s=>q _ _ F1 H3 (m1.trans (m1.st.Ng hi e s)) (.str x) (kk x hx UX)⟩⟩
def Se:Option Str->PV
 | none=>.A5
 | some x=>.str x
end
end Fz
namespace L2
section
variable {X:Cx}
def jw (sep:Str) (ys:List Str):Nat:=(ys.map (·.length)).sum+ys.length * sep.length
def rJoin (K:ZAY):V->List V->Hp->VK->Prop:=fun x xs H Q=>∃ (sep:Str) (p:Addr) (tp:Bool) (ys:List Str),x=.str sep/\xs=[.ref p]/\Ej K tp H p (ys.map V.str)/\jw sep ys<=16777216/\Q (.str (Txt.join sep ys)) H
def kD:List V->Hp->VK->Prop:=fun xs H Q=>(∃ i,xs=[.int i]/\i.natAbs < 2 ^ 1000/\Q (.str (toString i)) H)∨∃ x,xs=[.str x]/\Q (.str x) H
end
end L2
namespace Fz
open L2 Lw
def xV:PV->Str
 | .int i=>toString i
 | .str x=>x
 | _ => ""
def kc:PV->Prop
 | .int i=>i.natAbs < 2 ^ 1000
 | .str _=>True
 | _=>False
section
variable [Xw]
variable {E:Ent0}{ss:List Slot}{σ:L2.St} {F H F' H':Hp}{K:ZAY}{ta tb tc te:TE}{k:PV->Prop}{v:V}{tp:Bool}{xs:List PV}{nx:List Slot->Prop}{R:Ak}
def wx (h:Wp ss te fun p=>kc p/\k (.str (xV p))):Wp ss (C1 kD (AO te An)) k:=⟨fun E σ F H Q S q=>
 h.go E σ F H _ S fun v p F1 H1 m1 r ⟨ok,kk⟩=>by
  cases r with
  | int i=>exact .inl ⟨i,rfl,ok,q _ _ F1 H1 m1 (.str _) kk⟩
  | str x=>exact .inr ⟨x,rfl,q _ _ F1 H1 m1 (.str _) kk⟩
  | _=>exact ok.elim⟩
def rW (h:Wp ss ta fun p=>∃ sep,p=.str sep/\Wq ss tb fun _ ys=>∃ zs:List Str,ys=zs.map PV.str/\jw sep zs<=16777216/\k (.str (Txt.join sep zs))):Wp ss (J8 K "str" (rJoin K) ta (AO tb An)) k:=⟨fun E σ F H Q S q=>
 h.go E σ F H _ S fun v p F1 H1 m1 r1 ⟨sep,e,h2⟩=>by
  subst e;cases r1
  refine ⟨rfl,h2.go E σ F1 H1 _ m1.st fun v2 tp ys F2 H2 m2 sv ⟨zs,e2,hz,kk⟩=>?_⟩
  subst e2
  obtain ⟨l,vs,rfl,hl,r⟩:=sv.seq m2.st
  rw [r.strs] at hl
  exact ⟨sep,l,tp,zs,rfl,rfl,DK.sq hl,hz,q _ _ F2 H2 (m1.trans m2) (.str _) kk⟩⟩
end
@[reducible] def ZAC (X:XK) (D:Ex->Prop):Xw:=⟨fun _=>X,fun _=>True,D⟩
@[reducible] def xwT (E:Ent0) (J:List Slot->Prop) (D:Ex->Prop):Xw:=⟨fun σ C dx H=>∃ ss F x,J ss/\Sg E ss σ F H/\D x/\x.at F C dx,J,D⟩
section
variable [Xw]
variable {E:Ent0}{ss:List Slot}{σ:L2.St} {F H F' H':Hp}{pre:Qd}{t:TA}{te:TE}{k:PV->Prop}{nx:List Slot->Prop}{R:Ak}{K:ZAY}{C S:Addr}{fld:Str}
end
section
variable {pre:Qd}{H:Hp}
end
section
variable {E:Ent0}{ss:List Slot}{σ:L2.St} {F H F' H':Hp}
end
section
variable [Xw]
variable {ss:List Slot}{nx:List Slot->Prop}{R:Ak}{K:ZAY}{S:Addr}{j:Nat}{tb:(L2.St->XK)->TS}{th:TS}
end
section
variable [Xw]
variable {E:Ent0}{ss:List Slot}{σ:L2.St} {F H F' H':Hp}{K:ZAY}{te:TE}{k:PV->Prop}{v:V}{fld:Str}
end
end Fz
namespace L2
section
variable {X:Cx}{x:Str}{C:Addr}{fld:Str}{E:St->XK}{np Bc pos:Pos}{e0:Expr}{t:TA}{j:Nat}
end
end L2
namespace Fz
open L2 Lw
structure Le where
 ns:List Str
 r:Str
 g:Nat
 cs:List Str
structure Ub (e:Le):Prop where
 hz:e.ns.length<=40
 hN:∀ x∈e.ns,Nm x
 nd:e.ns.Nodup
 gd:C5 e.ns e.r e.g e.cs
def Le.led (e:Le) (d:BA):Le:=⟨d.done e.ns,e.r,d.gap e.ns e.g,d.Gk e.r e.g e.cs⟩
theorem Ub.led {e:Le}{d:BA}(h:Ub e) (ok:d.Ok 40 e.ns):Ub (e.led d):=by
 obtain ⟨a,b,c⟩:=BA.step ok h.nd h.hN h.hz
 exact ⟨c,b,a,h.gd.led ok h.nd⟩
def Z2 {α:Type} (f:α->PV) (L:List α) (i:Nat) (e:α):(L.map f).set i (f e)=(L.set i e).map f:=by rw [List.map_set]
def sE {b c n:Int}(hb:1<=b) (hc:b<=c) (hn:0<=n):∃ m:Nat,(if (if c < n then c else n) > b then (if c < n then c else n) else b)=(m:Int)/\(m:Int)<=c:=by
 have h:∀ z:Int,1<=z->z<=c->∃ m:Nat,z=(m:Int)/\(m:Int)<=c:=fun z h0 h1=>⟨z.toNat,by omega,by omega⟩
 apply h
 ·split
  ·omega
  ·omega
 ·split
  ·split <;> omega
  ·omega
section
variable [Xw]
variable {ss:List Slot}{K:ZAY}{ta:TE}{k:PV->Prop}{a:Addr}{ns:List Str}
def Px {neg:Bool}(c:Fg K a (ns.map .str)) (h:Wp ss ta fun p=>∃ x,p=.str x/\k (.bl (if neg then !decide (x∈ns) else decide (x∈ns)))):Wp ss (BH (Iv K neg) ta (tC (.ref a))) k:=⟨fun E σ F H Q S q=>
 h.go E σ F H _ S fun v p F1 H1 m1 r1 ⟨x,e,kk⟩=>by
  subst e;cases r1
  have sq:=c.sq H1
  rw [W8] at sq
  refine ⟨a,ns.map V.str,rfl,.inr sq,rfl,JX ns,?_⟩
  rw [XA]
  exact q _ _ F1 H1 m1 (.bl _) kk⟩
end
def sI (r:Str):Bool:=decide (r∈([("none" : Str), "ahead", "all"]))
def Qr:PV->Bool
 | .A5=>true
 | _=>false
theorem Rep.Qr {F:Hp}{v:V}{p:PV}(r:Rep F v p):decide (v=.A5)=Qr p:=by
 cases r <;> rfl
section
variable [Xw]
variable {ss:List Slot}{ta tb:TE}{k:PV->Prop}
def L7 (h:Wp ss ta fun p=>Wp ss tb fun q=>q=.A5/\k (.bl (!Qr p))):Wp ss (BH (fun x y H Q=>y=.A5/\Q (.bl (!decide (x=.A5))) H) ta tb) k:=⟨fun E σ F H Q S q=>
 h.go E σ F H _ S fun v p F1 H1 m1 r1 h2=>h2.go E σ F1 H1 _ m1.st fun v2 p2 F2 H2 m2 r2 ⟨e,kk⟩=>by
  subst e;cases r2
  refine ⟨rfl,?_⟩
  rw [r1.Qr]
  exact q _ _ F2 H2 (m1.trans m2) (.bl _) kk⟩
end
section
variable [Xw]
variable {ss:List Slot}{K:ZAY}{ta tb te t u:TE}{k:PV->Prop}{pre:Qd}{tA:TA}
def xW (h:Wp ss te fun p=>∃ x,p=.str x/\x.length<=1000/\k (.bl (isNm x))):Wp ss (CL SY [] E0 (AO te An)) k:=⟨fun E σ F H Q S q=>
 h.go E σ F H _ S fun v p F1 H1 m1 r ⟨x,e,hx,kk⟩=>by
  subst e;cases r
  exact ⟨x,rfl,hx,fun H3 s=>q _ _ F1 H3 (m1.trans (m1.st.grow s)) (.bl _) kk⟩⟩
end
def eQ (K:ZAY):List V->Hp->VK->Prop:=fun xs H Q=>∃ p ys,xs=[.ref p]/\(AJ K H p ys∨Ab K H p ys)/\∀ l,H l=none->Q (.ref l) (upd H l (.lst ys))
def xx {X:Cx}:C2 X (.type "list") (eQ X.K):=Ln
section
variable [Xw]
variable {ss:List Slot}{K:ZAY}{ta tb:TE}
end
def D7 (pre:Pre):Sp:=fun vs H Q _=>∃ (ss:List Slot) (R:Ak) (F:Hp) (A B:List Addr),pre ss R/\Sg ⟨A,F,H,B⟩ ss (vs.map some) F H/\∀ v F' H',Fin ⟨A,F,H,B⟩ F' H'->R.ok ⟨A,F,H,B⟩ F' H' v->Q v H'
inductive Fm (F:Hp):List V->List Slot->Prop where
 | nil:Fm F [] []
 | cons {v:V}{p:PV}{vs:List V}{l:List Slot}:Rep F v p->Fm F vs l->Fm F (v :: vs) (.is p :: l)
inductive Fi (σ:L2.St) (F:Hp) (i:Nat) (t:OV):List V->List Slot->Prop where
 | here {v:V}{vs:List V}{l:List Slot}:σ[i]?=some (some v)->Fm F vs l->Fi σ F i t (v :: vs) (.ow true t :: l)
 | there {v:V}{p:PV}{vs:List V}{l:List Slot}:Rep F v p->Fi σ F i t vs l->Fi σ F i t (v :: vs) (.is p :: l)
theorem Fm.mono {F F':Hp}(s:AD F F'):∀ {vs:List V}{l:List Slot},Fm F vs l->Fm F' vs l
 | _,_,.nil=>.nil
 | _,_,.cons r t=>.cons (r.mono s) (t.mono s)
theorem Fi.mono {σ:L2.St} {i:Nat}{t:OV}{F F':Hp}(s:AD F F'):∀ {vs:List V}{l:List Slot},Fi σ F i t vs l->Fi σ F' i t vs l
 | _,_,.here e r=>.here e (r.mono s)
 | _,_,.there r h=>.there (r.mono s) (h.mono s)
theorem Fm.len {F:Hp}:∀ {vs:List V}{l:List Slot},Fm F vs l->l.length=vs.length
 | _,_,.nil=>rfl
 | _,_,.cons _ t=>by rw [BZ,BZ,t.len]
theorem Fi.len {σ:L2.St} {i:Nat}{t:OV}{F:Hp}:∀ {vs:List V}{l:List Slot},Fi σ F i t vs l->l.length=vs.length
 | _,_,.here _ r=>by rw [BZ,BZ,r.len]
 | _,_,.there _ h=>by rw [BZ,BZ,h.len]
theorem Fm.at {F:Hp}:∀ {vs:List V}{l:List Slot},Fm F vs l->∀ {n:Nat}{s:Slot},l[n]?=some s->∃ v p,vs[n]?=some v/\s=.is p/\Rep F v p
 | _,_,.nil,_,_,e=>by simp at e
 | _,_,.cons r _,0,_,e=>by simp at e;subst e;exact ⟨_,_,rfl,rfl,r⟩
 | _,_,.cons _ t,n+1,s,e=>by
  obtain ⟨v,p,h⟩:=t.at (n:=n) (s:=s) (by simpa using e)
  exact ⟨v,p,by simpa using h⟩
theorem Fi.at {σ:L2.St} {i:Nat}{t:OV}{F:Hp}:∀ {vs:List V}{l:List Slot},Fi σ F i t vs l->∃ m:Nat,∀ {n:Nat}{s:Slot},l[n]?=some s->(n=m/\s=.ow true t/\∃ v,vs[n]?=some v/\σ[i]?=some (some v))∨∃ v p,vs[n]?=some v/\s=.is p/\Rep F v p
 | _,_,.here e r=>⟨0,fun {n s} h=>by
  cases n with
  | zero=>simp at h;subst h;exact .inl ⟨rfl,rfl,_,rfl,e⟩
  | succ n=>
   obtain ⟨v,p,q⟩:=r.at (n:=n) (s:=s) (by simpa using h)
   exact .inr ⟨v,p,by simpa using q⟩⟩
 | _,_,.there r h=>by
  obtain ⟨m,hm⟩:=h.at
  refine ⟨m+1,fun {n s} q=>?_⟩
  cases n with
  | zero=>simp at q;subst q;exact .inr ⟨_,_,rfl,rfl,r⟩
  | succ n=>
   rcases hm (n:=n) (s:=s) (by simpa using q) with ⟨e,es,v,hv⟩ | ⟨v,p,hv⟩
   ·exact .inl ⟨by rw [e],es,v,by simpa using hv⟩
   ·exact .inr ⟨v,p,by simpa using hv⟩
structure L3 (E:Ent0) (ss:List Slot) (σ:L2.St) (i:Nat) (lt:Bool) (t t':OV) (F H F' H':Hp):Prop where
 st:Sg E (ss.set i (.ow lt t')) σ F' H'
 ff:AD F F'
 hh:∀ a o,Bs ss σ a->a∉t.addrs->H a=some o->H' a=some o
 nn:∀ a o,F' a=some o->F a=some o∨H a=none
structure Mn [Xw] (ss:List Slot) (ta:TA) (k:List Slot->Prop):Prop where
 go:∀ (E:Ent) (σ:L2.St) (F H:Hp) (Q:List V->Hp->Prop),Sg E ss σ F H->(∀ vs l F' H',Mv E ss σ F H F' H'->Fm F' vs l->k l->Q vs H')->ta σ H Q
structure N2 [Xw] (ss:List Slot) (i:Nat) (t:OV) (ta:TA) (k:List Slot->Prop):Prop where
 go:∀ (E:Ent) (σ:L2.St) (F H:Hp) (Q:List V->Hp->Prop),Sg E ss σ F H->(∀ vs l F' H',Mv E ss σ F H F' H'->Fi σ F' i t vs l->k l->Q vs H')->ta σ H Q
structure Wm [Xw] (ss:List Slot) (i:Nat) (lt:Bool) (t:OV) (te:TE) (k:PV->OV->Prop):Prop where
 go:∀ (E:Ent) (σ:L2.St) (F H:Hp) (Q:VK),Sg E ss σ F H->(∀ v p t' F' H',L3 E ss σ i lt t t' F H F' H'->Rep F' v p->k p t'->Q v H')->te σ H Q
section
variable {E:Ent0}{ss:List Slot}{σ:L2.St} {F H F' H':Hp}
def L3.of {i:Nat}{lt:Bool}{t:OV}(hi:ss[i]?=some (.ow lt t)) (m:Mv E ss σ F H F' H'):L3 E ss σ i lt t t F H F' H':=⟨by
 rw [show ss.set i (.ow lt t)=ss from by
  apply zS
  intro n
  by_cases q:i=n
  ·subst q;rw [CS (List.getElem?_eq_some_iff.mp hi).1,hi]
  ·rw [CB q]]
 exact m.st,m.ff,fun a o n _ e=>m.hh a o n e,m.nn⟩
def Sg.V4 {i:Nat}{lt:Bool}{t:OV}(S:Sg E ss σ F H) (hi:ss[i]?=some (.ow lt t)){vs:List V}{l:List Slot}(a:Fi σ F i t vs l):Sg ⟨[],F,H,t.addrs⟩ l (vs.map some) F H:=by
 obtain ⟨v0,e0,r0,Cg,q0⟩:=S.ok i _ hi
 have nn:∀ {p:Prop}(a:Addr),a∈([]:List Addr)->p:=fun a h=>absurd h Ai
 obtain ⟨m,hm⟩:=a.at
 refine ⟨⟨S.fh,AD.refl _,fun _ _ _ e=>e,fun _ _ e=>.inl e,fun a h=>nn a h,fun a h=>nn a h,fun a h=>nn a h,fun a h=>(q0 a h).1,fun a h=>r0.there a h,fun a h=>⟨r0.there a h,Ai⟩⟩,by rw [AE];exact a.len,fun n s hn=>?_,fun n j s u b nq hn hj ms mu=>?_⟩
 ·rcases hm hn with ⟨_,rfl,v,hv,ev⟩ | ⟨v,p,hv,rfl,r⟩
  ·rw [Ag,hv]
   rw [e0] at ev;cases ev
   exact ⟨v0,rfl,r0,Cg,fun a ha=>⟨(q0 a ha).1,.inr ⟨rfl,ha⟩⟩⟩
  ·rw [Ag,hv]
   exact ⟨v,rfl,r⟩
 ·rcases hm hn with ⟨e1,rfl,_⟩ | ⟨_,_,_,rfl,_⟩
  ·rcases hm hj with ⟨e2,rfl,_⟩ | ⟨_,_,_,rfl,_⟩
   ·exact nq (e1.trans e2.symm)
   ·cases mu
  ·cases ms
def Sg.YH {i:Nat}{lt:Bool}{nk Gu:NK}{a0:Addr}{us Ba:List OV}(S:Sg E ss σ F H) (hi:ss[i]?=some (.ow lt (.nd nk a0 us))) (f:Fin ⟨[],F,H,(OV.nd nk a0 us).addrs⟩ F' H') (r:As F' H' (.ref a0) (.nd Gu a0 Ba)) (nd:(OV.nd Gu a0 Ba).addrs.Nodup) (q:∀ a∈(OV.nd Gu a0 Ba).addrs,F' a=none/\(H a=none∨a∈(OV.nd nk a0 us).addrs)) :
  L3 E ss σ i lt (.nd nk a0 us) (.nd Gu a0 Ba) F H F' H':=by
 obtain ⟨v0,e0,r0,Cg,q0⟩:=S.ok i _ hi
 have ev:v0=.ref a0:=by cases r0;rfl
 subst ev
 have AN:i < ss.length:=(List.getElem?_eq_some_iff.mp hi).1
 have kp:∀ a o,a∉(OV.nd nk a0 us).addrs->H a=some o->H' a=some o:=fun a o n e=>f.keep a o ⟨Ai,n⟩ e
 have B9:∀ a,H a≠none->F a=none->F' a=none:=fun a h1 h2=>by
  cases e:F' a with
  | none=>rfl
  | some o=>
   rcases f.fresh a o e with z | z
   ·rw [show F a=some o from z] at h2;cases h2
   ·exact absurd z h1
 have X1:∀ a,a∈E.A->a∉(OV.nd nk a0 us).addrs:=fun a hA hm=>by
  rcases (q0 a hm).2 with z | ⟨_,z⟩
  ·exact S.a0 a hA z
  ·exact (S.b0 a z).2 hA
 have other:∀ (j:Nat) s,j≠i->ss[j]?=some s->∀ a,B2 s σ[j]? a->a∉(OV.nd nk a0 us).addrs:=fun j s hj hs a ho hm=>S.Bg j i s _ a hj hs hi ho hm
 refine ⟨⟨⟨f.fh,S.f0.trans f.f0,fun a o hA e=>?_,fun a o e=>?_,fun a hA=>?_,fun a hA=>?_,S.a0,fun a hB=>?_,fun a hB=>?_,S.b0⟩,by rw [HG];exact S.len,fun j s hj=>?_,fun j k s u b Lb hj hk ms mu=>?_⟩,f.f0,fun a o _ n e=>kp a o n e,fun a o e=>f.fresh a o e⟩
 ·refine kp a o (fun hm=>?_) (S.keep a o hA e)
  rcases (q0 a hm).2 with z | ⟨_,z⟩
  ·rw [e] at z;cases z
  ·exact hA.2 z
 ·rcases f.fresh a o e with z | z
  ·exact S.fresh a o z
  ·exact .inr (S.CO z)
 ·exact B3.keep (S.FV a hA) fun o e=>kp a o (X1 a hA) e
 ·obtain ⟨_,_,e1,_⟩:=S.FV a hA
  exact B9 a (by rw [e1];simp) (S.Lo a hA)
 ·exact B9 a (S.bH a hB) (S.bF a hB)
 ·by_cases hm:a∈(OV.nd nk a0 us).addrs
  ·exact f.bH a hm
  ·intro z
   cases e:H a with
   | none=>exact S.bH a hB e
   | some o=>rw [kp a o hm e] at z;cases z
 ·by_cases c:j=i
  ·subst c
   rw [CS AN] at hj
   cases hj
   refine ⟨.ref a0,e0,r,nd,fun a ha=>⟨(q a ha).1,?_⟩⟩
   rcases (q a ha).2 with z | z
   ·exact .inl (S.CO z)
   ·exact (q0 a z).2
  ·rw [CB (Bi c)] at hj
   by_cases np:s=.AK
   ·subst np
    obtain ⟨l,e,fl,hl,pt⟩:=S.ok j _ hj
    obtain ⟨_,_,e1,_⟩:=id pt
    exact ⟨l,e,B9 l (by rw [e1];simp) fl,hl,B3.keep pt fun o z=>kp l o (other j _ c hj l e) z⟩
   ·exact Ok.go S hj f.f0 (fun a o ho e=>kp a o (other j s c hj a ho) e) B9 np
 ·have at_:∀ (n:Nat) s,(ss.set i (.ow lt (.nd Gu a0 Ba)))[n]?=some s->(n=i/\s=.ow lt (.nd Gu a0 Ba))∨(n≠i/\ss[n]?=some s):=fun n s hn=>by
   by_cases c:n=i
   ·subst c;rw [CS AN] at hn;exact .inl ⟨rfl,(BG hn).symm⟩
   ·rw [CB (Bi c)] at hn;exact .inr ⟨c,hn⟩
  have bw:∀ (n:Nat) s,n≠i->ss[n]?=some s->B2 s σ[n]? b->b∉(OV.nd Gu a0 Ba).addrs:=fun n s hn hs ho hm=>by
   rcases (q b hm).2 with z | z
   ·exact S.DQ hs ho z
   ·exact other n s hn hs b ho z
  rcases at_ j s hj with ⟨e1,rfl⟩ | ⟨n1,h1⟩
  ·rcases at_ k u hk with ⟨e2,rfl⟩ | ⟨n2,h2⟩
   ·exact Lb (e1.trans e2.symm)
   ·exact bw k u n2 h2 mu ms
  ·rcases at_ k u hk with ⟨e2,rfl⟩ | ⟨n2,h2⟩
   ·exact bw j s n1 h1 ms mu
   ·exact S.Bg j k s u b Lb h1 h2 ms mu
end
section
variable [Xw]
variable {ss:List Slot}{te:TE}{ta:TA}{i:Nat}{lt:Bool}{t:OV}{nx:List Slot->Prop}{R:Ak}
def JT {k:List Slot->Prop}(h:k []):Mn ss An k:=⟨fun E σ F H Q S q=>q [] [] F H (Mv.refl S) .nil h⟩
def yP {k:List Slot->Prop}(h:Wp ss te fun p=>Mn ss ta fun l=>k (.is p :: l)):Mn ss (AO te ta) k:=⟨fun E σ F H Q S q=>
 h.go E σ F H _ S fun v p F1 H1 m1 r h2=>h2.go E σ F1 H1 _ m1.st fun vs l F2 H2 m2 a kk=>q _ _ F2 H2 (m1.trans m2) (.cons (r.mono m2.ff) a) kk⟩
def La {k:List Slot->Prop}(hi:ss[i]?=some (.ow lt t)) (h:Mn ss ta fun l=>k (.ow true t :: l)):N2 ss i t (AO (BM i) ta) k:=⟨fun E σ F H Q S q=>by
 obtain ⟨v0,e0,_⟩:=S.ok i _ hi
 exact ⟨_,e0,h.go E σ F H _ S fun vs l F2 H2 m2 a kk=>q _ _ F2 H2 m2 (.here e0 a) kk⟩⟩
def DX {k:List Slot->Prop}(h:Wp ss te fun p=>N2 ss i t ta fun l=>k (.is p :: l)):N2 ss i t (AO te ta) k:=⟨fun E σ F H Q S q=>
 h.go E σ F H _ S fun v p F1 H1 m1 r h2=>h2.go E σ F1 H1 _ m1.st fun vs l F2 H2 m2 a kk=>q _ _ F2 H2 (m1.trans m2) (.there (r.mono m2.ff) a) kk⟩
def Mv.xX {E:Ent0}{σ:L2.St} {F H F1 H1 F2 H2:Hp}{t':OV}(hi:ss[i]?=some (.ow lt t)) (a:Mv E ss σ F H F1 H1) (b:L3 E ss σ i lt t t' F1 H1 F2 H2):L3 E ss σ i lt t t' F H F2 H2:=
 ⟨b.st,a.ff.trans b.ff,fun c o n z e=>b.hh c o n z (a.hh c o n e),fun c o e=>(b.nn c o e).elim (fun e=>a.nn c o e) fun e=>.inr (a.none e)⟩
def R9 {pre:Pre}{nk:NK}{a0:Addr}{us:List OV}{k:PV->OV->Prop}(hi:ss[i]?=some (.ow lt (.nd nk a0 us))) (h:N2 ss i (.nd nk a0 us) ta fun l=>∃ k',pre l (.mt k')/\∀ p t',k' p t'->∃ Gu Ba,t'=.nd Gu a0 Ba/\k p t'):Wm ss i lt (.nd nk a0 us) (CL (D7 pre) [] E0 ta) k:=⟨fun E σ F H Q S q=>
 h.go E σ F H _ S fun vs l F1 H1 m1 a ⟨k',hp,kk⟩=>by
  rw [E9]
  refine ⟨l,.mt k',F1,[],(OV.nd nk a0 us).addrs,hp,m1.st.V4 hi a,fun v F' H' f ⟨p,t',r,ro,nd,qa,kp⟩=>?_⟩
  obtain ⟨Gu,Ba,rfl,k2⟩:=kk p t' kp
  exact q v p _ F' H' (m1.xX hi (m1.st.YH hi f ro nd qa)) r k2⟩
def ai (h:Wm ss i lt t te fun _ t'=>nx (ss.set i (.ow lt t'))):Ws ss (GY te) nx R:=⟨fun E D σ F H S hn hr=>
 h.go E σ F H _ S fun v p t' F1 H1 m1 r kk=>hn _ σ F1 H1 kk m1.st m1.ff⟩
def dq {j:Nat}(h:Wm ss i lt t te fun p t'=>nx ((ss.set i (.ow lt t')).set j (.is p))):Ws ss (E8 te (CV j)) nx R:=⟨fun E D σ F H S hn hr=>
 h.go E σ F H _ S fun v p t' F1 H1 m1 r kk=>hn _ _ F1 H1 kk (m1.st.Ga r) m1.ff⟩
def Zg {nk:NK}{a0:Addr}{us:List OV}{k:PV->OV->Prop}(hi:ss[i]?=some (.ow lt (.nd nk a0 us))) (h:Wp ss te fun p=>k p (.nd nk a0 us)):Ws ss (KL te) nx (.mt k):=⟨fun E D σ F H S hn hr=>
 h.go E σ F H _ S fun v p F1 H1 m1 r kk=>by
  obtain ⟨v0,e0,r0,Cg,q0⟩:=m1.st.ok i _ hi
  have ev:v0=.ref a0:=by cases r0;rfl
  subst ev
  exact hr v F1 H1 m1.st.toFin ⟨p,.nd nk a0 us,r,r0,Cg,fun a ha=>⟨(q0 a ha).1,(q0 a ha).2.imp id fun z=>z.2⟩,kk⟩⟩
end
section
variable {pre:Pre}{H:Hp}
def pX {N:List Str}{n:Nat}{vs:List V}{Q:VK}{X:XK}{t:TS}(h:D7 pre vs H Q X) (hl:∀ ss R,pre ss R->ss.length=n)
  (hw:∀ ss R,pre ss R->Ws (ss++List.replicate (N.length - n) .any) t (fun _=>False) R):t { nx:=fun _ H'=>Q .A5 H',rt:=Q } (L2.start N vs) H:=by
 obtain ⟨ss,R,F,A,B,hp,S,q⟩:=h
 have e:vs.length=n:=by have:=S.len;rw [AE] at this;rw [<- this];exact hl ss R hp
 unfold L2.start
 rw [e]
 exact (hw ss R hp).go (OC ⟨A,F,H,B⟩) _ _ F H (S.grown _) (fun A8 σ' F' H' z S' _=>z.elim) fun v F' H' f ok=>q v F' H' f ok
def VW {n:Nat}{vs:List V}{Q:VK}{X:XK}(hl:∀ ss R,pre ss R->ss.length=n) (h:D7 pre vs H Q X):vs.length=n:=by
 obtain ⟨ss,R,F,A,B,hp,S,q⟩:=h
 have:=S.len
 rw [AE] at this
 rw [<- this];exact hl ss R hp
end
section
variable {E:Ent0}{ss:List Slot}{σ:L2.St} {F H F' H':Hp}{j:Nat}{u:OV}
end
section
variable [Xw]
variable {ss:List Slot}{te:TE}{i j:Nat}{lt:Bool}{t u:OV}
end
end Fz
namespace L2
section
variable {X:Cx}{o i value:Expr}{td ty tv:TE}{pos pos':Pos}
def Mu (hu:X.A.units+1 < cLine) (ho:QE X o td) (hi:QE X i ty) (hs:Sf i):QE X (.Subscript o i pos) (Wf td ty):=⟨yG hu ho.h hi.h hs⟩
def Ol (hu:X.A.units+1 < cLine) (ho:QE X o td) (hi:QE X i ty) (hv:QE X value tv) (hs:swapsWith value (some (.Subscript o i pos')) pos.line X.env=pure false:=by rfl) :
  QS X (.Assign [.Subscript o i pos'] value pos) (UE td ty tv):=⟨x8 hu ho.h hi.h hv.h hs⟩
def Rc:QE X (.Dict [] [] pos) SR:=⟨uu⟩
end
end L2
namespace Fz
open L2 Lw
def Hr:Key->PV
 | .inl i=>.int i
 | .inr x=>.str x
def HC:List Key->List PV->Key->Option PV
 | k' :: ks,x :: xs,k=>if k'=k then some x else HC ks xs k
 | _,_,_=>none
def FR (ks:List Key) (k:Key):Bool:=ks.any fun k'=>decide (k'=k)
def KC (ks:List Key) (k:Key):List Key:=if FR ks k=true then ks else ks++[k]
def Mw {F:Hp}{v:V}{k:Key}(r:Rep F v (Hr k)):v=kV k:=by
 cases k with
 | inl i=>cases r;rfl
 | inr x=>cases r;rfl
theorem cu {F:Hp}{k:Key}{y:PV}:∀ {ks:List Key}{vs:List V}{xs:List PV},AG F vs xs->ks.length=vs.length->HC ks xs k=some y->∃ v,DU (ks.zip vs) k=some v/\Rep F v y
 | [],_,_,_,_,h=>by rw [HC] at h;cases h;all_goals simp
 | k' :: ks,v :: vs,x :: xs,.cons r t,hl,h=>by
  rw [HC] at h
  rw [Kr]
  by_cases c:k'=k
  ·rw [if_pos c] at h
   cases h
   exact ⟨v,OH c,r⟩
  ·rw [if_neg c] at h
   obtain ⟨w,h1,h2⟩:=cu t (by simpa using hl) h
   exact ⟨w,by rw [Nj c];exact h1,h2⟩
 | k' :: ks,[],xs,_,hl,_=>by simp at hl
section
variable [Xw]
variable {ss:List Slot}{td ty tv:TE}{k:PV->Prop}{nx:List Slot->Prop}{R:Ak}{i:Nat}{lt:Bool}
def NH (h:Wp ss td fun p=>∃ ks xs,p=.Ap ks xs/\Wp ss ty fun q=>∃ key y,q=Hr key/\HC ks xs key=some y/\k y):Wp ss (Wf td ty) k:=⟨fun E σ F H Q S q=>
 h.go E σ F H _ S fun v p F1 H1 m1 r1 ⟨ks,xs,e,h2⟩=>h2.go E σ F1 H1 _ m1.st fun v2 p2 F2 H2 m2 r2 ⟨key,y,e2,hy,kk⟩=>by
  subst e;subst e2
  have K8:=r1.mono m2.ff
  cases K8 with
  | Ap ef hl rr=>
   obtain ⟨w,hw,rw_⟩:=cu rr hl hy
   refine ⟨_,w,rfl,?_,q w y F2 H2 (m1.trans m2) rw_ kk⟩
   rw [<- hw,Mw r2]
   exact Es.k (m2.st.fh _ _ ef)⟩
def PB {k:List Nat->OV->Prop}(h:∀ a,k [] (.nd (.Ap []) a (([]:List PV).map .fz))):Wx ss SR k:=⟨fun E σ F H Q S q p hp=>by
 have m:=S.make hp (.dK [])
 refine q _ [] (.nd (.Ap []) p (([]:List PV).map .fz)) F _ m (.nd (k:=.Ap []) (vs:=[]) Aa trivial rfl .nil) (by rw [OV.Cf];simp [NK.more,OV.Ep]) (fun a ha=>?_) (h p)
 rw [OV.Cf] at ha
 have e:a=p:=by simpa [NK.more,OV.Ep] using ha
 subst e
 exact ⟨S.B9 hp,S.CO hp,.inr hp⟩⟩
theorem Ur:∀ {ks:List Key}{vs:List V}{key:Key},ks.length=vs.length->(ks.zip vs).any (fun kv=>decide (kv.1=key))=FR ks key
 | [],vs,key,h=>rfl
 | k' :: ks,w :: vs,key,h=>by
  rw [Kr,MH,Ur (by simpa using h)]
  rfl
 | _ :: _,[],_,h=>by simp at h
def GA:List Key->List V->Key->V->List V
 | k' :: ks,x :: xs,k,p=>(if k'=k then p else x) :: GA ks xs k p
 | _,xs,_,_=>xs
theorem Y0:∀ {ks:List Key}{vs:List V}{key:Key}{v:V},(ks.zip vs).map (fun kv=>if kv.1=key then (kv.1,v) else kv)=ks.zip (GA ks vs key v)
 | [],vs,key,v=>by simp
 | k' :: ks,w :: vs,key,v=>by
  rw [Kr,BL,Y0,GA,Kr]
  by_cases c:k'=key
  ·rw [if_pos c,if_pos c]
  ·rw [if_neg c,if_neg c]
 | _ :: _,[],_,_=>by simp [GA]
end
def Eg:List Key->Key->Option Nat
 | [],_=>none
 | k' :: ks,k=>if k'=k then some 0 else (Eg ks k).map (· + 1)
theorem eN:∀ {ks:List Key}{key:Key}{n:Nat},Eg ks key=some n->ks[n]?=some key
 | [],_,_,h=>by cases h
 | k' :: ks,key,n,h=>by
  rw [Eg] at h
  by_cases c:k'=key
  ·rw [if_pos c] at h;cases h;subst c;rfl
  ·rw [if_neg c] at h
   cases e:Eg ks key with
   | none=>rw [e] at h;cases h
   | some m=>rw [e] at h;cases h;exact eN (ks:=ks) e
theorem SA:∀ {ks:List Key}{key:Key},(Eg ks key).isSome=FR ks key
 | [],_=>rfl
 | k' :: ks,key=>by
  rw [Eg]
  unfold FR
  rw [MH]
  by_cases c:k'=key
  ·rw [if_pos c,decide_eq_true c];rfl
  ·rw [if_neg c,decide_eq_false c,Bool.false_or,Xv,SA];rfl
def UQ {ks:List Key}{vs:List V}{key:Key}(hl:ks.length=vs.length):(DU (ks.zip vs) key).isSome=FR ks key:=by
 rw [<- QR,Ur hl]
theorem fS:∀ {ks:List Key}{vs:List V}{key:Key}{n:Nat}{v:V},ks.Nodup->Eg ks key=some n->GA ks vs key v=vs.set n v
 | [],_,_,_,_,_,h=>by cases h
 | k' :: ks,[],key,n,v,_,h=>by rw [GA];simp;simp
 | k' :: ks,w :: vs,key,n,v,nd,h=>by
  rw [Eg] at h
  obtain ⟨n1,n2⟩:=List.nodup_cons.mp nd
  rw [GA]
  by_cases c:k'=key
  ·rw [if_pos c] at h;cases h
   rw [if_pos c,Xo]
   congr 1
   subst c
   have aux:∀ {ks:List Key}{vs:List V},k'∉ks->GA ks vs k' v=vs:=by
    intro ks
    induction ks with
    | nil=>intro vs _;rw [GA];simp
    | cons k2 ks ih=>
     intro vs hn
     cases vs with
     | nil=>rw [GA];simp
     | cons u vs=>
      rw [GA,if_neg (fun z=>hn (by rw [z];simp)),ih (fun z=>hn (by simp [z]))]
   exact aux n1
  ·rw [if_neg c] at h
   cases e:Eg ks key with
   | none=>rw [e] at h;cases h
   | some m=>
    rw [e] at h;cases h
    rw [if_neg c,Rq,fS n2 e]
section
variable [Xw]
variable {ss:List Slot}{ta td ty tv:TE}{k:PV->Prop}{nx:List Slot->Prop}{R:Ak}{i:Nat}{t:OV}
def aQ (h:Wp ss ty fun q=>Wl ss i t td fun _ u=>∃ ks a us key,u=.nd (.Ap ks) a us/\q=Hr key/\k (.bl (FR ks key))):Wp ss (P4 ty td) k:=⟨fun E σ F H Q S q=>
 h.go E σ F H _ S fun v p F1 H1 m1 r1 h2=>h2.go E σ F1 H1 _ m1.st fun v2 p2 u F2 H2 m2 r2 Bx ⟨ks,a,us,key,eu,eq,kk⟩=>by
  subst eu;subst eq
  cases r2 with
  | @nd _ _ vs _ ha sd ft rr=>
   refine ⟨a,DU (ks.zip vs) key,rfl,by rw [Mw r1];exact Es.k ha,?_⟩
   rw [UQ ft]
   exact q _ _ F2 H2 (m1.trans m2) (.bl _) kk⟩
def my (h:Wp ss ty fun q=>Wp ss td fun u=>∃ ks xs key,u=.Ap ks xs/\q=Hr key/\k (.bl (FR ks key))):Wp ss (P4 ty td) k:=⟨fun E σ F H Q S q=>
 h.go E σ F H _ S fun v p F1 H1 m1 r1 h2=>h2.go E σ F1 H1 _ m1.st fun v2 u F2 H2 m2 r2 ⟨ks,xs,key,eu,eq,kk⟩=>by
  subst eu;subst eq
  cases r2 with
  | @Ap a _ vs _ ef hl rr=>
   refine ⟨a,DU (ks.zip vs) key,rfl,by rw [Mw r1];exact Es.k (m2.st.fh _ _ ef),?_⟩
   rw [UQ hl]
   exact q _ _ F2 H2 (m1.trans m2) (.bl _) kk⟩
def j8 (h:Wp ss ty fun q=>Wp ss td fun u=>∃ ks xs key,u=.Ap ks xs/\q=Hr key/\k (.bl (!FR ks key))):Wp ss (U4 ty td) k:=⟨fun E σ F H Q S q=>
 h.go E σ F H _ S fun v p F1 H1 m1 r1 h2=>h2.go E σ F1 H1 _ m1.st fun v2 u F2 H2 m2 r2 ⟨ks,xs,key,eu,eq,kk⟩=>by
  subst eu;subst eq
  cases r2 with
  | @Ap a _ vs _ ef hl rr=>
   refine ⟨a,DU (ks.zip vs) key,rfl,by rw [Mw r1];exact Es.k (m2.st.fh _ _ ef),?_⟩
   rw [UQ hl]
   exact q _ _ F2 H2 (m1.trans m2) (.bl _) kk⟩
def LS {ks:List Key}{a:Addr}{us:List OV}:(OV.nd (.Ap ks) a us).addrs=a :: OV.AU us:=by rw [OV.Cf];rfl
def YJ {lt:Bool}:∀ (m:List Nat) (ss:List Slot),ss[i]?=some (.ow lt t)->i∉m->(Fz.D9 m ss)[i]?=some (.ow lt t):=by
 intro m
 induction m with
 | nil=>intro ss h _;exact h
 | cons j m ih=>
  intro ss h hm
  refine ih _ ?_ fun z=>hm (by simp [z])
  rw [CB (by rintro rfl;exact hm (by simp))];exact h
def Sg.rl {lt:Bool}{E:Ent0}{σ:L2.St} {F0 F H0 H:Hp}{p:List Nat}{a:Addr}{ks Qo:List Key}{us Ba:List OV}{Bk:List V}{m:List Nat}{u:OV}(S0:Sg E ss σ F0 H0) (S:Sg E ss σ F H) (hi:ss[i]?=some (.ow lt t)) (Bx:t.at p=some (.nd (.Ap ks) a us))
  (hu:∀ a∈u.addrs,F a=none/\E.H0 a=none/\((∃ i∈m,∃ s,s≠Slot.AK/\ss[i]?=some s/\B2 s σ[i]? a)∨H0 a=none)) (Dm:i∉m)
  (hr:Af F H Bk Ba) (hl:Qo.length=Bk.length) (O0:(OV.AU Ba).Nodup) (Hx:∀ b∈OV.AU Ba,b∈OV.AU us∨b∈u.addrs):Sg E ((Fz.D9 m ss).set i (.ow lt (t.put p (.nd (.Ap Qo) a Ba)))) σ F (upd H a (.dK (Qo.zip Bk))):=by
 have C0:=YJ m ss hi Dm
 obtain ⟨v,e,r,nd,q⟩:=S.ok i _ hi
 have ut:∀ b,b∈a :: OV.AU us->b∈t.addrs:=fun b hb=>OV.J1 Bx b (by rw [LS];exact hb)
 have LP:∀ b∈u.addrs,b∉t.addrs:=fun b hb z=>by
  rcases (hu b hb).2.2 with ⟨j,hj,s,_,hs,o⟩ | w
  ·exact S.Bg j i s _ b (by rintro rfl;exact Dm hj) hs hi o z
  ·exact S0.DQ hi z w
 have DW:(OV.nd (.Ap ks) a us).addrs.Nodup:=by
  obtain ⟨l,rr,e1,_⟩:=OV.split Bx
  rw [e1,CI,CI] at nd
  exact nd.1.2.1
 rw [LS] at DW
 have na:∀ b∈OV.AU Ba,b≠a:=fun b hb z=>by
  subst z
  rcases Hx b hb with w | w
  ·exact (List.nodup_cons.mp DW).1 w
  ·exact LP b w (ut b (by simp))
 refine (S.D9 m).WN C0 Bx (.nd (k:=.Ap Qo) Aa trivial hl (hr.mono (AD.refl _) fun b hb o ho=>by rw [AR (na b hb)];exact ho)) (by rw [LS];exact List.nodup_cons.mpr ⟨fun z=>na a z rfl,O0⟩) fun b hb=>?_
 rw [LS] at hb ⊢
 rcases List.mem_cons.mp hb with w | w
 ·exact .inl (by simp [w])
 ·rcases Hx b w with z | z
  ·exact .inl (by simp [z])
  ·refine .inr ⟨(hu b z).1,(hu b z).2.1,fun j s hs o=>?_⟩
   rcases N9 hs with y | ⟨EG,hm⟩
   ·subst y;cases o
   ·rcases (hu b z).2.2 with ⟨i2,Ft,s2,_,CD,o2⟩ | y
    ·exact S.Bg j i2 s s2 b (by rintro rfl;exact hm Ft) EG CD o o2
    ·exact S0.DQ EG o y
def IP (ks:List Key) (us:List OV) (key:Key) (w:OV):List OV:=match Eg ks key with
 | some n=>us.set n w
 | none=>us++[w]
def Pu (h:Wx ss tv fun m w=>Wl ss i t td fun p u=>∃ lt a ks us,ss[i]?=some (.ow lt t)/\u=.nd (.Ap ks) a us/\us.length<=99999/\ks.Nodup/\i∉m/\Wp ss ty fun q=>∃ key,q=Hr key/\nx ((Fz.D9 m ss).set i (.ow lt (t.put p (.nd (.Ap (KC ks key)) a (IP ks us key w)))))):Ws ss (UE td ty tv) nx R:=⟨fun E D σ F H S hn hr=>
 h.go E σ F H _ S fun v m w F1 H1 m1 r1 EE a1 h2=>h2.go E σ F1 H1 _ m1.st fun v2 p u F2 H2 m2 r2 Bx ⟨lt,a,ks,us,hi,eu,hz,hk,Dm,h3⟩=>h3.go E σ F2 H2 _ m2.st fun v3 q F3 H3 m3 r3 ⟨key,eq,kk⟩=>by
  subst eu;subst eq
  have ev:v2=.ref a:=by cases r2;rfl
  subst ev
  have J2:=m2.trans m3
  have np:∀ b∈w.addrs,Bs ss σ b:=fun b hb k hk ek=>by
   rcases (a1 b hb).2.2 with ⟨j,hj,s,hs,NU,o⟩ | z
   ·exact S.Bg j k s _ b (fun e=>by subst e;rw [NU] at hk;exact hs (BG hk)) NU hk o ek
   ·exact S.DQ hk ek z
  have K8:As F3 H3 v w:=r1.mono J2.ff fun b hb o e=>J2.hh b o (np b hb) e
  have SO:∀ b∈w.addrs,F3 b=none/\E.H0 b=none/\((∃ i∈m,∃ s,s≠Slot.AK/\ss[i]?=some s/\B2 s σ[i]? b)∨H b=none):=fun b hb=>by
   refine ⟨?_,(a1 b hb).2⟩
   cases e:F3 b with
   | none=>rfl
   | some o=>
    rcases J2.nn b o e with z | z
    ·rw [(a1 b hb).1] at z;cases z
    ·exact absurd z (r1.there b hb)
  have r4:=r2.mv m2.st ⟨lt,hi⟩ Bx m3
  cases r4 with
  | @nd _ _ vs _ ha sd ft rr=>
   have Ku:ks.length=vs.length:=ft
   have vl:=rr.length
   have il:(ks.zip vs).length<=99999:=by rw [Xj];omega
   refine ⟨a,_,rfl,by rw [Mw r3];exact MR.k ha (J9 il),?_⟩
   obtain ⟨v0,e0,r0,Cg,q0⟩:=m3.st.ok i _ hi
   have DW:(OV.nd (.Ap ks) a us).addrs.Nodup:=by
    obtain ⟨l,rr,e1,_⟩:=OV.split Bx
    rw [e1,CI,CI] at Cg
    exact Cg.1.2.1
   rw [LS] at DW
   have apart:∀ b∈w.addrs,b∉OV.AU us:=fun b hb z=>by
    have bt:b∈t.addrs:=OV.J1 Bx b (by rw [LS];simp [z])
    rcases (a1 b hb).2.2 with ⟨j,hj,s,_,hs,o⟩ | y
    ·exact S.Bg j i s _ b (by rintro rfl;exact Dm hj) hs hi o bt
    ·exact S.DQ hi bt y
   obtain ⟨Bk,ep,Uu,LL,DM,sb⟩:∃ Bk:List V,putK (ks.zip vs) key v=(KC ks key).zip Bk/\(KC ks key).length=Bk.length/\Af F3 H3 Bk (IP ks us key w)/\(OV.AU (IP ks us key w)).Nodup/\∀ b∈OV.AU (IP ks us key w),b∈OV.AU us∨b∈w.addrs:=by
    unfold putK KC IP
    rw [Ur Ku]
    cases e:Eg ks key with
    | some n=>
     have c:FR ks key=true:=by rw [<- SA,e];rfl
     have SG:n < us.length:=by
      have:=(List.getElem?_eq_some_iff.mp (eN e)).1
      omega
     obtain ⟨l,r,e1,e2⟩:=Ib (Ad SG)
     rw [if_pos c,if_pos c,Y0,fS hk e]
     refine ⟨vs.set n v,rfl,by rw [HG];exact Ku,rr.set n K8,?_,fun b hb=>?_⟩
     ·show (OV.AU (us.set n w)).Nodup
      rw [e2]
      have n1:=(List.nodup_cons.mp DW).2
      rw [e1] at n1
      exact SJ n1 EE fun b hb=>.inr (by rw [<- e1];exact apart b hb)
     ·have D0:b∈OV.AU (us.set n w):=hb
      rw [e2] at D0
      rcases List.mem_append.mp D0 with z | z
      ·rcases List.mem_append.mp z with z | z
       ·exact .inl (by rw [e1];simp [z])
       ·exact .inr z
      ·exact .inl (by rw [e1];simp [z])
    | none=>
     have c:¬ FR ks key=true:=by rw [<- SA,e];decide
     rw [if_neg c,if_neg c]
     refine ⟨vs++[v],by rw [List.zip_append Ku];rfl,by rw [BK,BK,Ku];rfl,rr.append (.one K8),?_,fun b hb=>?_⟩
     ·show (OV.AU (us++[w])).Nodup
      rw [JD,Jz,CI]
      exact ⟨(List.nodup_cons.mp DW).2,EE,fun x hx y hy e=>apart y hy (e▸hx)⟩
     ·have D0:b∈OV.AU (us++[w]):=hb
      rw [JD,Jz] at D0
      exact List.mem_append.mp D0
   rw [ep]
   exact hn _ σ F3 _ kk (Sg.rl (u:=w) S m3.st hi Bx SO Dm LL Uu DM sb) (m1.ff.trans J2.ff)⟩
end
def D5:List Str->Str->Option Nat
 | [],_=>none
 | g :: ns,f=>if g=f then some 0 else (D5 ns f).map (· + 1)
def O5 (ns:List Str) (f:Str):List Str:=match D5 ns f with
 | some _=>ns
 | none=>ns++[f]
def Np (ns:List Str) (us:List OV) (f:Str) (w:OV):List OV:=match D5 ns f with
 | some n=>us.set n w
 | none=>us++[w]
def L8 (ns:List Str) (vs:List V) (f:Str) (w:V):List V:=match D5 ns f with
 | some n=>vs.set n w
 | none=>vs++[w]
theorem fu:∀ {ns:List Str}{f:Str}{n:Nat},D5 ns f=some n->n < ns.length
 | [],_,_,h=>by cases h
 | g :: ns,f,n,h=>by
  rw [D5] at h
  by_cases c:g=f
  ·rw [if_pos c] at h;cases h;exact Nat.succ_pos _
  ·rw [if_neg c] at h
   cases e:D5 ns f with
   | none=>rw [e] at h;cases h
   | some m=>rw [e] at h;cases h;exact Nat.succ_lt_succ (fu e)
theorem V7:∀ {ns:List Str}{vs:List V}{f:Str}{n:Nat}{v:V},D5 ns f=some n->vs[n]?=some v->(ns.zip vs).lookup f=some v
 | [],_,_,_,_,h,_=>by cases h
 | g :: ns,[],f,n,v,h,hv=>by simp at hv
 | g :: ns,w :: vs,f,n,v,h,hv=>by
  rw [D5] at h
  rw [Kr]
  by_cases c:g=f
  ·rw [if_pos c] at h;cases h
   simp at hv
   subst c
   rw [List.lookup_cons_self,hv]
  ·rw [if_neg c] at h
   cases e:D5 ns f with
   | none=>rw [e] at h;cases h
   | some m=>
    rw [e] at h;cases h
    rw [GS]
    have:(f == g)=false:=by simpa using fun z=>c z.symm
    rw [this]
    exact V7 e (by simpa using hv)
theorem dE:∀ {ns:List Str}{vs:List V}{f:Str}{v:V},ns.length=vs.length->D1 f v (ns.zip vs)=(O5 ns f).zip (L8 ns vs f v)/\(O5 ns f).length=(L8 ns vs f v).length
 | [],[],f,v,_=>by simp [D1,O5,L8,D5]
 | [],_ :: _,_,_,h=>by simp at h
 | _ :: _,[],_,_,h=>by simp at h
 | g :: ns,w :: vs,f,v,h=>by
  obtain ⟨i1,i2⟩:=dE (ns:=ns) (vs:=vs) (f:=f) (v:=v) (by simpa using h)
  rw [Kr]
  rw [show D1 f v ((g,w) :: ns.zip vs)=(if g=f then (g,v) :: ns.zip vs else (g,w) :: D1 f v (ns.zip vs)) from rfl]
  unfold O5 L8 at i1 i2 ⊢
  rw [D5]
  by_cases c:g=f
  ·rw [if_pos c,if_pos c]
   exact ⟨by simp,by simpa using h⟩
  ·rw [if_neg c,if_neg c,i1]
   cases e:D5 ns f with
   | none=>rw [e] at i2;exact ⟨by simp,by simpa using i2⟩
   | some m=>rw [e] at i2;exact ⟨by simp,by simpa using i2⟩
section
variable [Xw]
variable {ss:List Slot}{ta tv:TE}{k:PV->Prop}{nx:List Slot->Prop}{R:Ak}{i:Nat}{t:OV}{K:ZAY}{f:Str}
def Zr {k:List Nat->OV->Prop}(h:Wl ss i t ta fun p u=>∃ C dx ns a us n w,u=.nd (.obj C dx ns) a us/\Dc K C/\Ez K C f/\D5 ns f=some n/\us[n]?=some w/\k (p++[n]) w):Wl ss i t (RS K ta f) k:=⟨h.hi,fun E σ F H Q S q=>
 h.go E σ F H _ S fun v p u F1 H1 m1 r1 h1 ⟨C,dx,ns,a,us,n,w,eu,hc,hn,hx,hw,kk⟩=>by
  subst eu
  cases r1 with
  | @nd _ _ vs _ ha sd ft rr=>
   obtain ⟨x,Hc,rx⟩:=rr.get hw
   exact ⟨a,C,dx,ns.zip vs,x,rfl,ha,hc,hn,V7 hx Hc,q x (p++[n]) w F1 H1 m1 rx (OV.OA h1 (by rw [OV.KU,hw];exact OV.Hv)) kk⟩⟩
def Kb {C dx:Addr}{ns:List Str}{a:Addr}{us:List OV}:(OV.nd (.obj C dx ns) a us).addrs=a :: dx :: OV.AU us:=by rw [OV.Cf];rfl
def Sg.sF {lt:Bool}{E:Ent0}{σ:L2.St} {F0 F H0 H:Hp}{p:List Nat}{a C dx:Addr}{ns EF:List Str}{us Ba:List OV}{Bk:List V}{m:List Nat}{u:OV}(S0:Sg E ss σ F0 H0) (S:Sg E ss σ F H) (hi:ss[i]?=some (.ow lt t)) (Bx:t.at p=some (.nd (.obj C dx ns) a us)) (MP:H dx=some (.own a))
  (hu:∀ a∈u.addrs,F a=none/\E.H0 a=none/\((∃ i∈m,∃ s,s≠Slot.AK/\ss[i]?=some s/\B2 s σ[i]? a)∨H0 a=none)) (Dm:i∉m)
  (hr:Af F H Bk Ba) (hl:EF.length=Bk.length) (O0:(OV.AU Ba).Nodup) (Hx:∀ b∈OV.AU Ba,b∈OV.AU us∨b∈u.addrs):Sg E ((Fz.D9 m ss).set i (.ow lt (t.put p (.nd (.obj C dx EF) a Ba)))) σ F (upd H a (.ins C dx (EF.zip Bk))):=by
 have C0:=YJ m ss hi Dm
 obtain ⟨v,e,r,nd,q⟩:=S.ok i _ hi
 have ut:∀ b,b∈a :: dx :: OV.AU us->b∈t.addrs:=fun b hb=>OV.J1 Bx b (by rw [Kb];exact hb)
 have LP:∀ b∈u.addrs,b∉t.addrs:=fun b hb z=>by
  rcases (hu b hb).2.2 with ⟨j,hj,s,_,hs,o⟩ | w
  ·exact S.Bg j i s _ b (by rintro rfl;exact Dm hj) hs hi o z
  ·exact S0.DQ hi z w
 have DW:(OV.nd (.obj C dx ns) a us).addrs.Nodup:=by
  obtain ⟨l,rr,e1,_⟩:=OV.split Bx
  rw [e1,CI,CI] at nd
  exact nd.1.2.1
 rw [Kb] at DW
 obtain ⟨n1,n2⟩:=List.nodup_cons.mp DW
 obtain ⟨n3,n4⟩:=List.nodup_cons.mp n2
 have na:∀ b∈OV.AU Ba,b≠a:=fun b hb z=>by
  subst z
  rcases Hx b hb with w | w
  ·exact n1 (by simp [w])
  ·exact LP b w (ut b (by simp))
 have Po:∀ b∈OV.AU Ba,b≠dx:=fun b hb z=>by
  subst z
  rcases Hx b hb with w | w
  ·exact n3 w
  ·exact LP b w (ut b (by simp))
 have fN:dx≠a:=fun z=>n1 (by simp [z])
 refine (S.D9 m).WN C0 Bx (.nd (k:=.obj C dx EF) Aa (show upd H a _ dx=some (.own a) by rw [AR fN];exact MP) hl (hr.mono (AD.refl _) fun b hb o ho=>by rw [AR (na b hb)];exact ho)) (by
  rw [Kb]
  exact List.nodup_cons.mpr ⟨fun z=>by
   rcases List.mem_cons.mp z with z | z
   ·exact fN z.symm
   ·exact na a z rfl,List.nodup_cons.mpr ⟨fun z=>Po dx z rfl,O0⟩⟩) fun b hb=>?_
 rw [Kb] at hb ⊢
 rcases List.mem_cons.mp hb with w | w
 ·exact .inl (by simp [w])
 ·rcases List.mem_cons.mp w with w | w
  ·exact .inl (by simp [w])
  ·rcases Hx b w with z | z
   ·exact .inl (by simp [z])
   ·refine .inr ⟨(hu b z).1,(hu b z).2.1,fun j s hs o=>?_⟩
    rcases N9 hs with y | ⟨EG,hm⟩
    ·subst y;cases o
    ·rcases (hu b z).2.2 with ⟨i2,Ft,s2,_,CD,o2⟩ | y
     ·exact S.Bg j i2 s s2 b (by rintro rfl;exact hm Ft) EG CD o o2
     ·exact S0.DQ EG o y
def wC {E:Ent0}{σ:L2.St} {F H F1 H1 F3 H3:Hp}{m:List Nat}{w:OV}{v:V}(S:Sg E ss σ F H) (J2:Mv E ss σ F1 H1 F3 H3) (r1:As F1 H1 v w) (a1:∀ a∈w.addrs,F1 a=none/\E.H0 a=none/\((∃ i∈m,∃ s,s≠Slot.AK/\ss[i]?=some s/\B2 s σ[i]? a)∨H a=none)) :
  As F3 H3 v w/\∀ b∈w.addrs,F3 b=none/\E.H0 b=none/\((∃ i∈m,∃ s,s≠Slot.AK/\ss[i]?=some s/\B2 s σ[i]? b)∨H b=none):=by
 have np:∀ b∈w.addrs,Bs ss σ b:=fun b hb k hk ek=>by
  rcases (a1 b hb).2.2 with ⟨j,hj,s,hs,NU,o⟩ | z
  ·exact S.Bg j k s _ b (fun e=>by subst e;rw [NU] at hk;exact hs (BG hk)) NU hk o ek
  ·exact S.DQ hk ek z
 refine ⟨r1.mono J2.ff fun b hb o e=>J2.hh b o (np b hb) e,fun b hb=>⟨?_,(a1 b hb).2⟩⟩
 cases e:F3 b with
 | none=>rfl
 | some o=>
  rcases J2.nn b o e with z | z
  ·rw [(a1 b hb).1] at z;cases z
  ·exact absurd z (r1.there b hb)
def bU (h:Wx ss tv fun m w=>Wl ss i t ta fun p u=>∃ lt C dx ns a us,ss[i]?=some (.ow lt t)/\u=.nd (.obj C dx ns) a us/\Dc K C/\Ez K C f/\ns.length < 1000/\i∉m/\nx ((Fz.D9 m ss).set i (.ow lt (t.put p (.nd (.obj C dx (O5 ns f)) a (Np ns us f w)))))):Ws ss (Vm K ta tv f) nx R:=⟨fun E D σ F H S hn hr=>
 h.go E σ F H _ S fun v m w F1 H1 m1 r1 EE a1 h2=>h2.go E σ F1 H1 _ m1.st fun v2 p u F2 H2 m2 r2 Bx ⟨lt,C,dx,ns,a,us,hi,eu,hc,wu,hz,Dm,kk⟩=>by
  subst eu
  have ev:v2=.ref a:=by cases r2;rfl
  subst ev
  obtain ⟨K8,SO⟩:=wC S m2 r1 a1
  cases r2 with
  | @nd _ _ vs _ ha sd ft rr=>
   have Ku:ns.length=vs.length:=ft
   have vl:=rr.length
   obtain ⟨ep,Uu⟩:=dE (f:=f) (v:=v) Ku
   refine ⟨a,C,dx,ns.zip vs,rfl,ha,hc,wu,by rw [Xj];omega,?_⟩
   obtain ⟨v0,e0,r0,Cg,q0⟩:=m2.st.ok i _ hi
   have DW:(OV.nd (.obj C dx ns) a us).addrs.Nodup:=by
    obtain ⟨l,rr,e1,_⟩:=OV.split Bx
    rw [e1,CI,CI] at Cg
    exact Cg.1.2.1
   rw [Kb] at DW
   have M6:=(List.nodup_cons.mp (List.nodup_cons.mp DW).2).2
   have apart:∀ b∈w.addrs,b∉OV.AU us:=fun b hb z=>by
    have bt:b∈t.addrs:=OV.J1 Bx b (by rw [Kb];simp [z])
    rcases (a1 b hb).2.2 with ⟨j,hj,s,_,hs,o⟩ | y
    ·exact S.Bg j i s _ b (by rintro rfl;exact Dm hj) hs hi o bt
    ·exact S.DQ hi bt y
   obtain ⟨LL,DM,sb⟩:Af F2 H2 (L8 ns vs f v) (Np ns us f w)/\(OV.AU (Np ns us f w)).Nodup/\∀ b∈OV.AU (Np ns us f w),b∈OV.AU us∨b∈w.addrs:=by
    unfold L8 Np
    cases e:D5 ns f with
    | some n=>
     have SG:n < us.length:=by have:=fu e;omega
     obtain ⟨l,r,e1,e2⟩:=Ib (Ad SG)
     refine ⟨rr.set n K8,?_,fun b hb=>?_⟩
     ·show (OV.AU (us.set n w)).Nodup
      rw [e2]
      rw [e1] at M6
      exact SJ M6 EE fun b hb=>.inr (by rw [<- e1];exact apart b hb)
     ·have D0:b∈OV.AU (us.set n w):=hb
      rw [e2] at D0
      rcases List.mem_append.mp D0 with z | z
      ·rcases List.mem_append.mp z with z | z
       ·exact .inl (by rw [e1];simp [z])
       ·exact .inr z
      ·exact .inl (by rw [e1];simp [z])
    | none=>
     refine ⟨rr.append (.one K8),?_,fun b hb=>?_⟩
     ·show (OV.AU (us++[w])).Nodup
      rw [JD,Jz,CI]
      exact ⟨M6,EE,fun x hx y hy e=>apart y hy (e▸hx)⟩
     ·have D0:b∈OV.AU (us++[w]):=hb
      rw [JD,Jz] at D0
      exact List.mem_append.mp D0
   rw [ep]
   exact hn _ σ F2 _ kk (Sg.sF (u:=w) S m2.st hi Bx sd SO Dm LL Uu DM sb) (m1.ff.trans m2.ff)⟩
end
theorem Xy:∀ {ns:List Str}{vs:List V}{f:Str},D5 ns f=none->(ns.zip vs).lookup f=none
 | [],_,_,_=>by simp
 | g :: ns,[],f,h=>by simp
 | g :: ns,w :: vs,f,h=>by
  rw [D5] at h
  by_cases c:g=f
  ·rw [if_pos c] at h;cases h
  ·rw [if_neg c] at h
   rw [Kr,GS]
   have:(f == g)=false:=by simpa using fun z=>c z.symm
   rw [this]
   refine Xy ?_
   cases e:D5 ns f with
   | none=>rfl
   | some m=>rw [e] at h;cases h
section
variable [Xw]
variable {ss:List Slot}{te tv:TE}{ta:TA}{i:Nat}{lt:Bool}{t:OV}{nx:List Slot->Prop}{R:Ak}{K:ZAY}{f:Str}
def Xa {k:PV->Prop}(h:Wp ss te fun o=>∃ C ns xs n y,o=.obj C ns xs/\Dc K C/\Ez K C f/\D5 ns f=some n/\xs[n]?=some y/\k y):Wp ss (RS K te f) k:=⟨fun E σ F H Q S q=>
 h.go E σ F H _ S fun v o F1 H1 m1 ro ⟨C,ns,xs,n,y,eo,hc,hn,hx,hy,kk⟩=>by
  subst eo
  cases ro with
  | @obj a _ dx _ Ky _ e1 e2 hl rr=>
   obtain ⟨u,hu,ru⟩:=rr.get hy
   exact ⟨a,C,dx,ns.zip Ky,u,rfl,m1.st.fh _ _ e1,hc,hn,V7 hx hu,q u y F1 H1 m1 ru kk⟩⟩
def iT {pre:Pre}{C:Addr}{k:List Nat->OV->Prop}(h:Mn ss ta fun l=>∀ x dx:Addr,∃ k',pre (.ow true (.nd (.obj C dx []) x []) :: l) (.mt k')/\∀ p t',k' p t'->p=.A5/\∃ EF Ba,t'=.nd (.obj C dx EF) x Ba/\k [] t'):Wx ss (UG C (D7 pre) [] E0 ta) k:=⟨fun E σ F H Q S q=>
 h.go E σ F H _ S fun vs l F1 H1 m1 al IY x dx hx MP Ao=>by
  rw [E9]
  have M1:=m1.st.make MP (.own x)
  have UX:upd H1 dx (.own x) x=none:=by rw [AR (Bi Ao)];exact hx
  have M2:=M1.st.make UX (.ins C dx [])
  have m2:=M1.trans M2
  have up:∀ a o,H1 a=some o->upd (upd H1 dx (.own x)) x (.ins C dx []) a=some o:=fun a o e=>by
   rw [AR (DA e hx),AR (DA e MP)];exact e
  have dn:∀ a,upd (upd H1 dx (.own x)) x (.ins C dx []) a=none->H1 a=none:=fun a e=>by
   cases z:H1 a with
   | none=>rfl
   | some o=>rw [up a o z] at e;cases e
  have a0:(OV.nd (.obj C dx []) x []).addrs=[x,dx]:=by rw [Kb,OV.Ep]
  have r0:As F1 (upd (upd H1 dx (.own x)) x (.ins C dx [])) (.ref x) (.nd (.obj C dx []) x []):=.nd (k:=.obj C dx []) (vs:=[]) Aa (show upd _ x _ dx=some (.own x) by rw [AR Ao];exact Aa) rfl .nil
  have f0:∀ a∈(OV.nd (.obj C dx []) x []).addrs,H1 a=none:=fun a ha=>by
   rw [a0] at ha
   simp only [EW,Ai,or_false] at ha
   rcases ha with rfl | rfl
   ·exact hx
   ·exact MP
  have Cg:(OV.nd (.obj C dx []) x []).addrs.Nodup:=by
   rw [a0]
   simp [Bi Ao]
  have Sx:=Sg.cH (j:=ss.length) (m:=[]) (v:=.ref x) (u:=.nd (.obj C dx []) x []) (m1.st.grown 1) (m2.st.grown 1) r0 Cg fun a ha=>⟨m1.st.B9 (f0 a ha),m1.st.CO (f0 a ha),.inr (f0 a ha)⟩
  have hl:=m1.st.len
  have hi:((ss++List.replicate 1 Slot.any).set ss.length (.ow false (.nd (.obj C dx []) x [])))[ss.length]?=some (.ow false (.nd (.obj C dx []) x [])):=CS (by simp)
  have e0:((σ++List.replicate 1 none).set ss.length (some (V.ref x)))[ss.length]?=some (some (.ref x)):=CS (by simp;omega)
  obtain ⟨k',hp,kk⟩:=IY x dx
  refine ⟨.ow true (.nd (.obj C dx []) x []) :: l,.mt k',F1,[],(OV.nd (.obj C dx []) x []).addrs,hp,Sx.V4 hi (.here e0 al),fun v F' H' f ⟨p,t',r,ro,nd,qa,kp⟩=>?_⟩
  obtain ⟨rfl,EF,Ba,rfl,k2⟩:=kk p t' kp
  have B:=Sx.YH hi f ro nd qa
  have at':∀ n,n < ss.length->((ss++List.replicate 1 Slot.any).set ss.length (.ow false (.nd (.obj C dx []) x [])))[n]?=ss[n]?:=fun n hn=>by rw [CB (by omega),CZ hn]
  have DS:∀ n,n < ss.length->((σ++List.replicate 1 none).set ss.length (some (V.ref x)))[n]?=σ[n]?:=fun n hn=>by rw [CB (by omega),CZ (by omega)]
  have np:∀ a,H1 a≠none->Bs ss σ a->Bs ((ss++List.replicate 1 Slot.any).set ss.length (.ow false (.nd (.obj C dx []) x []))) ((σ++List.replicate 1 none).set ss.length (some (V.ref x))) a:=fun a _ hn n hk=>by
   by_cases c:n < ss.length
   ·rw [at' n c] at hk
    rw [DS n c]
    exact hn n hk
   ·by_cases c2:n=ss.length
    ·subst c2;rw [hi] at hk;cases hk
    ·rw [List.getElem?_eq_none (by simp;omega)] at hk;cases hk
  have M3:Mv E ss σ F1 H1 F' H':=m1.st.step B.ff B.st.fh (fun a o hn e=>B.hh a o (np a (by rw [e];simp) hn) (fun z=>by rw [f0 a z] at e;cases e) (up a o e)) (fun a o e=>(B.nn a o e).imp id (dn a)) fun n l' hn en=>by
   have c:n < ss.length:=(List.getElem?_eq_some_iff.mp hn).1
   refine B.st.Cp (i:=n) ?_ (by rw [DS n c];exact en)
   rw [CB (by omega)]
   exact (at' n c).trans hn
  cases r
  refine ⟨rfl,q (.ref x) [] _ F' H' (m1.trans M3) ro nd (fun a ha=>?_) k2⟩
  have h1:H1 a=none:=(qa a ha).2.elim (dn a) (f0 a)
  exact ⟨(qa a ha).1,m1.st.CO h1,.inr (m1.none h1)⟩⟩
end
end Fz
namespace L2
section
variable {X:Cx}{o e value:Expr}{f:Str}{pos pos' Kc:Pos}{ta tv:TE}
def OF (he:QE X e ta) (hb:attributeBase e f X.env (eval e X.env)=eval e X.env:=by rfl):QE X (.Attribute e f pos) (RS X.K ta f):=⟨yH he.h hb⟩
def fJ (ha:QE X o ta) (hv:QE X value tv) (hs:swapsWith value (some (.Attribute o f pos')) pos.line X.env=pure false:=by rfl):QS X (.Assign [.Attribute o f pos'] value pos) (Vm X.K ta tv f):=⟨mz ha.h hv.h hs⟩
end
end L2
namespace Fz
open L2 Lw
section
variable [Xw]
variable {ss:List Slot}{ta tv:TE}{nx:List Slot->Prop}{R:Ak}{i:Nat}{t:OV}{K:ZAY}{f:Str}
end
end Fz
namespace L2
section
variable {X:Cx}{o e:Expr}{td ty:TE}{apos Bc:Pos}
end
end L2
namespace Fz
open L2 Lw
section
variable [Xw]
variable {ss:List Slot}{td ty:TE}{nx:List Slot->Prop}{R:Ak}{i:Nat}{t:OV}
end
end Fz
namespace L2
def Hq (P:Program) (w:World) (K:ZAY) (mg:ZAa) (base:Heap) (C:Addr) (m:Str) (k:Nat) (ps:List Str) (sp:Sp):Prop:=
 ∃ f fd,Cm P w K mg base FA k f fd ps sp/\Binds K fd ps []/\Meth K C m f/\Dc K C
def WT (P:Program) (w:World) (K:ZAY) (mg:ZAa) (base:Heap) (C:Addr) (k:Nat) (ps:List Str) (sp:Sp):Prop:=
 ∃ f fd,Cm P w K mg base FA k f fd ps sp/\Binds K fd ps []/\Mk K C f
section
variable {X:Cx}{o e:Expr}{es:List Expr}{m x:Str}{C:Addr}{k j:Nat}{ps:List Str}{sp:Sp}{ta:TE}{t:TA}{apos pos p:Pos}
def tG {pl:Sem Bool}(h:Hq X.prog X.w X.K X.mg X.base C m k ps sp) (hr:BY j X.A) (hk:k<=j) (he:QE X o ta) (ha:QA X (e :: es) t)
  (Hb:starEach (e :: es) X.env=(false,eval e X.env) :: starEach es X.env:=by rfl) (Be:(backTo pos (starEach es X.env)).any (·.1)=false:=by rfl)
  (ht:eval (.Call (.Attribute o m apos) (e :: es) [] pos) X.env=(do
   let ov <- eval o X.env
   standAt apos.atName
   let (f,first) <- holding [ov] (getMethod ov m pl)
   callWith pos f first (backTo pos (starEach (e :: es) X.env)) (backToKw pos (keywordEach [] X.env))):=by rfl) :
  QE X (.Call (.Attribute o m apos) (e :: es) [] pos) (N5 C m sp [] E0 ta t):=by
 obtain ⟨f,fd,F,b,hm,c⟩:=h
 exact ⟨nB he.h c hm (F.mono hk) hr b .nil RI ha.h Hb Be ht⟩
def Qq {pl:Sem Bool}(h:Hq X.prog X.w X.K X.mg X.base C m k ps sp) (hr:BY j X.A) (hk:k<=j) (he:QE X o ta)
  (ht:eval (.Call (.Attribute o m apos) [] [] pos) X.env=(do
   let ov <- eval o X.env
   standAt apos.atName
   let (f,first) <- holding [ov] (getMethod ov m pl)
   callWith pos f first (backTo pos (starEach [] X.env)) (backToKw pos (keywordEach [] X.env))):=by rfl) :
  QE X (.Call (.Attribute o m apos) [] [] pos) (N5 C m sp [] E0 ta An):=by
 obtain ⟨f,fd,F,b,hm,c⟩:=h
 exact ⟨vT he.h c hm (F.mono hk) hr b .nil RI ht⟩
def vJ (h:WT X.prog X.w X.K X.mg X.base C k ps sp) (hr:BY (j+1) X.A) (hk:k<=j) (hm:X.mg x=some (.ref C)) (ha:QA X (e :: es) t) (hg:Gl X x:=by rfl) (Cb:(x == ("__debug__" : Str))=false:=by decide)
  (he:starEach (e :: es) X.env=(false,eval e X.env) :: starEach es X.env:=by rfl) (Be:(backTo pos (starEach es X.env)).any (·.1)=false:=by rfl):QE X (.Call (.Name x p) (e :: es) [] pos) (UG C sp [] E0 t):=by
 obtain ⟨f,fd,F,b,M⟩:=h
 exact ⟨xq M (F.mono hk) hr hg hm b .nil RI ha.h Cb he Be⟩
end
def Cn (xs:Array Nat):Prop:=xs.toList.Pairwise (· < ·)
def Cn.get {xs:Array Nat}(hr:Cn xs){i j:Nat}(Fq:i < j) (h:j < xs.size):xs[i]'(by omega) < xs[j]:=by
 have q:=List.pairwise_iff_getElem.mp hr i j (by rw [Cw];omega) (by rw [Cw];omega) Fq
 simpa using q
def uT (xs:Array Nat) (hr:Cn xs) (j:Nat):∀ (f lo hi:Nat),lo<=hi->hi<=xs.size->hi - lo<=f->(∀ i,i < lo->(h:i < xs.size)->xs[i] < j)->(∀ i,hi<=i->(h:i < xs.size)->j<=xs[i])->
  SetTable.below.go xs j f lo hi<=xs.size/\(∀ i,i < SetTable.below.go xs j f lo hi->(h:i < xs.size)->xs[i] < j)/\∀ i,SetTable.below.go xs j f lo hi<=i->(h:i < xs.size)->j<=xs[i]:=by
 intro f
 induction f with
 | zero=>
  intro lo hi h1 h2 h3 h4 h5
  have e:lo=hi:=by omega
  subst e
  exact ⟨h2,h4,h5⟩
 | succ f ih=>
  intro lo hi h1 h2 h3 h4 h5
  unfold SetTable.below.go
  by_cases hl:lo < hi
  ·rw [if_pos hl]
   have hm:(lo+hi) / 2 < xs.size:=by omega
   have eg:xs.getD ((lo+hi) / 2) j=xs[(lo+hi) / 2]:=by simp [Array.getD,hm]
   dsimp only
   rw [eg]
   by_cases hc:xs[(lo+hi) / 2] < j
   ·rw [if_pos hc]
    refine ih _ _ (by omega) h2 (by omega) (fun i C0 h=>?_) h5
    by_cases e:i=(lo+hi) / 2
    ·subst e;exact hc
    ·exact gm (hr.get (by omega) hm) hc
   ·rw [if_neg hc]
    refine ih _ _ (by omega) (by omega) (by omega) h4 (fun i C0 h=>?_)
    by_cases e:i=(lo+hi) / 2
    ·subst e;omega
    ·exact Xr (Rt (zh hc) (hr.get (by omega) h))
  ·rw [if_neg hl]
   have e:lo=hi:=by omega
   subst e
   exact ⟨h2,h4,h5⟩
def b7 {xs:Array Nat}(hr:Cn xs) (j:Nat):SetTable.below xs j<=xs.size/\(∀ i,i < SetTable.below xs j->(h:i < xs.size)->xs[i] < j)/\∀ i,SetTable.below xs j<=i->(h:i < xs.size)->j<=xs[i]:=
 uT xs hr j _ _ _ (CJ _) (Ae _) (by omega) (fun i h=>by omega) (fun i h h'=>by omega)
def oS {α:Type} (xs:Array α) (p:Nat) (x:α) (hp:p<=xs.size):(SetTable.insertAt xs p x).toList=xs.toList.take p++x :: xs.toList.drop p:=by
 unfold SetTable.insertAt
 simp [Kq]
def Cn.insert {xs:Array Nat}(hr:Cn xs){j:Nat}(hj:j∉xs.toList):Cn (SetTable.insertAt xs (SetTable.below xs j) j):=by
 obtain ⟨h1,h2,h3⟩:=b7 hr j
 unfold Cn
 rw [oS _ _ _ h1,List.pairwise_append]
 refine ⟨zN (Xq _ _) hr,List.pairwise_cons.mpr ⟨fun a ha=>?_,zN (zQ _ _) hr⟩,fun a ha b hb=>?_⟩
 ·obtain ⟨i,hi,e⟩:=List.mem_iff_getElem.mp ha
  rw [zU] at e
  have C0:SetTable.below xs j+i < xs.size:=by rw [HF,Cw] at hi;omega
  have q:=h3 _ (zg _ _) C0
  have e':xs[SetTable.below xs j+i]=a:=by simpa using e
  rw [e'] at q
  have:a≠j:=fun z=>hj (z▸Ro ha)
  omega
 ·have Q5:a < j:=by
   obtain ⟨i,hi,e⟩:=List.mem_iff_getElem.mp ha
   rw [JK] at e
   rw [C7,Cw] at hi
   have q:=h2 i (by omega) (by omega)
   have e':xs[i]=a:=by simpa using e
   rw [e'] at q;exact q
  rcases List.mem_cons.mp hb with rfl | hb
  ·exact Q5
  ·obtain ⟨i,hi,e⟩:=List.mem_iff_getElem.mp hb
   rw [zU] at e
   have C0:SetTable.below xs j+i < xs.size:=by rw [HF,Cw] at hi;omega
   have q:=h3 _ (zg _ _) C0
   have e':xs[SetTable.below xs j+i]=b:=by simpa using e
   rw [e'] at q;omega
def dA {t:SetTable}(hr:Cn t.place){j:Nat}(h:∀ i,t.slot j≠.live i):j∉t.place.toList:=by
 intro hm
 obtain ⟨i,hi,e⟩:=List.mem_iff_getElem.mp hm
 rw [Cw] at hi
 have e':t.place[i]=j:=by simpa using e
 obtain ⟨h1,h2,h3⟩:=b7 hr j
 have hb:SetTable.below t.place j=i:=by
  rcases gn i (SetTable.below t.place j) with z | z | z
  ·have:=h2 i z hi;omega
  ·exact z.symm
  ·have q:=h3 _ (Ae _) (by omega)
   have r:=hr.get z hi
   omega
 refine h (SetTable.below t.place j) ?_
 unfold SetTable.slot
 dsimp only
 rw [if_pos (by rw [hb,Array.getElem?_eq_getElem hi,e'];simp)]
def uB (t:SetTable) (hs:Nat->Int) (h:Int):∀ (f:Nat) (p:SetTable.Probe) (j:Nat) (d:Option Nat),(∀ d',p.dummy=some d'->∀ i,t.slot d'≠.live i)->SetTable.probe.go t hs h f p=some (.empty j d)->
  (∀ i,t.slot j≠.live i)/\∀ d',d=some d'->∀ i,t.slot d'≠.live i:=by
 intro f
 induction f with
 | zero=>intro p j d _ e;simp [SetTable.probe.go] at e
 | succ f ih=>
  intro p j d hd e
  have dw:∀ q:SetTable.Probe,(t.advance q).dummy=q.dummy:=by
   intro q;unfold SetTable.advance;split <;> rfl
  unfold SetTable.probe.go at e
  split at e
  ·next EG=>
   simp only [MK,SetTable.Met.empty.injEq] at e
   obtain ⟨e1,e2⟩:=e
   subst e1;subst e2
   exact ⟨fun i z=>(by rw [EG] at z;cases z),hd⟩
  ·next EG=>
   refine ih _ j d (fun d' ed i=>?_) e
   rw [dw] at ed
   cases ed
   rw [EG];intro z;cases z
  ·split at e
   ·simp at e
   ·refine ih _ j d (fun d' ed i=>?_) e
    rw [dw] at ed
    exact hd d' ed i
def yM {t:SetTable}(hr:Cn t.place){h:Int}{j:Nat}{b:Bool}(e:t.freeSlot h=some (j,b)):j∉t.place.toList:=by
 unfold SetTable.freeSlot at e
 split at e
 ·next j0 d hp=>
  unfold SetTable.probe at hp
  obtain ⟨h1,h2⟩:=uB t _ h _ _ j0 d (fun d' z=>by simp [SetTable.probeStart] at z) hp
  simp only [MK,Prod.mk.injEq] at e
  obtain ⟨e1,_⟩:=e
  subst e1
  cases d with
  | none=>exact dA hr h1
  | some d=>exact dA hr (h2 d rfl)
 ·simp at e
def RM (n:Nat):Cn (Array.range n):=by
 unfold Cn
 rw [Array.toList_range]
 exact zd
def z4 {t:SetTable}{n:Nat}(h:Cn t.place):Cn (t.orStandIn n).place:=by
 unfold SetTable.orStandIn
 split
 ·exact h
 ·exact RM n
def we {t:SetTable}(hr:Cn t.place) (es:Array (Int×Value)) (h:Int) (x:Value):Cn (layNew t es h x).2.1.place:=by
 unfold layNew
 split
 ·next j b e=>
  refine z4 ?_
  exact hr.insert (yM hr e)
 ·exact RM _
def sN {t:SetTable}(es:Array (Int×Value)) (n:Nat):Cn (relayAll t es n).2.1.place:=by
 unfold relayAll
 split
 ·next t' order hr=>
  dsimp only
  split
  ·unfold SetTable.relaid SetTable.laid at hr
   generalize SetTable.layClean _ _=lc at hr
   cases lc with
   | none=>simp at hr
   | some ow=>
    simp only [Option.bind_eq_bind,Option.bind_some,Option.pure_def,MK,Prod.mk.injEq] at hr
    obtain ⟨rfl,_⟩:=hr
    unfold Cn
    simp only
    rw [List.pairwise_map,List.pairwise_filterMap]
    refine zL ?_ (zd (n:=SetTable.sizeAbove n - 1+1))
    intro a b FF u hu v hv
    cases ha:ow.getD a none with
    | none=>rw [ha] at hu;simp at hu
    | some a'=>
     rw [ha] at hu
     cases hb:ow.getD b none with
     | none=>rw [hb] at hv;simp at hv
     | some b'=>
      rw [hb] at hv
      simp only [JN,MK] at hu hv
      subst hu;subst hv
      exact FF
  ·exact RM _
 ·exact RM _
def ua (t:SetTable) (es:Array (Int×Value)) (n:Nat):(relayAll t es n).2.1.led=t.led:=by
 unfold relayAll
 split
 ·next t' order hr=>
  have q:=Y1 (p:=(t',order)) hr
  dsimp only at q ⊢
  split
  ·exact q.1
  ·rfl
 ·rfl
def XX (prog:Program) (w:World) (h:Heap) (a:Addr) (S:Int->Bool) (n:Nat):Prop:=
 ∃ o es ep t,h.get? a=some o/\o.ExactSet/\o.data=.set es ep t/\ElemsOf (PySem.intKind prog w) es.toList/\(∀ k,S k=true↔∃ e∈es.toList,(PySem.intKind prog w).is k e.2=true)/\
  es.size < scanBound/\t.fits es.size=true/\es.size=n/\(t.led=!c5 w)/\Cn t.place
section
variable {prog:Program}{w:World}{A:Around}{E:Value->Shared->Prop}{s:Shared}
def XX.put {a:Addr}{S:Int->Bool}{n:Nat}{k:Int}{tk:Tok}{Q:Bool->Shared->Prop}(hS:XX prog w s.heap a S n) (Ka:n+1 < scanBound)
  (h:∀ h',Heap.SameBut a s.heap h'->XX prog w h' a (fun k'=>S k' || decide (k'=k)) (if S k then n else n+1)->Q (!S k) { s with heap:=h' }) :
  wpAny (model prog w) A (setAddHashed a (.int k tk) ((PySem.intKind prog w).hash k)) Q E s:=by
 obtain ⟨o,es,ep,t,ho,hex,hd,Hs,C6,hb,hf,hn,Nk,Be⟩:=hS
 have Hf:(PySem.intKind prog w).is k (.int k tk)=true:=by simp [PySem.intKind,Value.isInt]
 have K3:(Value.int k tk).scannable=true:=rfl
 have rm:es.size+1 < scanBound:=by rw [hn];exact Ka
 have gw:∀ (b:Bool) (s1:Shared) (Q1:Unit->Shared->Prop),Q1 () s1->wpAny (model prog w) A (match b with | true=>rule "set.scan.the-table-gave-way" | false=>pure ()) Q1 E s1:=by
  intro b s1 Q1 q;cases b
  ·exact wpAny_pure q
  ·exact wpAny_rule q
 unfold setAddHashed setAddHashedIn
 refine wpAny_holding ?_
 refine wpAny_bind (wpAny_setState_of ho hd hf ?_)
 dsimp only
 rw [byScan_of K3 hb Hs]
 simp only [↓reduceIte]
 unfold setAddByScan
 refine wpAny_bind ?_
 refine wpAny_bind (wpAny_rule ?_)
 refine wpAny_bind (wpAny_setScan_of Hf ho hd hf Hs ?_)
 cases hr:List.findIdx? (fun e=>(PySem.intKind prog w).is k e.2) es.toList with
 | some j=>
  dsimp only
  obtain ⟨hj,Tx,_⟩:=List.findIdx?_eq_some_iff_getElem.mp hr
  have hk:S k=true:=(C6 k).mpr ⟨es.toList[j],HE hj,Tx⟩
  refine wpAny_pure ?_
  refine wpAny_pure ?_
  have q:=h s.heap (Heap.SameBut.refl a s.heap) ⟨o,es,ep,t,ho,hex,hd,Hs,fun k'=>by
   rw [<- C6 k',Bool.or_eq_true,decide_eq_true_eq]
   exact ⟨fun z=>z.elim id fun e=>e▸hk,Or.inl⟩,hb,hf,by rw [if_pos hk];exact hn,Nk,Be⟩
  rw [hk] at q
  exact q
 | none=>
  dsimp only
  have hk:S k=false:=by
   cases e:S k with
   | false=>rfl
   | true=>
    obtain ⟨x,hx,hp⟩:=(C6 k).mp e
    have q:=List.findIdx?_eq_none_iff.mp hr x hx
    rw [hp] at q;exact Bool.noConfusion q
  have p1:=layNew_perm t es ((PySem.intKind prog w).hash k) (.int k tk)
  have f1:=layNew_fits t es ((PySem.intKind prog w).hash k) (.int k tk)
  have r1:=we Be es ((PySem.intKind prog w).hash k) (.int k tk)
  have l1:=YK t es ((PySem.intKind prog w).hash k) (.int k tk)
  generalize layNew t es ((PySem.intKind prog w).hash k) (.int k tk)=L at p1 f1 r1 l1 ⊢
  obtain ⟨Au,t1,wd,gv⟩:=L
  dsimp only at p1 f1 r1 l1 ⊢
  rw [zE] at p1
  have U3:ElemsOf (PySem.intKind prog w) Au.toList:=(Hs.push Hf K3).perm p1
  have m1:∀ k',(S k' || decide (k'=k))=true↔∃ e∈Au.toList,(PySem.intKind prog w).is k' e.2=true:=mem_push_iff Hf C6 p1
  have z1:Au.size=n+1:=by rw [<- Cw,p1.length_eq,BK,Cw,hn];rfl
  have b1:Au.size < scanBound:=by rw [z1];exact Ka
  have fin:∀ (h':Heap) (o':Obj) (Cd:Array (Int×Value)) (GQ:Nat) (t':SetTable),Heap.SameBut a s.heap h'->h'.get? a=some o'->o'.ExactSet->o'.data=.set Cd GQ t'->Cd.toList.Perm Au.toList->t'.fits Cd.size=true->t'.led=t.led->Cn t'.place->
    Q true { s with heap:=h' }:=by
   intro h' o' Cd GQ t' sb go xo d' pp ff ll pf
   have zz:Cd.size=n+1:=by rw [<- z1,<- Cw,pp.length_eq,Cw]
   have q:=h h' sb ⟨o',Cd,GQ,t',go,xo,d',U3.perm pp,fun k'=>(m1 k').trans ⟨fun ⟨e,he,q⟩=>⟨e,pp.mem_iff.mpr he,q⟩,fun ⟨e,he,q⟩=>⟨e,pp.mem_iff.mp he,q⟩⟩,by rw [zz];exact Ka,ff,by rw [hk];exact zz,ll.trans Nk,pf⟩
   rw [hk] at q
   exact q
  have tail:∀ (t2:SetTable),t2.fits Au.size=true->t2.led=t.led->Cn t2.place->wpAny (model prog w) A (do
    storeSet a Au t2
    if (
      !wd && t2.tooFull)=true then do
      (match (relayAll t2 Au (SetTable.grown Au.size)).2.2 with | true=>rule "set.scan.the-table-gave-way" | false=>pure ())
      storeSet a (relayAll t2 Au (SetTable.grown Au.size)).1 (relayAll t2 Au (SetTable.grown Au.size)).2.1
      pure (some true)
     else pure (some true)) (fun r s'=>match r with | some b=>Q b s' | none=>False) E s:=by
   intro t2 f2 l2 Oq
   refine wpAny_bind (wpAny_storeSet_of ho hd ?_ (fits_of_scanBound b1))
   have o1:=R4 ho hd Au t2
   have Mz:=OW s.heap a (Obj.putSet Au t2)
   split
   ·have p3:=relayAll_perm t2 Au (SetTable.grown Au.size)
    have f3:=relayAll_fits t2 Au (SetTable.grown Au.size)
    have r3:=sN (t:=t2) Au (SetTable.grown Au.size)
    have l3:=ua t2 Au (SetTable.grown Au.size)
    generalize relayAll t2 Au (SetTable.grown Au.size)=Rl at p3 f3 r3 l3 ⊢
    obtain ⟨Jr,t3,g3⟩:=Rl
    dsimp only at p3 f3 r3 l3 ⊢
    have z3:Jr.size=Au.size:=by rw [<- Cw,p3.length_eq,Cw]
    refine wpAny_bind (gw _ _ _ ?_)
    refine wpAny_bind (wpAny_storeSet_of o1 rfl ?_ (fits_of_scanBound (by rw [z3];exact b1)))
    refine wpAny_pure ?_
    exact fin _ _ Jr _ t3 (Mz.trans (OW _ a _)) (R4 o1 rfl Jr t3) hex rfl p3 f3 (l3.trans l2) r3
   ·exact wpAny_pure (fin _ _ Au _ t2 Mz o1 hex rfl (List.Perm.refl _) f2 l2 Oq)
  refine wpAny_bind (gw _ _ _ ?_)
  split
  ·next LB=>
   refine wpAny_bind ?_
   rw [hashByValue_scannable 8 K3]
   refine wpAny_pure ?_
   refine wpAny_mono (tail t1 f1 l1 r1) (fun r s' q=>?_) fun _ _ e=>e
   cases r with
   | none=>exact q.elim
   | some b=>exact wpAny_pure q
  ·next LB=>
   refine wpAny_bind (wpAny_pure ?_)
   simp only [↓reduceIte]
   refine wpAny_mono (tail t1 f1 l1 r1) (fun r s' q=>?_) fun _ _ e=>e
   cases r with
   | none=>exact q.elim
   | some b=>exact wpAny_pure q
end
section
variable {prog:Program}{w:World}{A:Around}
end
theorem IntsAre.len:∀ {vs:List Value}{ss:List Int},IntsAre vs ss->vs.length=ss.length
 | _,_,.nil=>rfl
 | _,_,.cons _ _ h=>by rw [BZ,BZ,IntsAre.len h]
section
variable {prog:Program}{w:World}{A:Around}{E:Value->Shared->Prop}{s:Shared}
end
end L2
set_option maxHeartbeats 200000
namespace L2
section
variable {prog:Program}{w:World}{A:Around}{E:Value->Shared->Prop}{s:Shared}
end
end L2
set_option maxHeartbeats 4000000
namespace L2
section
variable {prog:Program}{w:World}{A:Around}{R:Result->Shared->Prop}{I:Addr}{fp wr:List Addr}{G:Array GenState->Array GenState->Prop}{n:Nat}{P:Nat->Value->Prop}{St:Nat->Shared->Prop}{ss:List Int}
end
section
variable {prog:Program}{w:World}{A:Around}{E:Value->Shared->Prop}{s:Shared}{ss:List Int}
end
section
variable {X:Cx}
end
end L2
namespace Fz
open L2 Lw
section
variable [Xw]
variable {E:Ent0}{ss:List Slot}{σ:L2.St} {F H F' H':Hp}{K:ZAY}{js:List Nat}{ta tb tc te:TE}{nx:List Slot->Prop}{R:Ak}{xs ys:List PV}{P:Program}{w:World}
end
section
variable [Xw]
variable {E:Ent0}{ss:List Slot}{σ:L2.St} {F H F' H':Hp}{K:ZAY}{ta tb tc te:TE}{k:PV->Prop}{xs:List PV}{nx:List Slot->Prop}{R:Ak}
end
end Fz
namespace L2
section
variable {X:Cx}{x:Str}{S:Addr}{body bS:List Stmt}{b0:Stmt}{np MT pos:Pos}{fe:(St->XK)->TS}{th:TS}
end
end L2
namespace Fz
open L2 Lw
section
variable [Xw]
variable {ss:List Slot}{nx:List Slot->Prop}{R:Ak}{K:ZAY}{S:Addr}{tb:(L2.St->XK)->TS}{th:TS}{ta te ti:TE}{xs:List PV}{F:Hp}
theorem AG.rep {vs:List V}(h:AG F vs xs):∀ n:Nat,AG F (List.replicate n vs).flatten (List.replicate n xs).flatten
 | 0=>.nil
 | n+1=>by rw [Xm,Xm,Xh,Xh];exact h.append (AG.rep h n)
end
end Fz
namespace L2
section
variable {X:Cx}
end
end L2
namespace Fz
open L2 Lw
section
variable [Xw]
variable {E:Ent0}{ss:List Slot}{σ:L2.St} {F H F' H':Hp}{K:ZAY}{ta tb tc te:TE}{k:PV->Prop}{xs:List PV}{nx:List Slot->Prop}{R:Ak}
end
section
variable [Xw]
variable {ss:List Slot}{pre:Qd}{t:TA}
end
section
variable {X:Cx}
end
section
variable [Xw]
variable {ss:List Slot}{K:ZAY}{ta tb:TE}{k:PV->Prop}
end
end Fz
namespace L2
open Lw
section
variable {X:Cx}
def qJ:Ec X "list.extend" Rz:=wO
end
end L2
namespace Fz
open L2 Lw
section
variable [Xw]
variable {E:Ent0}{ss:List Slot}{σ:L2.St} {F H F' H':Hp}{K:ZAY}{ta tb tc te:TE}{k:PV->Prop}{v:V}{tp:Bool}{xs:List PV}{nx:List Slot->Prop}{R:Ak}
def qc {i:Nat}(hi:ss[i]?=some (.own xs)) (h:Wn ss te fun ys=>xs.length+ys.length<=100000/\nx (ss.set i (.own (xs++ys)))):Ws ss (GY (J8 K "list" Rz (BM i) (AO te An))) nx R:=⟨fun E D σ F H S hn hr=>by
 obtain ⟨l,vs,e,e1,e2,e3,r⟩:=S.ok i _ hi
 refine ⟨_,e,.inl ⟨rfl,_,AJ.of e3⟩,h.go E σ F H _ S fun l2 Eb ys F1 H1 m1 fl hl Jg rv ⟨hz,kk⟩=>?_⟩
 obtain ⟨l',Bk,e',C3,AY,Jd,r'⟩:=m1.st.ok i _ hi
 rw [e] at e'
 cases e'
 refine ⟨l,l2,Bk,Eb,rfl,rfl,Jd,Jg,small (by rw [r'.length,rv.length];exact hz),?_⟩
 exact hn _ σ F1 _ kk (m1.st.put hi e C3 AY (r'.append rv)) m1.ff⟩
end
section
variable [Xw]
variable {E:Ent0}{ss:List Slot}{σ:L2.St} {F H F' H':Hp}{K:ZAY}{js:List Nat}{ta tb te:TE}{nx:List Slot->Prop}{R:Ak}
def Zo {js:List Nat}{i j:Nat}(h:js[i]?=some j):(AS js σ)[i]?=some ((σ[j]?).join):=by
 unfold AS
 rw [Ag,h];rfl
def join_some {o:Option (Option V)}{a:Addr}(h:some o.join=some (some (V.ref a))):o=some (some (.ref a)):=by
 cases o with
 | none=>cases h
 | some q=>cases q with
  | none=>cases h
  | some v=>simpa using h
def Mv.bp {ps:List PV}{vs:List V}(S:Sg E ss σ F H) (m:Mv E (Bl js ss++ps.map .is) (AS js σ++vs.map some) F H F' H'):Mv E ss σ F H F' H':=by
 have hl:(Bl js ss).length=js.length:=by simp [Bl]
 have Bw:(AS js σ).length=js.length:=by simp [AS]
 have eO:∀ (i:Nat) (a:Addr),(Bl js ss++ps.map .is)[i]?=some .AK->(AS js σ++vs.map some)[i]?=some (some (.ref a))->∃ j,js[i]?=some j/\ss[j]?=some .AK/\σ[j]?=some (some (.ref a)):=fun i a hi ei=>by
  by_cases h:i < js.length
  ·rw [CZ (by rw [hl];exact h)] at hi
   rw [CZ (by rw [Bw];exact h)] at ei
   have hj:=Ad h
   have q:=dk hj hi
   rw [Zo hj] at ei
   refine ⟨js[i],hj,?_,join_some ei⟩
   cases w:ss[js[i]]? with
   | none=>rw [w] at q;cases q
   | some u=>rw [w] at q;cases q;rfl
  ·rw [Dh (by omega),Ag] at hi
   cases w:ps[i - (Bl js ss).length]? with
   | none=>rw [w] at hi;cases hi
   | some p=>rw [w] at hi;cases hi
 refine S.step m.ff m.st.fh (fun a o n e=>m.hh a o (fun i hi ei=>?_) e) m.nn fun i l hi e=>?_
 ·obtain ⟨j,_,h1,h2⟩:=eO i a hi ei
  exact n j h1 h2
 ·by_cases c:∃ i':Nat,js[i']?=some i
  ·obtain ⟨i',c⟩:=c
   have lt:i' < js.length:=(List.getElem?_eq_some_iff.mp c).1
   refine m.st.Cp (i:=i') ?_ ?_
   ·rw [CZ (by rw [hl];exact lt)]
    unfold Bl
    rw [Ag,c]
    show some ((ss[i]?).getD .any)=_
    rw [hi];rfl
   ·rw [CZ (by rw [Bw];exact lt),Zo c,e];rfl
  ·refine B3.keep (S.Cp hi e) fun o eo=>m.hh l o (fun i' C0 oW=>?_) eo
   obtain ⟨j,h0,h1,h2⟩:=eO i' l C0 oW
   have hj:j≠i:=by rintro rfl;exact c ⟨i',h0⟩
   exact S.Bg j i _ _ l hj h1 hi h2 e
def nh {wi:TI}{tt:TT}{te:TE}{k:List PV->Prop}(P:PV->PV->Prop)
  (h:Wi ss wi fun xs=>xs.length<=100000/\(∀ x∈xs,Wt (Bl js ss++[.is x]) tt fun b=>b=true)/\(∀ x∈xs,Wp (Bl js ss++[.is x]) te (P x))/\∀ ys:List PV,ys.length=xs.length->(∀ (j:Nat) x y,xs[j]?=some x->ys[j]?=some y->P x y)->k ys)
  (nd:js.Nodup:=by decide):Wn ss (Iu wi js tt te) k:=⟨fun E σ F H Q S q=>
 h.go E σ F H _ S fun J xs F1 H1 m1 sr ⟨hz,ht,he,kk⟩ acc Az=>by
  have Em:Bs ss σ acc:=m1.st.HN Az
  have IU:=m1.st.CO Az
  have Jj:∀ (i:Nat) s,ss[i]?=some s->¬ B2 s σ[i]? acc:=fun i s hi=>m1.st.HU hi Az
  refine ⟨fun i m H2=>m=xs.length - i/\i<=xs.length/\∃ F2 vs ys,Mv E ss σ F1 H1 F2 H2/\F2 acc=none/\H2 acc=some (.lst vs)/\AG F2 vs ys/\ys.length=i/\∀ (j:Nat) x y,xs[j]?=some x->ys[j]?=some y->P x y,⟨_,rfl,CJ _,F1,[],[],m1.st.make Az _,m1.st.B9 Az,Aa,.nil,rfl,fun j x y _ e=>by simp at e⟩,?_⟩
  rintro i m H2 ⟨rfl,hi,F2,vs,ys,m2,fa,ha,rv,KA,hP⟩
  by_cases AN:i < xs.length
  ·refine .inr ⟨sr.go ss σ F2 H2 i m2.ff m2.st AN,fun x H3 y=>?_⟩
   obtain ⟨p,F3,hp,m3,rp⟩:=sr.Dx ss σ F2 H2 i x H3 m2.ff m2.st AN y
   have HQ:p∈xs:=CC hp
   have Hj:∀ {F4:Hp},(∀ a o,F4 a=some o->F2 a=some o∨H2 a=none)->F4 acc=none:=fun {F4} n=>by
    cases e:F4 acc with
    | none=>rfl
    | some o=>
     rcases n acc o e with w | w
     ·rw [fa] at w;cases w
     ·rw [ha] at w;cases w
   have S3:=m3.st.A6 (js:=js) nd (.one rp)
   refine (ht p HQ).go E _ F3 H3 _ S3 fun b F4 H4 m4 hb=>?_
   have Iz:=m4.bp (ps:=[p]) (vs:=[x]) m3.st
   have CA:=m3.trans Iz
   show if b=true then _ else _
   rw [hb,if_pos rfl]
   have S4:=CA.st.A6 (js:=js) nd (.one (rp.mono Iz.ff))
   refine (he p HQ).go E _ F4 H4 _ S4 fun w pw F5 H5 m5 HV ew=>?_
   have Je:=m5.bp (ps:=[p]) (vs:=[x]) CA.st
   have Ct:=CA.trans Je
   have K2:=Ct.hh acc _ Em ha
   have GK:=Hj Ct.nn
   have hlen:vs.length<=99999:=by
    rw [rv.length,KA];omega
   refine ⟨vs,K2,J9 hlen,xs.length - (i+1),by omega,rfl,AN,F5,vs++[w],ys++[pw],?_,GK,Aa,(rv.mono Ct.ff).append (.one HV),by simp [KA],fun j a b hj hb=>?_⟩
   ·have DH:=m2.trans Ct
    refine ⟨DH.st.LR GK (.inl IU) Jj,DH.ff,fun a o n e=>?_,DH.nn⟩
    rw [AR (DA e Az)];exact DH.hh a o n e
   ·by_cases c:j < ys.length
    ·rw [CZ c] at hb;exact hP j a b hj hb
    ·have ej:j=i:=by
      have:=(List.getElem?_eq_some_iff.mp hb).1
      rw [BK,IH] at this
      omega
     subst ej
     rw [Dh (by omega),KA,Nat.sub_self] at hb
     rw [hp] at hj
     cases hj;cases hb
     exact ew
  ·have e:i=xs.length:=by omega
   subst e
   exact .inl ⟨sr.stop ss σ F2 H2 m2.ff m2.st,q acc vs _ F2 H2 (m1.trans m2) fa (m1.none Az) ha rv (kk ys KA hP)⟩⟩
end
section
variable [Xw]
variable {E:Ent0}{ss:List Slot}{σ:L2.St} {F H F' H':Hp}{K:ZAY}{js:List Nat}{i:Nat}{t:OV}{ta tb te:TE}{nx:List Slot->Prop}{R:Ak}
end
end Fz
namespace L2
def Wc (s:Stmt) (n:Nat):Stmt:=match s with
 | .ClassDef _ _ _ b ..=>b.getD n (.Pass ⟨0,0,0,0⟩)
 | s=>s
section
variable {X:Cx}{o e:Expr}{es:List Expr}{m x:Str}{C:Addr}{k j:Nat}{ps:List Str}{sp:Sp}{ta:TE}{t:TA}{apos pos p:Pos}{E:St->XK}
end
end L2
namespace Fz
open L2 Lw
@[reducible] def xwM (X:XK) (t:OV) (D:Ex->Prop):Xw:=⟨fun _=>X,fun ss=>ss[0]?=some (.ow true t),D⟩
section
variable {pre:Qd}{H:Hp}
def V3 (R:Ak) (A8:List Slot):Prop:=∃ (k:PV->OV->Prop) (nk:NK) (a:Addr) (us:List OV),R=.mt k/\A8[0]?=some (.ow true (.nd nk a us))/\k .A5 (.nd nk a us)
theorem V3.ok {E:Ent0}{R:Ak}{A8:List Slot}{σ:L2.St} {F H:Hp}(h:V3 R A8) (S:Sg E A8 σ F H):R.ok E F H .A5:=by
 obtain ⟨k,nk,a,us,rfl,h0,hk⟩:=h
 obtain ⟨v0,e0,r0,Cg,q0⟩:=S.ok 0 _ h0
 have ev:v0=.ref a:=by cases r0;rfl
 subst ev
 exact ⟨.A5,.nd nk a us,.A5,r0,Cg,fun b hb=>⟨(q0 b hb).1,(q0 b hb).2.imp id fun z=>z.2⟩,hk⟩
end
section
variable [Xw]
variable {ss:List Slot}{te tv:TE}{ta:TA}{i:Nat}{lt:Bool}{t:OV}{nx:List Slot->Prop}{R:Ak}{K:ZAY}{f:Str}
def O7 {pre:Pre}{C:Addr}{m:Str}{k:List PV->Prop}(h:Wp ss te fun o=>∃ ns xs,o=.obj C ns xs/\D5 ns m=none/\Wa ss ta fun l=>∃ k',pre (.is o :: l) (.new k')/\∀ p,k' p->k p):Wn ss (N5 C m (AV pre) [] E0 te ta) k:=⟨fun E σ F H Q S q=>
 h.go E σ F H _ S fun v o F1 H1 m1 ro ⟨ns,xs,eo,hm,h2⟩=>by
  subst eo
  cases ro with
  | @obj a _ dx _ Ky _ e1 e2 hl rr=>
   refine ⟨a,dx,ns.zip Ky,rfl,m1.st.fh _ _ e1,Xy hm,h2.go E σ F1 H1 _ m1.st fun vs l F2 H2 m2 al ⟨k',hp,kk⟩=>?_⟩
   rw [E9]
   refine ⟨.is (.obj C ns xs) :: l,.new k',F2,[],hp,m2.st.Ph (.cons (s:=.is _) (Rep.obj (m2.ff _ _ e1) (m2.ff _ _ e2) hl (rr.mono m2.ff)) al),fun v F' H' f ⟨a,Tb,Y9,ev,f1,h1,DI,r,kp⟩=>?_⟩
   subst ev
   exact q a Tb Y9 F' H' (m1.trans (m2.trans (m2.st.back (fun _ h=>absurd h Ai) f))) f1 (m1.none (m2.none h1)) DI r (kk Y9 kp)⟩
end
end Fz
namespace L2
section
variable {prog:Program}{w:World}{A:Around}{E:Value->Shared->Prop}{s:Shared}
def pZ:typeLookup (.type "dict") "__len__" = pure (some (.builtin "dict.__len__")):=by rw [typeLookup_type,builtinLookup_eq_fast];kernel_rfl
end
section
variable {X:Cx}
end
end L2
namespace Fz
open L2 Lw
theorem ZF:∀ {ks:List Key}{vs:List V},ks.length=vs.length->(ks.zip vs).map (·.1)=ks
 | [],[],_=>rfl
 | [],_ :: _,h=>by simp at h
 | _ :: _,[],h=>by simp at h
 | k :: ks,v :: vs,h=>by
  rw [Kr,BL,ZF (by simpa using h)]
section
variable [Xw]
variable {E:Ent0}{ss:List Slot}{σ:L2.St} {F H F' H':Hp}{K:ZAY}{i:Nat}{t:OV}{ta tb te:TE}{nx:List Slot->Prop}{R:Ak}
end
end Fz
namespace L2
section
variable {X:Cx}
end
end L2
namespace Fz
open L2 Lw
section
variable [Xw]
variable {E:Ent0}{ss:List Slot}{σ:L2.St} {F H F' H':Hp}{K:ZAY}{i:Nat}{t:OV}{ta tb tc te:TE}{nx:List Slot->Prop}{R:Ak}
end
end Fz
namespace L2
section
variable {prog:Program}{w:World}{A:Around}{s:Shared}{R:Result->Shared->Prop}
def iP {L S:Addr}{c0:Nat}{res:Value}{A3:List (Key×Value)}{n:Nat}(hh:A.handled=none) (Lr:(S == sysModules)=false) (hL:s.heap.get? L=some { cls:=.type "list", data:=.seq #[] c0 }) (oG:s.heap.DictOf (Cq prog w) S A3) (en:A3.length=n) (hn:n<=sizeLine)
  (h:∀ (s':Shared) (vs:List Value) (c':Nat),(∀ b o,b≠L->s.heap.get? b=some o->s'.heap.get? b=some o)->L < s'.heap.objs.size->s'.gens=s.gens->s'.os=s.os->s'.heap.get? L=some { cls:=.type "list", data:=.seq vs.toArray c' }->vs.length=n->(∀ (i:Nat) v,vs[i]?=some v->∃ k x,A3[i]?=some (k,x)/\(Cq prog w).is k v=true)->R (.ok (.ret res)) s') :
  wpAny (model prog w) A.in1 (Builtin.List.listExtendWith (.ref L) (.ref S) res)
   (fun fin s'=>match fin with | .done f=>R (.ok f) s' | .again c'=>c'.quiet=true/\codeAny (model prog w) A c' R s') (fun e s'=>R (.error e) s') s:=by
 obtain ⟨ep,hS⟩:=oG.dictAt
 have AN:S < s.heap.objs.size:=hS.lt_size
 have Yo:L≠S:=fun z=>by
  subst z
  obtain ⟨o,ho,hc⟩:=hS.dictOf.typeIs
  rw [hL] at ho
  cases ho
  exact absurd hc (by show ¬ Value.type "list" = Value.type "dict"; decide)
 have dh:Shared.TypeIs s (.ref S) "dict" := hS.dictOf.typeIs
 have h1:Builtin.List.listSameRef (.ref L) (.ref S)=false:=by simp [Builtin.List.listSameRef,Yo]
 unfold Builtin.List.listExtendWith
 refine wpAny_bind (wpAny_typeOf dh ?_)
 rw [if_neg (by rw [h1];decide)]
 refine wpAny_bind (wpAny_pyIter_dict (s:=s) Lr hS ?_)
 dsimp only
 generalize U6:({ cls:=.type "dict_keyiterator", data:=.fields #[.ref S,.int 0 0,.int A3.length 0,.int ep 0] }:Obj)=io
 have kp:∀ b o,s.heap.get? b=some o->(s.heap.push io).get? b=some o:=fun b o e=>Br _ e
 have Ao:S≠s.heap.objs.size:=C8 AN
 have W:∀ A2:Around,A2.handled=none->Walks prog w A2 s.heap.objs.size [s.heap.objs.size,S] [s.heap.objs.size] A3.length _ _:=fun A2 h2=>Walks.dictKeys (knd:=Cq prog w) h2 s.heap.objs.size S Ao A3 ep
 have Vp:(s.heap.push io).IsKeyIter s.heap.objs.size S 0 A3.length ep/\(s.heap.push io).DictAt (Cq prog w) S A3 ep:=⟨⟨io,DD _ (by rw [<- U6];rfl),by rw [<- U6],by rw [<- U6];rfl⟩,hS.push _⟩
 have Yc:L∉[s.heap.objs.size,S]:=fun hm=>by
  simp only [EW,Ai,or_false] at hm
  rcases hm with z | z
  ·have q:L < s.heap.objs.size:=B0 hL
   rw [z] at q;exact JM _ q
  ·exact Yo z
 generalize hh2:s.heap.push io=h2 at kp Vp ⊢
 have Ta:Shared.TypeIs { s with heap:=h2 } (.ref S) "dict" := by obtain ⟨o,ho,hc⟩:=dh;exact ⟨o,kp _ _ ho,hc⟩
 refine wpAny_bind (wpAny_holding ?_)
 unfold Builtin.List.listLengthHint
 refine wpAny_bind (wpAny_specialOf Ta pZ ?_)
 generalize cF:("dict.__len__" : String)=z5
 wp_delta
 rw [show splitId z5=some ("dict", "__len__") from by subst cF;decide +kernel]
 subst cF
 refine wpAny_bind (wpAny_isInstance (b:=true) Ta (by rw [isSubtype_type];kernel_rfl) ?_)
 rw [if_neg (by decide)]
 refine wpAny_ite_split (fun _=>?_) (fun FF=>absurd (by decide +kernel) FF)
 refine wpAny_bind (wpAny_typeOf Ta ?_)
 refine wpAny_pure ?_
 refine wpAny_ite_split (fun _=>?_) (fun FF=>absurd (by decide +kernel) FF)
 refine wpAny_bind (wpAny_rule ?_)
 refine wpAny_bind ?_
 show wpAny _ _ (updateSeq L (·.push .none) >>= fun _=>updateSeq L (·.pop)) _ _ _
 have z0:(#[]:Array Value).size<=sizeLine:=CJ _
 have z1:((#[]:Array Value).push Value.none).size<=sizeLine:=by show 1<=sizeLine;decide
 have z2:((#[]:Array Value).push Value.none).size<=sizeLine+1:=Nat.le_succ_of_le z1
 have z3:(((#[]:Array Value).push Value.none).pop).size<=sizeLine+1:=CJ _
 have aj:=kp _ _ hL
 refine wpAny_bind (wpAny_updateSeq (s:={ s with heap:=h2 }) aj rfl ?_ z0 z2)
 have q2:=OX (Obj.mapSeq (·.push Value.none)) aj rfl
 refine wpAny_updateSeq q2 rfl ?_ z1 z3
 have q3:=OX (Obj.mapSeq (·.pop)) q2 rfl
 have ck:∀ b o,b≠L->h2.get? b=some o->((h2.update L (Obj.mapSeq (·.push Value.none))).update L (Obj.mapSeq (·.pop))).get? b=some o:=
  fun b o hb e=>(Rj _ _ (Bi hb)).trans ((Rj _ _ (Bi hb)).trans e)
 refine wpAny_pure ⟨plainId_quiet PySem.F.plain_extend_loop _,codeAny_extend_loopS (W A.in1 hh).toS (en▸hn) _ Yc _ A3.length 0 _ #[] _ rfl (CJ _) ?_ q3 (ItemsOf.nil _) fun s' tK c' hm gK Az=>?_⟩
 ·exact (W A.in1 hh).frame 0 h2 _ Vp fun b hb o e=>ck b o (fun z=>Yc (z▸hb)) e
 ·have hsz:L < s'.heap.objs.size:=B0 gK
  refine h s' tK.toList c' (fun b o hb e=>?_) hsz hm.gens hm.os gK (by rw [Cw,Az.1];exact en) fun i v hv=>Az.2 i v (by rw [<- gN];exact hv)
  have D0:b < s.heap.objs.size:=B0 e
  refine hm.heap b o ?_ (ck b o hb (kp b o e))
  simp only [EW,Ai,or_false,not_or]
  exact ⟨hb,C8 D0⟩
end
theorem dU {prog:Program}{w:World}:∀ {ks:List Key}{A3:List (Key×Value)}{vs:List Value},A3.map (·.1)=ks->vs.length=A3.length->(∀ (i:Nat) v,vs[i]?=some v->∃ k x,A3[i]?=some (k,x)/\(Cq prog w).is k v=true)->Vals (ks.map kV) vs
 | [],[],[],_,_,_=>.nil
 | [],[],_ :: _,_,h,_=>by simp at h
 | [],_ :: _,_,h,_,_=>by simp at h
 | _ :: _,[],_,h,_,_=>by simp at h
 | _ :: _,_ :: _,[],_,h,_=>by simp at h
 | n :: ns,kv :: A3,v :: vs,e,hl,h=>by
  rw [BL] at e
  injection e with e1 e2
  obtain ⟨k,x,ek,hk⟩:=h 0 v rfl
  have u6:kv=(k,x):=by simpa using ek
  subst u6
  have C3:k=n:=e1
  subst C3
  refine .cons ?_ (dU e2 (by simpa using hl) fun i v hv=>h (i+1) v hv)
  rcases Gi (show KW k v=true from hk) with ⟨i,t,rfl,rfl⟩ | ⟨y,t,rfl,rfl⟩
  ·exact ⟨t,rfl⟩
  ·exact ⟨t,rfl⟩
section
variable {X:Cx}
def ZM:List V->Hp->VK->Prop:=fun xs H Q=>∃ (p:Addr) (A3:List (Key×V)),xs=[.ref p]/\Rd H p (.dK A3)/\A3.length<=1000/\∀ l:Addr,H l=none->Q (.ref l) (upd H l (.lst ((A3.map (·.1)).map kV)))
def vo (hc:X.calm=true):C2 X (.type "list") ZM:=by
 intro pins s σ H xs us Q I r h
 obtain ⟨p,A3,rfl,hH,ay,q⟩:=h
 obtain ⟨u,rfl,rx⟩:=vals1 r
 cases rx
 obtain ⟨hz,Lr,Ky,rel,hS⟩:=LF I.AF hH
 have hh:X.A.handled=none:=I.ok.hd hc
 have AN:p < s.heap.objs.size:=by obtain ⟨ep,h2⟩:=hS.dictAt;exact h2.lt_size
 have Ao:p≠s.heap.objs.size:=C8 AN
 refine callType_codes (Q₁:=fun obj s₁=>obj=.ref s.heap.objs.size/\s₁={ s with heap:=s.heap.push { cls:=.type "list", data:=.seq #[] } }) F.called_list (F.typeCall_list_1 _) F.entry_list_init
  (code_list_new _ ⟨rfl,rfl⟩) fun obj s₁ h₁=>?_
 obtain ⟨rfl,rfl⟩:=h₁
 have PF:(s.heap.push { cls:=.type "list", data:=.seq #[] }).get? s.heap.objs.size=some { cls:=.type "list", data:=.seq #[] }:=DD _ rfl
 refine ⟨⟨_,PF,rfl⟩,F.args_list_init_2 _ _,?_⟩
 show wpAny _ X.A.in1.in1 (do let old <- Builtin.List.listItems (.ref s.heap.objs.size);Builtin.List.listUpdate (.ref s.heap.objs.size) (fun _=>#[]);letGo old.toList.reverse;Builtin.List.listExtendWith (.ref s.heap.objs.size) (.ref p) .none) _ _ _
 refine wpAny_bind ?_
 unfold Builtin.List.listItems
 refine wpAny_bind (wpAny_seqItems PF rfl (wpAny_pure ?_))
 show wpAny _ X.A.in1.in1 (updateSeq s.heap.objs.size (fun _=>#[]) >>= fun _=>letGo (#[]:Array Value).toList.reverse >>= fun _=>Builtin.List.listExtendWith (.ref s.heap.objs.size) (.ref p) .none) _ _ _
 refine wpAny_bind (wpAny_updateSeq PF rfl ?_)
 have iC:=OX (Obj.mapSeq (fun _=>(#[]:Array Value))) PF rfl
 have old:∀ b o,s.heap.get? b=some o->((s.heap.push { cls:=.type "list", data:=.seq #[] }).update s.heap.objs.size (Obj.mapSeq (fun _=>(#[]:Array Value)))).get? b=some o:=fun b o e=>
  (Rj _ _ (Oh (B0 e))).trans (Br _ e)
 have mL:((s.heap.push { cls:=.type "list", data:=.seq #[] }).update s.heap.objs.size (Obj.mapSeq (fun _=>(#[]:Array Value)))).DictOf (Cq X.prog X.w) p Ky:=by
  obtain ⟨o,es,ep,ho,rest⟩:=hS
  exact ⟨o,es,ep,old _ _ ho,rest⟩
 refine wpAny_bind (wpAny_letGo ?_)
 refine iP (A:=X.A.in1) hh Lr iC mL rfl (by rw [<- rel.length];exact hz) fun s' vs c' a1 a2 a3 a4 a5 a6 a7=>?_
 have vv:Vals ((A3.map (·.1)).map kV) vs:=by
  rw [rel.keys]
  exact dU rfl a6 a7
 refine ⟨rfl,?_⟩
 obtain ⟨h1,g1,d1,t1,o1⟩:=s'
 simp only at a1 a2 a3 a4 a5
 subst a3;subst a4
 refine ⟨.ref _,_,(I.drew d1).laid (a:=s.heap.objs.size) (h':=h1) (t':=t1) (o:=.lst ((A3.map (·.1)).map kV)) (fun b o e=>a1 b o (C8 (B0 e)) (old b o e)) (Ae _) ?_,rfl,q _ (I.AF.fresh (Ae _))⟩
 exact ⟨by rw [AE,AE];exact hz,vs,c',vv,a5⟩
end
section
variable {X:Cx}{i o:Expr}{ty td:TE}{pos:Pos}
def S7 (hu:X.A.units+1 < cLine) (hi:QE X i ty) (ho:QE X o td) (hm:behindInMarks .In o=false:=by with_unfolding_all rfl):QT X (.Compare i [.In] [o] pos) (tB (P4 ty td)):=⟨fo (kB hu hi.h ho.h) hm⟩
def xg (hu:X.A.units+1 < cLine) (hi:QE X i ty) (ho:QE X o td) (hm:behindInMarks .NotIn o=false:=by with_unfolding_all rfl):QT X (.Compare i [.NotIn] [o] pos) (tB (U4 ty td)):=⟨fo (ql hu hi.h ho.h) hm⟩
end
end L2
namespace Fz
open L2 Lw
theorem WC {F:Hp}:∀ ks:List Key,AG F (ks.map kV) (ks.map Hr)
 | []=>.nil
 | .inl i :: ks=>.cons (.int i) (WC ks)
 | .inr x :: ks=>.cons (.str x) (WC ks)
section
variable [Xw]
variable {E:Ent0}{ss:List Slot}{σ:L2.St} {F H F' H':Hp}{K:ZAY}{i:Nat}{t:OV}{ta tb tc te:TE}{nx:List Slot->Prop}{R:Ak}
def vR {k:List PV->Prop}(h:Wp ss te fun p=>∃ (ks:List Key) (xs:List PV),p=.Ap ks xs/\ks.length<=1000/\k (ks.map Hr)):Wn ss (C1 ZM (AO te An)) k:=⟨fun E σ F H Q S q=>
 h.go E σ F H _ S fun v p F1 H1 m1 rp ⟨ks,xs,e,hz,kk⟩=>by
  subst e
  cases rp with
  | @Ap a _ vs _ ef hl rr=>
   refine ⟨a,_,rfl,.inl (m1.st.fh _ _ ef),by rw [Xj];omega,fun l Du=>?_⟩
   rw [ZF hl]
   have m2:=m1.st.make Du (.lst (ks.map kV))
   exact q l _ _ F1 _ (m1.trans m2) (m1.st.B9 Du) (m1.none Du) Aa (WC ks) kk⟩
end
end Fz
namespace L2
def mM (a:Addr) (xs:List (List Bool×Addr×Value)) (h:Heap):Prop:=
 ∃ o es ep,h.get? a=some o/\o.ExactDict/\o.data=.dict es ep/\(∀ (P:Program) (w:World),es.toList=xs.map (entryOfKey (tupleKind (nE P w))))/\(xs.map (·.1)).Nodup
def qZ (a:Addr) (xs:List (List Bool×Addr×Value)):HO:=.ext (mM a xs)
abbrev KB (H:Hp):List (List Bool×V)->List (List Bool×Addr×Value)->Prop:=Paired fun p q=>p.1=q.1/\H q.2.1=some (.tup (p.1.map V.bl))/\RelV p.2 q.2.2
def DB (H:Hp) (a:Addr) (A3:List (List Bool×V)):Prop:=A3.length<=sizeLine/\(a == sysModules)=false/\∃ xs,H a=some (qZ a xs)/\KB H A3 xs
def KB.val {H:Hp}{A3:List (List Bool×V)}{xs:List (List Bool×Addr×Value)}(r:KB H A3 xs) (k:List Bool):Dq (DU A3 k) ((atKey xs k).map (·.2)):=by
 induction r with
 | nil=>exact trivial
 | @cons p q ps qs h t ih=>
  obtain ⟨p1,p2⟩:=p
  obtain ⟨q1,q2,q3⟩:=q
  obtain ⟨h1,_,h3⟩:=h
  cases h1
  by_cases e:p1=k
  ·rw [OH e,show atKey ((p1,q2,q3) :: qs) k=some (q2,q3) from by simp [atKey,e]];exact h3
  ·rw [Nj e,show atKey ((p1,q2,q3) :: qs) k=atKey qs k from by simp [atKey,e]];exact ih
def KB.keeps {H H':Hp}{A3:List (List Bool×V)}{xs:List (List Bool×Addr×Value)}(r:KB H A3 xs) (ht:∀ b ys,H b=some (.tup ys)->H' b=some (.tup ys)):KB H' A3 xs:=
 Paired.Py r fun _ _ z=>⟨z.1,ht _ _ z.2.1,z.2.2⟩
theorem DB.keeps {H H':Hp}{a:Addr}{A3:List (List Bool×V)}(d:DB H a A3) (k:∀ b o,H b=some o->H' b=some o):DB H' a A3:=by
 obtain ⟨z,y,xs,e,r⟩:=d
 exact ⟨z,y,xs,k _ _ e,r.keeps fun b ys q=>k _ _ q⟩
section
variable {P:Program}{w:World}{H:Hp}{h:Heap}{a:Addr}
end
section
variable {X:Cx}{pins:ZAZ}{σ:St} {H:Hp}{s:Shared}{a b:Addr}{v:V}{r:Value}{k:List Bool}{A3:List (List Bool×V)}{A:Around}{E:Value->Shared->Prop}
end
section
variable {X:Cx}{o i e value:Expr}{pos pos' Kc:Pos}{td ty tv:TE}
end
section
variable {prog:Program}{w:World}{A:Around}{s:Shared}
def oB {elt iter:Expr}{es:List Expr}{k1:Nat}{tp:Pos}{ifs:List Expr}{scope:Scope}{pos:Pos}{it acc:Value}{env:Env}{R:Result->Shared->Prop}(I:Nat->Shared->Prop)
  (turn:∀ n s,I n s->wpAny (model prog w) A (pyNext it) (fun r s1=>match r with
   | none=>R (.ok .next) s1
   | some v=>wpAny (model prog w) A (letOwnedTupleGo (.Tuple es k1 tp) it v) (fun _ s2=>wpAny (model prog w) A (assign (.Tuple es k1 tp) env v) (fun _ s3=>
     wpAny (model prog w) A (forIn ifs true fun c r=>if r=true then do let ok <- isTrue c env (eval c env);pure (ForInStep.yield ok) else pure (ForInStep.yield r)) (fun ok s4=>if ok=true then
      wpAny (model prog w) A (eval elt env) (fun x s5=>wpAny (model prog w) A (call (.builtin "list.append") [acc,x]) (fun _ s6=>∃ m,m < n/\I m s6) (notedBy (model prog w) A env fun e s'=>R (.error e) s') s5) (notedBy (model prog w) A env fun e s'=>R (.error e) s') s4
      else ∃ m,m < n/\I m s4) (notedBy (model prog w) A env fun e s'=>R (.error e) s') s3)
     (notedBy (model prog w) A env fun e s'=>R (.error e) s') s2) (notedBy (model prog w) A env fun e s'=>R (.error e) s') s1) (notedBy (model prog w) A env fun e s'=>R (.error e) s') s)
  (n:Nat) (h:I n s):codeAny (model prog w) A (.compLoop (.ListComp elt [⟨.Tuple es k1 tp,iter,ifs,0⟩] scope pos) 0 it acc env) R s:=by
 refine codeAny_loop rfl I (fun n s hI=>(show wpAny _ A ((compTurn (.ListComp elt [⟨.Tuple es k1 tp,iter,ifs,0⟩] scope pos) 0 it acc env).onRaise (fun x=>do noteFrame x env;theTreesLotGoes x)) _ _ s from wpAny_noted ?_)) n h
 rw [compTurn_list]
 refine wpAny_bind (wpAny_standAt (wpAny_bind (wpAny_mono (turn n s hI) (fun r s1 q1=>?_) fun _ _ z=>z)))
 cases r with
 | none=>exact wpAny_pure q1
 | some v=>
  refine wpAny_bind (wpAny_mono q1 (fun _ s2 q2=>wpAny_bind (wpAny_mono q2 (fun _ s3 q3=>wpAny_bind (wpAny_mono q3 (fun ok s4 q4=>?_) fun _ _ z=>z)) fun _ _ z=>z)) fun _ _ z=>z)
  cases ok with
  | false=>
   rw [if_neg (by decide)] at q4
   exact wpAny_bind (wpAny_pure (wpAny_pure ⟨rfl,q4⟩))
  | true=>
   rw [if_pos rfl] at q4
   exact wpAny_bind (wpAny_bind (wpAny_mono q4 (fun x s5 q5=>wpAny_bind (wpAny_mono q5 (fun _ s6 q6=>wpAny_pure (wpAny_pure ⟨rfl,q6⟩)) fun _ _ z=>z)) fun _ _ z=>z))
end
section
variable {X:Cx}{pins:ZAZ}{σ:St} {H2:Hp}{s2:Shared}{elt iter:Expr}{ifs:List Expr}{x z:Str}{px pz tp pos:Pos}{tk:Nat}{scope:Scope}{A6:List Str}{js:List Nat}{tt:TT}{te:TE}{J:It}{fp:List Addr}{it:Addr}
 {tn:Nat->Heap->Prop}
end
structure GV (N:List Str) (outer scope:Scope) (zs:List Str) (A6:List Str) (js:List Nat):Prop where
 kind:scope.kind=.function
 Ny:∀ y∈scope.names,y.2≠.cell
 loc:∀ y∈scope.names,y.2=.local->scope.names.lookup y.1=some .local
 Kn:∀ x∈zs,scope.names.lookup x=some .local
 at':js.map (fun j=>N[j]?)=A6.map some
 cell:∀ y∈A6,outer.names.lookup y=some .cell
 free:∀ y∈A6,scope.names.lookup y=some .free
 all:∀ y∈scope.names,y.2=.free->outer.names.lookup y.1=some .cell
 nd:(A6++zs).Nodup
inductive Gm:List Str->List Expr->Prop
 | nil:Gm [] []
 | cons {x zs p es}:Gm zs es->Gm (x :: zs) (.Name x p :: es)
def Qt (i:Nat):Nat->GF
 | 0=>Nz
 | n+1=>Ie (CV i) (Qt (i+1) n)
theorem Y6 {Q:St->Hp->Prop}{H:Hp}:∀ {us:List V}{l ws:St},ws.length=us.length->Q (l++us.map some) H->Qt l.length us.length us (l++ws) H Q
 | [],l,ws,h,q=>by
  rw [List.length_eq_zero_iff.mp h];exact ⟨rfl,q⟩
 | u :: us,l,w :: ws,h,q=>by
  refine ⟨u,us,rfl,?_⟩
  show Qt (l.length+1) us.length us ((l++w :: ws).set l.length (some u)) H Q
  have e:(l++w :: ws).set l.length (some u)=(l++[some u])++ws:=by
   rw [List.set_append_right _ _ (Ae _),Nat.sub_self];simp
  have el:l.length+1=(l++[some u]).length:=by simp
  rw [e,el]
  refine Y6 (l:=l++[some u]) (by simpa using h) ?_
  rw [CH];exact q
theorem e7 {X:Cx}(hN:X.N.Nodup):∀ {zs:List Str}{es:List Expr}{i:Nat},Gm zs es->(∀ (j:Nat) x,zs[j]?=some x->X.N[i+j]?=some x/\Loc X.env.scope x/\X.env.scope.names.lookup x=some .local)->Kw X es (Qt i zs.length)
 | _,_,_,.nil,_=>gD
 | _,_,i,.cons (x:=x) (zs:=zs) r,h=>by
  obtain ⟨h1,h2,h3⟩:=h 0 _ rfl
  refine cY (Qi hN h1 h2 (.inr h3)) (e7 hN r fun j y hj=>?_)
  have:=h (j+1) y hj
  rwa [show i+(j+1)=i+1+j by omega] at this
def oM {n i:Nat}{v:V}(h:(List.replicate n (none:Option V))[i]?=some (some v)):False:=by
 rw [gc] at h
 by_cases c:i < n
 ·rw [if_pos c] at h;cases h
 ·rw [if_neg c] at h;cases h
def b5 (K:ZAY) (n:Nat) (J:It) (js:List Nat) (tt:TT) (te:TE) (σ:St) (H1:Hp) (acc:Addr) (Q:VK):Prop:=
 ∃ W:Nat->Nat->Hp->Prop,(∃ m,W 0 m (upd H1 acc (.lst [])))/\∀ i m H2,W i m H2->
  (J.stop i H2/\Q (.ref acc) H2)∨(J.go i H2/\∀ x H3,J.Dx i H2 x H3->∃ a us,x=.ref a/\Ab K H3 a us/\us.length=n/\tt (AS js σ++us.map some) H3 fun b H4=>if b=true then te (AS js σ++us.map some) H4 fun y H5=>∃ ys,H5 acc=some (.lst ys)/\ys.length < sizeLine/\∃ m',m' < m/\W (i+1) m' (upd H5 acc (.lst (ys++[y]))) else ∃ m',m' < m/\W (i+1) m' H4)
def L1 (K:ZAY) (n:Nat) (wi:TI) (js:List Nat) (tt:TT) (te:TE):TE:=fun σ H Q=>wi σ H fun J H1=>∀ acc,H1 acc=none->b5 K n J js tt te σ H1 acc Q
section
variable {X:Cx}{pins:ZAZ}{σ:St} {H2:Hp}{s2:Shared}{elt iter:Expr}{ifs es:List Expr}{zs:List Str}{tp pos:Pos}{tk:Nat}{scope:Scope}{A6:List Str}{js:List Nat}{tt:TT}{te:TE}{J:It}{fp:List Addr}{it:Addr}
 {tn:Nat->Heap->Prop}
def p7 (S:GV X.N X.env.scope scope zs A6 js) (I3:Inv X pins σ H2 s2) (f2:∀ b∈fp,Bv X pins H2 b) (L5:∀ b∈fp,b < s2.heap.objs.size){h1:Heap}
  {m:ZAa}(Dy:h1.Ns s2.heap.objs.size m) (old:∀ b o,s2.heap.get? b=some o->h1.get? b=some o){t':Nat} :
  Inv (Ax X (A6++zs) scope (B6 X.env.cells scope.names) s2.heap.objs.size s2 H2 fp) [] (AS js σ++List.replicate zs.length none) H2 { s2 with heap:=h1,toks:=t' }:=by
 have NW:∀ y∈scope.names,y.2=.free->(X.env.cells.lookup y.1).isSome=true:=fun y hy hk=>by
  obtain ⟨c,e⟩:=I3.ok.has y.1 (.inl (S.all y hy hk))
  rw [e];rfl
 have E1:∀ y c,(B6 X.env.cells scope.names).lookup y=some c->X.env.cells.lookup y=some c:=QU scope.names [] NW (fun _ _ e=>by cases e)
 have JG:∀ y k,(relabel scope X.env).names.lookup y=some k->k=.cell∨k=.free->scope.names.lookup y=some .free:=fun y k e hk=>by
  have e':=(IZ (env:=X.env) scope.names y).symm.trans e
  cases q:scope.names.lookup y with
  | none=>rw [q] at e';cases e'
  | some k0=>
   rw [q] at e'
   have Ao:=S.Ny _ (FN q)
   cases k0 with
   | free=>rfl
   | cell=>exact absurd rfl Ao
   | _=>simp at e';rcases hk with rfl | rfl <;> cases e'
 have hlen:js.length=A6.length:=by have:=congrArg List.length S.at';simpa using this
 have Q7:∀ y c,X.env.cells.lookup y=some c->c < s2.heap.objs.size:=fun y c e=>by
  obtain ⟨v,o,ho,_⟩:=I3.cell y c e
  exact B0 ho
 have cellK:∀ c v,s2.heap.IsCell c v->h1.IsCell c v:=fun c v ⟨o,ho,hd⟩=>⟨o,old c o ho,hd⟩
 refine ⟨⟨I3.ok.mod,S.kind,I3.ok.glob,I3.ok.blt,Ae _,fun y z c e1 e2=>I3.ok.inj y z c (E1 y c e1) (E1 z c e2),fun y hy=>?_,fun y c hf _=>(by cases hf),I3.ok.hd,I3.ok.frames,.inl rfl,fun b hb=>⟨C8 (L5 b hb),fun y c e=>(f2 b hb).2.2.2.2.1 y c (E1 y c e)⟩,
  fun b o e=>I3.bs b o e,Dj I3.ok.Ew I3.sz,fun b o e hb=>?_,fun b hb hs=>?_,I3.stack,I3.RJ⟩,rfl,I3.bare,Un.kept old,⟨m,Dy,fun i y v e1 e2 e3=>?_⟩,fun y c e=>?_,I3.AF.fresh (Ae _),fun y c e=>I3.FQ y c (E1 y c e),fun p hp=>(by cases hp),I3.AF.kept old,?_⟩
 ·have hf:scope.names.lookup y=some .free:=by
   rcases hy with hy | hy
   ·exact JG y _ hy (.inl rfl)
   ·exact JG y _ hy (.inr rfl)
  exact Option.isSome_iff_exists.mp (JV scope.names [] (.inr (FN hf)))
 ·rcases (f2 b hb).2.2.2.1 with z | z
  ·exact I3.ok.KN b o e z
  ·exact absurd (Cy (Cy (B0 e) I3.ok.Ew) z) (JM _)
 ·rcases List.mem_cons.mp (I3.ON b hs) with z | z
  ·exact (f2 b hb).2.1 z
  ·exact (f2 b hb).2.2.1 z
 ·have EH:(AS js σ).length=A6.length:=by unfold AS;rw [AE,hlen]
  have hi:i < A6.length:=by
   by_cases hi:i < A6.length
   ·exact hi
   ·have AY:(AS js σ++List.replicate zs.length none)[i]?=some (some v):=e2
    rw [Dh (by rw [EH];omega),EH] at AY
    exact (oM AY).elim
  have C3:A6[i]?=some y:=by
   have C3:(A6++zs)[i]?=some y:=e1
   rwa [CZ hi] at C3
  have AY:(AS js σ)[i]?=some (some v):=by
   have AY:(AS js σ++List.replicate zs.length none)[i]?=some (some v):=e2
   rwa [CZ (by rw [EH];exact hi)] at AY
  have C6:y∈A6:=CC C3
  unfold AS at AY
  rw [Ag] at AY
  cases hj:js[i]? with
  | none=>rw [hj] at AY;cases AY
  | some j=>
   rw [hj] at AY
   have hN:X.N[j]?=some y:=by
    have q:=congrArg (fun l=>l[i]?) S.at'
    simp only [Ag,hj,C3,JN] at q
    exact BG q
   have hσ:σ[j]?=some (some v):=by
    simp only [JN,MK] at AY
    cases q:σ[j]? with
    | none=>rw [q] at AY;cases AY
    | some w=>rw [q] at AY;simp at AY;rw [AY]
   obtain ⟨m0,YL,N1⟩:=I3.loc
   obtain ⟨u,r,l⟩:=N1 j y v hN hσ (.inr (.inl (S.cell y C6)))
   refine ⟨u,r,?_⟩
   rcases l with ⟨k,_⟩ | ⟨_,c,e,z⟩
   ·have k':X.env.scope.names.lookup y=some .local:=k
    rw [S.cell y C6] at k';cases k'
   ·have KS:X.env.kindOf y=some .cell:=S.cell y C6
    have hk:(relabel scope X.env).names.lookup y=some .cell:=by
     refine (IZ (env:=X.env) scope.names y).trans ?_
     rw [S.free y C6]
     simp [I3.ok.kind,KS]
    obtain ⟨c',e'⟩:=Option.isSome_iff_exists.mp (JV (cells:=X.env.cells) scope.names [] (.inr (FN (S.free y C6))))
    have IK:=E1 y c' e'
    rw [e] at IK;cases IK
    exact .inr ⟨.inl hk,c,e',cellK c _ z⟩
 ·obtain ⟨v,z⟩:=I3.cell y c (E1 y c e)
  exact ⟨v,cellK c v z⟩
 ·show (AS js σ++List.replicate zs.length none).length=(A6++zs).length
  unfold AS
  simp [hlen]
def lP {acc C:Addr}{s3:Shared}{H3:Hp}{cl:List (Str×Addr)}{s4:Shared}{ws:St}{H4:Hp}{R:Result->Shared->Prop}(hc:X.calm=true) (S:GV X.N X.env.scope scope zs A6 js) (G2:Gm zs es) (G9:∀ e,(assignEach es e).length=zs.length) (Df:∀ e,(assignEach es e).findIdx? (·.1)=none)
  (Bt:FJ (Ax X (A6++zs) scope cl C s3 H3 fp) ifs tt) (Bu:PE (Ax X (A6++zs) scope cl C s3 H3 fp) elt te)
  (T:Turn X.prog X.w X.K (.Tuple es tk tp) J fp it tn) (O8:∀ b∈fp,(Ax X (A6++zs) scope cl C s3 H3 fp).Ok->Bv (Ax X (A6++zs) scope cl C s3 H3 fp) [] (fun _=>none) b)
  (W:Nat->Nat->Hp->Prop) (Q:VK)
  (turn:∀ i m H2,W i m H2->(J.stop i H2/\Q (.ref acc) H2)∨(J.go i H2/\∀ x H3,J.Dx i H2 x H3->∃ a us,x=.ref a/\Ab X.K H3 a us/\us.length=zs.length/\tt (AS js σ++us.map some) H3 fun b H4=>if b=true then te (AS js σ++us.map some) H4 fun y H5=>∃ ys,H5 acc=some (.lst ys)/\ys.length < sizeLine/\∃ m',m' < m/\W (i+1) m' (upd H5 acc (.lst (ys++[y]))) else ∃ m',m' < m/\W (i+1) m' H4))
  (I4:Inv (Ax X (A6++zs) scope cl C s3 H3 fp) [] (AS js σ++ws) H4 s4) (Ee:tn 0 s4.heap) (OQ:∀ b∈fp,H4 b=none) (m0:Nat) (w4:W 0 m0 H4)
  (vU:ws.length=zs.length) (hR:∀ H' s' ws,Inv (Ax X (A6++zs) scope cl C s3 H3 fp) [] (AS js σ++ws) H' s'->Q (.ref acc) H'->R (.ok .next) s') :
  codeAny (model X.prog X.w) X.A (.compLoop (.ListComp elt [⟨.Tuple es tk tp,iter,ifs,0⟩] scope pos) 0 (.ref it) (.ref acc) (compEnvC scope cl C X.env)) R s4:=by
 have hlen:(AS js σ).length=A6.length:=by
  unfold AS;rw [AE];have:=congrArg List.length S.at';simpa using this
 have AF:=I4.ok
 have EJ:∀ {H':Hp},(∀ b∈fp,H' b=none)->∀ b∈fp,Bv (Ax X (A6++zs) scope cl C s3 H3 fp) [] H' b:=fun hn b hb=>⟨hn b hb,(O8 b hb AF).2⟩
 refine oB (fun n s'=>∃ i ws H',ws.length=zs.length/\Inv (Ax X (A6++zs) scope cl C s3 H3 fp) [] (AS js σ++ws) H' s'/\tn i s'.heap/\(∀ b∈fp,H' b=none)/\W i n H') ?_ m0 ⟨0,ws,H4,vU,I4,Ee,OQ,w4⟩
 rintro n s5 ⟨i,vx,H5,ni,I5,Fb,Gz,w5⟩
 rcases turn i n H5 w5 with ⟨stop,q⟩ | ⟨go,step⟩
 ·refine wpAny_mono (T.done (Ax X (A6++zs) scope cl C s3 H3 fp) rfl rfl rfl hc i [] s5 _ H5 (fun _ _=>False) I5 (EJ Gz) Fb stop) (fun r s6 ⟨hr,I6⟩=>?_) fun _ _ z=>z.elim
  subst hr
  exact hR H5 s6 vx I6 q
 ·refine wpAny_mono (T.item (Ax X (A6++zs) scope cl C s3 H3 fp) rfl rfl rfl hc i [] s5 _ H5 (fun _ _=>False) I5 (EJ Gz) Fb go) (fun r s6 ⟨u,hr,h6⟩=>?_) fun _ _ z=>z.elim
  subst hr
  refine wpAny_mono h6 (fun _ s7 ⟨v,H7,I7,r7,y7,GB,NT⟩=>?_) fun _ _ z=>z.elim
  have OD:=I7.pinned (EJ NT) (T.obj _ _ GB)
  obtain ⟨ta,us,rfl,oJ,HA,qx⟩:=step v H7 y7
  refine wpAny_mono (cT (X:=Ax X (A6++zs) scope cl C s3 H3 fp) (n:=zs.length) hc (e7 S.nd (i:=A6.length) G2 fun j y hj=>?_) (G9 _) (Df _) _ s7 _ H7 _ u
   (fun σ8 H8=>σ8=AS js σ++us.map some/\H8=H7) OD r7 ⟨ta,us,rfl,oJ,HA,?_⟩) (fun _ s8 ⟨σ8,H8,I8,e8,Mq⟩=>?_) fun _ _ z=>z.elim
  ·have hm:=CC hj
   exact ⟨by show (A6++zs)[A6.length+j]?=_;rw [Dh (by omega),Nat.add_sub_cancel_left];exact hj,.inl (lookup_relabel_local (S.Kn y hm)),lookup_relabel_local (S.Kn y hm)⟩
  ·rw [<- HA,<- hlen]
   exact Y6 (by rw [ni,HA]) ⟨rfl,rfl⟩
  subst e8;subst Mq
  have again:∀ {σa:St} {Ha:Hp}{sa:Shared},Inv (Ax X (A6++zs) scope cl C s3 H3 fp) ([]++Ke fp s7.heap) σa Ha sa->tn (i+1) sa.heap/\(∀ b∈fp,Ha b=none):=fun {σa Ha sa} Ia=>by
   refine ⟨T.keep _ _ _ GB fun b hb o e=>(Ia.pin (b,o) (Di _ (Di _ (Ig hb e)))).1,fun b hb=>?_⟩
   obtain ⟨o,e,d⟩:=T.obj _ _ GB b hb
   exact (Ia.pin (b,o) (Di _ (Di _ (Ig hb e)))).2.1
  refine wpAny_mono (Bt _ s8 _ H8 _ I8 qx) (fun b s9 ⟨H9,I9,q9⟩=>?_) fun _ _ z=>z.elim
  cases b with
  | false=>
   have NS:∃ m',m' < n/\W (i+1) m' H9:=q9
   obtain ⟨m',hm,w9⟩:=NS
   rw [if_neg (by decide)]
   exact ⟨m',hm,i+1,_,H9,by rw [AE,HA],I9.Hz,(again I9).1,(again I9).2,w9⟩
  | true=>
   rw [if_pos rfl]
   rw [if_pos rfl] at q9
   refine wpAny_mono (Bu _ s9 _ H9 _ I9 q9) (fun yv OJ ⟨y,J7,OO,ML,ys,Az,hz,m',hm,Ni⟩=>?_) fun _ _ z=>z.elim
   refine wpAny_mono (Qp (X:=Ax X (A6++zs) scope cl C s3 H3 fp) _ OJ _ J7 (.ref acc) [y] (.ref acc) [yv] (fun _ JA=>JA=upd J7 acc (.lst (ys++[y]))) OO rfl (.cons ML .nil) ⟨acc,ys,y,rfl,rfl,Az,hz,rfl⟩)
    (fun _ YA ⟨_,JA,GO,_,NZ⟩=>?_) fun _ _ z=>z.elim
   subst NZ
   exact ⟨m',hm,i+1,_,_,by rw [AE,HA],GO.Hz,(again GO).1,(again GO).2,Ni⟩
def dW {RR:Value->Addr->Result->Shared->Prop}{E:Value->Shared->Prop}(hc:X.calm=true) (S:GV X.N X.env.scope scope zs A6 js) (G2:Gm zs es) (G9:∀ e,(assignEach es e).length=zs.length) (Df:∀ e,(assignEach es e).findIdx? (·.1)=none)
  (Bt:∀ C s H,FJ (Ax X (A6++zs) scope (B6 X.env.cells scope.names) C s H fp) ifs tt) (Bu:∀ C s H,PE (Ax X (A6++zs) scope (B6 X.env.cells scope.names) C s H fp) elt te)
  (T:Turn X.prog X.w X.K (.Tuple es tk tp) J fp it tn) (I2:Inv X pins σ H2 s2) (DC:tn 0 s2.heap) (f2:∀ b∈fp,Bv X pins H2 b) (Q:VK) (hW:∀ acc,H2 acc=none->b5 X.K zs.length J js tt te σ H2 acc Q)
  (Nn:∀ acc C H' s' m,Inv X pins σ H' s'->Bv X pins H' C->s'.heap.Ns C m->Q (.ref acc) H'->RR (.ref acc) C (.ok .next) s') :
  wpAny (model X.prog X.w) X.A (newList []) (fun acc s3=>wpAny (model X.prog X.w) X.A (newFunctionEnv scope X.env.globals (B6 X.env.cells scope.names) [] X.env.qual none .none (some X.env)) (fun JE s4=>
   codeAny (model X.prog X.w) X.A (.compStart (.ListComp elt [⟨.Tuple es tk tp,iter,ifs,0⟩] scope pos) 0 (.ref it) acc { JE with scope:=relabel scope X.env }) (RR acc JE.locals) s4) E s3) E s2:=by
 refine wpAny_newObj_type (wpAny_newFunctionEnv S.Ny (fun y hy=>by cases hy) (fun h1 Dy ED=>?_) S.kind)
 have I3:Inv X pins σ (upd H2 s2.heap.objs.size (.lst [])) { s2 with heap:=s2.heap.push { cls:=.type "list", data:=.seq ([]:List Value).toArray } }:=I2.Qn (t':=s2.toks) .nil (CJ _)
 have AN:∀ b∈fp,b < s2.heap.objs.size:=fun b hb=>by
  obtain ⟨o,e,_⟩:=T.obj _ _ DC b hb
  exact B0 e
 have hsz:(s2.heap.push { cls:=.type "list", data:=.seq ([]:List Value).toArray }).objs.size=s2.heap.objs.size+1:=JH ..
 have f3:∀ b∈fp,Bv X pins (upd H2 s2.heap.objs.size (.lst [])) b:=fun b hb=>⟨by rw [AR (C8 (AN b hb))];exact (f2 b hb).1,(f2 b hb).2⟩
 generalize NQ:({ s2 with heap:=s2.heap.push { cls:=.type "list", data:=.seq ([]:List Value).toArray } }:Shared)=s3 at I3 Dy ED ⊢
 have Ip:s3.heap=s2.heap.push { cls:=.type "list", data:=.seq ([]:List Value).toArray }:=by rw [<- NQ]
 have OG:∀ b∈fp,b < s3.heap.objs.size:=fun b hb=>by rw [Ip,hsz];exact Xt (AN b hb)
 have old:∀ b o,s3.heap.get? b=some o->h1.get? b=some o:=fun b o e=>ED.extBut b o (C8 (B0 e)) (Br _ e)
 have OS:∀ b o,s2.heap.get? b=some o->h1.get? b=some o:=fun b o e=>old b o (by rw [Ip];exact Br _ e)
 have I4:=p7 S I3 f3 OG Dy old (t':=s3.toks+([]:List (Str×Value)).length)
 have Ee:tn 0 h1:=T.keep _ _ _ DC fun b _ o e=>OS b o e
 obtain ⟨W,⟨m0,w0⟩,turn⟩:=hW s2.heap.objs.size (I2.AF.fresh (Ae _))
 have loop:codeAny (model X.prog X.w) X.A (.compLoop (.ListComp elt [⟨.Tuple es tk tp,iter,ifs,0⟩] scope pos) 0 (.ref it) (.ref s2.heap.objs.size) (compEnvC scope (B6 X.env.cells scope.names) s3.heap.objs.size X.env))
   (RR (.ref s2.heap.objs.size) s3.heap.objs.size) { s3 with heap:=h1,toks:=s3.toks+([]:List (Str×Value)).length }:=by
  refine lP (acc:=s2.heap.objs.size) (Q:=Q) hc S G2 G9 Df (Bt _ _ _) (Bu _ _ _) T (fun b hb ok=>⟨rfl,(ok.Ic b hb).1,ok.K9 b hb,.inl hb,(ok.Ic b hb).2,fun p hp=>by cases hp⟩) W turn I4 Ee (fun b hb=>(f3 b hb).1) m0 w0 (za ..) fun H' s' w I' q=>?_
  obtain ⟨m,hn,_⟩:=I'.loc
  exact Nn _ _ H' s' m (I3.Uo (ch:=fp) I'.os I'.base I'.AF I'.bare fun b hb=>⟨(f3 b hb).2.2.2.1,(f3 b hb).2.1,(f3 b hb).2.2.2.2.1,(f3 b hb).2.2.2.2.2⟩) (I3.IQ (Ae _) I'.free) hn q
 exact codeAny_compStart_list loop (T.self X.A 0 _ _ _ Ee loop)
def fO {σ:St} {H:Hp}{s:Shared}(S:GV X.N X.env.scope scope zs A6 js) (I:Inv X pins σ H s):closureFor scope X.env=pure (B6 X.env.cells scope.names):=XT fun y hy hk=>by
 obtain ⟨c,e⟩:=I.ok.has y.1 (.inl (S.all y hy hk))
 rw [e];rfl
def lL {wi:TI}(hc:X.calm=true) (S:GV X.N X.env.scope scope zs A6 js) (G2:Gm zs es) (G9:∀ e,(assignEach es e).length=zs.length) (Df:∀ e,(assignEach es e).findIdx? (·.1)=none) (hi:PI X (.Tuple es tk tp) iter wi)
  (Bt:∀ fp C s H,FJ (Ax X (A6++zs) scope (B6 X.env.cells scope.names) C s H fp) ifs tt) (Bu:∀ fp C s H,PE (Ax X (A6++zs) scope (B6 X.env.cells scope.names) C s H fp) elt te)
  (hs:∀ v,foldedSetIterable iter X.env v=pure v:=by intro _;rfl):PE X (.ListComp elt [⟨.Tuple es tk tp,iter,ifs,0⟩] scope pos) (L1 X.K zs.length wi js tt te):=by
 intro pins s σ H Q I h
 rw [eval_ListComp]
 refine wpAny_comprehension_free (use:=none) rfl hs (fO S I) S.kind S.loc (AH (hi pins s σ H _ I h) fun v s1 h1=>AH h1 fun KO s2 h2=>?_)
 obtain ⟨it,fp,tn,J,H2,e,I2,T,DC,f2,hW⟩:=h2
 subst e
 refine dW (RR:=fun acc C=>compPost (model X.prog X.w) X.A X.xe none (EP X pins σ Q) acc C) hc S G2 G9 Df (Bt fp) (Bu fp) T I2 DC f2 Q hW fun acc C H' s' m I' fC hn q=>⟨m,hn,fun h' ED=>?_⟩
 exact ⟨.ref acc,H',I'.turned (t':=s'.toks) (fun b o hb e=>(ED.2 b hb).trans e) fC.1 fC.2.1 fC.2.2.2.1 fC.2.2.2.2.1 fC.2.2.2.2.2,rfl,q⟩
def nJ {wi:TI}(hc:X.calm=true) (S:GV X.N X.env.scope scope zs A6 js) (G2:Gm zs es) (G9:∀ e,(assignEach es e).length=zs.length) (Df:∀ e,(assignEach es e).findIdx? (·.1)=none) (hi:QI X (.Tuple es tk tp) iter wi) (Bt:∀ fp C s H,Jm (Ax X (A6++zs) scope (B6 X.env.cells scope.names) C s H fp) ifs tt) (Bu:∀ fp C s H,QE (Ax X (A6++zs) scope (B6 X.env.cells scope.names) C s H fp) elt te)
  (hs:∀ v,foldedSetIterable iter X.env v=pure v:=by intro _;rfl):QE X (.ListComp elt [⟨.Tuple es tk tp,iter,ifs,0⟩] scope pos) (L1 X.K zs.length wi js tt te):=⟨lL hc S G2 G9 Df hi.h (fun fp C s H=>(Bt fp C s H).h) (fun fp C s H=>(Bu fp C s H).h) hs⟩
end
section
variable {prog:Program}{w:World}{A:Around}{E:Value->Shared->Prop}{s:Shared}
variable {z TI TO i1 i2 l1 l2:Addr}{k:Nat}{t1 t2:Bool}{xs ys:Array Value}{x y a b:Value}
end
section
variable {X:Cx}
end
section
variable {X:Cx}{pins:ZAZ}{σ:St} {H:Hp}{s:Shared}
end
section
variable {X:Cx}{tg:Expr}
end
section
variable {X:Cx}
end
section
variable {X:Cx}{tg l e:Expr}{tl t:TE}{st:Stmt}{ts:TS}
end
end L2
namespace Fz
open L2 Lw
section
variable [Xw]
variable {ss:List Slot}{i j:Nat}{lt:Bool}{ks:List Key}{a:Addr}{xs:List PV}{nx:List Slot->Prop}{R:Ak}{tt:TT}{te:TE}
end
section
variable [Xw]
variable {ss:List Slot}{te:TE}{ta:TA}{i j0:Nat}{lt:Bool}{K:ZAY}
end
end Fz
namespace L2
section
variable {X:Cx}{pos:Pos}
def tN:Ij X pos [] [] []:=nR
def Th {k v:Expr}{ks:List (Option Expr)}{vs:List Expr}{tk tv:TE}{EU:List (TE×TE)}(hk:QE X k tk) (hv:QE X v tv) (hr:Ij X pos ks vs EU):Ij X pos (some k :: ks) (v :: vs) ((tk,tv) :: EU):=ji hk.h hv.h hr
def wV {keys:List (Option Expr)}{values:List Expr}{EU:List (TE×TE)}(h:Ij X pos keys values EU) (IM:keys.all (·.isSome)=true) (hl:keys.length=values.length) (h0:keys≠[]) (RX:keys.length<=15):QE X (.Dict keys values pos) (XU EU):=⟨oY h IM hl h0 RX⟩
end
theorem c7:∀ (more acc:List (Key×V)),((acc++more).map (·.1)).Nodup->IJ acc more=acc++more
 | [],acc,_=>by rw [E9];rfl
 | p :: r,acc,h=>by
  show IJ (putK acc p.1 p.2) r=_
  have hp:acc.any (fun kv=>decide (kv.1=p.1))=false:=by
   rw [zO]
   intro q hq e
   have e':=of_decide_eq_true e
   rw [DE,BL,CI] at h
   exact h.2.2 q.1 (List.mem_map.mpr ⟨q,hq,rfl⟩) p.1 HH e'
  have e:putK acc p.1 p.2=acc++[p]:=by
   unfold putK
   rw [hp];rfl
  rw [e,c7 r (acc++[p]) (by rw [CH];exact h),CH]
  rfl
end L2
namespace Fz
open L2 Lw
section
variable [Xw]
variable {ss:List Slot}
def kS {E:Ent0}{σ:L2.St} {F H F1 H1:Hp}{p:Addr}{o:HO}(S:Sg E ss σ F H) (m:Mv E ss σ F H F1 H1) (hp:H p=none) (hf:F1 p=none):Mv E ss σ F H F1 (upd H1 p o):=
 S.step m.ff (fun a u e=>by rw [AR (by rintro rfl;rw [hf] at e;cases e)];exact m.st.fh a u e)
  (fun a u n e=>by rw [AR (by rintro rfl;rw [hp] at e;cases e)];exact m.hh a u n e) m.nn
  fun i l hi e=>B3.keep (m.st.Cp hi e) fun u e2=>by
   rw [AR (by
    rintro rfl
    obtain ⟨_,_,e3,_⟩:=S.Cp hi e
    rw [hp] at e3;cases e3)]
   exact e2
def uq {k:List Nat->OV->Prop}{ta:TA}{E:Ent}{σ:L2.St} {F H:Hp}{Q:VK}(ks:List Str) (hk:ks.Nodup) (RX:ks.length<=15) (S:Sg E ss σ F H){p:Addr}(hp:H p=none)
  (h:K4 ss ta fun m us=>us.length=ks.length/\∀ l,k m (.nd (.Ap (ks.map Sum.inr)) l us))
  (q:∀ v m u F' H',Mv E ss σ F H F' H'->As F' H' v u->u.addrs.Nodup->(∀ a∈u.addrs,F' a=none/\E.H0 a=none/\((∃ i∈m,∃ s,s≠Slot.AK/\ss[i]?=some s/\B2 s σ[i]? a)∨H a=none))->k m u->Q v H') :
  ta σ (upd H p (.dK [])) fun vs H2=>H2 p=some (.dK [])/\∃ A3:List (Key×V),List.zipWith (fun s v=>(V.str s,v)) ks vs=A3.map (fun kv=>(kV kv.1,kv.2))/\A3.length<=15/\Q (.ref p) (upd H2 p (.dK (IJ [] A3))):=by
 have m0:=S.make hp (.dK [])
 have sx:F p=none:=S.B9 hp
 refine h.go E σ F _ _ m0.st fun vs m us F1 H1 m1 r1 EE a1 ⟨hl,kk⟩=>?_
 have LB:H1 p=some (.dK []):=m1.hh p _ (S.HN hp) Aa
 have dX:F1 p=none:=by
  cases e:F1 p with
  | none=>rfl
  | some o=>
   rcases m1.nn p o e with z | z
   ·rw [sx] at z;cases z
   ·rw [Aa] at z;cases z
 have lv:vs.length=ks.length:=by rw [r1.length,hl]
 have ez:List.zipWith (fun s v=>(V.str s,v)) ks vs=((ks.map Sum.inr).zip vs:List (Key×V)).map (fun kv=>(kV kv.1,kv.2)):=by
  rw [List.zip_eq_zipWith,List.zipWith_map_left,List.map_zipWith]
  rfl
 refine ⟨LB,(ks.map Sum.inr).zip vs,ez,by rw [Xj,AE];omega,?_⟩
 have nk:((ks.map Sum.inr:List Key)).Nodup:=zM _ (fun a b (h:a≠b)=>fun z=>h (by injection z)) hk
 rw [c7 _ [] (by rw [JL,List.map_fst_zip (by rw [AE];omega)];exact nk),JL]
 have mv:=kS (o:=.dK ((ks.map Sum.inr).zip vs)) S (m0.trans m1) hp dX
 have Em:p∉OV.AU us:=fun ha=>by
  rcases (a1 p ha).2.2 with ⟨i,_,s,_,hs,ow⟩ | z
  ·exact S.DQ hs ow hp
  ·rw [Aa] at z;cases z
 refine q _ m (.nd (.Ap (ks.map Sum.inr)) p us) F1 _ mv (.nd (k:=.Ap (ks.map Sum.inr)) (vs:=vs) Aa trivial (show (List.map Sum.inr ks:List Key).length=vs.length by rw [AE];exact lv.symm) (r1.mono (AD.refl _) fun a ha o e=>by rw [AR (by rintro rfl;exact Em ha)];exact e)) ?_ (fun a ha=>?_) (kk p)
 ·rw [OV.Cf];exact List.nodup_cons.mpr ⟨Em,EE⟩
 ·rw [OV.Cf] at ha
  rcases List.mem_cons.mp ha with e | ha
  ·subst e;exact ⟨dX,S.CO hp,.inr hp⟩
  ·obtain ⟨f,h0,w⟩:=a1 a ha
   exact ⟨f,h0,w.imp id fun z=>by
    by_cases c:a=p
    ·subst c;exact hp
    ·rw [AR c] at z;exact z⟩
def oU {k:List Nat->OV->Prop}{k1 k2 k3:Str}{t1 t2 t3:TE}(hk:[k1,k2,k3].Nodup) (h:K4 ss (AO t1 (AO t2 (AO t3 An))) fun m us=>us.length=3/\∀ l,k m (.nd (.Ap [.inr k1,.inr k2,.inr k3]) l us)):Wx ss (XU [(tC (.str k1),t1),(tC (.str k2),t2),(tC (.str k3),t3)]) k:=⟨fun E σ F H Q S q p hp=>
 uq (ta:=AO t1 (AO t2 (AO t3 An))) [k1,k2,k3] hk (by show (_:Nat)+1<=15;simp) S hp h q⟩
end
section
variable [Xw]
variable {ss:List Slot}{te:TE}{ta:TA}{i:Nat}{t:OV}{pre:Pre}
end
section
variable [Xw]
variable {ss:List Slot}{te:TE}{i:Nat}{t:OV}
end
def Dr {k:NK}{a:Addr}{x y z:OV}:(OV.nd k a [x,y,z]).at [1]=some y:=by
 rw [OV.at]
 exact OV.Hv
def oA {pre:Pre}{H:Hp}{N:List Str}{n:Nat}{vs:List V}{Q:VK}{X:XK}{t:TS}(h:D7 pre vs H Q X) (hl:∀ ss R,pre ss R->ss.length=n)
  (hw:∀ ss R,pre ss R->Ws (ss++List.replicate (N.length - n) .any) t (V3 R) R):t { nx:=fun _ H'=>Q .A5 H',rt:=Q } (L2.start N vs) H:=by
 obtain ⟨ss,R,F,A,B,hp,S,q⟩:=h
 have e:vs.length=n:=by have:=S.len;rw [AE] at this;rw [<- this];exact hl ss R hp
 unfold L2.start
 rw [e]
 exact (hw ss R hp).go (OC ⟨A,F,H,B⟩) _ _ F H (S.grown _) (fun A8 σ' F' H' z S' _=>q .A5 F' H' S'.toFin (z.ok S')) fun v F' H' f ok=>q v F' H' f ok
def cg (n:Nat):List (List Bool)->List (List Bool×V)
 | []=>[]
 | k :: ks=>(k,.int n) :: cg (n+1) ks
def uK (ks:List (List Bool)):List (List Bool×V):=cg 0 ks
def Bd (i:Nat) (ks:List (List Bool)) (E:Ent0) (σ:L2.St) (F H:Hp):Prop:=∃ a,σ[i]?=some (some (.ref a))/\F a=none/\E.H0 a=none/\DB H a (uK ks)
section
variable [Xw]
variable {E:Ent0}{ss:List Slot}{σ:L2.St} {F H F' H':Hp}{K:ZAY}{i:Nat}{ks:List (List Bool)}{ta tb tc te:TE}{R:Ak}
def Sg.aT (S:Sg E ss σ F H){b:Addr}{o:HO}(h:H b=some o) (hl:∀ vs,o≠.lst vs):Bs ss σ b:=fun j hj e=>by
 obtain ⟨l,e1,_,_,x,y,e2,_⟩:=S.ok j _ hj
 rw [e] at e1;cases e1
 rw [h] at e2
 exact hl _ (BG e2)
def Bd.mv (b:Bd i ks E σ F H) (S:Sg E ss σ F H) (m:Mv E ss σ F H F' H'):Bd i ks E σ F' H':=by
 obtain ⟨a,e,fa,h0,z,y,xs,ha,r⟩:=b
 refine ⟨a,e,?_,h0,z,y,xs,m.hh _ _ (S.aT ha fun vs c=>nomatch c) ha,r.keeps fun c ys hc=>m.hh _ _ (S.aT hc fun vs c=>nomatch c) hc⟩
 cases q:F' a with
 | none=>rfl
 | some o=>
  rcases m.nn _ _ q with c | c
  ·rw [fa] at c;cases c
  ·rw [ha] at c;cases c
end
section
variable [Xw]
variable {E:Ent0}{ss:List Slot}{σ:L2.St} {F H F' H':Hp}{K:ZAY}{js:List Nat}
end
end Fz
namespace L2
section
variable {X:Cx}
end
end L2
namespace Fz
open L2 Lw
section
variable [Xw]
variable {ss:List Slot}{te:TE}{K:ZAY}{P:Program}{w:World}
end
section
variable [Xw]
variable {E:Ent0}{ss:List Slot}{σ:L2.St} {F H F' H':Hp}{K:ZAY}{js:List Nat}{ta tb:TE}
def qU {n:Nat}{wi:TI}{tt:TT}{te:TE}{k:List PV->Prop}(f:PV->Bool) (g:PV->PV)
  (h:Wi ss wi fun xs=>xs.length<=100000/\(∀ x∈xs,∃ as:List PV,x=.tup as/\as.length=n/\Wt (Bl js ss++as.map .is) tt (fun c=>c=f x)/\(f x=true->Wp (Bl js ss++as.map .is) te fun p=>p=g x))/\k ((xs.filter f).map g))
  (nd:js.Nodup:=by decide) (np:OM js ss=true:=by rfl):Wn ss (L1 K n wi js tt te) k:=⟨fun E σ F H Q S q=>
 h.go E σ F H _ S fun J xs F1 H1 m1 sr ⟨hz,he,kk⟩ acc Az=>by
  have Em:Bs ss σ acc:=m1.st.HN Az
  have IU:=m1.st.CO Az
  have Jj:∀ (i:Nat) s,ss[i]?=some s->¬ B2 s σ[i]? acc:=fun i s hi=>m1.st.HU hi Az
  refine ⟨fun i m H2=>m=xs.length - i/\i<=xs.length/\∃ F2 vs,Mv E ss σ F1 H1 F2 H2/\F2 acc=none/\H2 acc=some (.lst vs)/\AG F2 vs (((xs.take i).filter f).map g),⟨_,rfl,CJ _,F1,[],m1.st.make Az _,m1.st.B9 Az,Aa,.nil⟩,?_⟩
  rintro i m H2 ⟨rfl,hi,F2,vs,m2,fa,ha,rv⟩
  by_cases AN:i < xs.length
  ·refine .inr ⟨sr.go ss σ F2 H2 i m2.ff m2.st AN,fun x H3 y=>?_⟩
   obtain ⟨p,F3,hp,m3,rp⟩:=sr.Dx ss σ F2 H2 i x H3 m2.ff m2.st AN y
   have HQ:p∈xs:=CC hp
   have Ik:(xs.take (i+1))=xs.take i++[p]:=by
    have e2:xs[i]=p:=by rw [Ad AN] at hp;exact BG hp
    rw [Rr AN,e2]
   have e1:List.filter f (xs.take (i+1))=(xs.take i).filter f++(if f p=true then [p] else []):=by
    rw [Ik,MI];congr 1
    by_cases hf:f p=true <;> simp [hf]
   have Hj:∀ {F4:Hp},(∀ a o,F4 a=some o->F2 a=some o∨H2 a=none)->F4 acc=none:=fun {F4} n=>by
    cases e:F4 acc with
    | none=>rfl
    | some o=>
     rcases n acc o e with w | w
     ·rw [fa] at w;cases w
     ·rw [ha] at w;cases w
   obtain ⟨as,ep,hn,ht,hw⟩:=he p HQ
   rw [ep] at rp
   cases rp with
   | tup e r=>
    refine ⟨_,_,rfl,Ab.of (m3.st.fh _ _ e),by rw [r.length,hn],?_⟩
    have S3:=m3.st.A6 (js:=js) nd r
    refine ht.go E _ F3 H3 _ S3 fun c F4 H4 m4 hb=>?_
    have Iz:=m4.out (ps:=as) m3.st np
    have CA:=m3.trans Iz
    show if c=true then _ else _
    rw [hb]
    by_cases hf:f p=true
    ·rw [if_pos hf]
     have S4:=CA.st.A6 (js:=js) nd (r.mono Iz.ff)
     refine (hw hf).go E _ F4 H4 _ S4 fun w pw F5 H5 m5 HV ew=>?_
     have Je:=m5.out (ps:=as) CA.st np
     have Ct:=CA.trans Je
     have K2:=Ct.hh acc _ Em ha
     have GK:=Hj Ct.nn
     have hlen:vs.length<=99999:=by
      rw [rv.length,AE]
      have:=Rm f (xs.take i)
      rw [C7] at this
      omega
     refine ⟨vs,K2,J9 hlen,xs.length - (i+1),by omega,rfl,AN,F5,vs++[w],?_,GK,Aa,?_⟩
     ·have DH:=m2.trans Ct
      refine ⟨DH.st.LR GK (.inl IU) Jj,DH.ff,fun a o n e=>?_,DH.nn⟩
      rw [AR (DA e Az)];exact DH.hh a o n e
     ·rw [e1,if_pos hf,DE]
      rw [ew] at HV
      exact (rv.mono Ct.ff).append (.one HV)
    ·have Mj:f p=false:=by simpa using hf
     rw [Mj,if_neg (by decide)]
     refine ⟨xs.length - (i+1),by omega,rfl,AN,F4,vs,m2.trans CA,Hj CA.nn,CA.hh acc _ Em ha,?_⟩
     rw [e1,if_neg hf,E9]
     exact rv.mono CA.ff
  ·have e:i=xs.length:=by omega
   subst e
   refine .inl ⟨sr.stop ss σ F2 H2 m2.ff m2.st,q acc vs _ F2 H2 (m1.trans m2) fa (m1.none Az) ha ?_ kk⟩
   rw [FL] at rv
   exact rv⟩
end
end Fz
namespace L2
def aN {X:Cx}:Ec X "list.clear" XS:=jI
end L2
namespace Fz
open L2 Lw
section
variable {X:Cx}
end
section
variable [Xw]
variable {ss:List Slot}{ta tb:TE}{K:ZAY}{k:PV->Prop}{nx:List Slot->Prop}{R:Ak}{xs:List PV}
end
section
variable [Xw]
variable {ss:List Slot}{ta tb te:TE}{K:ZAY}{nx:List Slot->Prop}{R:Ak}{xs:List PV}
end
section
variable [Xw]
variable {ss:List Slot}{ta tb te:TE}{K:ZAY}{k:PV->Prop}
end
section
variable [Xw]
variable {ss:List Slot}{ta tb te:TE}{K:ZAY}{nx:List Slot->Prop}{R:Ak}{xs:List PV}
end
section
variable [Xw]
variable {ss:List Slot}{ta tb te:TE}{K:ZAY}{P:Program}{w:World}{k:PV->Prop}
end
end Fz
namespace L2
section
variable {X:Cx}{e:Expr}{t1 t2:TE}{u1 u2:TT}
def Vw (t1 t2:TT):TT:=fun σ H Q=>t1 σ H Q∨t2 σ H Q
def rh (h1:QT X e u1) (h2:QT X e u2):QT X e (Vw u1 u2):=⟨fun pins s σ H Q I h=>h.elim (h1.h pins s σ H Q I) (h2.h pins s σ H Q I)⟩
end
end L2
namespace Fz
open L2 Lw
section
variable [Xw]
variable {ss:List Slot}{K:ZAY}{ta tb tc te ti t1 t2:TE}{u1 u2:TT}{nx:List Slot->Prop}{R:Ak}{xs ps:List PV}{i j:Nat}{t:OV}{lt:Bool}{a:Addr}{js:List Nat}
def y2 {k:Bool->Prop}(h:Wt ss u1 k):Wt ss (Vw u1 u2) k:=⟨fun E σ F H Q S q=>.inl (h.go E σ F H Q S q)⟩
def mh {k:Bool->Prop}(h:Wt ss u2 k):Wt ss (Vw u1 u2) k:=⟨fun E σ F H Q S q=>.inr (h.go E σ F H Q S q)⟩
def ur {n:Nat}{wi:TI}{tt:TT}{te:TE}{k:List Nat->OV->Prop}(G:PV->OV->Prop)
  (h:Wi ss wi fun xs=>xs.length<=99999/\(∀ x∈xs,∃ as:List PV,x=.tup as/\as.length=n/\Wt (Bl js ss++as.map .is) tt (fun c=>c=true)/\Wx (Bl js ss++as.map .is) te fun m u=>m=[]/\G x u)/\∀ l us,us.length=xs.length->(∀ (j:Nat) x u,xs[j]?=some x->us[j]?=some u->G x u)->k [] (.nd .lst l us))
  (nd:js.Nodup:=by decide) (np:OM js ss=true:=by rfl):Wx ss (L1 K n wi js tt te) k:=⟨fun E σ F H Q S q=>
 h.go E σ F H _ S fun J xs F1 H1 m1 sr ⟨hz,he,kk⟩ acc Az=>by
  have Em:Bs ss σ acc:=m1.st.HN Az
  have IU:=m1.st.CO Az
  have Jj:∀ (i:Nat) s,ss[i]?=some s->¬ B2 s σ[i]? acc:=fun i s hi=>m1.st.HU hi Az
  refine ⟨fun i m H2=>m=xs.length - i/\i<=xs.length/\∃ F2 vs us,Mv E ss σ F1 H1 F2 H2/\F2 acc=none/\H2 acc=some (.lst vs)/\Af F2 H2 vs us/\(OV.AU us).Nodup/\(∀ a∈OV.AU us,F2 a=none/\H1 a=none/\a≠acc)/\us.length=i/\∀ (j:Nat) x u,xs[j]?=some x->us[j]?=some u->G x u,
   ⟨_,rfl,CJ _,F1,[],[],m1.st.make Az _,m1.st.B9 Az,Aa,.nil,by rw [OV.Ep];exact MJ,fun a ha=>by (rw [OV.Ep] at ha;cases ha),rfl,fun j x u _ e=>by simp at e⟩,?_⟩
  rintro i m H2 ⟨rfl,hi,F2,vs,us,m2,fa,ha,rv,M6,Jh,HA,hG⟩
  by_cases AN:i < xs.length
  ·refine .inr ⟨sr.go ss σ F2 H2 i m2.ff m2.st AN,fun x H3 y=>?_⟩
   obtain ⟨p,F3,hp,m3,rp⟩:=sr.Dx ss σ F2 H2 i x H3 m2.ff m2.st AN y
   have HQ:p∈xs:=CC hp
   have Hj:∀ {F4:Hp},(∀ a o,F4 a=some o->F2 a=some o∨H2 a=none)->F4 acc=none:=fun {F4} n=>by
    cases e:F4 acc with
    | none=>rfl
    | some o=>
     rcases n acc o e with w | w
     ·rw [fa] at w;cases w
     ·rw [ha] at w;cases w
   obtain ⟨as,ep,hn,ht,hw⟩:=he p HQ
   rw [ep] at rp
   cases rp with
   | tup e r=>
    refine ⟨_,_,rfl,Ab.of (m3.st.fh _ _ e),by rw [r.length,hn],?_⟩
    have S3:=m3.st.A6 (js:=js) nd r
    refine ht.go E _ F3 H3 _ S3 fun c F4 H4 m4 hb=>?_
    have Iz:=m4.out (ps:=as) m3.st np
    have CA:=m3.trans Iz
    show if c=true then _ else _
    rw [hb,if_pos rfl]
    have S4:=CA.st.A6 (js:=js) nd (r.mono Iz.ff)
    refine hw.go E _ F4 H4 _ S4 fun w mm u F5 H5 m5 HV u3 hu ⟨em,mO⟩=>?_
    subst em
    have Je:=m5.out (ps:=as) CA.st np
    have Ct:=CA.trans Je
    have K2:=Ct.hh acc _ Em ha
    have GK:=Hj Ct.nn
    have hlen:vs.length<=99999:=by rw [rv.length,HA];omega
    have fH:∀ b∈OV.AU us,Bs ss σ b:=fun b hb=>m1.st.HN (Jh b hb).2.1
    have r5:=rv.mono Ct.ff fun b hb o eo=>Ct.hh b o (fH b hb) eo
    have r4:=rv.mono CA.ff fun b hb o eo=>CA.hh b o (fH b hb) eo
    have un:∀ b∈u.addrs,F5 b=none/\H4 b=none:=fun b hb=>by
     obtain ⟨f,_,w⟩:=hu b hb
     exact ⟨f,w.elim (fun ⟨_,z,_⟩=>absurd z (by simp)) id⟩
    have wB:H4 acc≠none:=by rw [CA.hh acc _ Em ha];simp
    have bL:∀ b∈u.addrs,b≠acc:=fun b hb z=>wB (z▸(un b hb).2)
    have ad:OV.AU (us++[u])=OV.AU us++u.addrs:=by rw [JD,Jz]
    have iu:∀ b,F2 b=none->H2 b≠none->F5 b=none:=fun b h1 h2=>Ct.cX h1 h2
    refine ⟨vs,K2,J9 hlen,xs.length - (i+1),by omega,rfl,AN,F5,vs++[w],us++[u],?_,GK,Aa,?_,?_,fun b hb=>?_,by rw [BK,HA];rfl,fun j x u' hx EA=>?_⟩
    ·have DH:=m2.trans Ct
     refine ⟨DH.st.LR GK (.inl IU) Jj,DH.ff,fun a o n e=>?_,DH.nn⟩
     rw [AR (DA e Az)];exact DH.hh a o n e
    ·refine (r5.append (.one HV)).mono (AD.refl _) fun b hb o eo=>?_
     rw [AR ?_]
     ·exact eo
     ·rw [ad] at hb
      rcases List.mem_append.mp hb with hb | hb
      ·exact (Jh b hb).2.2
      ·exact bL b hb
    ·rw [ad,CI]
     refine ⟨M6,u3,fun b hb c hc rD=>?_⟩
     subst rD
     exact r4.there b hb (un b hc).2
    ·rw [ad] at hb
     rcases List.mem_append.mp hb with hb | hb
     ·exact ⟨iu b (Jh b hb).1 (rv.there b hb),(Jh b hb).2⟩
     ·exact ⟨(un b hb).1,(m2.trans CA).none (un b hb).2,bL b hb⟩
    ·by_cases c:j < us.length
     ·rw [CZ c] at EA
      exact hG j x u' hx EA
     ·rw [Dh (by omega)] at EA
      have hj:j=us.length:=by
       have:=(List.getElem?_eq_some_iff.mp EA).1
       simp at this;omega
      subst hj
      simp at EA
      subst EA
      rw [HA,hp] at hx
      cases hx;exact mO
  ·have e:i=xs.length:=by omega
   subst e
   refine .inl ⟨sr.stop ss σ F2 H2 m2.ff m2.st,?_⟩
   refine q _ [] (.nd .lst acc us) F2 H2 (m1.trans m2) (.nd (k:=.lst) ha trivial trivial rv) ?_ (fun b hb=>?_) (kk acc us HA hG)
   ·rw [OV.Cf];exact List.nodup_cons.mpr ⟨fun z=>(Jh acc z).2.2 rfl,M6⟩
   ·rw [OV.Cf] at hb
    rcases List.mem_cons.mp hb with e | hb
    ·subst e;exact ⟨fa,IU,.inr (m1.none Az)⟩
    ·have hb:b∈OV.AU us:=by simpa [NK.more] using hb
     have z:=(Jh b hb).2.1
     exact ⟨(Jh b hb).1,m1.st.CO z,.inr (m1.none z)⟩⟩
def aW (h:Wl ss i t ta fun p u=>∃ lt a us,ss[i]?=some (.ow lt t)/\u=.nd .lst a us/\nx (ss.set i (.ow lt (t.put p (.nd .lst a []))))):Ws ss (GY (MV K "list" XS ta)) nx R:=⟨fun E D σ F H S hn hr=>
 h.go E σ F H _ S fun v p u F1 H1 m1 r1 Bx ⟨lt,a,us,hi,eu,kk⟩=>by
  subst eu
  cases r1 with
  | @nd k a' vs _ ha sd ft rr=>
   refine ⟨.inl ⟨rfl,_,AJ.of ha⟩,a,vs,rfl,rfl,ha,hn _ σ F1 _ kk (Sg.eI (m:=[]) (u:=.fz .A5) m1.st m1.st hi Bx (fun b hb=>by rw [OV.Nv] at hb;cases hb) (by simp) .nil (by rw [OV.Ep];exact MJ) fun b hb=>by rw [OV.Ep] at hb;cases hb) m1.ff⟩⟩
structure d6 (ss:List Slot) (g:TG) (u:OV) (k:List Slot->Prop):Prop where
 go:∀ (E:Ent) (σ:L2.St) (F H:Hp) (v:V) (Q:L2.St->Hp->Prop),Sg E ss σ F H->As F H v u->(∀ A8 σ',k A8->Sg E A8 σ' F H->Q σ' H)->g v σ H Q
def t5 {n1 n2 n3:Nat}{p q:PV}{nk:NK}{b:Addr}{us:List OV}{k:List Slot->Prop}(h:k (((ss.set n1 (.is p)).set n2 (.raw (ptr b))).set n3 (.is q))):d6 ss (P2 K 3 (Ie (CV n1) (Ie (CV n2) (Ie (CV n3) Nz)))) (.tp [.fz p,.nd nk b us,.fz q]) k:=⟨fun E σ F H v Q S r qq=>by
 cases r with
 | tp e r=>
  cases r with
  | cons r1 r=>cases r with
   | cons r2 r=>cases r with
    | cons r3 r=>cases r with
     | nil=>
      cases r1 with
      | fz r1=>cases r3 with
       | fz r3=>cases r2 with
        | nd _ _ _ _=>
         refine ⟨_,_,rfl,Ab.of (S.fh _ _ e),rfl,_,_,rfl,_,_,rfl,_,_,rfl,rfl,qq _ _ h ?_⟩
         exact ((S.Ga r1).setG (j:=n2) (s:=.raw (ptr b)) (v:=.ref b) ⟨_,rfl,rfl,fun _ _ _ h=>h⟩ fun _ z=>by cases z).Ga r3⟩
def jd {g:TG}{tb:TS}{a0:Addr}(N:Nat) (I:Nat->List Slot->Prop) (h0:I 0 ss) (st:∀ n A8,n<=N->I n A8->∃ lt us,A8[i]?=some (.ow lt (.nd .lst a0 us))/\us.length=N/\(n < N->∃ u,us[n]?=some u/\d6 A8 g u fun Bp=>Ws Bp tb (I (n+1)) R)) (hd:∀ A8,I N A8->nx A8) :
  Ws ss (RT (UU K (BM i)) g tb) nx R:=⟨fun E D σ F H S hn hr=>by
 have look:∀ {A8:List Slot}{σ':L2.St} {F' H':Hp}{lt:Bool}{us:List OV},Sg E A8 σ' F' H'->A8[i]?=some (.ow lt (.nd .lst a0 us))->σ'[i]?=some (some (.ref a0))/\∃ vs,H' a0=some (.lst vs)/\Af F' H' vs us:=fun {A8 σ' F' H' lt us} S hi=>by
  obtain ⟨v,e,r,_,_⟩:=S.ok i _ hi
  cases r with
  | nd ha _ _ rr=>exact ⟨e,_,ha,rr⟩
 obtain ⟨lt,us,hi,hl,_⟩:=st 0 ss (CJ _) h0
 obtain ⟨e,vs,hv,rv⟩:=look S hi
 refine ⟨_,e,a0,rfl,⟨vs,AJ.of hv⟩,?_⟩
 refine ⟨fun n m σ' H'=>m=N - n/\n<=N/\∃ A8 F',I n A8/\Sg E A8 σ' F' H'/\AD F F',⟨_,rfl,CJ _,ss,F,h0,S,AD.refl _⟩,?_⟩
 rintro n m σ' H' ⟨rfl,US,A8,F',hI,S',s'⟩
 obtain ⟨lt',Ba,C0,Du,tn⟩:=st n A8 US hI
 obtain ⟨_,Bk,HP,eE⟩:=look S' C0
 have ll:=eE.length
 by_cases AN:n < N
 ·obtain ⟨u,hu,wg⟩:=tn AN
  obtain ⟨v,eh,pL⟩:=eE.get hu
  refine .inr ⟨⟨Bk,v,AJ.of HP,eh⟩,fun σ2 H2=>∃ Bp F2,I (n+1) Bp/\Sg E Bp σ2 F2 H2/\AD F F2,fun σ2 H2 ⟨Bp,F2,a,b,c⟩=>⟨_,by omega,rfl,AN,Bp,F2,a,b,c⟩,fun x H3 y=>?_⟩
  obtain ⟨eH,hx⟩:=y
  subst eH
  have ex:x=v:=by
   have:=hx Bk (AJ.of HP)
   rw [eh] at this;exact (BG this).symm
  subst ex
  refine wg.go E σ' F' H3 _ _ S' pL fun kZ σ4 w S4=>?_
  exact w.go E _ σ4 F' H3 S4 (fun Ml σ5 F5 H5 n5 S5 s5=>⟨Ml,F5,n5,S5,s'.trans s5⟩) hr
 ·have e:n=N:=by omega
  subst e
  refine .inl ⟨⟨Bk,AJ.of HP,by omega⟩,?_⟩
  exact hn _ _ F' H' (hd _ hI) S' s'⟩
end
def DG:Slot->Slot
 | .own xs=>.is (.lst xs)
 | .ow _ t=>.is t.pv
 | .AK=>.any
 | s=>s
section
variable {E:Ent0}{ss:List Slot}{σ:L2.St} {F H F' H':Hp}
def Sg.R1 (S:Sg E ss σ F H):Sg (E3 [] (CU F H (BX ss σ)) H) (ss.map DG) σ (CU F H (BX ss σ)) H:=by
 have nn:∀ {p:Prop}(a:Addr),a∈([]:List Addr)->p:=fun a h=>absurd h Ai
 refine ⟨⟨S.IX.2,AD.refl _,fun _ _ _ e=>e,fun _ _ e=>.inl e,fun a h=>nn a h,fun a h=>nn a h,fun a h=>nn a h,fun a h=>nn a h,fun a h=>nn a h,fun a h=>nn a h⟩,by rw [AE,S.len],fun i s hi=>?_,fun i j s u l Fq hi hj ms mu=>?_⟩
 ·rw [Ag] at hi
  cases e:ss[i]? with
  | none=>rw [e] at hi;cases hi
  | some s0=>
   rw [e] at hi
   have es:DG s0=s:=BG hi
   subst es
   have k:=S.ok i s0 e
   cases s0 with
   | any=>trivial
   | is p=>obtain ⟨v,e1,r⟩:=k;exact ⟨v,e1,r.mono S.IX.1⟩
   | own xs=>
    obtain ⟨l,vs,e1,_,_,e3,r⟩:=k
    refine ⟨_,e1,.lst ?_ (r.mono S.IX.1)⟩
    unfold CU
    rw [if_pos (SM S.len e (by simp) e1)];exact e3
   | AK=>trivial
   | sq tp xs=>
    cases tp with
    | true=>obtain ⟨v,e1,r⟩:=k;exact ⟨v,e1,r.mono S.IX.1⟩
    | false=>
     obtain ⟨l,vs,e1,hA,e2,r⟩:=k
     exact ⟨l,vs,e1,⟨Ai,Ai⟩,S.keep l _ hA e2,r.mono S.IX.1⟩
   | raw P=>obtain ⟨v,e1,hp,hm⟩:=k;exact ⟨v,e1,hm _ _ S.IX.1 hp,hm⟩
   | ow lt t=>
    obtain ⟨v,e1,r,_,_⟩:=k
    refine ⟨v,e1,r.rep S.IX.1 fun a ha o ho=>?_⟩
    unfold CU
    rw [if_pos (SM S.len e (by simp) ha)];exact ho
 ·rw [Ag] at hi
  cases e:ss[i]? with
  | none=>rw [e] at hi;cases hi
  | some s0=>
   rw [e] at hi
   have es:DG s0=s:=BG hi
   subst es
   cases s0 <;> cases ms
mutual
def OV.FZ:OV->Bool
 | .fz p=>Cr p
 | .tp xs=>OV.Ht xs
 | .nd _ _ xs=>OV.Ht xs
def OV.Ht:List OV->Bool
 | []=>true
 | x :: r=>x.FZ && OV.Ht r
end
def As.xF {as:List Addr}(h:∀ a∈as,∀ vs,F a≠some (.tup vs)):∀ {v:V}{t:OV},As F H v t->t.FZ=true->As (ET F as) H v t:=by
 intro v t r hn
 exact As.rec (motive_1:=fun v t _=>t.FZ=true->As (ET F as) H v t) (motive_2:=fun vs ts _=>OV.Ht ts=true->Af (ET F as) H vs ts)
  (fun {v p} r z=>.fz (r.sub h (by simpa [OV.FZ] using z)))
  (fun {a vs xs} e _ ih z=>.tp (by unfold ET;rw [if_neg (fun q=>h a q vs e)];exact e) (ih (by simpa [OV.FZ] using z)))
  (fun {k a vs xs} e sd ft _ ih z=>.nd e sd ft (ih (by simpa [OV.FZ] using z)))
  (fun _=>.nil)
  (fun _ _ OB MO z=>by
   rw [OV.Ht,Ek] at z
   exact .cons (OB z.1) (MO z.2))
  r hn
end
section
variable {ss:List Slot}{te:TE}{c:TT}
def Qh (E:Ent0) (F H:Hp) (as:List Addr):@Ent bg:=@Ent.mk bg (E3 [] (CU F H as) H) fun _ _ _ _ _ _ _ _ _ d _=>d.elim
def nK {k:PV->Prop}(h:Wp (ss.map DG) te fun p=>Cr p=true/\k p):Wp ss te k:=⟨fun E σ F H Q S q=>by
 refine h.go (Qh E F H (BX ss σ)) σ _ H Q S.R1 fun v p F' H' m rp ⟨hn,kk⟩=>?_
 obtain ⟨M,ht⟩:=S.Pt m.st.toFin
 exact q v p _ H' M (rp.sub ht hn) kk⟩
def NO {k:Bool->Prop}(h:Wt (ss.map DG) c k):Wt ss c k:=⟨fun E σ F H Q S q=>by
 refine h.go (Qh E F H (BX ss σ)) σ _ H Q S.R1 fun b F' H' m kk=>?_
 exact q b _ H' (S.Pt m.st.toFin).1 kk⟩
def WJ {k:List PV->Prop}(h:Wn (ss.map DG) te fun ys=>FE ys=true/\k ys):Wn ss te k:=⟨fun E σ F H Q S q=>by
 refine h.go (Qh E F H (BX ss σ)) σ _ H Q S.R1 fun l2 Eb ys F' H' m f2 h2 DI rp ⟨hn,kk⟩=>?_
 obtain ⟨M,ht⟩:=S.Pt m.st.toFin
 exact q l2 Eb ys _ H' M (by unfold ET;split <;> first | rfl | exact f2) h2 DI (rp.sub ht hn) kk⟩
def nD {k:List Nat->OV->Prop}(h:Wx (ss.map DG) te fun m u=>m=[]/\u.FZ=true/\k [] u):Wx ss te k:=⟨fun E σ F H Q S q=>by
 refine h.go (Qh E F H (BX ss σ)) σ _ H Q S.R1 fun v mm u F' H' m ro nd hu ⟨em,hn,kk⟩=>?_
 subst em
 obtain ⟨M,ht⟩:=S.Pt m.st.toFin
 refine q v [] u _ H' M (ro.xF ht hn) nd (fun a ha=>?_) kk
 obtain ⟨f,h0,_⟩:=hu a ha
 have h0:H a=none:=h0
 exact ⟨by unfold ET;split <;> first | rfl | exact f,S.CO h0,.inr h0⟩⟩
end
end Fz
namespace L2
section
variable {X:Cx}
def Inv.same {pins:ZAZ}{σ:St} {H:Hp}{s:Shared}(I:Inv X pins σ H s){h':Heap}{tk:Nat}(k:∀ b o,s.heap.get? b=some o->h'.get? b=some o):Inv X pins σ H { s with heap:=h',toks:=tk }:=I.kept (t':=tk) k
def Vr (K:ZAY):List V->Hp->VK->Prop:=fun xs H Q=>∃ (p:Addr) (ss:List Int),xs=[.ref p]/\AJ K H p (ss.map V.int)/\Q (.int ss.sum) H
def kI (hc:X.calm=true):C2 X (.builtin "sum") (Vr X.K):=by
 intro pins s σ H xs us Q I r h
 obtain ⟨p,ss,rfl,hq,q⟩:=h
 obtain ⟨u,rfl,rx⟩:=vals1 r
 cases rx
 obtain ⟨A1,rv,pl,_⟩:=I.list hq
 have hi:=Sn rv
 obtain ⟨ys,e⟩:=hi.allInts.items
 have hl:=pl.isList
 rw [e] at hl
 refine sum_intListG (I.ok.hd hc) hl fun h' tk t' hk=>⟨.int _,H,I.same hk,⟨t',rfl⟩,?_⟩
 have e2:ys.toList.map (·.1)=ss:=by
  rw [<- nums_intItems,<- e];exact hi.numsOf
 rw [preSum_eq,Kq (by simp),e2]
 exact q
def aw (K:ZAY):List V->Hp->VK->Prop:=fun xs H Q=>∃ (p:Addr) (ss:List Int),xs=[.ref p]/\AJ K H p (ss.map V.int)/\ss≠[]/\∀ m∈ss,(∀ y∈ss,y<=m)->Q (.int m) H
def lI (hc:X.calm=true):C2 X (.builtin "max") (aw X.K):=by
 intro pins s σ H xs us Q I r h
 obtain ⟨p,ss,rfl,hq,Ao,q⟩:=h
 obtain ⟨u,rfl,rx⟩:=vals1 r
 cases rx
 obtain ⟨A1,rv,pl,_⟩:=I.list hq
 have hi:=Sn rv
 obtain ⟨ys,e⟩:=hi.allInts.items
 have hl:=pl.isList
 rw [e] at hl
 have e2:ys.toList.map (·.1)=ss:=by
  rw [<- nums_intItems,<- e];exact hi.numsOf
 have hlen:ys.size=ss.length:=by rw [<- e2];simp
 have MT:0 < ss.length:=List.length_pos_iff.mpr Ao
 refine max_intList (I.ok.hd hc) hl (by omega) fun v h' tk hv hk=>?_
 obtain ⟨t',rfl⟩:=intItems_at hv
 obtain ⟨b1,b2⟩:=argBest_gt (numAt ys) (ys.size - 1)
 refine ⟨.int _,H,I.same hk,⟨t',rfl⟩,q _ ?_ fun y hy=>?_⟩
 ·rw [numAt_eq,e2];exact getD_mem (by omega)
 ·obtain ⟨j,hj,ej⟩:=mem_getD hy
  have:=b2 j (by omega)
  rw [numAt_eq ys j,e2,ej] at this
  exact this
def Vb (K:ZAY):V->V->Hp->VK->Prop:=fun x y H Q=>∃ (p:Addr) (xs:List V) (i:Nat) (v:V),x=.ref p/\y=.int i/\AJ K H p xs/\xs[i]?=some v/\Q v H
def xh:ZL X (Vb X.K):=by
 intro pins s σ H o i ov iv Q I ro ri h
 obtain ⟨p,xs,j,v,rfl,rfl,hq,hx,q⟩:=h
 cases ro
 obtain ⟨t,rfl⟩:=ri
 obtain ⟨A1,r,pl,hz⟩:=I.list hq
 obtain ⟨w,ew,GJ⟩:=r.get hx
 have hj:=(List.getElem?_eq_some_iff.mp hx).1
 refine wpAny_getItem_list pl.isList (by omega) ?_ (x:=w) (by simpa using ew) ⟨v,H,I,GJ,q⟩
 have h24:sizeLine < 2 ^ 63:=by decide +kernel
 have:(j:Int) < ((2 ^ 63:Nat):Int):=Int.ofNat_lt.mpr (by omega)
 exact this
def vt {o i e:Expr}{to ti te:TE}{JS:OP}{op:Operator}{Kc pos:Pos}(ho:QE X o to) (hi:QE X i ti) (he:QE X e te) (hp:T2 X op JS)
  (ha:∀ ov iv new,augStore i ov iv new=(do holding [new,ov,iv] (setItem ov iv new);release [new,ov,iv] [];pure .next):=by intros;rfl):QS X (.AugAssign (.Subscript o i Kc) op e pos) (VB to ti te (Vb X.K) JS Vz):=⟨qA ho.h hi.h xh he.h hp set_list ha⟩
def qu {tg l:Expr}{tl:TE}(hl:QE X l tl):QI X tg l (UU X.K tl):=⟨nM hl.h⟩
end
section
variable {X:Cx}{pins:ZAZ}{elt iter:Expr}{ifs es:List Expr}{zs:List Str}{tp pos:Pos}{tk:Nat}{scope:Scope}{A6:List Str}{js:List Nat}{tt:TT}{te:TE}
def z6 {wi:TI}{i:Nat}{y:Str}{py GD:Pos}(hN:X.N.Nodup) (C0:X.N[i]?=some y) (hy:Loc X.env.scope y) (hc:X.calm=true) (S:GV X.N X.env.scope scope zs A6 js) (G2:Gm zs es) (G9:∀ e,(assignEach es e).length=zs.length) (Df:∀ e,(assignEach es e).findIdx? (·.1)=none) (hi:PI X (.Tuple es tk tp) iter wi)
  (Bt:∀ fp C s H,FJ (Ax X (A6++zs) scope (B6 X.env.cells scope.names) C s H fp) ifs tt) (Bu:∀ fp C s H,PE (Ax X (A6++zs) scope (B6 X.env.cells scope.names) C s H fp) elt te)
  (K5:swapsWith (.ListComp elt [⟨.Tuple es tk tp,iter,ifs,0⟩] scope pos) (some (.Name y py)) GD.line X.env=pure true:=by rfl)
  (hf:X.fn y=true∨X.env.scope.names.lookup y=some .local:=by first | exact .inl rfl | exact .inr rfl | assumption)
  (hs:∀ v,foldedSetIterable iter X.env v=pure v:=by intro _;rfl):PS X (.Assign [.Name y py] (.ListComp elt [⟨.Tuple es tk tp,iter,ifs,0⟩] scope pos) GD) (E8 (L1 X.K zs.length wi js tt te) (CV i)):=by
 intro pins s σ H D I h
 rw [exec_Assign_Name_used _ _ _ _ K5]
 refine wpAny_bind (wpAny_standAt (wpAny_bind ?_))
 show wpAny _ X.A (do let _ <- comprehension (.ListComp elt [⟨.Tuple es tk tp,iter,ifs,0⟩] scope pos) scope X.env _ (newList []) false (eval iter X.env) (some (assign (.Name y py) X.env))) _ _ s
 refine wpAny_bind (wpAny_mono (wpAny_comprehension_free (use:=some (assign (.Name y py) X.env)) (Q:=fun _ s'=>SP X pins D .next s') rfl hs (fO S I) S.kind S.loc
  (AH (hi pins s σ H _ I h) fun v s1 h1=>AH h1 fun KO s2 h2=>?_)) (fun _ s' hq=>wpAny_pure (wpAny_pure hq)) fun _ _ e=>e)
 obtain ⟨it,fp,tn,J,H2,e,I2,T,DC,f2,hW⟩:=h2
 subst e
 refine dW (RR:=fun acc C=>compPost (model X.prog X.w) X.A X.xe (some (assign (.Name y py) X.env)) (fun _ s'=>SP X pins D .next s') acc C) hc S G2 G9 Df (Bt fp) (Bu fp) T I2 DC f2 _ hW fun acc C H' s' m I' fC hn q=>?_
 show wpAny _ X.A (assign (.Name y py) X.env (.ref acc)) _ _ s'
 refine wpAny_assign_Name (VJ (v:=.ref acc) I' hN C0 hy rfl (fun JU U0 ⟨a,Sh,ha⟩=>?_) hf)
 have Ao:C≠a:=by
  rcases ha with z | z
  ·rw [z];exact fC.2.1
  ·exact (fC.2.2.2.2.1 y a z).symm
 refine ⟨m,hn.sameBut Sh Ao,fun h' ED=>?_⟩
 exact ⟨_,H',U0.turned (t':=JU.toks) (fun b o hb e=>(ED.2 b hb).trans e) fC.1 fC.2.1 fC.2.2.2.1 fC.2.2.2.2.1 fC.2.2.2.2.2,q⟩
def yh {wi:TI}{i:Nat}{y:Str}{py GD:Pos}(hN:X.N.Nodup) (C0:X.N[i]?=some y) (hy:Loc X.env.scope y) (hc:X.calm=true) (S:GV X.N X.env.scope scope zs A6 js) (G2:Gm zs es) (G9:∀ e,(assignEach es e).length=zs.length) (Df:∀ e,(assignEach es e).findIdx? (·.1)=none) (hi:QI X (.Tuple es tk tp) iter wi)
  (Bt:∀ fp C s H,Jm (Ax X (A6++zs) scope (B6 X.env.cells scope.names) C s H fp) ifs tt) (Bu:∀ fp C s H,QE (Ax X (A6++zs) scope (B6 X.env.cells scope.names) C s H fp) elt te)
  (K5:swapsWith (.ListComp elt [⟨.Tuple es tk tp,iter,ifs,0⟩] scope pos) (some (.Name y py)) GD.line X.env=pure true:=by rfl)
  (hf:X.fn y=true∨X.env.scope.names.lookup y=some .local:=by first | exact .inl rfl | exact .inr rfl | assumption)
  (hs:∀ v,foldedSetIterable iter X.env v=pure v:=by intro _;rfl):QS X (.Assign [.Name y py] (.ListComp elt [⟨.Tuple es tk tp,iter,ifs,0⟩] scope pos) GD) (E8 (L1 X.K zs.length wi js tt te) (CV i)):=⟨z6 hN C0 hy hc S G2 G9 Df hi.h (fun fp C s H=>(Bt fp C s H).h) (fun fp C s H=>(Bu fp C s H).h) K5 hf hs⟩
end
structure LX (N:List Str) (outer scope:Scope) (x:Str) (A6:List Str) (js:List Nat):Prop where
 kind:scope.kind=.function
 loc:∀ y∈scope.names,y.2=.local->scope.names.lookup y.1=some .local
 Kn:scope.names.lookup x=some .cell
 one:∀ y∈scope.names,y.2=.cell->y.1=x
 cf:∀ (n:Nat) (cl:List (Str×Addr)),cellsFrom n scope.names cl=(x,n) :: cl
 pc:∀ h:Heap,pushCells h scope.names=h.push { cls:=.type "cell", data:=.cell none }
 at':js.map (fun j=>N[j]?)=A6.map some
 cell:∀ y∈A6,outer.names.lookup y=some .cell
 free:∀ y∈A6,scope.names.lookup y=some .free
 all:∀ y∈scope.names,y.2=.free->outer.names.lookup y.1=some .cell
 nd:(A6++[x]).Nodup
abbrev DV (X:Cx) (N:List Str) (scope:Scope) (x:Str) (cl:List (Str×Addr)) (C:Addr) (s:Shared) (H:Hp) (fp:List Addr):Cx:=
 { X with N:=N,s₀:=s,H₀:=H,env:=compEnvC scope ((x,C+1) :: cl) C X.env,outer:=X.stack,ex:=fp,fn:=fun y=>y == x,pn:=[],xe:=fun _ _=>False }
def jU {M:Model}{A:Around}{E:Value->Shared->Prop}{s:Shared}{scope:Scope}{globals:Addr}{closure:List (Str×Addr)}{qual:Str}{func:Option Addr}{code:Value}{outer:Env}{Q:Env->Shared->Prop}{x:Str}
  (cf:∀ (n:Nat) (cl:List (Str×Addr)),cellsFrom n scope.names cl=(x,n) :: cl) (pc:∀ h:Heap,pushCells h scope.names=h.push { cls:=.type "cell", data:=.cell none })
  (hQ:Q (newEnv scope s.heap.objs.size globals ((x,s.heap.objs.size+1) :: closure) qual func code (some outer) builtinsNs) { s with heap:=(s.heap.push { cls:=.type "dict", data:=.dict #[] }).push { cls:=.type "cell", data:=.cell none } }) :
  wpAny M A (newFunctionEnv scope globals closure [] qual func code (some outer)) Q E s:=by
 simp only [newFunctionEnv,zk,if_true]
 refine wpAny_bind (wpAny_alloc ?_)
 refine wpAny_bind (wpAny_layCells _ (fun name kind cells=>by cases KS:kind == NameKind.cell <;> simp [KS]) _ _ _ _ ?_)
 rw [cf,pc]
 rw [show ({ s with heap:=s.heap.push { cls:=.type "dict", data:=.dict #[] } }:Shared).heap.objs.size=s.heap.objs.size+1 from JH ..]
 refine wpAny_bind ?_
 rw [gZ]
 exact wpAny_pure (wpAny_pure hQ)
section
variable {X:Cx}{pins:ZAZ}{σ:St} {H2:Hp}{s2:Shared}{elt iter:Expr}{x:Str}{px pos:Pos}{ifs:List Expr}{scope:Scope}{A6:List Str}{js:List Nat}{tt:TT}{te:TE}{J:It}{fp:List Addr}{it:Addr}
 {tn:Nat->Heap->Prop}
def xa {x y:Str}{n c:Addr}{cl:List (Str×Addr)}(h:((x,n) :: cl).lookup y=some c):(y=x/\c=n)∨(y≠x/\cl.lookup y=some c):=by
 rw [GS] at h
 by_cases e:y=x
 ·subst e
  simp only [beq_self_eq_true] at h
  exact .inl ⟨rfl,(BG h).symm⟩
 ·have hb:(y == x)=false:=by simpa using e
  rw [hb] at h
  exact .inr ⟨e,h⟩
def xf {scope:Scope}{env:Env}{x:Str}(h:scope.names.lookup x=some .cell):(relabel scope env).names.lookup x=some .cell:=by
 refine (IZ (env:=env) scope.names x).trans ?_
 rw [h];simp
def pb (S:LX X.N X.env.scope scope x A6 js) (I3:Inv X pins σ H2 s2) (f2:∀ b∈fp,Bv X pins H2 b) (L5:∀ b∈fp,b < s2.heap.objs.size){h1:Heap}
  {m:ZAa}(Dy:h1.Ns s2.heap.objs.size m) (old:∀ b o,s2.heap.get? b=some o->h1.get? b=some o) (EH:h1.IsCell (s2.heap.objs.size+1) none){t':Nat} :
  Inv (DV X (A6++[x]) scope x (B6 X.env.cells scope.names) s2.heap.objs.size s2 H2 fp) [] (AS js σ++[none]) H2 { s2 with heap:=h1,toks:=t' }:=by
 have NW:∀ y∈scope.names,y.2=.free->(X.env.cells.lookup y.1).isSome=true:=fun y hy hk=>by
  obtain ⟨c,e⟩:=I3.ok.has y.1 (.inl (S.all y hy hk))
  rw [e];rfl
 have E1:∀ y c,(B6 X.env.cells scope.names).lookup y=some c->X.env.cells.lookup y=some c:=QU scope.names [] NW (fun _ _ e=>by cases e)
 have JG:∀ y k,(relabel scope X.env).names.lookup y=some k->k=.cell∨k=.free->scope.names.lookup y=some .free∨y=x:=fun y k e hk=>by
  have e':=(IZ (env:=X.env) scope.names y).symm.trans e
  cases q:scope.names.lookup y with
  | none=>rw [q] at e';cases e'
  | some k0=>
   rw [q] at e'
   cases k0 with
   | free=>exact .inl rfl
   | cell=>exact .inr (S.one _ (FN q) rfl)
   | _=>simp at e';rcases hk with rfl | rfl <;> cases e'
 have hlen:js.length=A6.length:=by have:=congrArg List.length S.at';simpa using this
 have Q7:∀ y c,X.env.cells.lookup y=some c->c < s2.heap.objs.size:=fun y c e=>by
  obtain ⟨v,o,ho,_⟩:=I3.cell y c e
  exact B0 ho
 have cellK:∀ c v,s2.heap.IsCell c v->h1.IsCell c v:=fun c v ⟨o,ho,hd⟩=>⟨o,old c o ho,hd⟩
 have lk:∀ y c,((x,s2.heap.objs.size+1) :: B6 X.env.cells scope.names).lookup y=some c->(y=x/\c=s2.heap.objs.size+1)∨(y≠x/\X.env.cells.lookup y=some c):=fun y c e=>(xa e).imp id fun z=>⟨z.1,E1 y c z.2⟩
 have xc:x∉A6:=fun z=>(List.nodup_append.mp S.nd).2.2 x z x (by simp) rfl
 refine ⟨⟨I3.ok.mod,S.kind,I3.ok.glob,I3.ok.blt,Ae _,fun y z c e1 e2=>?_,fun y hy=>?_,fun y c hf e=>?_,I3.ok.hd,I3.ok.frames,.inl rfl,fun b hb=>⟨C8 (L5 b hb),fun y c e=>?_⟩,
  fun b o e=>I3.bs b o e,Dj I3.ok.Ew I3.sz,fun b o e hb=>?_,fun b hb hs=>?_,I3.stack,I3.RJ⟩,rfl,I3.bare,Un.kept old,⟨m,Dy,fun i y v e1 e2 e3=>?_⟩,fun y c e=>?_,I3.AF.fresh (Ae _),fun y c e=>?_,fun p hp=>(by cases hp),I3.AF.kept old,?_⟩
 ·rcases lk y c e1 with ⟨rfl,rfl⟩ | ⟨n1,D2⟩
  ·rcases lk z _ e2 with ⟨rfl,_⟩ | ⟨_,DI⟩
   ·rfl
   ·exact absurd (Q7 z _ DI) (zi (Of _))
  ·rcases lk z c e2 with ⟨rfl,rfl⟩ | ⟨_,DI⟩
   ·exact absurd (Q7 y _ D2) (zi (Of _))
   ·exact I3.ok.inj y z c D2 DI
 ·have hf:scope.names.lookup y=some .free∨y=x:=by
   rcases hy with hy | hy
   ·exact JG y _ hy (.inl rfl)
   ·exact JG y _ hy (.inr rfl)
  show ∃ c,List.lookup y ((x,s2.heap.objs.size+1) :: B6 X.env.cells scope.names)=some c
  rw [GS]
  by_cases ex:y=x
  ·subst ex;simp
  ·have hb:(y == x)=false:=by simpa using ex
   rw [hb]
   exact Option.isSome_iff_exists.mp (JV scope.names [] (.inr (FN (hf.resolve_right ex))))
 ·have hf:(y == x)=true:=hf
  rcases lk y c e with ⟨_,rfl⟩ | ⟨n1,_⟩
  ·exact Of _
  ·exact absurd (by simpa using hf) n1
 ·rcases lk y c e with ⟨_,rfl⟩ | ⟨_,D2⟩
  ·exact Oh (Xt (L5 b hb))
  ·exact (f2 b hb).2.2.2.2.1 y c D2
 ·rcases (f2 b hb).2.2.2.1 with z | z
  ·exact I3.ok.KN b o e z
  ·exact absurd (Cy (Cy (B0 e) I3.ok.Ew) z) (JM _)
 ·rcases List.mem_cons.mp (I3.ON b hs) with z | z
  ·exact (f2 b hb).2.1 z
  ·exact (f2 b hb).2.2.1 z
 ·have EH:(AS js σ).length=A6.length:=by unfold AS;rw [AE,hlen]
  have hi:i < A6.length:=by
   by_cases hi:i < A6.length
   ·exact hi
   ·have AY:(AS js σ++[none])[i]?=some (some v):=e2
    rw [Dh (by rw [EH];omega),EH] at AY
    cases hd:i - A6.length with
    | zero=>rw [hd] at AY;cases AY
    | succ k=>rw [hd] at AY;simp at AY
  have C3:A6[i]?=some y:=by
   have C3:(A6++[x])[i]?=some y:=e1
   rwa [CZ hi] at C3
  have AY:(AS js σ)[i]?=some (some v):=by
   have AY:(AS js σ++[none])[i]?=some (some v):=e2
   rwa [CZ (by rw [EH];exact hi)] at AY
  have C6:y∈A6:=CC C3
  unfold AS at AY
  rw [Ag] at AY
  cases hj:js[i]? with
  | none=>rw [hj] at AY;cases AY
  | some j=>
   rw [hj] at AY
   have hN:X.N[j]?=some y:=by
    have q:=congrArg (fun l=>l[i]?) S.at'
    simp only [Ag,hj,C3,JN] at q
    exact BG q
   have hσ:σ[j]?=some (some v):=by
    simp only [JN,MK] at AY
    cases q:σ[j]? with
    | none=>rw [q] at AY;cases AY
    | some w=>rw [q] at AY;simp at AY;rw [AY]
   obtain ⟨m0,YL,N1⟩:=I3.loc
   obtain ⟨u,r,l⟩:=N1 j y v hN hσ (.inr (.inl (S.cell y C6)))
   refine ⟨u,r,?_⟩
   rcases l with ⟨k,_⟩ | ⟨_,c,e,z⟩
   ·have k':X.env.scope.names.lookup y=some .local:=k
    rw [S.cell y C6] at k';cases k'
   ·have KS:X.env.kindOf y=some .cell:=S.cell y C6
    have hk:(relabel scope X.env).names.lookup y=some .cell:=by
     refine (IZ (env:=X.env) scope.names y).trans ?_
     rw [S.free y C6]
     simp [I3.ok.kind,KS]
    obtain ⟨c',e'⟩:=Option.isSome_iff_exists.mp (JV (cells:=X.env.cells) scope.names [] (.inr (FN (S.free y C6))))
    have IK:=E1 y c' e'
    rw [e] at IK;cases IK
    refine .inr ⟨.inl hk,c,?_,cellK c _ z⟩
    show List.lookup y ((x,s2.heap.objs.size+1) :: B6 X.env.cells scope.names)=some c
    rw [GS]
    have hb:(y == x)=false:=beq_eq_false_iff_ne.mpr fun z:y=x=>xc (z▸C6)
    rw [hb];exact e'
 ·rcases lk y c e with ⟨_,rfl⟩ | ⟨_,D2⟩
  ·exact ⟨none,EH⟩
  ·obtain ⟨v,z⟩:=I3.cell y c D2
   exact ⟨v,cellK c v z⟩
 ·rcases lk y c e with ⟨_,rfl⟩ | ⟨_,D2⟩
  ·exact I3.AF.fresh (Of _)
  ·exact I3.FQ y c D2
 ·show (AS js σ++[none]).length=(A6++[x]).length
  unfold AS
  simp [hlen]
def sy {acc C:Addr}{s3:Shared}{H3:Hp}{cl:List (Str×Addr)}{s4:Shared}{w0:Option V}{H4:Hp}{R:Result->Shared->Prop}(hc:X.calm=true) (S:LX X.N X.env.scope scope x A6 js)
  (Bt:FJ (DV X (A6++[x]) scope x cl C s3 H3 fp) ifs tt) (Bu:PE (DV X (A6++[x]) scope x cl C s3 H3 fp) elt te)
  (T:Turn X.prog X.w X.K (.Name x px) J fp it tn) (O8:∀ b∈fp,(DV X (A6++[x]) scope x cl C s3 H3 fp).Ok->Bv (DV X (A6++[x]) scope x cl C s3 H3 fp) [] (fun _=>none) b)
  (W:Nat->Nat->Hp->Prop) (Q:VK)
  (turn:∀ i m H2,W i m H2->(J.stop i H2/\Q (.ref acc) H2)∨(J.go i H2/\∀ x H3,J.Dx i H2 x H3->tt (AS js σ++[some x]) H3 fun b H4=>
   if b=true then te (AS js σ++[some x]) H4 fun y H5=>∃ ys,H5 acc=some (.lst ys)/\ys.length < sizeLine/\∃ m',m' < m/\W (i+1) m' (upd H5 acc (.lst (ys++[y])))
   else ∃ m',m' < m/\W (i+1) m' H4))
  (I4:Inv (DV X (A6++[x]) scope x cl C s3 H3 fp) [] (AS js σ++[w0]) H4 s4) (Ee:tn 0 s4.heap) (OQ:∀ b∈fp,H4 b=none) (m0:Nat) (w4:W 0 m0 H4)
  (hR:∀ H' s' w,Inv (DV X (A6++[x]) scope x cl C s3 H3 fp) [] (AS js σ++[w]) H' s'->Q (.ref acc) H'->R (.ok .next) s') :
  codeAny (model X.prog X.w) X.A (.compLoop (.ListComp elt [⟨.Name x px,iter,ifs,0⟩] scope pos) 0 (.ref it) (.ref acc) (compEnvC scope ((x,C+1) :: cl) C X.env)) R s4:=by
 have hlen:(AS js σ).length=A6.length:=by
  unfold AS;rw [AE];have:=congrArg List.length S.at';simpa using this
 have hN:(A6++[x])[(AS js σ).length]?=some x:=by rw [hlen];simp
 have W9:Loc (relabel scope X.env) x:=.inr (xf S.Kn)
 have AF:=I4.ok
 have EJ:∀ {H':Hp},(∀ b∈fp,H' b=none)->∀ b∈fp,Bv (DV X (A6++[x]) scope x cl C s3 H3 fp) [] H' b:=fun hn b hb=>⟨hn b hb,(O8 b hb AF).2⟩
 refine codeAny_compLoop_tests (fun n s'=>∃ i w H',Inv (DV X (A6++[x]) scope x cl C s3 H3 fp) [] (AS js σ++[w]) H' s'/\tn i s'.heap/\(∀ b∈fp,H' b=none)/\W i n H') ?_ m0 ⟨0,w0,H4,I4,Ee,OQ,w4⟩
 rintro n s5 ⟨i,w,H5,I5,Fb,Gz,w5⟩
 rcases turn i n H5 w5 with ⟨stop,q⟩ | ⟨go,step⟩
 ·refine wpAny_mono (T.done (DV X (A6++[x]) scope x cl C s3 H3 fp) rfl rfl rfl hc i [] s5 _ H5 (fun _ _=>False) I5 (EJ Gz) Fb stop) (fun r s6 ⟨hr,I6⟩=>?_) fun _ _ z=>z.elim
  subst hr
  exact hR H5 s6 w I6 q
 ·refine wpAny_mono (T.item (DV X (A6++[x]) scope x cl C s3 H3 fp) rfl rfl rfl hc i [] s5 _ H5 (fun _ _=>False) I5 (EJ Gz) Fb go) (fun r s6 ⟨u,hr,h6⟩=>?_) fun _ _ z=>z.elim
  subst hr
  have key:∀ (Q':Unit->Shared->Prop) (E':Value->Shared->Prop) (f:Unit->Sem Unit),wpAny (model X.prog X.w) X.A (letOwnedTupleGo (.Name x px) (.ref it) u >>= f) Q' E' s6->wpAny (model X.prog X.w) X.A (f ()) Q' E' s6:=fun Q' E' f h=>h
  refine key _ _ (fun _=>assign (.Name x px) (compEnvC scope ((x,C+1) :: cl) C X.env) u) (wpAny_bind (wpAny_mono h6 (fun _ s7 ⟨v,H7,I7,r7,y7,GB,NT⟩=>?_) fun _ _ z=>z.elim))
  have OD:=I7.pinned (EJ NT) (T.obj _ _ GB)
  refine wpAny_mono (Qi (X:=DV X (A6++[x]) scope x cl C s3 H3 fp) (pos:=px) S.nd hN W9 (.inl (beq_self_eq_true x)) _ s7 _ H7 v u
   (fun σ8 H8=>σ8=AS js σ++[some v]/\H8=H7) OD r7 ⟨e6 _ _ _,rfl⟩) (fun _ s8 ⟨σ8,H8,I8,e8,Mq⟩=>?_) fun _ _ z=>z.elim
  subst e8;subst Mq
  refine wpAny_mono (Bt _ s8 _ H8 _ I8 (step v H8 y7)) (fun b s9 ⟨H9,I9,q9⟩=>?_) fun _ _ z=>z.elim
  have again:∀ {σa:St} {Ha:Hp}{sa:Shared},Inv (DV X (A6++[x]) scope x cl C s3 H3 fp) ([]++Ke fp s7.heap) σa Ha sa->tn (i+1) sa.heap/\(∀ b∈fp,Ha b=none):=fun {σa Ha sa} Ia=>by
   refine ⟨T.keep _ _ _ GB fun b hb o e=>(Ia.pin (b,o) (Di _ (Di _ (Ig hb e)))).1,fun b hb=>?_⟩
   obtain ⟨o,e,d⟩:=T.obj _ _ GB b hb
   exact (Ia.pin (b,o) (Di _ (Di _ (Ig hb e)))).2.1
  cases b with
  | false=>
   have NS:∃ m',m' < n/\W (i+1) m' H9:=q9
   obtain ⟨m',hm,w9⟩:=NS
   rw [if_neg (by decide)]
   exact ⟨m',hm,i+1,_,H9,I9.Hz,(again I9).1,(again I9).2,w9⟩
  | true=>
   rw [if_pos rfl]
   rw [if_pos rfl] at q9
   refine wpAny_mono (Bu _ s9 _ H9 _ I9 q9) (fun yv OJ ⟨y,J7,OO,ML,ys,Az,hz,m',hm,Ni⟩=>?_) fun _ _ z=>z.elim
   refine wpAny_mono (Qp (X:=DV X (A6++[x]) scope x cl C s3 H3 fp) _ OJ _ J7 (.ref acc) [y] (.ref acc) [yv] (fun _ JA=>JA=upd J7 acc (.lst (ys++[y]))) OO rfl (.cons ML .nil) ⟨acc,ys,y,rfl,rfl,Az,hz,rfl⟩)
    (fun _ YA ⟨_,JA,GO,_,NZ⟩=>?_) fun _ _ z=>z.elim
   subst NZ
   exact ⟨m',hm,i+1,_,_,GO.Hz,(again GO).1,(again GO).2,Ni⟩
def tR {RR:Value->Addr->Result->Shared->Prop}{E:Value->Shared->Prop}(hc:X.calm=true) (S:LX X.N X.env.scope scope x A6 js)
  (Bt:∀ C s H,FJ (DV X (A6++[x]) scope x (B6 X.env.cells scope.names) C s H fp) ifs tt) (Bu:∀ C s H,PE (DV X (A6++[x]) scope x (B6 X.env.cells scope.names) C s H fp) elt te)
  (T:Turn X.prog X.w X.K (.Name x px) J fp it tn) (I2:Inv X pins σ H2 s2) (DC:tn 0 s2.heap) (f2:∀ b∈fp,Bv X pins H2 b) (Q:VK) (hW:∀ acc,H2 acc=none->NP J js tt te σ H2 acc Q)
  (Nn:∀ acc C H' s' m,Inv X pins σ H' s'->Bv X pins H' C->s'.heap.Ns C m->Q (.ref acc) H'->RR (.ref acc) C (.ok .next) s') :
  wpAny (model X.prog X.w) X.A (newList []) (fun acc s3=>wpAny (model X.prog X.w) X.A (newFunctionEnv scope X.env.globals (B6 X.env.cells scope.names) [] X.env.qual none .none (some X.env)) (fun JE s4=>
   codeAny (model X.prog X.w) X.A (.compStart (.ListComp elt [⟨.Name x px,iter,ifs,0⟩] scope pos) 0 (.ref it) acc { JE with scope:=relabel scope X.env }) (RR acc JE.locals) s4) E s3) E s2:=by
 refine wpAny_newObj_type (jU S.cf S.pc ?_)
 have I3:Inv X pins σ (upd H2 s2.heap.objs.size (.lst [])) { s2 with heap:=s2.heap.push { cls:=.type "list", data:=.seq ([]:List Value).toArray } }:=I2.Qn (t':=s2.toks) .nil (CJ _)
 have AN:∀ b∈fp,b < s2.heap.objs.size:=fun b hb=>by
  obtain ⟨o,e,_⟩:=T.obj _ _ DC b hb
  exact B0 e
 have hsz:(s2.heap.push { cls:=.type "list", data:=.seq ([]:List Value).toArray }).objs.size=s2.heap.objs.size+1:=JH ..
 have f3:∀ b∈fp,Bv X pins (upd H2 s2.heap.objs.size (.lst [])) b:=fun b hb=>⟨by rw [AR (C8 (AN b hb))];exact (f2 b hb).1,(f2 b hb).2⟩
 generalize NQ:({ s2 with heap:=s2.heap.push { cls:=.type "list", data:=.seq ([]:List Value).toArray } }:Shared)=s3 at I3 ⊢
 have Ip:s3.heap=s2.heap.push { cls:=.type "list", data:=.seq ([]:List Value).toArray }:=by rw [<- NQ]
 have OG:∀ b∈fp,b < s3.heap.objs.size:=fun b hb=>by rw [Ip,hsz];exact Xt (AN b hb)
 generalize U9:(s3.heap.push { cls:=.type "dict", data:=.dict #[] }).push { cls:=.type "cell", data:=.cell none }=h1
 have old:∀ b o,s3.heap.get? b=some o->h1.get? b=some o:=fun b o e=>by rw [<- U9];exact Br _ (Br _ e)
 have OS:∀ b o,s2.heap.get? b=some o->h1.get? b=some o:=fun b o e=>old b o (by rw [Ip];exact Br _ e)
 have Dy:h1.Ns s3.heap.objs.size (fun _=>none):=by
  rw [<- U9]
  exact (Heap.Ns.new s3.heap (.type "dict")).keeps fun b o e=>Br _ e
 have EH:h1.IsCell (s3.heap.objs.size+1) none:=by
  rw [<- U9]
  have e:(s3.heap.push { cls:=.type "dict", data:=.dict #[] }).objs.size=s3.heap.objs.size+1:=JH ..
  exact ⟨_,by rw [<- e];exact DD _ rfl,rfl⟩
 have I4:=pb S I3 f3 OG Dy old EH (t':=s3.toks)
 have Ee:tn 0 h1:=T.keep _ _ _ DC fun b _ o e=>OS b o e
 obtain ⟨W,⟨m0,w0⟩,turn⟩:=hW s2.heap.objs.size (I2.AF.fresh (Ae _))
 have loop:codeAny (model X.prog X.w) X.A (.compLoop (.ListComp elt [⟨.Name x px,iter,ifs,0⟩] scope pos) 0 (.ref it) (.ref s2.heap.objs.size) (compEnvC scope ((x,s3.heap.objs.size+1) :: B6 X.env.cells scope.names) s3.heap.objs.size X.env))
   (RR (.ref s2.heap.objs.size) s3.heap.objs.size) { s3 with heap:=h1 }:=by
  refine sy (acc:=s2.heap.objs.size) (Q:=Q) hc S (Bt _ _ _) (Bu _ _ _) T (fun b hb ok=>⟨rfl,(ok.Ic b hb).1,ok.K9 b hb,.inl hb,(ok.Ic b hb).2,fun p hp=>by cases hp⟩) W turn I4 Ee (fun b hb=>(f3 b hb).1) m0 w0 fun H' s' w I' q=>?_
  obtain ⟨m,hn,_⟩:=I'.loc
  exact Nn _ _ H' s' m (I3.Uo (ch:=fp) I'.os I'.base I'.AF I'.bare fun b hb=>⟨(f3 b hb).2.2.2.1,(f3 b hb).2.1,(f3 b hb).2.2.2.2.1,(f3 b hb).2.2.2.2.2⟩) (I3.IQ (Ae _) I'.free) hn q
 exact codeAny_compStart_list loop (T.self X.A 0 _ _ _ Ee loop)
def xQ {σ:St} {H:Hp}{s:Shared}(S:LX X.N X.env.scope scope x A6 js) (I:Inv X pins σ H s):closureFor scope X.env=pure (B6 X.env.cells scope.names):=XT fun y hy hk=>by
 obtain ⟨c,e⟩:=I.ok.has y.1 (.inl (S.all y hy hk))
 rw [e];rfl
def hU {wi:TI}(hc:X.calm=true) (S:LX X.N X.env.scope scope x A6 js) (hi:QI X (.Name x px) iter wi)
  (Bt:∀ fp C s H,Jm (DV X (A6++[x]) scope x (B6 X.env.cells scope.names) C s H fp) ifs tt) (Bu:∀ fp C s H,QE (DV X (A6++[x]) scope x (B6 X.env.cells scope.names) C s H fp) elt te)
  (hs:∀ v,foldedSetIterable iter X.env v=pure v:=by intro _;rfl):QE X (.ListComp elt [⟨.Name x px,iter,ifs,0⟩] scope pos) (Iu wi js tt te):=⟨by
 intro pins s σ H Q I h
 rw [eval_ListComp]
 refine wpAny_comprehension_free (use:=none) rfl hs (xQ S I) S.kind S.loc (AH (hi.h pins s σ H _ I h) fun v s1 h1=>AH h1 fun KO s2 h2=>?_)
 obtain ⟨it,fp,tn,J,H2,e,I2,T,DC,f2,hW⟩:=h2
 subst e
 refine tR (RR:=fun acc C=>compPost (model X.prog X.w) X.A X.xe none (EP X pins σ Q) acc C) hc S (fun C s H=>(Bt fp C s H).h) (fun C s H=>(Bu fp C s H).h) T I2 DC f2 Q hW fun acc C H' s' m I' fC hn q=>⟨m,hn,fun h' ED=>?_⟩
 exact ⟨.ref acc,H',I'.turned (t':=s'.toks) (fun b o hb e=>(ED.2 b hb).trans e) fC.1 fC.2.1 fC.2.2.2.1 fC.2.2.2.2.1 fC.2.2.2.2.2,rfl,q⟩⟩
end
end L2
namespace Fz
open L2 Lw
section
variable [Xw]
variable {ss:List Slot}{K:ZAY}{ta tb tc te ti:TE}{nx:List Slot->Prop}{R:Ak}{xs ys:List PV}{i j:Nat}{k:PV->Prop}
def ki (h:Wq ss te fun tp xs=>tp=false/\∃ ns:List Int,xs=ns.map PV.int/\k (.int ns.sum)):Wp ss (C1 (Vr K) (AO te An)) k:=⟨fun E σ F H Q S q=>
 h.go E σ F H _ S fun v tp xs F1 H1 m1 sv ⟨et,ns,e,kk⟩=>by
  subst et;subst e
  obtain ⟨l,vs,rfl,hl,r⟩:=sv.seq m1.st
  rw [r.ints] at hl
  exact ⟨l,ns,rfl,AJ.of hl,q _ _ F1 H1 m1 (.int _) kk⟩⟩
def qe (h:Wq ss te fun tp xs=>tp=false/\∃ ns:List Int,xs=ns.map PV.int/\ns≠[]/\∀ m∈ns,(∀ y∈ns,y<=m)->k (.int m)):Wp ss (C1 (aw K) (AO te An)) k:=⟨fun E σ F H Q S q=>
 h.go E σ F H _ S fun v tp xs F1 H1 m1 sv ⟨et,ns,e,Ao,kk⟩=>by
  subst et;subst e
  obtain ⟨l,vs,rfl,hl,r⟩:=sv.seq m1.st
  rw [r.ints] at hl
  exact ⟨l,ns,rfl,AJ.of hl,Ao,fun m hm hy=>q _ _ F1 H1 m1 (.int _) (kk m hm hy)⟩⟩
def n6 {g:Int->Int->Int}(hi:ss[i]?=some (.own xs)) (h:Wp ss ti fun q=>∃ (n:Nat) (x:Int),q=.int n/\xs[n]?=some (.int x)/\Wp ss te fun p=>∃ y,p=.int y/\nx (ss.set i (.own (xs.set n (.int (g x y)))))):Ws ss (VB (BM i) ti te (Vb K) (d9 g) Vz) nx R:=⟨fun E D σ F H S hn hr=>by
 obtain ⟨l,vs,e,e1,e2,e3,r⟩:=S.ok i _ hi
 refine ⟨_,e,h.go E σ F H _ S fun v q F1 H1 m1 r1 ⟨n,x,eq,hx,h2⟩=>?_⟩
 subst eq;cases r1
 obtain ⟨l',Tb,e',_,_,lZ,xl⟩:=m1.st.ok i _ hi
 rw [e] at e';cases e'
 obtain ⟨w,hw,rw_⟩:=xl.get hx
 cases rw_
 refine ⟨l,Tb,n,_,rfl,rfl,AJ.of lZ,hw,h2.go E σ F1 H1 _ m1.st fun v2 p F2 H2 m2 r2 ⟨y,ey,kk⟩=>?_⟩
 subst ey;cases r2
 obtain ⟨l',Eb,e',f1,f2,qk,LL⟩:=m2.st.ok i _ hi
 rw [e] at e';cases e'
 have Df:n < Eb.length:=by rw [LL.length];exact (List.getElem?_eq_some_iff.mp hx).1
 refine ⟨x,y,rfl,rfl,l,Eb,_,n,rfl,rfl,qk,jx Df,?_⟩
 exact hn _ σ F2 _ kk (m2.st.put hi e f1 f2 (LL.set n (.int _))) (m1.ff.trans m2.ff)⟩
def iK {y:PV}(hj:ss[j]?=some (.own ys)) (hy:ys[ys.length - 1]?=some y) (h:nx ((ss.set j (.own ys.dropLast)).set i (.is y))):Ws ss (E8 (MV K "list" VX (BM j)) (CV i)) nx R:=⟨fun E D σ F H S hn hr=>by
 obtain ⟨l,vs,e,e1,e2,e3,r⟩:=S.ok j _ hj
 obtain ⟨w,hw,rw_⟩:=r.get hy
 have hl:=r.length
 refine ⟨_,e,.inl ⟨rfl,_,AJ.of e3⟩,l,vs,w,rfl,rfl,e3,by rw [hl];exact hw,?_⟩
 have rd:AG F vs.dropLast ys.dropLast:=by
  rw [zP,zP,hl];exact r.take _
 exact hn _ _ F _ h ((S.put hj e e1 e2 rd).Ga rw_) (AD.refl _)⟩
end
section
variable {ss:List Slot}{nx:List Slot->Prop}{i:Nat}{lt:Bool}
def Wr (i:Nat) (R:Ak) (A8:List Slot):Prop:=∃ (k:PV->OV->Prop) (nk:NK) (a:Addr) (us:List OV),R=.mt k/\A8[i]?=some (.ow true (.nd nk a us))/\k .A5 (.nd nk a us)
theorem Wr.ok {E:Ent0}{R:Ak}{A8:List Slot}{σ:L2.St} {F H:Hp}(h:Wr i R A8) (S:Sg E A8 σ F H):R.ok E F H .A5:=by
 obtain ⟨k,nk,a,us,rfl,h0,hk⟩:=h
 obtain ⟨v0,e0,r0,Cg,q0⟩:=S.ok i _ h0
 have ev:v0=.ref a:=by cases r0;rfl
 subst ev
 exact ⟨.A5,.nd nk a us,.A5,r0,Cg,fun b hb=>⟨(q0 b hb).1,(q0 b hb).2.imp id fun z=>z.2⟩,hk⟩
def xR (i:Nat){pre:Pre}{H:Hp}{N:List Str}{n:Nat}{vs:List V}{Q:VK}{X:XK}{t:TS}(h:D7 pre vs H Q X) (hl:∀ ss R,pre ss R->ss.length=n)
  (hw:∀ ss R,pre ss R->Ws (ss++List.replicate (N.length - n) .any) t (Wr i R) R):t { nx:=fun _ H'=>Q .A5 H',rt:=Q } (L2.start N vs) H:=by
 obtain ⟨ss,R,F,A,B,hp,S,q⟩:=h
 have e:vs.length=n:=by have:=S.len;rw [AE] at this;rw [<- this];exact hl ss R hp
 unfold L2.start
 rw [e]
 exact (hw ss R hp).go (OC ⟨A,F,H,B⟩) _ _ F H (S.grown _) (fun A8 σ' F' H' z S' _=>q .A5 F' H' S'.toFin (z.ok S')) fun v F' H' f ok=>q v F' H' f ok
variable [Xw]
def kX {nk:NK}{a0:Addr}{us:List OV}{k:PV->OV->Prop}(hi:ss[i]?=some (.ow lt (.nd nk a0 us))) (h:k .A5 (.nd nk a0 us)):Ws ss Sk nx (.mt k):=⟨fun E D σ F H S hn hr=>by
 obtain ⟨v0,e0,r0,Cg,q0⟩:=S.ok i _ hi
 have ev:v0=.ref a0:=by cases r0;rfl
 subst ev
 exact hr .A5 F H S.toFin ⟨.A5,.nd nk a0 us,.A5,r0,Cg,fun a ha=>⟨(q0 a ha).1,(q0 a ha).2.imp id fun z=>z.2⟩,h⟩⟩
end
def R5 {pre:Pre}(h0:∀ ss R,¬ pre ss R){vs:List V}{H:Hp}{Q:VK}{E:XK}(h:D7 pre vs H Q E):False:=by
 obtain ⟨ss,R,F,A,B,hp,_⟩:=h
 exact h0 ss R hp
inductive KI where
 | put (x:Str) (i:Int) | take (x:Str) | move (x:Str) (i:Int) | turn (lo hi:Int)
def aP:KI->PV
 | .put x i=>.tup [.str "put", .str x,.int i]
 | .take x=>.tup [.str "take", .str x]
 | .move x i=>.tup [.str "move", .str x,.int i]
 | .turn lo hi=>.tup [.str "turn", .int lo,.int hi]
structure vH where
 noName:Addr
 there:Addr
 gone:Addr
 ZAE:Addr
 full:Addr
def inR (i:Int) (lo hi:Int):Prop:=lo<=i/\i<=hi
instance {i lo hi:Int}:Decidable (inR i lo hi):=by unfold inR;infer_instance
def KI.Is (d:KI) (ns:List Str) (d':BA):Prop:=aP d=dP d'/\d'.Ok 40 ns
def m9 {c:Nat}(h:LQ c=true):97<=c/\c<=122:=by
 refine zI fun hn=>?_
 have e:∀ i,i < 26->GZ.cps.extract i (i+1)=#[97+i]:=by decide +kernel
 have no:∀ i,i+(Str.length ⟨#[c]⟩)<=GZ.length->Builtin.Str.subAt GZ ⟨#[c]⟩ i=false:=fun i hi=>by
  have C0:i+1<=26:=hi
  show (GZ.cps.extract i (i+1) == #[c])=false
  rw [e i (by omega)]
  cases hc:(#[97+i] == #[c]) with
  | false=>rfl
  | true=>
   have q:=eq_of_beq hc
   simp at q
   exact absurd ⟨by omega,by omega⟩ hn
 unfold LQ at h
 rw [PySem.W.occ_nil_of_no _ _ 1 no] at h
 exact absurd h (by decide)
def uz {x:Str}(h:isNm x=true):Nm x:=by
 unfold isNm at h
 simp only [Ek,decide_eq_true_eq,HD] at h
 obtain ⟨h1,h2,h3⟩:=h
 exact ⟨by omega,by omega,fun c hc=>m9 (h3 c hc)⟩
section
variable [Xw]
variable {ss:List Slot}{te:TE}
def oE {i:Nat}{k:List PV->Prop}(hi:ss[i]?=some .AK) (h:Wp ss te fun x=>∃ m,x=.int m/\0<=m/\m<=100/\∀ ns:List Str,(ns.length:Int)=m->(∀ x∈ns,Nm x)->ns.Nodup->k (ns.map PV.str)):Wn ss (CL WG [] E0 (AO (BM i) (AO te An))) k:=⟨fun E σ F H Q S q=>by
 obtain ⟨p,e,_⟩:=S.ok i _ hi
 refine ⟨_,e,h.go E σ F H _ S fun v x F1 H1 m1 r ⟨m,em,m0,GG,kk⟩=>?_⟩
 subst em;cases r
 refine ⟨p,m,rfl,m1.st.Cp hi e,m0,GG,fun l H2 ns hl s Bw hz hN nd=>?_⟩
 have m2:=m1.st.Ng hi e s
 exact q l _ _ F1 H2 (m1.trans m2) (m1.st.B9 hl) (m1.none hl) Bw (KQ ns) (kk ns hz hN nd)⟩
end
theorem Iq:∀ ps:List PV,OV.BD (ps.map .fz)=ps
 | []=>rfl
 | p :: ps=>by rw [BL,OV.BD,OV.pv,Iq ps]
def bx {n:Int}(h:n<=1000):n < 10 ^ 18:=gQ h (by decide)
def dG {ns:List Str}{k:Nat}(h:k<=ns.length):Cu ns none (some (k:Int))=ns.take k:=by
 unfold Cu
 rw [show HT.CF ns.length 0 none=0 from rfl,JJ,Ru]
 congr 1
 simp only [HT.CF]
 split <;> omega
structure Kd where
 w:Str
 ps:List (Str×Str)
 g:Bool
def B7 (p:Str×Str):PV:=.tup [.str p.1,.str p.2]
def Kd.P (k:Kd):PV:=.tup [.str k.w,.tup (k.ps.map B7),.bl k.g]
def WH:List Str:=["next", "last", "back", "first"]
def LW {α:Type} {xs:List α}{k:Nat}{x:α}(h:xs[k]?=some x):xs.take (k+1)=xs.take k++[x]:=by
 obtain ⟨hk,e⟩:=List.getElem?_eq_some_iff.mp h
 rw [Rr hk,e]
def om {t:Int}(h0:0<=t) (h:t < 7):∃ z:Nat,L2.B5 [PV.int 0,.int 1,.int 1,.int 2,.int 2,.int 3,.int 6] t=some (.int (z:Int))/\z<=6:=by
 rcases (show t=0∨t=1∨t=2∨t=3∨t=4∨t=5∨t=6 by omega) with rfl | rfl | rfl | rfl | rfl | rfl | rfl
 ·exact ⟨0,rfl,by decide⟩
 ·exact ⟨1,rfl,by decide⟩
 ·exact ⟨1,rfl,by decide⟩
 ·exact ⟨2,rfl,by decide⟩
 ·exact ⟨2,rfl,by decide⟩
 ·exact ⟨3,rfl,by decide⟩
 ·exact ⟨6,rfl,by decide⟩
theorem Vk:∀ {ps qs:List (Str×Str)},ps.map B7=qs.map B7->ps=qs
 | [],[],_=>rfl
 | [],_ :: _,h=>by simp at h
 | _ :: _,[],h=>by simp at h
 | p :: ps,q :: qs,h=>by
  rw [BL,BL] at h
  injection h with h1 h2
  have e1:p.1=q.1/\p.2=q.2:=by
   unfold B7 at h1
   injection h1 with h1
   injection h1 with a b
   injection a with a
   injection b with b _
   injection b with b
   exact ⟨a,b⟩
  rw [Vk h2,Prod.ext e1.1 e1.2]
def Kd.inj (x y:Kd) (h:x.P=y.P):x=y:=by
 obtain ⟨w,ps,g⟩:=x
 obtain ⟨w',iS,g'⟩:=y
 unfold Kd.P at h
 injection h with h
 injection h with a b
 injection a with a
 injection b with b c
 injection b with b
 injection c with c _
 injection c with c
 have b':=Vk b
 simp only at a b' c
 subst a b' c
 rfl
section
variable [Xw]
variable {ss:List Slot}{K:ZAY}{ta tb tc te:TE}{k:PV->Prop}{F:Hp}
end
section
variable [Xw]
variable {E:Ent0}{ss:List Slot}{σ:L2.St} {F H F1 F' H':Hp}{K:ZAY}{js:List Nat}{ta tb tc te ti:TE}{nx:List Slot->Prop}{R:Ak}{k:PV->Prop}{xs:List PV}
end
def bj (ns:List Str) (g:Nat) (cs:List Str):(Dg ns g cs).Perm (ns.filter (FK cs)):=by
 rw [<- wq]
 refine List.Perm.filter _ ?_
 have h:(ns.drop g++ns.take g).Perm (ns.take g++ns.drop g):=gi
 rwa [HI] at h
def n8 {ns cs:List Str}(nd:ns.Nodup) (h1:cs.length<=1) (g1 g2:Nat):Dg ns g1 cs=Dg ns g2 cs:=by
 have p1:=bj ns g1 cs
 have p2:=bj ns g2 cs
 have hlen:(ns.filter (FK cs)).length<=1:=Dj (Fo (nd.filter _) fun x hx=>(Pw.mp (p1.mem_iff.mpr hx)).2) h1
 match e:ns.filter (FK cs),hlen with
 | [],_=>rw [e] at p1 p2;rw [p1.eq_nil,p2.eq_nil]
 | [a],_=>rw [e] at p1 p2;rw [List.perm_singleton.mp p1,List.perm_singleton.mp p2]
def C5.step {ns:List Str}{r:Str}{g:Nat}{cs:List Str}(h:C5 ns r g cs):C5 ns r (Fc ns g cs:Nat) (Dz ns g cs):=by
 unfold Fc Dz
 cases e:De ns g cs with
 | none=>exact h
 | some x=>
  have hm:x∈Dg ns g cs:=by
   unfold De at e
   exact zc (by rw [e];rfl)
  obtain ⟨m1,m2⟩:=Pw.mp hm
  have:=List.idxOf_lt_length_iff.mpr m1
  exact ⟨h.rule,by show (0:Int)<=((ns.idxOf x+1:Nat):Int);omega,by show ((ns.idxOf x+1:Nat):Int)<=_;omega,SU x h.up,fun y hy=>h.sub y (Gy.mp hy).1⟩
structure Tw (ns:List Str) (r:Str) (g1 g2:Nat) (cs:List Str):Prop where
 one:C5 ns r g1 cs
 two:C5 ns r g2 cs
 tw:g1=g2∨(r = "none" /\ cs.length<=1)
def Tw.rest {ns:List Str}{r:Str}{g1 g2:Nat}{cs:List Str}(h:Tw ns r g1 g2 cs) (nd:ns.Nodup):Dg ns g1 cs=Dg ns g2 cs:=by
 rcases h.tw with rfl | ⟨_,h1⟩
 ·rfl
 ·exact n8 nd h1 g1 g2
theorem Tw.De {ns:List Str}{r:Str}{g1 g2:Nat}{cs:List Str}(h:Tw ns r g1 g2 cs) (nd:ns.Nodup):De ns g1 cs=De ns g2 cs:=by
 unfold Lw.De;rw [h.rest nd]
theorem Tw.Dz {ns:List Str}{r:Str}{g1 g2:Nat}{cs:List Str}(h:Tw ns r g1 g2 cs) (nd:ns.Nodup):Dz ns g1 cs=Dz ns g2 cs:=by
 unfold Lw.Dz;rw [h.De nd]
theorem Tw.step {ns:List Str}{r:Str}{g1 g2:Nat}{cs:List Str}(h:Tw ns r g1 g2 cs) (nd:ns.Nodup):Tw ns r (Fc ns g1 cs) (Fc ns g2 cs) (Lw.Dz ns g1 cs):=by
 have e:=h.De nd
 refine ⟨C5.step h.one,by rw [h.Dz nd];exact C5.step h.two,?_⟩
 unfold Fc Lw.Dz
 rw [<- e]
 cases Lw.De ns g1 cs with
 | none=>exact h.tw
 | some x=>exact .inl rfl
def TB (g i:Nat):Hi "none" g i=false:=by
 unfold Hi
 rw [if_neg (by decide +kernel),if_neg (by decide +kernel)]
theorem Tw.Gk {ns:List Str}{r:Str}{g1 g2:Nat}{cs:List Str}(h:Tw ns r g1 g2 cs) (d:BA):d.Gk r g1 cs=d.Gk r g2 cs:=by
 rcases h.tw with rfl | ⟨rfl,_⟩
 ·rfl
 ·cases d with
  | put x i=>rw [TZ (TB g1 i),TZ (TB g2 i)]
  | _=>rfl
theorem Tw.led {ns:List Str}{r:Str}{g1 g2:Nat}{cs:List Str}{d:BA}(h:Tw ns r g1 g2 cs) (nd:ns.Nodup) (ok:d.Ok 40 ns):Tw (d.done ns) r (d.gap ns g1) (d.gap ns g2) (d.Gk r g1 cs):=by
 refine ⟨h.one.led ok nd,by rw [h.Gk d];exact h.two.led ok nd,?_⟩
 rcases h.tw with rfl | ⟨rfl,h1⟩
 ·exact .inl rfl
 ·refine .inr ⟨rfl,?_⟩
  cases d with
  | put x i=>rw [TZ (TB g1 i)];exact h1
  | take x=>exact Dj (Rm _ _) h1
  | move x i=>exact h1
  | turn lo hi=>exact h1
def bQ (ns cs:List Str) (u:OV):Prop:=∃ (ts:List Str) (l:Addr),ts.Perm (aV ns (gr cs ns).g cs)/\sortedS ts=true/\u=.tp [.fz (.tup [.int ((gr cs ns).g:Nat),.tup (ts.map .str)]),.nd .lst l (((gr cs ns).ps.map Kz).map .fz)]
theorem bQ.pv {ns cs:List Str}{u:OV}(h:bQ ns cs u):nc ns cs u.pv:=by
 obtain ⟨ts,l,pm,st,rfl⟩:=h
 exact ⟨ts,pm,st,by rw [nX,pP,y0]⟩
section
variable [Xw]
end
inductive En where
 | Km (k:Nat) (r:Str) | Gw (k:Nat) | Ja (d:BA)
def Qg (r:List Str):En->List Str
 | .Ja d=>d.done r
 | _=>r
def WM (n:Nat):En->Nat
 | .Km _ _=>n+1
 | _=>n
def Nq (ns:List Str) (es:List En):List Str:=es.foldl Qg ns
def Ll (es:List En):Nat:=es.foldl WM 0
def uQ (ns:List Str) (b:Nat):En->Prop
 | .Km k r=>k=b/\b < 4/\r∈QN
 | .Gw k=>k < b
 | .Ja d=>d.Ok 14 ns
def fc (es:List En) (e:En):Ll (es++[e])=WM (Ll es) e:=by unfold Ll;rw [zT];rfl
def jn {d:BA}{ns:List Str}(h:d.Ok 14 ns):d.Ok 40 ns:=by
 cases d with
 | put x i=>exact ⟨h.1,h.2.1,h.2.2.1,by have:=h.2.2.2;omega⟩
 | _=>exact h
structure NG (m:Nat) (ns:List Str):Prop where
 len:ns.length<=m
 nm:∀ x∈ns,Nm x
 nd:ns.Nodup
theorem NG.done {m:Nat}{ns:List Str}{d:BA}(h:NG m ns) (ok:d.Ok m ns):NG m (d.done ns):=by
 obtain ⟨a,b,c⟩:=BA.step ok h.nd h.nm h.len
 exact ⟨c,b,a⟩
structure Lp where
 r:Str
 g:Nat
 cs:List Str
def L0 (ns:List Str):List Str:=ns.foldr (fun x r=>Fn r x) []
theorem Pk {x:Str}:∀ {ns:List Str},x∈L0 ns↔x∈ns
 | []=>Iff.rfl
 | y :: r=>by
  show x∈Fn (L0 r) y↔_
  rw [MS,Pk (ns:=r),EW]
theorem WX:∀ {ns:List Str},ns.Nodup->Up (L0 ns)
 | [],_=>List.Pairwise.nil
 | y :: r,h=>by
  obtain ⟨h1,h2⟩:=List.nodup_cons.mp h
  exact Vg (WX h2) fun z=>h1 (Pk.mp z)
def Lp.led (ns:List Str) (d:BA) (l:Lp):Lp:=⟨l.r,d.gap ns l.g,d.Gk l.r l.g l.cs⟩
def Lp.Gw (ns:List Str) (l:Lp):Lp:=⟨l.r,Fc ns l.g l.cs,Dz ns l.g l.cs⟩
def Lp.told (ns:List Str) (l:Lp):PV:=Se (De ns l.g l.cs)
def Lp.Good (ns:List Str) (l:Lp):Prop:=C5 ns l.r l.g l.cs
structure Al where
 lp:Option Lp
 tl:List PV
def Ho (k:Nat) (ns:List Str) (s:Al):En->Al
 | .Km j r=>if j=k then ⟨some ⟨r,0,L0 ns⟩,s.tl⟩ else s
 | .Gw j=>if j=k then match s.lp with
  | some l=>⟨some (l.Gw ns),s.tl++[l.told ns]⟩
  | none=>s
  else s
 | .Ja d=>⟨s.lp.map (Lp.led ns d),s.tl⟩
def M0 (k:Nat) (ns:List Str) (es:List En):Al:=(es.foldl (fun (p:List Str×Al) e=>(Qg p.1 e,Ho k p.1 p.2 e)) (ns,⟨none,[]⟩)).2
theorem fg (k:Nat):∀ (es:List En) (ns:List Str) (s:Al),(es.foldl (fun (p:List Str×Al) e=>(Qg p.1 e,Ho k p.1 p.2 e)) (ns,s)).1=Nq ns es
 | [],_,_=>rfl
 | e :: es,ns,s=>by rw [Oa,fg k es];unfold Nq;rw [Oa]
def aJ (k:Nat) (ns:List Str) (es:List En) (e:En):M0 k ns (es++[e])=Ho k (Nq ns es) (M0 k ns es) e:=by
 unfold M0
 rw [zT,Oa,List.foldl_nil,fg]
structure SD (k:Nat) (ns:List Str) (b:Nat) (s:Al):Prop where
 Va:k < b->∃ l,s.lp=some l/\l.Good ns
 none_:b<=k->s.lp=none/\s.tl=[]
 tl:∀ p∈s.tl,p=.A5∨∃ x,p=.str x
def lu {ns:List Str}{r:Str}(nd:ns.Nodup) (hr:r∈QN):C5 ns r (0:Nat) (L0 ns):=⟨hr,by decide,by show (0:Int)<=_;omega,WX nd,fun x hx=>Pk.mp hx⟩
def jb (o:Option Str):Se o=.A5∨∃ x,Se o=.str x:=by cases o with
 | none=>exact .inl rfl
 | some x=>exact .inr ⟨x,rfl⟩
theorem SD.step {k:Nat}{ns:List Str}{b:Nat}{s:Al}{e:En}(h:SD k ns b s) (hr:NG 14 ns) (ok:uQ ns b e):SD k (Qg ns e) (WM b e) (Ho k ns s e):=by
 cases e with
 | Km j r=>
  obtain ⟨rfl,h4,pE⟩:=ok
  simp only [Ho]
  by_cases c:j=k
  ·subst c
   rw [if_pos rfl]
   exact ⟨fun _=>⟨_,rfl,lu hr.nd pE⟩,fun z=>absurd (show j+1<=j from z) (by omega),h.tl⟩
  ·rw [if_neg c]
   exact ⟨fun z=>h.Va (by have:k < j+1:=z;omega),fun z=>h.none_ (by have:j+1<=k:=z;omega),h.tl⟩
 | Gw j=>
  simp only [Ho]
  by_cases c:j=k
  ·subst c
   rw [if_pos rfl]
   obtain ⟨l,el,gl⟩:=h.Va ok
   rw [el]
   refine ⟨fun _=>⟨_,rfl,C5.step gl⟩,fun z=>absurd (show j < b from ok) (by have:b<=j:=z;omega),fun p hp=>?_⟩
   rcases List.mem_append.mp hp with hp | hp
   ·exact h.tl p hp
   ·rw [List.mem_singleton.mp hp];exact jb _
  ·rw [if_neg c];exact h
 | Ja d=>
  simp only [Ho]
  refine ⟨fun z=>?_,fun z=>?_,h.tl⟩
  ·obtain ⟨l,el,gl⟩:=h.Va z
   rw [el]
   exact ⟨_,rfl,C5.led gl (jn ok) hr.nd⟩
  ·obtain ⟨a,b⟩:=h.none_ z
   rw [a];exact ⟨rfl,b⟩
structure LsOk (ns:List Str) (es:List En) (Ls:List Lp):Prop where
 len:Ls.length=Ll es
 at_:∀ k,k < Ll es->(M0 k ns es).lp=Ls[k]?
theorem LsOk.Gw {ns:List Str}{es:List En}{Ls:List Lp}{j:Nat}{l:Lp}(h:LsOk ns es Ls) (hj:Ls[j]?=some l):LsOk ns (es++[.Gw j]) (Ls.set j (l.Gw (Nq ns es))):=by
 have XG:j < Ls.length:=(List.getElem?_eq_some_iff.mp hj).1
 refine ⟨by rw [fc,HG,h.len];rfl,fun k hk=>?_⟩
 rw [fc] at hk
 have hk:k < Ll es:=hk
 rw [aJ]
 simp only [Ho]
 by_cases c:j=k
 ·subst c
  rw [if_pos rfl,h.at_ j hk,hj,CS XG]
 ·rw [if_neg c,CB c]
  exact h.at_ k hk
structure Xb (ns:List Str) (es:List En) (as:List (Addr×List PV)):Prop where
 len:as.length=4
 at_:∀ k q,as[k]?=some q->q.2=(M0 k ns es).tl
theorem Xb.Gw {ns:List Str}{es:List En}{as:List (Addr×List PV)}{j:Nat}{q:Addr×List PV}{l:Lp}(h:Xb ns es as) (hj:as[j]?=some q) (hl:(M0 j ns es).lp=some l):Xb ns (es++[.Gw j]) (as.set j (q.1,q.2++[l.told (Nq ns es)])):=by
 have XG:j < as.length:=(List.getElem?_eq_some_iff.mp hj).1
 refine ⟨by rw [HG,h.len],fun k p hp=>?_⟩
 rw [aJ]
 simp only [Ho]
 by_cases c:j=k
 ·subst c
  rw [CS XG] at hp
  cases hp
  rw [if_pos rfl,hl]
  show q.2++_=_
  rw [h.at_ j q hj]
 ·rw [CB c] at hp
  rw [if_neg c]
  exact h.at_ k p hp
structure Sm where
 stood:Nat
 joined:Nat
 told:Nat
 taken:Nat
structure Ls where
 row:List Str
 ln:List Str
 ll:List Lp
 sn:List Str
 sq:List Sm
inductive LE where
 | Km (x r:Str) | tell (x y:Str) | over (x:Str) | Ja (d:KI)
noncomputable def dd (ns:List Str) (d:KI):Option BA:=open Classical in if h:∃ d',d.Is ns d' then some h.choose else none
def yC {ns:List Str}{d:KI}{d':BA}(h:dd ns d=some d'):d.Is ns d':=by
 unfold dd at h
 split at h
 ·next e=>cases h;exact e.choose_spec
 ·cases h
def c0:vH:=⟨0,0,0,0,0⟩
def Sm.join (q:Sm):Sm:=⟨q.stood,q.joined+1,q.told,q.taken⟩
def Sm.tell (q:Sm):Sm:=⟨q.stood,q.joined,q.told+1,q.taken⟩
def Sm.take (q:Sm):Sm:=⟨q.stood,q.joined,q.told,q.taken+1⟩
def Sm.by (n m:Nat):Sm->Sm:=if n < m then Sm.join else if m < n then Sm.take else id
def NY (s:Ls) (d:BA):Nat->List Sm
 | 0=>s.sq
 | i+1=>match s.ln[i]?,s.ll[i]? with
  | some x,some l=>(NY s d i).modify (s.sn.idxOf x) (Sm.by l.cs.length (l.led s.row d).cs.length)
  | _,_=>NY s d i
def Uy (s:Ls) (x r:Str):Option Ls:=if isNm x=true/\x∉s.sn/\sI r=true then some ⟨s.row,s.ln++[x],s.ll++[⟨r,0,L0 s.row⟩],s.sn++[x],s.sq++[⟨s.row.length,0,0,0⟩]⟩ else none
def Wb (s:Ls) (x y:Str):Option Ls:=match s.ll[s.ln.idxOf x]? with
 | some l=>if y∈l.cs then some ⟨s.row,s.ln,s.ll.set (s.ln.idxOf x) ⟨l.r,s.row.idxOf y+1,wo l.cs y⟩,s.sn,s.sq.modify (s.sn.idxOf x) Sm.tell⟩ else none
 | none=>none
def UB (s:Ls) (x:Str):Option Ls:=match s.ll[s.ln.idxOf x]? with
 | some l=>if l.cs=[] then some ⟨s.row,s.ln.eraseIdx (s.ln.idxOf x),s.ll.eraseIdx (s.ln.idxOf x),s.sn,s.sq⟩ else none
 | none=>none
noncomputable def So (s:Ls) (d:KI):Option Ls:=match dd s.row d with
 | some d'=>some ⟨d'.done s.row,s.ln,s.ll.map (Lp.led s.row d'),s.sn,NY s d' s.ln.length⟩
 | none=>none
noncomputable def Z0 (s:Ls):LE->Option Ls
 | .Km x r=>Uy s x r
 | .tell x y=>Wb s x y
 | .over x=>UB s x
 | .Ja d=>So s d
structure Ls.Ok (s:Ls):Prop where
 row:NG 40 s.row
 l1:s.ln.length=s.ll.length
 l2:s.sn.length=s.sq.length
 n1:s.ln.Nodup
 n2:s.sn.Nodup
 sub:∀ x∈s.ln,x∈s.sn
 good:∀ l∈s.ll,l.Good s.row
 nm:∀ x∈s.sn,Nm x
theorem VT (s:Ls) (d:BA):∀ i,(NY s d i).length=s.sq.length
 | 0=>rfl
 | i+1=>by
  unfold NY
  split
  ·rw [List.length_modify,VT]
  ·exact VT s d i
def Mf {l:List Str}{x:Str}(h:x∈l):l[l.idxOf x]?=some x:=by
 rw [Ad (List.idxOf_lt_length_iff.mpr h),IG]
theorem Ls.Ok.step {s s':Ls}{e:LE}(h:s.Ok) (g:Z0 s e=some s'):s'.Ok:=by
 cases e with
 | Km x r=>
  have g:Uy s x r=some s':=g
  unfold Uy at g
  split at g
  ·next c=>
   cases g
   obtain ⟨c1,c2,c3⟩:=c
   refine ⟨h.row,by simp [h.l1],by simp [h.l2],?_,?_,?_,?_,?_⟩
   ·exact Hm h.n1 fun z=>c2 (h.sub x z)
   ·exact Hm h.n2 c2
   ·intro y hy
    rcases List.mem_append.mp hy with z | z
    ·exact List.mem_append.mpr (.inl (h.sub y z))
    ·exact List.mem_append.mpr (.inr z)
   ·intro l hl
    rcases List.mem_append.mp hl with z | z
    ·exact h.good l z
    ·rw [List.mem_singleton.mp z]
     exact ⟨of_decide_eq_true c3,gP _,Int.natCast_nonneg _,WX h.row.nd,fun y hy=>Pk.mp hy⟩
   ·intro y hy
    rcases List.mem_append.mp hy with z | z
    ·exact h.nm y z
    ·rw [List.mem_singleton.mp z];exact uz c1
  ·cases g
 | tell x y=>
  have g:Wb s x y=some s':=g
  unfold Wb at g
  split at g
  ·next l e=>
   split at g
   ·next c=>
    cases g
    have gl:=h.good l (CC e)
    refine ⟨h.row,by simp [h.l1],by simp [h.l2],h.n1,h.n2,h.sub,?_,h.nm⟩
    intro l' Du
    rcases List.mem_or_eq_of_mem_set Du with z | z
    ·exact h.good l' z
    ·rw [z];exact Lw.C5.step gl (gl.sub y c)
   ·cases g
  ·cases g
 | over x=>
  have g:UB s x=some s':=g
  unfold UB at g
  split at g
  ·next l e=>
   split at g
   ·next c=>
    cases g
    have hi:=(List.getElem?_eq_some_iff.mp e).1
    refine ⟨h.row,?_,h.l2,List.Nodup.sublist (gW _ _) h.n1,h.n2,fun y hy=>h.sub y ((gW _ _).subset hy),fun l' Du=>h.good l' ((gW _ _).subset Du),h.nm⟩
    have h1:=h.l1
    show (s.ln.eraseIdx _).length=(s.ll.eraseIdx _).length
    rw [zX (by omega),zX hi,h1]
   ·cases g
  ·cases g
 | Ja d=>
  have g:So s d=some s':=g
  unfold So at g
  split at g
  ·next d' e=>
   cases g
   have ok:=(yC e).2
   refine ⟨h.row.done ok,by simp [h.l1],by rw [VT];exact h.l2,h.n1,h.n2,h.sub,?_,h.nm⟩
   intro l hl
   obtain ⟨l0,h0,rfl⟩:=List.mem_map.mp hl
   exact Lw.C5.led (h.good l0 h0) ok h.row.nd
  ·cases g
def R2 (P:OV->Sm->Prop) (us:List OV) (qs:List Sm):Prop:=us.length=qs.length/\∀ (n:Nat) u q,us[n]?=some u->qs[n]?=some q->P u q
def R2.get {P:OV->Sm->Prop}{us:List OV}{qs:List Sm}{n:Nat}{q:Sm}(h:R2 P us qs) (hq:qs[n]?=some q):∃ u,us[n]?=some u/\P u q:=by
 have h1:=(List.getElem?_eq_some_iff.mp hq).1
 have hl:=h.1
 exact ⟨us[n],Ad (by omega),h.2 n _ q (Ad (by omega)) hq⟩
def BE (ns:List Str):List Key:=ns.map Sum.inr
def k3:List Key:=[.inr "row", .inr "live", .inr "sums"]
def Mh (ns:List Str) (x:Str):FR (BE ns) (.inr x)=decide (x∈ns):=by
 unfold FR BE
 rw [List.any_map]
 by_cases h:x∈ns
 ·rw [decide_eq_true h]
  exact List.any_eq_true.mpr ⟨x,h,decide_eq_true rfl⟩
 ·rw [decide_eq_false h]
  rw [Bool.eq_false_iff]
  intro z
  obtain ⟨y,hy,e⟩:=List.any_eq_true.mp z
  have e2:(Sum.inr y:Key)=Sum.inr x:=of_decide_eq_true e
  injection e2 with e2
  exact h (e2▸hy)
theorem cR:∀ {ns:List Str}{x:Str},x∉ns->Eg (BE ns) (.inr x)=none
 | [],_,_=>rfl
 | y :: ns,x,h=>by
  unfold BE
  rw [BL,Eg,if_neg (fun e=>h (by injection e with e;subst e;exact HH))]
  have h1:Eg (ns.map (Sum.inr:Str->Key)) (.inr x)=none:=cR (ns:=ns) fun z=>h (Fx _ z)
  rw [h1];rfl
def RZ {ns:List Str}(h:ns.Nodup):(BE ns).Nodup:=zM _ (fun a b (h:a≠b)=>fun z=>h (by injection z)) h
def bo {ns:List Str}{us:List OV}{x:Str}{u:OV}(h:x∉ns):KC (BE ns) (.inr x)=BE (ns++[x])/\IP (BE ns) us (.inr x) u=us++[u]:=by
 unfold IP KC
 rw [cR h,Mh,decide_eq_false h]
 exact ⟨by unfold BE;rw [DE];rfl,rfl⟩
def Mc {ns:List Str}{x:Str}(h:x∉ns):KC (BE ns) (.inr x)=BE (ns++[x]):=(bo (us:=[]) (u:=.fz .A5) h).1
def Q6 {ns:List Str}{us:List OV}{x:Str}{u:OV}(h:x∉ns):IP (BE ns) us (.inr x) u=us++[u]:=(bo h).2
theorem MW {y:PV}:∀ {ns:List Str}{xs:List PV}{x:Str},x∈ns->xs[ns.idxOf x]?=some y->HC (BE ns) xs (.inr x)=some y
 | [],_,_,h,_=>absurd h Ai
 | z :: ns,xs,x,h,e=>by
  rw [List.idxOf_cons] at e
  unfold BE
  by_cases c:z=x
  ·subst c
   rw [show (z == z)=true from beq_self_eq_true z] at e
   cases xs with
   | nil=>cases e
   | cons w ws=>rw [BL,HC,if_pos rfl];exact e
  ·rw [show (z == x)=false from beq_eq_false_iff_ne.mpr c] at e
   cases xs with
   | nil=>cases e
   | cons w ws=>
    rw [BL,HC,if_neg (fun q=>c (by injection q))]
    exact MW ((List.mem_cons.mp h).resolve_left fun q=>c q.symm) e
noncomputable def runs (s:Ls):List LE->Option Ls
 | []=>some s
 | e :: r=>match Z0 s e with
  | some s'=>runs s' r
  | none=>none
def Vp (ns:List Str):Ls:=⟨ns,[],[],[],[]⟩
def kL (ns:List Str):(BE ns).map Hr=ns.map PV.str:=by
 unfold BE
 rw [DF];rfl
section
variable [Xw]
variable {ss:List Slot}{te:TE}{nx:List Slot->Prop}{i:Nat}{t:OV}
end
abbrev wk (ks:List Kd):List Str:=ks.map Kd.w
structure KG (ks:List Kd):Prop where
 l1:1<=ks.length
 l8:ks.length<=8
 nd:(wk ks).Nodup
 nm:∀ k∈ks,Nm k.w
 ps:∀ k∈ks,k.ps.length<=6/\∀ p∈k.ps,p.1∈WH/\p.2∈wk ks
def DJ:List Str:=[("none" : Str), "ahead", "all"]
def EV (k:Kd):PV:=.tup [.str k.w,.lst (k.ps.map B7),.bl k.g]
def G7 (ks:List Kd) (x:Str):List (Str×Str):=match ks[(wk ks).idxOf x]? with
 | some k=>k.ps
 | none=>[]
def bP (ks:List Kd) (x:Str):Bool:=match ks[(wk ks).idxOf x]? with
 | some k=>k.g
 | none=>false
def Kh:List Str:=["next", "last"]
def CG (ks:List Kd) (r x:Str):List (Str×Str):=if r = "none" then [] else (G7 ks x).filter fun p=>decide (r = "all") || decide (p.1∈Kh)
def AM (ks:List Kd) (r x:Str):List Str:=(CG ks r x).map (·.2)
def Q9 (r:Str):List Str:=if r = "none" then [] else if r = "ahead" then Kh else WH
theorem KG.at {ks:List Kd}(h:KG ks){x:Str}(hx:x∈wk ks):∃ k,ks[(wk ks).idxOf x]?=some k/\k.w=x/\G7 ks x=k.ps/\bP ks x=k.g/\k∈ks:=by
 have hi:=List.idxOf_lt_length_iff.mpr hx
 have Ft:(wk ks).idxOf x < ks.length:=by simpa using hi
 have e:=Ad Ft
 refine ⟨_,e,?_,?_,?_,HE Ft⟩
 ·have q:(wk ks)[(wk ks).idxOf x]'hi=x:=IG hi
  rw [Oc] at q;exact q
 ·unfold G7;rw [e]
 ·unfold bP;rw [e]
def KG.Mg {ks:List Kd}(h:KG ks) (x:Str):(G7 ks x).length<=6/\∀ p∈G7 ks x,p.1∈WH/\p.2∈wk ks:=by
 unfold G7
 split
 ·next k e=>exact h.ps k (CC e)
 ·exact ⟨CJ _,fun p hp=>absurd hp Ai⟩
def vP {ks:List Kd}{r x:Str}{p:Str×Str}(h:p∈CG ks r x):p∈G7 ks x:=by
 unfold CG at h
 split at h
 ·cases h
 ·exact (List.mem_filter.mp h).1
def cD {ks:List Kd}(h:KG ks) (r x:Str):(CG ks r x).length<=6:=by
 unfold CG
 split
 ·exact CJ _
 ·exact Dj (Rm _ _) (h.Mg x).1
def KG.X0 {ks:List Kd}(h:KG ks){r x y:Str}(hy:y∈AM ks r x):y∈wk ks:=by
 obtain ⟨p,hp,rfl⟩:=List.mem_map.mp hy
 exact ((h.Mg x).2 p (vP hp)).2
def gH {ks:List Kd}(h:KG ks) (r x:Str):(AM ks r x).length<=6:=by
 unfold AM;rw [AE];exact cD h r x
def hV {ks:List Kd}(h:KG ks){r:Str}(hr:r∈DJ) (x:Str):((G7 ks x).filter fun p=>decide (p.1∈Q9 r)).map (·.2)=AM ks r x:=by
 unfold AM CG Q9
 simp only [DJ,EW,Ai,or_false] at hr
 rcases hr with rfl | rfl | rfl
 ·rw [if_pos rfl]
  simp
 ·rw [if_neg (by decide),if_pos rfl,if_neg (by decide)]
  congr 1
 ·rw [if_neg (by decide),if_neg (by decide),if_neg (by decide)]
  congr 1
  refine List.filter_congr fun p hp=>?_
  rw [decide_eq_true ((h.Mg x).2 p hp).1]
  simp
def TK (p q:Str×Str) (h:B7 p=B7 q):p=q:=by
 unfold B7 at h
 injection h with h
 injection h with h1 h2
 injection h1 with h1
 injection h2 with h2 _
 injection h2 with h2
 exact Prod.ext h1 h2
def lC (x y:Kd) (h:EV x=EV y):x=y:=by
 obtain ⟨w,ps,g⟩:=x
 obtain ⟨w',iS,g'⟩:=y
 unfold EV at h
 injection h with h
 injection h with h1 h2
 injection h1 with h1
 injection h2 with h2 h3
 injection h2 with h2
 injection h3 with h3 _
 injection h3 with h3
 have h2:=Vk h2
 subst h1 h2 h3;rfl
inductive CP (f:Str->List Str) (S:List Str):Str->Prop
 | here {x:Str}:x∈S->CP f S x
 | step {x y:Str}:CP f S x->y∈f x->CP f S y
def Top (f:Str->List Str) (L:List Str):Prop:=∀ (i:Nat) (x:Str),L[i]?=some x->∀ y∈f x,y∈L.take i
def EI (f:Str->List Str) (W:List Str):Prop:=∀ (i:Nat) (x y:Str),W[i]?=some x->W[i+1]?=some y->y∈f x
def Top.nil {f:Str->List Str}:Top f []:=fun i x h=>by simp at h
def Top.snoc {f:Str->List Str}{L:List Str}{x:Str}(h:Top f L) (hx:∀ y∈f x,y∈L):Top f (L++[x]):=fun i z hz y hy=>by
 by_cases c:i < L.length
 ·rw [CZ c] at hz
  rw [zf (by omega)]
  exact h i z hz y hy
 ·rw [Dh (by omega)] at hz
  have hi:i=L.length:=by
   have:=(List.getElem?_eq_some_iff.mp hz).1
   simp at this;omega
  subst hi
  simp at hz
  subst hz
  rw [List.take_left']
  ·exact hx y hy
  ·rfl
def EI.snoc {f:Str->List Str}{V:List Str}{x y:Str}(h:EI f (V++[x])) (hy:y∈f x):EI f (V++[x]++[y]):=fun i a b ha hb=>by
 by_cases c:i+1 < (V++[x]).length
 ·rw [CZ c] at hb
  rw [CZ (by omega)] at ha
  exact h i a b ha hb
 ·have hi:i+1=(V++[x]).length:=by
   have:=(List.getElem?_eq_some_iff.mp hb).1
   simp at this c ⊢;omega
  rw [hi] at hb
  have hb:(V++[x]++[y])[(V++[x]).length]?=some b:=hb
  rw [Dh (Ae _)] at hb
  simp at hb
  subst hb
  have Ft:i=V.length:=by simp at hi;exact hi
  subst Ft
  rw [CH,Dh (Ae _)] at ha
  simp at ha
  subst ha;exact hy
def EI.one {f:Str->List Str}(x:Str):EI f [x]:=fun i a b _ hb=>by simp at hb
structure Jf (f:Str->List Str) (ws W:List Str) (i:Nat):Prop where
 nd:W.Nodup
 ch:EI f W
 sub:∀ x∈W,x∈ws
 at':∃ y z,W[i]?=some y/\W[W.length - 1]?=some z/\y∈f z
def b8 (W:List Str) (i:Nat):PV:=.tup [.lst ((W.take (i+1)).map .str),.lst ((W.drop i).map .str)]
def eB {f:Str->List Str}{L S:List Str}(h:Top f L) (hS:∀ x∈S,x∈L){x:Str}(r:CP f S x):x∈L:=by
 induction r with
 | here m=>exact hS _ m
 | step _ hy ih=>
  obtain ⟨i,hi,e⟩:=Fu ih
  exact Rp (h i _ (by rw [Ad hi,e]) _ hy)
def k8 {f:Str->List Str}{L:List Str}(h:Top f L) (n:Nat):Top f (L.take n):=fun i x hx y hy=>by
 rw [Xi] at hx
 split at hx
 ·next c=>
  rw [List.take_take,Og (by omega)]
  exact h i x hx y hy
 ·cases hx
def YU {f:Str->List Str}{L:List Str}(h:Top f L) (nd:L.Nodup){x:Str}(hx:x∈L):¬ CP f (f x) x:=fun r=>by
 obtain ⟨i,hi,e⟩:=Fu hx
 have e2:L[i]?=some x:=by rw [Ad hi,e]
 have m:=eB (k8 h i) (S:=f x) (fun y hy=>h i x e2 y hy) r
 obtain ⟨j,hj,ej⟩:=Fu m
 rw [C7] at hj
 rw [JK] at ej
 have q:=List.pairwise_iff_getElem.mp nd j i (by omega) hi (by omega)
 exact q (ej.trans e.symm)
def LG (f:Str->List Str) (S:List Str):Prop:=∃ x,CP f S x/\CP f (f x) x
def Zj {f:Str->List Str}{L S:List Str}(h:Top f L) (nd:L.Nodup) (hS:∀ x∈S,x∈L):¬ LG f S:=fun ⟨x,r1,r2⟩=>YU h nd (eB h hS r1) r2
def aC {f:Str->List Str}{W S:List Str}(h:EI f W){i:Nat}(hi:∃ x,W[i]?=some x/\CP f S x):∀ j,i<=j->∀ y,W[j]?=some y->CP f S y:=by
 intro j
 induction j with
 | zero=>
  intro hj y hy
  obtain ⟨x,hx,r⟩:=hi
  have:i=0:=by omega
  subst this
  rw [hx] at hy;cases hy;exact r
 | succ j ih=>
  intro hj y hy
  by_cases c:i=j+1
  ·obtain ⟨x,hx,r⟩:=hi
   subst c
   rw [hx] at hy;cases hy;exact r
  ·have AN:=(List.getElem?_eq_some_iff.mp hy).1
   obtain ⟨x,hx⟩:∃ x,W[j]?=some x:=⟨_,Ad (by omega)⟩
   exact .step (ih (by omega) x hx) (h j x y hx hy)
def jF {f:Str->List Str}{ws W S:List Str}{i:Nat}(h:Jf f ws W i) (h0:∃ x,W[0]?=some x/\x∈S):LG f S:=by
 obtain ⟨x0,e0,m0⟩:=h0
 obtain ⟨y,z,hy,hz,hf⟩:=h.at'
 have hi:=(List.getElem?_eq_some_iff.mp hy).1
 refine ⟨y,aC h.ch ⟨x0,e0,.here m0⟩ i (CJ _) y hy,?_⟩
 by_cases c:i=W.length - 1
 ·subst c
  rw [hy] at hz;cases hz
  exact .here hf
 ·obtain ⟨a,ha⟩:∃ a,W[i+1]?=some a:=⟨_,Ad (by omega)⟩
  exact .step (aC h.ch ⟨a,ha,.here (h.ch i y a hy ha)⟩ _ (by omega) z hz) hf
def G8:List Str:=["puts_by_word", "goes_by_word"]
def BC (C:Addr) (ks:List Kd):PV:=.obj C G8 [.Ap (BE (wk ks)) (ks.map fun k=>.tup (k.ps.map B7)),.Ap (BE (wk ks)) (ks.map fun k=>.bl k.g)]
def IC (C dx a b1 b2:Addr) (ks:List Kd):OV:=.nd (.obj C dx G8) a [.nd (.Ap (BE (wk ks))) b1 (ks.map fun k=>.fz (.tup (k.ps.map B7))),.nd (.Ap (BE (wk ks))) b2 (ks.map fun k=>.fz (.bl k.g))]
theorem NF {α:Type} (g:α->PV):∀ (l:List α),OV.BD (l.map fun x=>OV.fz (g x))=l.map g
 | []=>by rw [II,OV.BD];rfl
 | x :: r=>by rw [BL,OV.BD,OV.pv,NF g r];rfl
def rE (C dx a b1 b2:Addr) (ks:List Kd):(IC C dx a b1 b2 ks).pv=BC C ks:=by
 unfold IC BC
 rw [OV.pv,OV.BD,OV.pv,OV.BD,OV.pv,OV.BD,NF,NF]
theorem LY {α:Type} (g:α->PV) (h:∀ x,Cr (g x)=true):∀ (l:List α),FE (l.map g)=true
 | []=>by rw [II,FE]
 | x :: r=>by rw [BL,FE,h x,LY g h r];rfl
theorem TC {α:Type} (g:α->OV) (h:∀ x,(g x).FZ=true):∀ (l:List α),OV.Ht (l.map g)=true
 | []=>by rw [II,OV.Ht]
 | x :: r=>by rw [BL,OV.Ht,h x,TC g h r];rfl
def yR (p:Str×Str):Cr (B7 p)=true:=by unfold B7;simp [Cr,FE]
def la (C dx a b1 b2:Addr) (ks:List Kd):(IC C dx a b1 b2 ks).FZ=true:=by
 unfold IC
 simp only [OV.FZ,OV.Ht]
 rw [TC _ fun k=>?_,TC _ fun k=>?_]
 ·rfl
 ·simp [OV.FZ,Cr]
 ·rw [OV.FZ,Cr];exact LY _ yR _
def NA:Pre:=fun l R=>∃ (ws:List Str) (d:PV) (x:Str),l=[.is d,.is (.str x)]/\(d=.lst (ws.map .str)∨∃ xs,d=.Ap (BE ws) xs)/\ws.length<=1000/\x∈ws/\R=.is (fun p=>p=.A5)
def TU:Pre:=fun l R=>∃ (ws:List Str) (ps:List (Str×Str)),l=[.is (.lst (ws.map .str)),.is (.lst (ps.map B7))]/\ws.length<=1000/\(∀ p∈ps,p.1∈WH/\p.2∈ws)/\R=.is (fun p=>p=.A5)
def Um:Pre:=fun l R=>∃ ks:List Kd,l=[.is (.lst (ks.map EV))]/\KG ks/\R=.is (fun p=>p=.A5)
def Tc (C:Addr):Pre:=fun l R=>∃ (dx a:Addr) (ks:List Kd),l=[.ow true (.nd (.obj C dx []) a []),.is (.lst (ks.map EV))]/\KG ks/\R=.mt (fun p t'=>p=.A5/\∃ b1 b2,t'=IC C dx a b1 b2 ks)
def LI (C:Addr):Pre:=fun l R=>∃ ks:List Kd,l=[.is (BC C ks)]/\KG ks/\R=.new (fun xs=>xs=(wk ks).map .str)
def XR (C:Addr):Pre:=fun l R=>∃ (ks:List Kd) (x:Str),l=[.is (BC C ks),.is (.str x)]/\KG ks/\x∈wk ks/\R=.new (fun xs=>xs=(G7 ks x).map B7)
def VL:Pre:=fun l R=>∃ r:Str,l=[.is (.str r)]/\r∈DJ/\R=.is (fun p=>p=.A5)
def VQ (C:Addr):Pre:=fun l R=>∃ (ks:List Kd) (tp:Bool) (cs:List Str),l=[.is (BC C ks),.sq tp (cs.map .str)]/\KG ks/\cs.length<=12/\(∀ c∈cs,c∈wk ks)/\R=.is (fun p=>p=.A5)
def LK (C:Addr):Pre:=fun l R=>∃ (ks:List Kd) (x r:Str),l=[.is (BC C ks),.is (.str x),.is (.str r)]/\KG ks/\x∈wk ks/\r∈DJ/\R=.new (fun xs=>xs=(CG ks r x).map B7)
def KY (a:Addr) (L:List Str):OV:=.nd (.Ap (BE L)) a (L.map fun _=>.fz (.bl true))
def TQ:Pre:=fun l R=>l=[.AK]/\R=.is fun p=>∃ ks:List Kd,p=.lst (ks.map Kd.P)/\KG ks
def VU (C:Addr):Pre:=fun l R=>∃ ks:List Kd,l=[.is (.lst (ks.map Kd.P))]/\KG ks/\R=.is (fun p=>p=BC C ks)
def SK:Pre:=fun l R=>∃ ks:List Kd,l=[.AK,.is (.lst (ks.map Kd.P))]/\KG ks/\R=.new (fun xs=>∃ cs:List Str,xs=cs.map .str/\cs.length<=12/\∀ c∈cs,c∈wk ks)
def UN:Pre:=fun l R=>l=[.AK]/\R=.is (fun p=>∃ r∈DJ,p=.str r)
def Lf:Pre:=fun l R=>∃ (ks:List Kd) (x r:Str),l=[.is (.lst (ks.map Kd.P)),.is (.str x),.is (.str r)]/\KG ks/\x∈wk ks/\r∈DJ/\R=.new (fun xs=>xs=(AM ks r x).map .str)
def WK:Pre:=fun l R=>∃ (ks:List Kd) (S:List Str) (r:Str),l=[.is (.lst (ks.map Kd.P)),.sq false (S.map .str),.is (.str r)]/\KG ks/\r∈DJ/\S.length<=12/\(∀ x∈S,x∈wk ks)/\R=.new (fun xs=>∃ L:List Str,xs=L.map .str/\L.Nodup/\L.length<=8/\∀ x,x∈L↔CP (AM ks r) S x)
def RN:Pre:=fun l R=>∃ (ks:List Kd) (cs:List Str) (r:Str),l=[.is (.lst (ks.map Kd.P)),.sq false (cs.map .str),.is (.str r)]/\KG ks/\r∈DJ/\cs.length<=12/\(∀ x∈cs,x∈wk ks)/\R=.is (fun p=>∃ b:Bool,p=.bl b/\(b=true↔LG (AM ks r) cs))
def KG.kh {ks:List Kd}(h:KG ks){x:Str}(hx:x∈wk ks):∃ k rest,ks.filter (fun k=>decide (k.w=x))=k :: rest/\k.ps=G7 ks x:=by
 obtain ⟨k,ek,ew,ep,_,km⟩:=h.at hx
 have:k∈ks.filter (fun k=>decide (k.w=x)):=List.mem_filter.mpr ⟨km,decide_eq_true ew⟩
 cases e:ks.filter (fun k=>decide (k.w=x)) with
 | nil=>rw [e] at this;cases this
 | cons k' rest=>
  refine ⟨k',rest,rfl,?_⟩
  have hm:k'∈ks.filter (fun k=>decide (k.w=x)):=by rw [e];simp
  obtain ⟨MY,Vy⟩:=List.mem_filter.mp hm
  have Vy:k'.w=x:=of_decide_eq_true Vy
  obtain ⟨i,hi,ei⟩:=Fu MY
  have wm:(wk ks).idxOf x=i:=by
   have q:(wk ks)[i]?=some x:=by rw [Ag,Ad hi,ei];simp [Vy]
   exact Om h.nd q
  rw [ep]
  rw [wm,Ad hi,ei] at ek
  cases ek;rfl
def UR {ks:List Kd}(h:KG ks){r:Str}{S:List Str}(hS:∀ x∈S,x∈wk ks){x:Str}(q:CP (AM ks r) S x):x∈wk ks:=by
 induction q with
 | here m=>exact hS _ m
 | step _ hy _=>exact h.X0 hy
def iH (n:Nat):Eh (n+1) (-1)=some n:=by
 unfold Eh
 rw [if_neg (by decide),if_pos (by omega)]
 congr 1
 omega
def Zq (V:List Str) (x:Str):L2.B5 ((V++[x]).map PV.str) (-1)=some (.str x):=by
 unfold L2.B5
 rw [AE,BK,IH,iH]
 simp
def mi {t:Int}(h0:0<=t) (h:t < 3):∃ r∈DJ,L2.B5 [PV.str "none", .str "ahead", .str "all"] t=some (.str r):=by
 rcases (show t=0∨t=1∨t=2 by omega) with rfl | rfl | rfl
 ·exact ⟨"none", by decide,rfl⟩
 ·exact ⟨"ahead", by decide,rfl⟩
 ·exact ⟨"all", by decide,rfl⟩
def jL {t:Int}(h0:0<=t) (h:t < 4):∃ x∈WH,L2.B5 [PV.str "next", .str "last", .str "back", .str "first"] t=some (.str x):=by
 rcases (show t=0∨t=1∨t=2∨t=3 by omega) with rfl | rfl | rfl | rfl
 ·exact ⟨"next", by decide,rfl⟩
 ·exact ⟨"last", by decide,rfl⟩
 ·exact ⟨"back", by decide,rfl⟩
 ·exact ⟨"first", by decide,rfl⟩
def ra {t:Int}(h0:0<=t) (h:t < 8):∃ z:Nat,L2.B5 [PV.int 0,.int 1,.int 1,.int 2,.int 3,.int 4,.int 6,.int 12] t=some (.int (z:Int))/\z<=12:=by
 rcases (show t=0∨t=1∨t=2∨t=3∨t=4∨t=5∨t=6∨t=7 by omega) with rfl | rfl | rfl | rfl | rfl | rfl | rfl | rfl
 ·exact ⟨0,rfl,by decide⟩
 ·exact ⟨1,rfl,by decide⟩
 ·exact ⟨1,rfl,by decide⟩
 ·exact ⟨2,rfl,by decide⟩
 ·exact ⟨3,rfl,by decide⟩
 ·exact ⟨4,rfl,by decide⟩
 ·exact ⟨6,rfl,by decide⟩
 ·exact ⟨12,rfl,by decide⟩
theorem T4 {P:Str->Prop}:∀ {ys:List PV},(∀ y∈ys,∃ c,P c/\y=.str c)->∃ cs:List Str,ys=cs.map .str/\∀ c∈cs,P c
 | [],_=>⟨[],rfl,fun c h=>absurd h Ai⟩
 | y :: r,h=>by
  obtain ⟨c,hc,rfl⟩:=h y (by simp)
  obtain ⟨cs,e,h2⟩:=T4 (ys:=r) fun z hz=>h z (by simp [hz])
  exact ⟨c :: cs,by rw [e];rfl,fun d hd=>by
   rcases List.mem_cons.mp hd with rfl | hd
   ·exact hc
   ·exact h2 d hd⟩
theorem Sq:∀ {a b:List Str},a.map PV.str=b.map PV.str->a=b
 | [],[],_=>rfl
 | [],_ :: _,h=>by simp at h
 | _ :: _,[],h=>by simp at h
 | x :: a,y :: b,h=>by
  rw [BL,BL] at h
  injection h with h1 h2
  injection h1 with h1
  rw [h1,Sq h2]
def DZ:List Kd->List Addr->List OV
 | k :: ks,b :: bs=>.tp [.fz (.str k.w),.nd .lst b ((k.ps.map B7).map .fz),.fz (.bl k.g)] :: DZ ks bs
 | _,_=>[]
theorem ZS:∀ {ks:List Kd}{us:List OV},us.length=(ks.map Kd.P).length->(∀ (j:Nat) x u,(ks.map Kd.P)[j]?=some x->us[j]?=some u->∃ (k:Kd) (b:Addr),x=k.P/\u=.tp [.fz (.str k.w),.nd .lst b ((k.ps.map B7).map .fz),.fz (.bl k.g)])->∃ bs:List Addr,bs.length=ks.length/\us=DZ ks bs
 | [],[],_,_=>⟨[],rfl,rfl⟩
 | [],_ :: _,h,_=>by simp at h
 | _ :: _,[],h,_=>by simp at h
 | k :: ks,u :: us,h,hG=>by
  obtain ⟨k',b,e1,e2⟩:=hG 0 _ _ rfl rfl
  have e1:=Kd.inj _ _ e1
  subst e1
  obtain ⟨bs,lb,e⟩:=ZS (ks:=ks) (us:=us) (by simpa using h) fun j x u hx hu=>hG (j+1) x u hx hu
  exact ⟨b :: bs,by simp [lb],by rw [e,e2];rfl⟩
theorem fA:∀ (ks:List Kd) (bs:List Addr),bs.length=ks.length->(DZ ks bs).length=ks.length
 | [],_,_=>by simp [DZ]
 | _ :: _,[],h=>by simp at h
 | k :: ks,b :: bs,h=>by rw [DZ,BZ,BZ,fA ks bs (by simpa using h)]
theorem df:∀ (ks:List Kd) (bs:List Addr),bs.length=ks.length->∀ {j:Nat}{u:OV},(DZ ks bs)[j]?=some u->∃ (k:Kd) (b:Addr),k∈ks/\u=.tp [.fz (.str k.w),.nd .lst b ((k.ps.map B7).map .fz),.fz (.bl k.g)]
 | [],_,_,j,u,hu=>by simp [DZ] at hu
 | _ :: _,[],h,_,_,_=>by simp at h
 | k :: ks,b :: bs,h,0,u,hu=>by
  rw [DZ] at hu
  exact ⟨k,b,by simp,(BG hu).symm⟩
 | k :: ks,b :: bs,h,j+1,u,hu=>by
  rw [DZ] at hu
  obtain ⟨k',b',km,e⟩:=df ks bs (by simpa using h) (j:=j) (u:=u) (by simpa using hu)
  exact ⟨k',b',by simp [km],e⟩
theorem du:∀ (ks:List Kd) (bs:List Addr),bs.length=ks.length->OV.BD (DZ ks bs)=ks.map EV
 | [],_,_=>by rw [DZ,OV.BD];rfl;exact fun _ _ _ _ h=>by cases h
 | _ :: _,[],h=>by simp at h
 | k :: ks,b :: bs,h=>by
  rw [DZ,OV.BD,du ks bs (by simpa using h),BL]
  congr 1
  rw [OV.pv,OV.BD,OV.pv,OV.BD,OV.pv,OV.BD,OV.pv,OV.BD]
  unfold EV
  rw [DF,show (OV.fz ∘ B7)=fun p=>OV.fz (B7 p) from rfl,NF]
def x9 (ks:List Kd) (bs:List Addr) (l:Addr) (h:bs.length=ks.length):(OV.nd .lst l (DZ ks bs)).pv=.lst (ks.map EV):=by rw [OV.pv,du ks bs h]
section
variable [Xw]
variable {ss:List Slot}{K:ZAY}{ta tb tc te ti:TE}{nx:List Slot->Prop}{R:Ak}{xs ps:List PV}{i j:Nat}{t:OV}{lt:Bool}{a b:Addr}{us:List OV}{nk:NK}
end
def Hu:List Int->Int
 | []=>0
 | [a]=>a
 | a :: b :: r=>if a<=Hu (b :: r) then Hu (b :: r) else a
theorem eU:∀ (ns:List Int),ns≠[]->Hu ns∈ns/\∀ y∈ns,y<=Hu ns
 | [],h=>absurd rfl h
 | [a],_=>⟨by simp [Hu],fun y hy=>by rw [List.mem_singleton.mp hy];exact gP _⟩
 | a :: b :: r,_=>by
  obtain ⟨h1,h2⟩:=eU (b :: r) (by simp)
  rw [Hu]
  by_cases c:a<=Hu (b :: r)
  ·rw [if_pos c]
   refine ⟨Fx _ h1,fun y hy=>?_⟩
   rcases List.mem_cons.mp hy with rfl | hy
   ·exact c
   ·exact h2 y hy
  ·rw [if_neg c]
   refine ⟨by simp,fun y hy=>?_⟩
   rcases List.mem_cons.mp hy with rfl | hy
   ·exact gP _
   ·have:=h2 y hy;omega
def uH {ns:List Int}{m:Int}(hm:m∈ns) (h:∀ y∈ns,y<=m):m=Hu ns:=by
 obtain ⟨h1,h2⟩:=eU ns (fun z=>by rw [z] at hm;cases hm)
 have:=h2 m hm
 have:=h _ h1
 omega
def J4 (ks:List Kd) (r x:Str) (g:Str->List Int):List Int:=(List.range ks.length).map fun j=>((AM ks r x).map fun y=>(g y).getD j 0).sum+(if (wk ks).idxOf x=j then 1 else 0)
def J5 (f:Str->Int) (p:Str×Str):Int:=if p.1∈Kh then f p.2 else f p.2+1
def NB (ks:List Kd) (r x:Str) (f:Str->Int):Int:=Hu (1 :: (CG ks r x).map (J5 f))
def Ea (ks:List Kd) (r:Str):Nat->Str->List Int
 | 0=>fun _=>(List.range ks.length).map fun _=>0
 | n+1=>fun x=>J4 ks r x (Ea ks r n)
def G6 (ks:List Kd) (r:Str):Nat->Str->Int
 | 0=>fun _=>0
 | n+1=>fun x=>NB ks r x (G6 ks r n)
def uj (ks:List Kd) (r x:Str) (g:Str->List Int):(J4 ks r x g).length=ks.length:=by unfold J4;rw [AE,Rn]
def jY (ks:List Kd) (r:Str) (n:Nat) (x:Str):(Ea ks r n x).length=ks.length:=by
 cases n with
 | zero=>rw [Ea,AE,Rn]
 | succ n=>rw [Ea,uj]
def ZN {ks:List Kd}{r x:Str}{g g':Str->List Int}(h:∀ y∈AM ks r x,g y=g' y):J4 ks r x g=J4 ks r x g':=by
 unfold J4
 refine Xk fun j _=>?_
 rw [Xk fun y hy=>by rw [h y hy]]
def Zk {ks:List Kd}{r x:Str}{g g':Str->Int}(h:∀ y∈AM ks r x,g y=g' y):NB ks r x g=NB ks r x g':=by
 unfold NB
 rw [Xk fun p hp=>?_]
 unfold J5
 rw [h p.2 (List.mem_map.mpr ⟨p,hp,rfl⟩)]
def v5 {ks:List Kd}{r:Str}{T:List Str}(h:Top (AM ks r) T):∀ (i:Nat) (x:Str),T[i]?=some x->∀ n m,i < n->i < m->Ea ks r n x=Ea ks r m x/\G6 ks r n x=G6 ks r m x:=by
 intro i
 induction i using Nat.strongRecOn with
 | _ i ih=>
  intro x hx n m hn hm
  cases n with
  | zero=>omega
  | succ n=>cases m with
   | zero=>omega
   | succ m=>
    have key:∀ y∈AM ks r x,Ea ks r n y=Ea ks r m y/\G6 ks r n y=G6 ks r m y:=fun y hy=>by
     obtain ⟨j,hj,ej⟩:=Fu (h i x hx y hy)
     rw [C7] at hj
     rw [JK] at ej
     exact ih j (by omega) y (by rw [Ad (by omega),ej]) n m (by omega) (by omega)
    rw [Ea,Ea,G6,G6]
    exact ⟨ZN fun y hy=>(key y hy).1,Zk fun y hy=>(key y hy).2⟩
theorem aD:∃ n:Nat,n=9:=⟨9,rfl⟩
noncomputable def fuel:Nat:=Classical.choose aD
def jS:fuel=9:=zH aD
noncomputable def cnt (ks:List Kd) (r x:Str):List Int:=Ea ks r fuel x
noncomputable def Eo (ks:List Kd) (r x:Str):Int:=G6 ks r fuel x
def ph (ks:List Kd) (r x:Str):(cnt ks r x).length=ks.length:=jY ks r fuel x
def uR {ks:List Kd}{r:Str}{T:List Str}(h:Top (AM ks r) T) (h8:T.length<=8){x:Str}(hx:x∈T):cnt ks r x=J4 ks r x (cnt ks r)/\Eo ks r x=NB ks r x (Eo ks r):=by
 obtain ⟨i,hi,e⟩:=Fu hx
 have e2:T[i]?=some x:=by rw [Ad hi,e]
 have hf:=jS
 have key:∀ y∈AM ks r x,∀ m,m+1=fuel->Ea ks r m y=cnt ks r y/\G6 ks r m y=Eo ks r y:=fun y hy m hm=>by
  obtain ⟨j,hj,ej⟩:=Fu (h i x e2 y hy)
  rw [C7] at hj
  rw [JK] at ej
  exact v5 h j y (by rw [Ad (by omega),ej]) m fuel (by omega) (by omega)
 obtain ⟨m,hm⟩:∃ m,m+1=fuel:=⟨8,by omega⟩
 refine ⟨?_,?_⟩
 ·have q:cnt ks r x=Ea ks r (m+1) x:=by unfold cnt;rw [hm]
  rw [q,Ea]
  exact ZN fun y hy=>(key y hy m hm).1
 ·have q:Eo ks r x=G6 ks r (m+1) x:=by unfold Eo;rw [hm]
  rw [q,G6]
  exact Zk fun y hy=>(key y hy m hm).2
noncomputable def Il (ks:List Kd) (r x:Str):PV:=.tup [.str x,.tup ((cnt ks r x).map .int),.int (Eo ks r x)]
noncomputable def E5 (ks:List Kd) (r:Str) (a:Addr) (M:List Str):OV:=.nd (.Ap (BE M)) a (M.map fun y=>.fz (Il ks r y))
noncomputable def Rf (ks:List Kd) (r:Str) (M:List Str):PV:=.Ap (BE M) (M.map (Il ks r))
def Sw (ks:List Kd) (r:Str) (a:Addr) (M:List Str):(E5 ks r a M).pv=Rf ks r M:=by
 unfold E5 Rf
 rw [OV.pv,NF]
def eP (l:List Int):FE (l.map PV.int)=true:=LY _ (fun _=>by simp [Cr]) l
def Pb:Pre:=fun l R=>∃ (cs:List (List Int)) (n:Nat),l=[.is (.lst (cs.map fun c=>.tup (c.map .int))),.is (.int n)]/\n<=8/\cs.length<=100/\(∀ c∈cs,c.length=n)/\R=.new (fun xs=>xs=((List.range n).map fun j=>(cs.map fun c=>c.getD j 0).sum).map .int)
def Qs:Pre:=fun l R=>∃ (ks:List Kd) (r:Str) (M:List Str) (p:Str×Str),l=[.is (B7 p),.is (Rf ks r M)]/\p.2∈M/\R=.is (fun q=>q=.int (J5 (Eo ks r) p))
def Oo (f:Str->List Str) (M:List Str):Prop:=∀ y∈M,∀ z∈f y,z∈M
def Jt (C:Addr) (n:Nat):Pre:=fun l R=>∃ (ks:List Kd) (x r:Str) (T:List Str) (i:Nat) (M:List Str) (a:Addr),l=[.is (BC C ks),.is (.str x),.is (.str r),.ow true (E5 ks r a M)]/\KG ks/\r∈DJ/\Top (AM ks r) T/\T.Nodup/\(∀ y∈T,y∈wk ks)/\T[i]?=some x/\i < n/\
 M.Nodup/\(∀ y∈M,y∈T)/\Oo (AM ks r) M/\R=.mt (fun p t'=>p=.A5/\∃ M',t'=E5 ks r a M'/\M'.Nodup/\(∀ y∈M',y∈T)/\Oo (AM ks r) M'/\(∀ y∈M,y∈M')/\x∈M'/\∀ y∈M',y∈M∨CP (AM ks r) [x] y)
def fU {C:Addr}:∀ ss R,¬ Jt C 0 ss R:=by
 rintro ss R ⟨ks,x,r,T,i,M,a,_,_,_,_,_,_,_,h,_⟩
 omega
def TX (C:Addr):Pre:=fun l R=>∃ (ks:List Kd) (tp:Bool) (cs:List Str) (r:Str) (T:List Str),l=[.is (BC C ks),.sq tp (cs.map .str),.is (.str r)]/\KG ks/\r∈DJ/\Top (AM ks r) T/\T.Nodup/\(∀ y∈T,y∈wk ks)/\(∀ c∈cs,c∈T)/\R=.ow (fun t=>∃ a M,t=E5 ks r a M/\M.Nodup/\∀ x,x∈M↔CP (AM ks r) cs x)
noncomputable def Mp (ks:List Kd) (r:Str) (M:List Str):List PV:=((wk ks).filter fun w=>decide (w∈M)).map (Il ks r)
def Ue (C:Addr):Pre:=fun l R=>∃ (ks:List Kd) (tp:Bool) (cs:List Str) (r:Str) (T:List Str),l=[.is (BC C ks),.sq tp (cs.map .str),.is (.str r)]/\KG ks/\r∈DJ/\Top (AM ks r) T/\T.Nodup/\(∀ y∈T,y∈wk ks)/\(∀ c∈cs,c∈T)/\R=.new (fun xs=>∃ M,xs=Mp ks r M/\∀ x,x∈M↔CP (AM ks r) cs x)
def sum_set {l:List Nat}{g:Nat->Int}{j:Nat}{n:Nat}(hl:l=List.range n) (hj:j < n):(l.map g).set j (g j+1)=l.map fun k=>g k+(if j=k then 1 else 0):=by
 subst hl
 refine zR (by simp) fun k h1 h2=>?_
 simp only [HG,AE,Rn] at h1
 rw [List.getElem_set,Oc,List.getElem_range]
 by_cases c:j=k
 ·subst c;simp
 ·simp [c]
def CP.mono {f:Str->List Str}{S S':List Str}(h:∀ x∈S,CP f S' x){x:Str}(r:CP f S x):CP f S' x:=by
 induction r with
 | here m=>exact h _ m
 | step _ hy ih=>exact .step ih hy
theorem Zl:∀ {a b:List Int},a.map PV.int=b.map PV.int->a=b
 | [],[],_=>rfl
 | [],_ :: _,h=>by simp at h
 | _ :: _,[],h=>by simp at h
 | x :: a,y :: b,h=>by
  rw [BL,BL] at h
  injection h with h1 h2
  injection h1 with h1
  rw [h1,Zl h2]
noncomputable def ZA8 (ks:List Kd) (r:Str) (L:List Str):PV:=.Ap (BE L) (L.map fun y=>.tup [.tup ((cnt ks r y).map .int),.int (Eo ks r y)])
noncomputable def ZAL (ks:List Kd) (r:Str) (a:Addr) (L:List Str):OV:=.nd (.Ap (BE L)) a ((L.map fun y=>PV.tup [.tup ((cnt ks r y).map .int),.int (Eo ks r y)]).map .fz)
noncomputable def ZAX (ks:List Kd) (r x:Str) (i:Nat):List Int:=(List.range ks.length).map fun j=>(((AM ks r x).take i).map fun y=>(cnt ks r y).getD j 0).sum+(if (wk ks).idxOf x=j then 1 else 0)
noncomputable def ZAK (ks:List Kd) (r:Str) (ps:List (Str×Str)):List Int:=1 :: ((if r = "none" then [] else ps.filter fun p=>decide (r = "all") || decide (p.1∈Kh))).map (J5 (Eo ks r))
section
variable [Xw]
variable {ss:List Slot}{K:ZAY}{ta tb tc te ti:TE}{nx:List Slot->Prop}{R:Ak}{xs ps:List PV}{i j:Nat}{t:OV}{lt:Bool}{a b:Addr}{us:List OV}{nk:NK}
def Sg.gone {E:Ent0}{σ:L2.St} {F H F' H':Hp}(S:Sg E ss σ F H) (hi:ss[i]?=some (.ow lt t)) (f:Fin ⟨[],F,H,t.addrs⟩ F' H'):Sg E (ss.set i .any) σ F' H':=by
 obtain ⟨v0,e0,r0,Cg,q0⟩:=S.ok i _ hi
 have AN:i < ss.length:=(List.getElem?_eq_some_iff.mp hi).1
 have kp:∀ a o,a∉t.addrs->H a=some o->H' a=some o:=fun a o n e=>f.keep a o ⟨Ai,n⟩ e
 have B9:∀ a,H a≠none->F a=none->F' a=none:=fun a h1 h2=>by
  cases e:F' a with
  | none=>rfl
  | some o=>
   rcases f.fresh a o e with z | z
   ·rw [show F a=some o from z] at h2;cases h2
   ·exact absurd z h1
 have X1:∀ a,a∈E.A->a∉t.addrs:=fun a hA hm=>by
  rcases (q0 a hm).2 with z | ⟨_,z⟩
  ·exact S.a0 a hA z
  ·exact (S.b0 a z).2 hA
 have other:∀ (j:Nat) s,j≠i->ss[j]?=some s->∀ a,B2 s σ[j]? a->a∉t.addrs:=fun j s hj hs a ho hm=>S.Bg j i s _ a hj hs hi ho hm
 refine ⟨⟨f.fh,S.f0.trans f.f0,fun a o hA e=>?_,fun a o e=>?_,fun a hA=>?_,fun a hA=>?_,S.a0,fun a hB=>?_,fun a hB=>?_,S.b0⟩,by rw [HG];exact S.len,fun j s hj=>?_,fun j k s u b Lb hj hk ms mu=>?_⟩
 ·refine kp a o (fun hm=>?_) (S.keep a o hA e)
  rcases (q0 a hm).2 with z | ⟨_,z⟩
  ·rw [e] at z;cases z
  ·exact hA.2 z
 ·rcases f.fresh a o e with z | z
  ·exact S.fresh a o z
  ·exact .inr (S.CO z)
 ·exact B3.keep (S.FV a hA) fun o e=>kp a o (X1 a hA) e
 ·obtain ⟨_,_,e1,_⟩:=S.FV a hA
  exact B9 a (by rw [e1];simp) (S.Lo a hA)
 ·exact B9 a (S.bH a hB) (S.bF a hB)
 ·by_cases hm:a∈t.addrs
  ·exact f.bH a hm
  ·intro z
   cases e:H a with
   | none=>exact S.bH a hB e
   | some o=>rw [kp a o hm e] at z;cases z
 ·by_cases c:j=i
  ·subst c
   rw [CS AN] at hj
   cases hj
   trivial
  ·rw [CB (Bi c)] at hj
   by_cases np:s=.AK
   ·subst np
    obtain ⟨l,e,fl,hl,pt⟩:=S.ok j _ hj
    obtain ⟨_,_,e1,_⟩:=id pt
    exact ⟨l,e,B9 l (by rw [e1];simp) fl,hl,B3.keep pt fun o z=>kp l o (other j _ c hj l e) z⟩
   ·exact Ok.go S hj f.f0 (fun a o ho e=>kp a o (other j s c hj a ho) e) B9 np
 ·have at_:∀ (n:Nat) s,(ss.set i .any)[n]?=some s->s=.any∨(n≠i/\ss[n]?=some s):=fun n s hn=>by
   by_cases c:n=i
   ·subst c;rw [CS AN] at hn;exact .inl (BG hn).symm
   ·rw [CB (Bi c)] at hn;exact .inr ⟨c,hn⟩
  rcases at_ j s hj with rfl | ⟨n1,h1⟩
  ·cases ms
  ·rcases at_ k u hk with rfl | ⟨n2,h2⟩
   ·cases mu
   ·exact S.Bg j k s u b Lb h1 h2 ms mu
def bB {pre:Pre}{j:Nat}{ta:TA}(i:Nat) (hi:ss[i]?=some (.ow lt t)) (h:N2 ss i t ta fun l=>∃ k',pre l (.ow k')/\∀ u,k' u->nx ((ss.set i .any).set j (.ow false u))):Ws ss (E8 (CL (D7 pre) [] E0 ta) (CV j)) nx R:=⟨fun E D σ F H S hn hr=>
 h.go E σ F H _ S fun vs l F1 H1 m1 a ⟨k',hp,kk⟩=>by
  rw [E9]
  refine ⟨l,.ow k',F1,[],t.addrs,hp,m1.st.V4 hi a,fun v F' H' f ⟨u,r,nd,qa,ku⟩=>?_⟩
  have S2:=m1.st.gone hi f
  have fr:∀ a∈u.addrs,F' a=none/\H1 a=none:=qa
  refine hn _ _ F' H' (kk u ku) (S2.setG ⟨v,rfl,r,nd,fun a ha=>⟨(fr a ha).1,.inl (m1.st.CO (fr a ha).2)⟩⟩ fun a ha i2 s Fq hs o=>?_) (m1.ff.trans f.f0)
  by_cases c:i2=i
  ·subst c
   rw [CS (List.getElem?_eq_some_iff.mp hi).1] at hs
   cases hs
   cases o
  ·rw [CB (Bi c)] at hs
   exact m1.st.DQ hs o (fr a ha).2⟩
def wL {u0 u1:OV}{k:List Nat->List OV->Prop}(hj:ss[j]?=some (.ow false (.tp [u0,u1]))) (h:k [j] [u0,u1]):K4 ss (AO (BH (EC K) (BM j) (tC (.int 0))) (AO (BH (EC K) (BM j) (tC (.int 1))) An)) k:=⟨fun E σ F H Q S q=>by
 obtain ⟨v,e,r,nd,qa⟩:=S.ok j _ hj
 cases r with
 | @tp a vs _ hF rr=>
  obtain ⟨v0,h0,r0⟩:=rr.get (show [u0,u1][0]?=some u0 from rfl)
  obtain ⟨v1,h1,r1⟩:=rr.get (show [u0,u1][1]?=some u1 from rfl)
  have hl:=rr.length
  have ev:vs=[v0,v1]:=by
   match vs,hl,h0,h1 with
   | [a,b],_,h0,h1=>cases h0;cases h1;rfl
  subst ev
  rw [OV.EX] at nd
  refine ⟨_,e,_,_,_,v0,rfl,rfl,Ab.of (S.fh _ _ hF),(Gn (j:=0) h0:L2.B5 [v0,v1] ((0:Nat):Int)=_),_,e,_,_,_,v1,rfl,rfl,Ab.of (S.fh _ _ hF),(Gn (j:=1) h1:L2.B5 [v0,v1] ((1:Nat):Int)=_),q [v0,v1] [j] [u0,u1] F H (.refl S) rr nd (fun c hc=>?_) h⟩
  have HL:c∈(OV.tp [u0,u1]).addrs:=by rw [OV.EX];exact hc
  exact ⟨(qa c HL).1,(qa c HL).2.elim id fun z=>(by cases z.1),.inl ⟨j,by simp,_,by simp,hj,HL⟩⟩⟩
end
abbrev Rg:=Option (List Str×Nat)
def EL (go:List Str->List Str->List Str×Rg) (W:List Str):List Str->List Str->List Str×Rg
 | [],L=>(L,none)
 | y :: ys,L=>if y∈W then (L,some (W,W.idxOf y)) else match go (W++[y]) L with
  | (L',some w)=>(L',some w)
  | (L',none)=>EL go W ys L'
def D4 (f:Str->List Str):Nat->List Str->List Str->List Str×Rg
 | 0=>fun _ L=>(L,none)
 | n+1=>fun W L=>if W.getLastD "" ∈ L then (L,none) else match EL (D4 f n) W (f (W.getLastD "")) L with
  | (L',some w)=>(L',some w)
  | (L',none)=>(L'++[W.getLastD ""],none)
def E7 (f:Str->List Str) (n:Nat):List Str->List Str->Rg
 | [],_=>none
 | c :: cs,L=>match D4 f n [c] L with
  | (_,some w)=>some w
  | (L',none)=>E7 f n cs L'
def Uh (V:List Str) (x:Str):(V++[x]).getLastD "" = x:=by simp
def k6 {f:Str->List Str}{n:Nat}{V L:List Str}{x:Str}(h:x∈L):D4 f (n+1) (V++[x]) L=(L,none):=by
 rw [D4];dsimp only;rw [Uh,if_pos h]
def yB {f:Str->List Str}{n:Nat}{V L L':List Str}{x:Str}(h:x∉L) (h2:EL (D4 f n) (V++[x]) (f x) L=(L',none)):D4 f (n+1) (V++[x]) L=(L'++[x],none):=by
 rw [D4];dsimp only;rw [Uh,if_neg h,h2]
def ZK {f:Str->List Str}{n:Nat}{V L L':List Str}{x:Str}{w:List Str×Nat}(h:x∉L) (h2:EL (D4 f n) (V++[x]) (f x) L=(L',some w)):D4 f (n+1) (V++[x]) L=(L',some w):=by
 rw [D4];dsimp only;rw [Uh,if_neg h,h2]
def rL {go:List Str->List Str->List Str×Rg}{W ys L:List Str}{y:Str}(h:y∈W):EL go W (y :: ys) L=(L,some (W,W.idxOf y)):=by rw [EL,if_pos h]
def mC {go:List Str->List Str->List Str×Rg}{W ys L L':List Str}{y:Str}{w:List Str×Nat}(h:y∉W) (h2:go (W++[y]) L=(L',some w)):EL go W (y :: ys) L=(L',some w):=by rw [EL,if_neg h,h2]
def iB {go:List Str->List Str->List Str×Rg}{W ys L L':List Str}{y:Str}(h:y∉W) (h2:go (W++[y]) L=(L',none)):EL go W (y :: ys) L=EL go W ys L':=by rw [EL,if_neg h,h2]
def l9 {f:Str->List Str}{n:Nat}{cs L L':List Str}{c:Str}{w:List Str×Nat}(h:D4 f n [c] L=(L',some w)):E7 f n (c :: cs) L=some w:=by rw [E7,h]
def xb {f:Str->List Str}{n:Nat}{cs L L':List Str}{c:Str}(h:D4 f n [c] L=(L',none)):E7 f n (c :: cs) L=E7 f n cs L':=by rw [E7,h]
def xP (go:List Str->List Str->List Str×Rg) (W L:List Str):EL go W [] L=(L,none):=by rw [EL]
def uI (f:Str->List Str) (n:Nat) (L:List Str):E7 f n [] L=none:=by rw [E7]
def two {α β:Type} (p:α×Option β):(∃ a,p=(a,none))∨∃ a b,p=(a,some b):=by
 obtain ⟨a,_ | b⟩:=p
 ·exact .inl ⟨a,rfl⟩
 ·exact .inr ⟨a,b,rfl⟩
def Er (W:List Str) (i:Nat) (b c:Addr):OV:=.tp [.nd .lst b (((W.take (i+1)).map .str).map .fz),.nd .lst c (((W.drop i).map .str).map .fz)]
def Tj (W:List Str) (i:Nat) (b c:Addr):(Er W i b c).pv=b8 W i:=by
 unfold Er b8
 rw [OV.pv,OV.BD,OV.BD,OV.BD,OV.pv,OV.pv,Iq,Iq]
def Jl (C:Addr) (n:Nat):Pre:=fun l R=>∃ (ks:List Kd) (r:Str) (V:List Str) (x:Str) (L:List Str) (a:Addr),l=[.is (BC C ks),.is (.str r),.is (.lst ((V++[x]).map .str)),.ow true (KY a L)]/\KG ks/\r∈DJ/\9<=V.length+1+n/\
 (V++[x]).Nodup/\(∀ y∈V++[x],y∈wk ks)/\EI (AM ks r) (V++[x])/\(∀ y∈V,y∉L)/\Top (AM ks r) L/\L.Nodup/\(∀ y∈L,y∈wk ks)/\
 ((
   ∃ L',D4 (AM ks r) n (V++[x]) L=(L',none)/\R=.mt (fun p t'=>p=.A5/\t'=KY a L'/\Top (AM ks r) L'/\L'.Nodup/\(∀ y∈L',y∈wk ks)/\(∀ y∈L,y∈L')/\(∀ y∈V,y∉L')/\x∈L'))∨
   ∃ L' W i,D4 (AM ks r) n (V++[x]) L=(L',some (W,i))/\R=.ow (fun u=>∃ b c,u=Er W i b c/\(V++[x]) <+: W/\Jf (AM ks r) (wk ks) W i))
def dD {C:Addr}:∀ ss R,¬ Jl C 0 ss R:=by
 rintro ss R ⟨ks,r,V,x,L,a,_,g,_,h9,nd,sub,_⟩
 have:=Fo nd sub
 have:=g.l8
 rw [BK,IH,AE] at *
 omega
def Ul (C:Addr):Pre:=fun l R=>∃ (ks:List Kd) (tp:Bool) (cs:List Str) (r:Str),l=[.is (BC C ks),.sq tp (cs.map .str),.is (.str r)]/\KG ks/\r∈DJ/\cs.length<=12/\(∀ c∈cs,c∈wk ks)/\
 ((
   E7 (AM ks r) 9 cs []=none/\R=.is (fun p=>p=.A5/\∃ L,Top (AM ks r) L/\L.Nodup/\(∀ y∈L,y∈wk ks)/\∀ c∈cs,c∈L))∨
   ∃ W i,E7 (AM ks r) 9 cs []=some (W,i)/\R=.ow (fun u=>∃ b c x,u=Er W i b c/\Jf (AM ks r) (wk ks) W i/\W[0]?=some x/\x∈cs))
def Hl (W:List Str) (i:Nat) (b c:Addr):OV:=.tp [.fz (.str "endless"),.nd .lst b (((W.take (i+1)).map .str).map .fz),.nd .lst c (((W.drop i).map .str).map .fz)]
def Jo (W:List Str) (i:Nat):PV:=.tup [.str "endless", .lst ((W.take (i+1)).map .str),.lst ((W.drop i).map .str)]
def UO (W:List Str) (i:Nat) (b c:Addr):(Hl W i b c).pv=Jo W i:=by
 unfold Hl Jo
 rw [OV.pv,OV.BD,OV.BD,OV.BD,OV.BD,OV.pv,OV.pv,OV.pv,Iq,Iq]
def tE (ks:List Kd) (r:Str) (cs:List Str) (t:OV):Prop:=(LG (AM ks r) cs/\∃ W i b c x,t=Hl W i b c/\E7 (AM ks r) 9 cs []=some (W,i)/\Jf (AM ks r) (wk ks) W i/\W[0]?=some x/\x∈cs)∨
 (∃ T,Top (AM ks r) T/\T.Nodup/\(∀ y∈T,y∈wk ks)/\(∀ c∈cs,c∈T)/\∃ b M,t=.tp [.fz (.str "ends"),.nd .lst b ((Mp ks r M).map .fz)]/\∀ x,x∈M↔CP (AM ks r) cs x)
def Wu (C:Addr):Pre:=fun l R=>∃ (ks:List Kd) (tp:Bool) (cs:List Str) (r:Str),l=[.is (BC C ks),.sq tp (cs.map .str),.is (.str r)]/\KG ks/\r∈DJ/\cs.length<=12/\(∀ c∈cs,c∈wk ks)/\R=.ow (tE ks r cs)
def Tq:Pre:=fun l R=>∃ (ks:List Kd) (r:Str) (W:List Str),l=[.is (.lst (ks.map Kd.P)),.is (.str r),.is (.lst (W.map .str))]/\KG ks/\r∈DJ/\W≠[]/\W.Nodup/\(∀ y∈W,y∈wk ks)/\EI (AM ks r) W/\R=.is (fun p=>p=.bl true)
def WW:Pre:=fun l R=>∃ (ks:List Kd) (cs:List Str) (r:Str) (W:List Str) (i:Nat) (x:Str),l=[.is (.lst (ks.map Kd.P)),.is (.lst (cs.map .str)),.is (.str r),.is (Jo W i)]/\KG ks/\r∈DJ/\Jf (AM ks r) (wk ks) W i/\W[0]?=some x/\x∈cs/\R=.is (fun p=>p=.bl true)
def vk {xs:List Str}{z:Str}(h:xs[xs.length - 1]?=some z):xs=xs.dropLast++[z]:=by
 have ne:xs≠[]:=fun e=>by rw [e] at h;simp at h
 have q:=gS ne
 rw [List.getLast_eq_getElem] at q
 have e:=(List.getElem?_eq_some_iff.mp h).2
 rw [e] at q
 exact q.symm
def dN {xs:List Str}{z:Str}(h:xs[xs.length - 1]?=some z):L2.B5 (xs.map PV.str) (-1)=some (.str z):=by
 rw [vk h];exact Zq _ _
def sC {f:Str->List Str}{W:List Str}(h:EI f W) (n:Nat):EI f (W.take n):=fun i x y hx hy=>by
 rw [Xi] at hx hy
 split at hx
 ·split at hy
  ·exact h i x y hx hy
  ·cases hy
 ·cases hx
def sY {f:Str->List Str}{W:List Str}(h:EI f W) (n:Nat):EI f (W.drop n):=fun i x y hx hy=>by
 rw [gb] at hx hy
 exact h (n+i) x y hx hy
def yF {W:List Str}(h:W.Nodup){i:Nat}{y:Str}(e:W[i]?=some y):y∉W.take i:=fun m=>by
 obtain ⟨j,hj,ej⟩:=Fu m
 rw [C7] at hj
 rw [JK] at ej
 have hi:=(List.getElem?_eq_some_iff.mp e).1
 exact List.pairwise_iff_getElem.mp h j i (by omega) hi (by omega) (ej.trans (List.getElem?_eq_some_iff.mp e).2.symm)
def Vh {K:ZAY}(W:List Str) (i:Nat):dat K 40 (Jo W i):=by
 have d:∀ l:List Str,∀ x∈l.map PV.str,dat K 38 x:=fun l x hx=>by
  obtain ⟨y,_,rfl⟩:=List.mem_map.mp hx
  trivial
 intro x hx
 simp only [EW,Ai,or_false] at hx
 rcases hx with rfl | rfl | rfl
 ·trivial
 ·exact d _
 ·exact d _
def wc (W:List Str) (i:Nat) (b c:Addr):(Hl W i b c).put [1] (.nd .lst b (((W.take (i+1)).map PV.str).map .fz++[.fz (.str "")]))=.tp [.fz (.str "endless"),.nd .lst b (((W.take (i+1)).map PV.str++[PV.str ""]).map .fz),.nd .lst c (((W.drop i).map .str).map .fz)]:=by
 unfold Hl
 rw [OV.LA (x:=.nd .lst b (((W.take (i+1)).map .str).map .fz)) rfl,OV.Gx]
 simp
end Fz
set_option maxHeartbeats 8000000
namespace Pf
open L2 Lw
abbrev St:=L2.St
def top (i:Nat):Stmt:=PySem.Challenge.pw_stirround_k76_ways_and_rings.main.body.getD i (.Pass ⟨0,0,0,0⟩)
abbrev Wv:Stmt:=top 37
abbrev Ts:Stmt:=top 38
abbrev UP:Stmt:=top 39
abbrev Tg:Stmt:=top 40
abbrev V2:Stmt:=top 42
abbrev WS:Stmt:=top 22
abbrev VE:Stmt:=top 21
abbrev Pz:Stmt:=top 10
abbrev QP:Stmt:=top 20
abbrev Sb:Stmt:=Wc (top 19) 0
abbrev Pa:Stmt:=top 48
abbrev SE:Stmt:=top 36
abbrev P5:Stmt:=top 43
abbrev Ug:Stmt:=top 44
abbrev XD:Stmt:=top 13
abbrev Wk:Stmt:=Wc (top 19) 1
abbrev U1:Stmt:=top 23
abbrev VN:Stmt:=Wc (top 19) 2
abbrev QF:Stmt:=top 27
abbrev PH:Stmt:=top 29
abbrev V5:Stmt:=top 28
abbrev RD:Stmt:=top 33
abbrev UK:Stmt:=top 34
abbrev Lj:Stmt:=top 32
abbrev WY:Stmt:=top 31
abbrev Qe:Stmt:=top 30
abbrev V0:Stmt:=top 26
abbrev N8:Stmt:=top 45
abbrev T7:Stmt:=top 46
abbrev WR:Stmt:=top 47
abbrev RW:Stmt:=top 41
abbrev Pg:Stmt:=top 49
abbrev TJ:Stmt:=top 50
abbrev Lv:Stmt:=top 51
variable {P:Program}{w:World}{K:ZAY}{mg:ZAa}{base:Heap}{f:Addr}{fd:FuncData}
def dS {α:Type} {us:List α}(h:us.length=1):∃ a,us=[a]:=by
 rcases us with _ | ⟨a,_ | ⟨b,us⟩⟩
 ·cases h
 ·exact ⟨a,rfl⟩
 ·cases h
def ln2 {α:Type} {us:List α}(h:us.length=2):∃ a b,us=[a,b]:=by
 rcases us with _ | ⟨a,us⟩
 ·cases h
 ·obtain ⟨b,rfl⟩:=dS (Rv h);exact ⟨a,b,rfl⟩
def fR {α:Type} {us:List α}(h:us.length=3):∃ a b c,us=[a,b,c]:=by
 rcases us with _ | ⟨a,us⟩
 ·cases h
 ·obtain ⟨b,c,rfl⟩:=ln2 (Rv h);exact ⟨a,b,c,rfl⟩
def fv {α:Type} {us:List α}(h:us.length=4):∃ a b c d,us=[a,b,c,d]:=by
 rcases us with _ | ⟨a,us⟩
 ·cases h
 ·obtain ⟨b,c,d,rfl⟩:=fR (Rv h);exact ⟨a,b,c,d,rfl⟩
def dR {α:Type} {us:List α}(h:us.length=5):∃ a b c d e,us=[a,b,c,d,e]:=by
 rcases us with _ | ⟨a,us⟩
 ·cases h
 ·obtain ⟨b,c,d,e,rfl⟩:=fv (Rv h);exact ⟨a,b,c,d,e,rfl⟩
def xj {α:Type} {us:List α}(h:us.length=6):∃ a b c d e f,us=[a,b,c,d,e,f]:=by
 rcases us with _ | ⟨a,us⟩
 ·cases h
 ·obtain ⟨b,c,d,e,f,rfl⟩:=dR (Rv h);exact ⟨a,b,c,d,e,f,rfl⟩
local macro_rules | `(tactic| walk_at "bD1")=>`(tactic| (intro _ _ _ _ _ _ us hl;obtain ⟨_,e⟩:=dS hl;subst e;rfl))
local macro_rules | `(tactic| walk_at "bD2")=>`(tactic| (intro _ _ _ _ _ _ us hl;obtain ⟨_,_,e⟩:=ln2 hl;subst e;rfl))
local macro_rules | `(tactic| walk_at "bD3")=>`(tactic| (intro _ _ _ _ _ _ us hl;obtain ⟨_,_,_,e⟩:=fR hl;subst e;rfl))
local macro_rules | `(tactic| walk_at "bD4")=>`(tactic| (intro _ _ _ _ _ _ us hl;obtain ⟨_,_,_,_,e⟩:=fv hl;subst e;rfl))
local macro_rules | `(tactic| walk_at "bD5")=>`(tactic| (intro _ _ _ _ _ _ us hl;obtain ⟨_,_,_,_,_,e⟩:=dR hl;subst e;rfl))
local macro_rules | `(tactic| walk_at "bD6")=>`(tactic| (intro _ _ _ _ _ _ us hl;obtain ⟨_,_,_,_,_,_,e⟩:=xj hl;subst e;rfl))
abbrev nS (K:ZAY) (x:Str) (v:Value):Prop:=PySem.W.nsIn K mainGlobals x=some (some v)
abbrev nN (K:ZAY) (x:Str):Prop:=PySem.W.nsIn K mainGlobals x=some none
open Fz
def ZWM (t:String):Lean.MacroM (Lean.TSyntax `tactic):=do
 let g:Lean.TSyntax `tactic←`(tactic| fail)
 let k←`(tactic| case wk=>rfl)
 let n (s:String):=`(tactic| walk_at $(Lean.quote s):str)
 (t.splitOn " ").foldrM (fun s r=>do
  let l:=((s.drop 1).toString.splitOn "/").map fun x=>Lean.mkIdent (`Fz++x.toName)
  let h:Lean.Ident:=l.getLast!
  let c:=s.front
  let w:=(h.getId.getString!.toLower.replace "o" "e").replace "i" "e"
  let z←if c=='j' then `($h ?wj ?wk ?_) else if c=='k'||c=='K' then `($h ?wk ?_) else `($h ?_)
  let z←l.dropLast.foldrM (fun (f:Lean.Ident) (z:Lean.Term)=>`($f ($z))) z
  let p←if c=='e' then `(tactic| show ∃ _,_=$h _/\_) else if c=='s' then `(tactic| show $h _ _ _) else `(tactic| refine' $z)
  let p←if c=='K'||c=='R'||c=='j' then pure p else `(tactic| with_reducible $p:tactic)
  let q←if c=='e' then `(tactic| refine ⟨_,rfl,?_⟩) else if c=='s' then n w else if c=='n' then n "wn" else if c=='p' then n "wp" else if c=='k'||c=='K' then pure k else if c=='j' then `(tactic| ((case wj=>rfl);$k:tactic)) else `(tactic| skip)
  `(tactic| first | ($p:tactic;$q:tactic) | $r:tactic)) g
local macro_rules | `(tactic| walk_at "wp")=>ZWM "Rwx rrW kbc kMr/Io/Ci kMr/M7/Ci kMr/Io/Io/Ci kMr/M7/M7/Ci kMr/M7/Io/Ci kXY/Ci kXY/M7/Ci kXY/Io/Ci kbc kA9 rAw rEK rLz rGq rja rSu rY2 rQK rQk rbq rqI rmR rlG rRF kxI rQV rFY rBW rxG rLx rMQ rJB rbE rZU rpq ryc rUY kvZ rm7 rrN rwb Rj9 rUk rjg rnO ryx KlX Kkz Kv9 koI Kjr KwY KqK KQB"
local macro_rules | `(tactic| walk_at "wn")=>ZWM "jtH rJv rPL rP8 roZ Ru4 rlS ruU ryq KM4 jvw"
local macro_rules | `(tactic| walk_at "wq")=>do
 let z←ZWM "kUt/Ci kUt/Io/Ci kUt/M7/Ci kpT kJR kC9 kBU rwH"
 `(tactic| first | $z:tactic | (refine Bz (Bo ?_);walk_at "wn") | (refine Bz ?_;walk_at "wp"))
local macro_rules | `(tactic| walk_at "wz")=>`(tactic| first
 | ((with_reducible refine' eK ?wk ?_);(case wk=>rfl))
 | (with_reducible refine' Y5 ?_)
 | (refine E4 (Bo ?_);walk_at "wn")
 | (refine E4 ?_;walk_at "wp"))
local macro_rules | `(tactic| walk_at "wt")=>ZWM "rBn rG4 rHZ rJk rVo rJy"
local macro_rules | `(tactic| walk_at "we")=>ZWM "rDw rFO rPK rR7 reJ riW rpC rEf"
local macro_rules | `(tactic| walk_at "w")=>do
 let z←ZWM "rAX rFh rBy rBb kZ7 kZf kpe kcK nKD pGL kZT nJ0 pGW"
 let z1←ZWM "eOV.tp eOV.fz"
 let z2←ZWM "sWn sWq sWz sWt sWe sWo sWi"
 let z3←ZWM "ePV.int ePV.str ePV.bl"
 `(tactic| first | $z1:tactic | ((with_reducible show ∃ _ _,_=OV.nd NK.lst _ _/\_);refine ⟨_,_,rfl,?_⟩) | ((with_reducible show ∃ _ _ _,_=PV.int _/\_/\_/\_);refine ⟨_,_,_,rfl,rfl,rfl,?_⟩) | ((with_reducible show Wp _ _ _);first | walk_at "wp" | (refine Bo ?_;walk_at "wn")) | $z2:tactic | ((with_reducible show Ws _ _ _ _);$z:tactic) | $z3:tactic | ((with_reducible show (_:Bool)=_/\_);refine ⟨rfl,?_⟩) | ((with_reducible show ∃ _ _,_=PV.int _/\L2.B5 _ _=some _/\_);refine ⟨_,_,rfl,rfl,?_⟩) | ((with_reducible show ∃ _,(_=PV.lst _/\_)∨(_=PV.tup _/\_));first | refine ⟨_,.inl ⟨rfl,?_⟩⟩ | refine ⟨_,.inr ⟨rfl,?_⟩⟩) | ((with_reducible show ∃ _,_=List.map _ _/\_);first | refine ⟨_,rfl,?_⟩ | refine ⟨[],rfl,?_⟩ | refine ⟨_,Oj _ _ _ _,?_⟩ | refine ⟨_,kb _ _ _,?_⟩ | refine ⟨_,mZ _ _,?_⟩))
local macro_rules | `(tactic| walk_at "ww")=>`(tactic| repeat walk_at "w")
def cQ:BN ["pot", "many", "found"] ["pot", "many"] (Am Wv):=⟨rfl,rfl,rfl,by decide +kernel,rfl,by decide +kernel,by decide +kernel⟩
def ng (F:AQ K "_law_take" "_law_take" Wv f fd) (m:mg "_law_take" = some (.ref f))  :
  AB P w K mg base "_law_take" 1 ["pot", "many"] (LO):=by
 refine AB.mk F (F.binds (by walk_at "bD2")) m (F.BR (k:=0) cQ (fun vs H Q E h=>?_) (fun AZ A outer s H vs Q E hr h=>?_))
 ·obtain ⟨p,m,rfl,⟨a,b,hp,a0,a1,b0,b1⟩,m0,m1,q⟩:=h;rfl
 obtain ⟨p,m,rfl,⟨a,b,hp,a0,a1,b0,b1⟩,m0,m1,q⟩:=h
 refine ⟨_,(AI rfl (BQ (BB NV (AW CK (qv 0) AA) AA) (AI rfl (Aq 2 cQ.nd (B4 Hg (AW CK (qv 0) AA) (qv 1)))
   (AI rfl (da (B4 Vt (AW CK (qv 0) AA) (qv 1)) (Z4 (qv 0) AA set_list))
   (AL rfl (B1 (qv 2))))) BS)
   (AI rfl (da (B4 Hg (B4 G0 (B4 Kg (AW CK (qv 0) AA) AA) AA) AA) (Z4 (qv 0) AA set_list))
   (AL rfl (B1 (B4 Hg (B4 Vt (B4 Hg (B4 Kg (AW CK (qv 0) AA) (AW CK (qv 0) AA)) AA) AA) (qv 1)))))),?_⟩
 refine ⟨_,rfl,p,_,_,_,rfl,rfl,AJ.of hp,rfl,_,_,rfl,rfl,_,rfl,?_⟩
 refine CT (fun c=>?_) (fun c=>?_)
 ·have c':0 < a:=of_decide_eq_true c
  refine ⟨_,rfl,p,_,_,_,rfl,rfl,AJ.of hp,rfl,_,rfl,_,_,rfl,rfl,m0,?_⟩
  refine ⟨_,rfl,p,_,_,_,rfl,rfl,AJ.of hp,rfl,_,rfl,_,_,rfl,rfl,⟨m0,MB (by omega) (by omega)⟩,?_⟩
  refine ⟨_,rfl,p,_,_,_,rfl,rfl,hp,rfl,?_⟩
  refine ⟨_,rfl,?_⟩
  refine q _ _ (JI _ (by omega)) (Ko _ m0) ⟨⟨a / m,b,Aa,Int.ediv_nonneg a0 (by omega),gQ (Int.ediv_le_self _ a0) a1,b0,b1⟩,Ei.upd⟩
 ·refine ⟨_,rfl,p,_,_,_,rfl,rfl,AJ.of hp,rfl,_,_,rfl,rfl,⟨MB (by omega) (by omega),by decide +kernel⟩,_,_,rfl,rfl,_,_,rfl,rfl,(by show (0:Int) < 2147483647;decide),?_⟩
  refine ⟨_,rfl,p,_,_,_,rfl,rfl,hp,rfl,?_⟩
  have Z5:0<=(b * 69621+12345) % 2147483647:=JI _ (by decide)
  have cw:(b * 69621+12345) % 2147483647 < 2147483647:=Ko _ (by decide)
  generalize hb:(b * 69621+12345) % 2147483647=b' at Z5 cw
  have Vs:(upd H p (.lst [.int a,.int ((b * 69621+12345) % 2147483647)])) p=some (.lst [.int a,.int b']):=by rw [Aa,hb]
  refine ⟨_,rfl,p,_,_,_,rfl,rfl,AJ.of Vs,rfl,_,rfl,p,_,_,_,rfl,rfl,AJ.of Vs,rfl,_,_,rfl,rfl,⟨MB (by omega) (by omega),MB (by omega) (by omega)⟩,_,_,rfl,rfl,(by show (0:Int) < 2147483629;decide),?_⟩
  refine ⟨_,_,rfl,rfl,⟨(by show (0:Int) < 64;decide),by decide +kernel⟩,_,rfl,_,_,rfl,rfl,m0,?_⟩
  exact q _ _ (JI _ (by omega)) (Ko _ m0) ⟨⟨a,b',Vs,a0,a1,Z5,cw⟩,Ei.upd⟩
def PY:BN ["number", "word"] ["number"] (Am Ts):=⟨rfl,rfl,rfl,by decide +kernel,rfl,by decide +kernel,by decide +kernel⟩
def qy (F:AQ K "_law_letters" "_law_letters" Ts f fd) (m:mg "_law_letters" = some (.ref f))  :
  AB P w K mg base "_law_letters" 1 ["number"] (bI):=by
 refine AB.mk F (F.binds (by walk_at "bD1")) m (F.BR (k:=0) PY (fun vs H Q E h=>?_) (fun AZ A outer s H vs Q E hr h=>?_))
 ·obtain ⟨r,rfl,r0,r1,q⟩:=h;rfl
 obtain ⟨r,rfl,r0,r1,q⟩:=h
 refine ⟨_,(AI rfl (Aq 1 PY.nd BF)
   (AI rfl (Co (Tv Dk (KH (BB Hy (qv 1) BF) (Lg (BB NV (qv 0) AA))).pt (AI rfl (Aq 1 PY.nd (B4 Yw (qv 1) (AW pA BF (B4 Hg (qv 0) AA))))
   (AL rfl (Aq 0 PY.nd (B4 Vt (qv 0) AA))))))
   (AL rfl (B1 (qv 1))))),?_⟩
 obtain ⟨n,rfl⟩:=Xd r0
 have hn:n < 26 ^ 8:=by omega
 rw [IF] at q
 refine ⟨fun σ' H'=>∃ v,σ'=[some v,some (.str (Ce (MA.lets n)))]/\H=H',?_,?_⟩
 ·refine ⟨fun m σ' H'=>∃ (k:Nat) (pre:List Nat),σ'=[some (.int k),some (.str (Ce pre))]/\H=H'/\((pre=[]/\k=n/\m=n+2)∨(pre≠[]/\m=k+1/\(0 < k->pre++MA.lets k=MA.lets n)/\(k=0->pre=MA.lets n))),⟨n+2,n,[],rfl,rfl,.inl ⟨rfl,rfl,rfl⟩⟩,?_⟩
  rintro m σ' H' ⟨k,pre,rfl,rfl,hI⟩
  refine ⟨_,rfl,rfl,_,rfl,?_⟩
  refine CT (fun c=>br ?_) (fun c=>⟨_,rfl,_,_,rfl,rfl,_,rfl,?_⟩)
  ·have hp:pre=[]:=Y3.mp (of_decide_eq_true c)
   obtain ⟨_,hk,hm⟩ | ⟨h,_⟩:=hI
   ·have he:pre++MA.lets k=MA.lets n:=by rw [hp,hk];rfl
    have hlen:pre.length+1<=8:=by
     have h1:=congrArg List.length he
     rw [BK] at h1
     have h2:=MA.RK 7 n hn
     have h3:=MA.XM k
     omega
    refine ⟨fun σ' H'=>σ'=[some (.int ((k:Int) / 26)),some (.str (Ce pre++⟨#[97+((k:Int) % 26).toNat]⟩))]/\H=H',?_,?_⟩
    ·rintro σ' H' ⟨rfl,rfl⟩
     have nx:=aS he
     have e1:((k:Int) % 26).toNat=k % 26:=by omega
     have e2:(k:Int) / 26=((k / 26:Nat):Int):=by omega
     exact ⟨k / 26+1,by omega,k / 26,pre++[97+k % 26],by rw [e1,e2,aX],rfl,.inr ⟨by simp,rfl,nx.1,nx.2⟩⟩
    ·refine ⟨_,rfl,_,rfl,_,_,rfl,rfl,(by show (0:Int) < 26;decide),_,_,_,rfl,rfl,(by decide +kernel),af (JI _ (by decide)) (Ko _ (by decide)),_,_,rfl,rfl,?_,?_⟩
     ·rw [PU];exact small (show pre.length+1<=_ by omega)
     ·exact ⟨_,rfl,_,_,rfl,rfl,⟨(by show (0:Int) < 26;decide),by decide +kernel⟩,rfl,rfl⟩
   ·exact absurd hp h
  ·have hp:pre≠[]:=fun h=>c (decide_eq_true (Y3.mpr h))
   obtain ⟨h,_⟩ | ⟨_,hm,h1,h2⟩:=hI
   ·exact absurd h hp
   refine CT (fun c2=>?_) (fun c2=>?_)
   ·have hk:0 < k:=by have:(0:Int) < k:=of_decide_eq_true c2;omega
    have he:=h1 hk
    have hlen:pre.length+1<=8:=by
     have h1:=congrArg List.length he
     rw [BK] at h1
     have h2:=MA.RK 7 n hn
     have h3:=MA.XM k
     omega
    refine ⟨fun σ' H'=>σ'=[some (.int ((k:Int) / 26)),some (.str (Ce pre++⟨#[97+((k:Int) % 26).toNat]⟩))]/\H=H',?_,?_⟩
    ·rintro σ' H' ⟨rfl,rfl⟩
     have nx:=aS he
     have e1:((k:Int) % 26).toNat=k % 26:=by omega
     have e2:(k:Int) / 26=((k / 26:Nat):Int):=by omega
     exact ⟨k / 26+1,by omega,k / 26,pre++[97+k % 26],by rw [e1,e2,aX],rfl,.inr ⟨by simp,rfl,nx.1,nx.2⟩⟩
    ·refine ⟨_,rfl,_,rfl,_,_,rfl,rfl,(by show (0:Int) < 26;decide),_,_,_,rfl,rfl,(by decide +kernel),af (JI _ (by decide)) (Ko _ (by decide)),_,_,rfl,rfl,?_,?_⟩
     ·rw [PU];exact small (show pre.length+1<=_ by omega)
     ·exact ⟨_,rfl,_,_,rfl,rfl,⟨(by show (0:Int) < 26;decide),by decide +kernel⟩,rfl,rfl⟩
   ·have hk:k=0:=by
     have:¬ (0:Int) < k:=fun z=>c2 (decide_eq_true z)
     omega
    exact ⟨_,by rw [h2 hk],rfl⟩
 ·rintro σ' H' ⟨v,rfl,rfl⟩
  exact ⟨_,rfl,q⟩
def Ff:BN ["pot", "names", "some", "way", "name", "number"] ["pot", "names"] (Am UP):=⟨rfl,rfl,rfl,by decide +kernel,rfl,by decide +kernel,by decide +kernel⟩
def iO (F:AQ K "_law_name" "_law_name" UP f fd) (m:mg "_law_name" = some (.ref f)) (O3:AB P w K mg base "_law_letters" 1 ["number"] (bI)) (CN:AB P w K mg base "_law_take" 1 ["pot", "many"] (LO)) (BV:mg "len" = none) :
  AB P w K mg base "_law_name" 2 ["pot", "names"] (WQ K):=by
 refine AB.mk F (F.binds (by walk_at "bD2")) m (F.BR (k:=1) Ff (fun vs H Q E h=>?_) (fun AZ A outer s H vs Q E hr h=>?_))
 ·obtain ⟨p,q,ns,rfl,hp,hS,Ao,hN,hL,K1⟩:=h;rfl
 obtain ⟨p,q,ns,rfl,hp,hS,Ao,hN,hL,K1⟩:=h
 refine ⟨_,(AI rfl (Aq 2 Ff.nd (Dl (A0 BF (A0 BF (A0 BF (A0 BF (A0 BF (A0 BF (A0 BF (A0 BF (A0 BF (A0 BF (A0 BF (A0 BF (A0 BF A7)))))))))))))))
   (AI rfl (Aq 3 Ff.nd (Aj CN hr (A0 (qv 0) (A0 AA A7))))
   (AI rfl (Aq 4 Ff.nd (AW B8 (qv 2) (Aj CN hr (A0 (qv 0) (A0 AA A7)))))
   (AI rfl (Co (BQ (BB Hy (qv 3) AA) (AL rfl (Aq 4 Ff.nd (Aj O3 hr (A0 (Aj CN hr (A0 (qv 0) (A0 (B4 PZ (B4 M8 AA AA) AA) A7))) A7)))) BS))
   (AI rfl (Co (BQ (Ry (BB Hy (qv 3) AA) (X7 (BB (WB hr.Qv) (qv 1) (FC A7)))).pt (AI rfl (Aq 4 Ff.nd (AW CK (qv 1) (Aj CN hr (A0 (qv 0) (A0 (Cc Q2 BV (A0 (qv 1) A7)) A7)))))
   (AL rfl (Aq 4 Ff.nd (Ks Yp (B4 Yw (qv 4) (Aj O3 hr (A0 (Aj CN hr (A0 (qv 0) (A0 AA A7))) A7))) L9 (LH AA))))) BS))
   (AI rfl (Co (BQ (Ry (BB Hy (qv 3) AA) (X7 (BB (WB hr.Qv) (qv 1) (FC A7)))).pt (AI rfl (Aq 4 Ff.nd (AW CK (qv 1) (Aj CN hr (A0 (qv 0) (A0 (Cc Q2 BV (A0 (qv 1) A7)) A7)))))
   (AL rfl (Aq 4 Ff.nd (Ks Yp (qv 4) L9 (LH (B4 G0 AA (Aj CN hr (A0 (qv 0) (A0 (Cc ZW BV (A0 (qv 4) A7)) A7))))))))) BS))
   (AI rfl (Aq 5 Ff.nd AA)
   (AI rfl (Co (Tv Dk (BB Hh (qv 4) (qv 1)) (AI rfl (Aq 4 Ff.nd (Aj O3 hr (A0 (qv 5) A7)))
   (AL rfl (Aq 5 Ff.nd (B4 G0 (qv 5) AA))))))
   (AL rfl (B1 (qv 4))))))))))),?_⟩
 have hl:(ns.map V.str).length=ns.length:=AE _
 refine ⟨(by show 13<=sizeLine;decide +kernel),fun sm Lr=>?_⟩
 have EM:sm≠p:=by
  obtain ⟨_,_,e,_⟩:=hp
  exact (DA e Lr).symm
 have g0:Bq p H (upd H sm (.tup Q8)):=Bq.of hp (Cs Lr _)
 refine ⟨_,rfl,p,4,rfl,g0.AK,by decide,by decide,fun way H1 w0 w1 s1=>?_⟩
 refine ⟨_,rfl,_,rfl,p,13,rfl,s1.AK,by decide,by decide,fun i H2 i0 i1 s2=>?_⟩
 have h2:H2 sm=some (.tup Q8):=s2.at' (s1.at' Aa EM) EM
 obtain ⟨x,hx,nx⟩:=yL i0 i1
 refine ⟨sm,_,_,_,rfl,rfl,Ab.of h2,hx,?_⟩
 have g2:=g0.trans (s1.trans s2)
 refine ⟨fun σ' H'=>∃ x,σ'=[some (.ref p),some (.ref q),some (.ref sm),some (.int way),some (.str x),none]/\Nm x/\Bq p H H',?_,?_⟩
 ·refine ⟨_,rfl,rfl,_,rfl,?_⟩
  refine CT (fun c=>?_) (fun c=>?_)
  ·refine ⟨_,rfl,_,_,rfl,rfl,⟨by decide,by decide,by decide +kernel⟩,_,_,rfl,rfl,p,_,rfl,g2.AK,iw,qL,fun r H3 r0 r1 s3=>?_⟩
   have r2:r < 26 ^ 8:=Int.lt_trans r1 ic
   exact ⟨r,rfl,r0,r2,_,rfl,SH (fM r0 r2),g2.trans s3⟩
  ·exact ⟨x,rfl,nx,g2⟩
 clear h2 hx nx s2 g2 i0 i1
 rintro σ' H3 ⟨y,rfl,ny,g3⟩
 refine ⟨fun σ' H'=>∃ x,σ'=[some (.ref p),some (.ref q),some (.ref sm),some (.int way),some (.str x),none]/\Nm x/\Bq p H H',?_,?_⟩
 ·refine ⟨_,rfl,rfl,_,rfl,?_⟩
  refine CT (fun c=>?_) (fun c=>W7 ⟨y,rfl,ny,g3⟩)
  refine ⟨_,rfl,(by show 0<=sizeLine;decide),fun e he=>?_⟩
  have g4:=g3.trans (Bq.of g3.AK (Cs he (.lst [])))
  have Mt:=g4.O2 hS Ao
  refine ⟨q,e,_,[],rfl,rfl,.inl ⟨Mt,AJ.of Aa⟩,JX ns,rfl,_,rfl,?_⟩
  rw [fY]
  refine CT (fun c2=>?_) (fun c2=>⟨y,rfl,ny,g4⟩)
  have MT:0 < ns.length:=by
   cases ns with
   | nil=>simp at c2
   | cons a r=>simp
  refine ⟨_,rfl,_,rfl,_,rfl,q,_,rfl,.inl Mt,p,_,rfl,g4.AK,(by rw [hl];omega),(by rw [hl];omega),fun i H5 i0 i1 s5=>?_⟩
  rw [hl] at i1
  have g5:=g4.trans s5
  obtain ⟨z,hz,SV,_⟩:=eD i0 i1
  have nz:=hN z SV
  refine ⟨q,_,_,_,rfl,rfl,g5.O2 hS Ao,hz,?_⟩
  refine ⟨_,rfl,_,rfl,p,26,rfl,g5.AK,by decide,by decide,fun r H6 r0 r1 s6=>?_⟩
  have g6:=g5.trans s6
  have r2:r < 26 ^ 8:=Int.lt_trans r1 lU
  refine ⟨r,rfl,r0,r2,?_⟩
  have nl:=SH (n:=r.toNat) (fM r0 r2)
  have hlen:z.length+(Ce (MA.lets r.toNat)).length<=16:=by have:=nz.2.1;have:=nl.2.1;omega
  refine ⟨_,_,rfl,rfl,small (by omega),?_⟩
  refine ⟨_,rfl,_,rfl,small (by rw [ZA];omega),?_⟩
  refine ⟨_,rfl,fT (by decide) (by decide) (by rw [ZA];have:=nz.1;omega) (fun c hc=>?_),g6⟩
  rw [YY] at hc
  rcases List.mem_append.mp hc with hc | hc
  ·exact nz.2.2 c hc
  ·exact nl.2.2 c hc
 clear ny g3
 rintro σ' H3 ⟨y,rfl,ny,g3⟩
 refine ⟨fun σ' H'=>∃ x,σ'=[some (.ref p),some (.ref q),some (.ref sm),some (.int way),some (.str x),none]/\Nm x/\Bq p H H',?_,?_⟩
 ·refine ⟨_,rfl,rfl,_,rfl,?_⟩
  refine CT (fun c=>?_) (fun c=>W7 ⟨y,rfl,ny,g3⟩)
  refine ⟨_,rfl,(by show 0<=sizeLine;decide),fun e he=>?_⟩
  have g4:=g3.trans (Bq.of g3.AK (Cs he (.lst [])))
  have Mt:=g4.O2 hS Ao
  refine ⟨q,e,_,[],rfl,rfl,.inl ⟨Mt,AJ.of Aa⟩,JX ns,rfl,_,rfl,?_⟩
  rw [fY]
  refine CT (fun c2=>?_) (fun c2=>⟨y,rfl,ny,g4⟩)
  have MT:0 < ns.length:=by
   cases ns with
   | nil=>simp at c2
   | cons a r=>simp
  refine ⟨_,rfl,_,rfl,_,rfl,q,_,rfl,.inl Mt,p,_,rfl,g4.AK,(by rw [hl];omega),(by rw [hl];omega),fun i H5 i0 i1 s5=>?_⟩
  rw [hl] at i1
  have g5:=g4.trans s5
  obtain ⟨z,hz,SV,_⟩:=eD i0 i1
  have nz:=hN z SV
  refine ⟨q,_,_,_,rfl,rfl,g5.O2 hS Ao,hz,?_⟩
  have yd:=nz.1
  have nz2:=nz.2.1
  refine ⟨_,rfl,_,rfl,_,rfl,_,rfl,small (by omega),p,_,rfl,g5.AK,(by omega),(by omega),fun r H6 r0 r1 s6=>?_⟩
  refine ⟨_,_,rfl,rfl,_,rfl,_,rfl,small (by omega),?_⟩
  exact ⟨_,rfl,fT (by omega) (by omega) yd nz.2.2,g5.trans s6⟩
 clear ny g3
 rintro σ' H3 ⟨y,rfl,ny,g3⟩
 refine ⟨fun σ' H'=>∃ x v,σ'=[some (.ref p),some (.ref q),some (.ref sm),some (.int way),some (.str x),some v]/\Nm x/\x∉ns/\H3=H',?_,?_⟩
 ·refine ⟨fun m σ' H'=>∃ (k:Nat) (x:Str),σ'=[some (.ref p),some (.ref q),some (.ref sm),some (.int way),some (.str x),some (.int k)]/\H3=H'/\Nm x/\m=ns.length+1 - k/\k<=ns.length+1/\(0 < k->x=Ce (MA.lets (k - 1)))/\(∀ j,j+1 < k->Ce (MA.lets j)∈ns),
   ⟨ns.length+1,0,y,rfl,rfl,ny,rfl,CJ _,fun h=>absurd h (by decide),fun j h=>absurd h (by omega)⟩,?_⟩
  rintro m σ' H' ⟨k,x,rfl,rfl,nx,rfl,hk,hx,hj⟩
  refine ⟨_,rfl,_,rfl,q,_,rfl,.inl (g3.O2 hS Ao),rfl,JX ns,_,rfl,?_⟩
  rw [if_neg (by decide),XA]
  refine CT (fun c=>?_) (fun c=>⟨x,_,rfl,nx,fun z=>c (decide_eq_true z),rfl⟩)
  have T5:x∈ns:=of_decide_eq_true c
  have IM:∀ j,j < k->Ce (MA.lets j)∈ns:=fun j XC=>by
   by_cases e:j+1 < k
   ·exact hj j e
   ·have e2:j=k - 1:=by omega
    rw [e2,<- hx (by omega)];exact T5
  have RE:=i4 IM
  refine ⟨fun σ' H'=>σ'=[some (.ref p),some (.ref q),some (.ref sm),some (.int way),some (.str (Ce (MA.lets k))),some (.int ((k:Int)+1))]/\H3=H',?_,?_⟩
  ·rintro σ' H' ⟨rfl,rfl⟩
   exact ⟨ns.length+1 - (k+1),by omega,k+1,Ce (MA.lets k),rfl,rfl,SH (Rt (Dj RE hL) uk),rfl,by omega,fun _=>rfl,fun j XC=>IM j (by omega)⟩
  ·refine ⟨_,rfl,k,rfl,by omega,?_,?_⟩
   ·have:(k:Int)<=1000:=by omega
    exact gQ this jz
   ·rw [IF]
    exact ⟨_,rfl,_,_,rfl,rfl,rfl,rfl⟩
 rintro σ' H' ⟨x,v,rfl,nx,hx,rfl⟩
 exact ⟨_,rfl,K1 x H3 nx hx g3⟩
def VP:BN ["pot", "many", "names", "k"] ["pot", "many"] (Am Tg):=⟨rfl,rfl,rfl,by decide +kernel,rfl,by decide +kernel,by decide +kernel⟩
def jv (F:AQ K "_law_names" "_law_names" Tg f fd) (m:mg "_law_names" = some (.ref f)) (WD:AB P w K mg base "_law_name" 2 ["pot", "names"] (WQ K)) (DO:mg "range" = none) :
  AB P w K mg base "_law_names" 3 ["pot", "many"] (WG):=by
 refine AB.mk F (F.binds (by walk_at "bD2")) m (F.BR (k:=2) VP (fun vs H Q E h=>?_) (fun AZ A outer s H vs Q E hr h=>?_))
 ·obtain ⟨p,m,rfl,hp,m0,m1,q⟩:=h;rfl
 obtain ⟨p,m,rfl,hp,m0,m1,q⟩:=h
 refine ⟨_,(AI rfl (Aq 2 VP.nd (FC A7))
   (AI rfl (Co (E2 Dk rfl (LU rfl DO (A0 (qv 1) A7)) (DN 3 VP.nd) (AL rfl (DY (HW GU Rw Rx N3 (qv 2) (A0 (Aj WD hr (A0 (qv 0) (A0 (qv 2) A7))) A7))))))
   (AL rfl (B1 (qv 2))))),?_⟩
 refine ⟨(by show 0<=sizeLine;decide),fun l hl=>?_⟩
 have Ao:=hp.ne hl
 refine ⟨fun σ' H'=>∃ (ns:List Str) (v:Option V),σ'=[some (.ref p),some (.int m),some (.ref l),v]/\Bq p H H'/\H' l=some (.lst (ns.map V.str))/\(ns.length:Int)=m/\(∀ x∈ns,Nm x)/\ns.Nodup,?_,?_⟩
 ·refine ⟨_,rfl,m,rfl,by omega,by omega,wF (n:=m.toNat) (fun i σ' H'=>∃ (ns:List Str) (v:Option V),σ'=[some (.ref p),some (.int m),some (.ref l),v]/\Bq p H H'/\H' l=some (.lst (ns.map V.str))/\ns.length=i/\(∀ x∈ns,Nm x)/\ns.Nodup) ?_ ?_ ?_⟩
  ·exact ⟨[],none,rfl,(Bq.of hp (AD.refl H)).upd hl Ao,Aa,rfl,fun x hx=>absurd hx (by simp),by simp⟩
  ·rintro i σ' H' hi ⟨ns,v,rfl,g,e,hlen,hN,nd⟩
   refine ⟨_,rfl,.inl ⟨rfl,_,AJ.of e⟩,_,rfl,_,rfl,p,l,ns,rfl,g.AK,AJ.of e,Ao,hN,by omega,fun x H2 nx hx s2=>?_⟩
   refine ⟨l,_,_,rfl,rfl,s2.at' e Ao,Rt (m:=100) (by rw [AE];omega) (by decide +kernel),?_⟩
   refine ⟨ns++[x],_,rfl,(g.trans s2).upd hl Ao,by rw [Aa,DE];rfl,by rw [BK];simp [hlen],fun y hy=>?_,Hm nd hx⟩
   rcases List.mem_append.mp hy with h | h
   ·exact hN y h
   ·have:y=x:=by simpa using h
    rw [this];exact nx
  ·rintro σ' H' ⟨ns,v,rfl,g,e,hlen,hN,nd⟩
   exact ⟨ns,v,rfl,g,e,by omega,hN,nd⟩
 rintro σ' H' ⟨ns,v,rfl,g,e,hlen,hN,nd⟩
 exact ⟨_,rfl,q l H' ns hl g e hlen hN nd⟩
def GC:BN ["pot", "many", "words", "shape", "kinds", "k", "puts", "j", "where", "kind"] ["pot"] (Am V2):=⟨rfl,rfl,rfl,by decide +kernel,rfl,by decide +kernel,by decide +kernel⟩
def ZQ  : ∀ ss R,TQ ss R->ss.length=1:=by rintro _ _ ⟨rfl,rfl⟩;rfl
def pO (F:AQ K "_law_kinds" "_law_kinds" V2 f fd) (m:mg "_law_kinds" = some (.ref f)) (V9:AB P w K mg base "_law_names" 3 ["pot", "many"] (WG)) (CN:AB P w K mg base "_law_take" 1 ["pot", "many"] (LO)) (GN:mg "max" = none) (DO:mg "range" = none) (Dt:mg "tuple" = none) :
  AB P w K mg base "_law_kinds" 4 ["pot"] (AV TQ):=by
 refine AB.mk F (F.binds (by walk_at "bD1")) m (F.BR (k:=3) GC (fun vs H Q E h=>Fz.CW ZQ h) (fun AZ A outer s H vs Q E hr h=>?_))
 refine ⟨_,(AI rfl (Aq 1 GC.nd (B4 G0 AA (Aj CN hr (A0 (qv 0) (A0 AA A7)))))
   (AI rfl (Aq 2 GC.nd (Aj V9 hr (A0 (qv 0) (A0 (qv 1) A7))))
   (AI rfl (Aq 3 GC.nd (Aj CN hr (A0 (qv 0) (A0 AA A7))))
   (AI rfl (Aq 4 GC.nd (FC A7))
   (AI rfl (Co (E2 Dk rfl (LU rfl DO (A0 (qv 1) A7)) (DN 5 GC.nd) (AI rfl (Aq 6 GC.nd (FC A7))
   (AI rfl (Co (E2 Dk rfl (LU rfl DO (A0 (AW B8 (Dl (A0 AA (A0 AA (A0 AA (A0 AA (A0 AA (A0 AA (A0 AA A7)))))))) (Aj CN hr (A0 (qv 0) (A0 AA A7)))) A7)) (DN 7 GC.nd) (AI rfl (Aq 8 GC.nd (AW B8 (Dl (A0 BF (A0 BF (A0 BF (A0 BF A7))))) (Aj CN hr (A0 (qv 0) (A0 AA A7)))))
   (AI rfl (Aq 9 GC.nd (Aj CN hr (A0 (qv 0) (A0 (qv 1) A7))))
   (AI rfl (Co (BQ (BB Sr (qv 3) AA) (AL rfl (Aq 9 GC.nd (B4 G0 (B4 G0 (qv 5) AA) (B4 Hg (qv 9) (Cc (cx rfl) GN (A0 AA (A0 (B4 PZ (B4 PZ (qv 1) AA) (qv 5)) A7))))))) BS))
   (AL rfl (BQ (BB Sr (qv 9) (qv 1)) (AL rfl (DY (HW GU Rw Rx N3 (qv 6) (A0 (Dl (A0 (qv 8) (A0 (AW CK (qv 2) (qv 9)) A7))) A7)))) BS)))))))
   (AL rfl (DY (HW GU zm PySem.F.type_list_insert uf (qv 4) (A0 (Aj CN hr (A0 (qv 0) (A0 (B4 G0 (qv 5) AA) A7))) (A0 (Dl (A0 (AW CK (qv 2) (qv 5)) (A0 (GR Oi Dt (A0 (qv 6) A7)) (A0 (R3 Hy (Aj CN hr (A0 (qv 0) (A0 AA A7))) AA) A7)))) A7)))))))))
   (AL rfl (B1 (qv 4)))))))),?_⟩
 refine Fz.CY h ZQ ?_
 rintro _ _ ⟨rfl,rfl⟩
 show Ws [_,.any,.any,.any,.any,.any,.any,.any,.any,.any] _ _ _
 walk_at "ww"
 refine ⟨by decide,by decide,fun r a1 b1=>⟨_,rfl,?_⟩⟩
 obtain ⟨m0,rfl⟩:=Xd a1
 refine AX (KD (oE rfl (A9 rfl ⟨_,rfl,by omega,by omega,fun ws hl hN nd=>?_⟩)))
 refine M5 2 rfl ?_
 walk_at "ww"
 refine ⟨by decide,by decide,fun sh s0 s1=>?_⟩
 walk_at "ww"
 refine ⟨by decide,?_⟩
 refine AX (Fh (EZ (fun _ i A8=>∃ (ks:List Kd) (s5 s6 s7 s8 s9:Slot),A8=[.AK,.is (.int (1+(m0:Int))),.is (.lst (ws.map .str)),.is (.int sh),.own (ks.map Kd.P),s5,s6,s7,s8,s9]/\(wk ks).Perm (ws.take i)/\∀ k∈ks,k.ps.length<=6/\∀ p∈k.ps,p.1∈WH/\p.2∈ws) ?_))
 walk_at "ww"
 rw [Hd]
 refine ⟨by omega,by omega,⟨[],_,_,_,_,_,rfl,.refl _,fun k hk=>absurd hk Ai⟩,?_,?_⟩
 ·rintro k p A8 hp ⟨ks,s5,s6,s7,s8,s9,rfl,lk,ok⟩
  obtain ⟨hk,rfl⟩:=TM hp
  have p4:=lk.length_eq
  rw [AE,C7] at p4
  refine FG ?_
  walk_at "ww"
  refine ⟨by decide,?_⟩
  refine AX (Fh (EZ (fun _ j A8=>∃ (qs:List (Str×Str)) (s7 s8 s9:Slot),A8=[.AK,.is (.int (1+(m0:Int))),.is (.lst (ws.map .str)),.is (.int sh),.own (ks.map Kd.P),.is (.int k),.own (qs.map B7),s7,s8,s9]/\qs.length<=j/\∀ q∈qs,q.1∈WH/\q.2∈ws) ?_))
  walk_at "ww"
  refine ⟨by decide,_,.inr ⟨rfl,rfl,?_⟩⟩
  walk_at "ww"
  refine ⟨by decide,by decide,fun t t0 t1=>?_⟩
  obtain ⟨m,hm,lm⟩:=om t0 t1
  refine ⟨_,_,rfl,hm,_,rfl,by omega,by omega,?_⟩
  rw [Hd,IF]
  refine ⟨⟨[],_,_,_,rfl,Ae _,fun q hq=>absurd hq Ai⟩,?_,?_⟩
  ·rintro j p A8 hp ⟨qs,s7,s8,s9,rfl,lq,oq⟩
   obtain ⟨hj,rfl⟩:=TM hp
   refine FG ?_
   walk_at "ww"
   refine ⟨by decide,_,.inr ⟨rfl,rfl,?_⟩⟩
   walk_at "ww"
   refine ⟨by decide,by decide,fun t2 a2 b2=>?_⟩
   obtain ⟨wh,yj,wR⟩:=jL a2 b2
   refine ⟨_,_,rfl,wR,?_⟩
   walk_at "ww"
   refine ⟨by omega,bx (by omega),fun kd a3 b3=>?_⟩
   refine o8 (fun A8=>∃ kd:Int,A8=[.AK,.is (.int (1+(m0:Int))),.is (.lst (ws.map .str)),.is (.int sh),.own (ks.map Kd.P),.is (.int k),.own (qs.map B7),.is (.int j),.is (.str wh),.is (.int kd)]/\0<=kd) ?_ ?_
   ·walk_at "ww"
    refine CT (fun c=>?_) (fun c=>Bb ⟨kd,rfl,a3⟩)
    walk_at "ww"
    have YQ:0 < (if 1+(m0:Int) - 1 - k > 1 then 1+(m0:Int) - 1 - k else 1):=by split <;> omega
    have ZA3:=JI kd (Int.ne_of_gt YQ)
    exact ⟨YQ,_,rfl,_,rfl,by omega⟩
   rintro _ ⟨kd,rfl,k0⟩
   walk_at "ww"
   refine CT (fun c=>?_) (fun c=>Bb ⟨qs,_,_,_,rfl,by omega,oq⟩)
   have c':=of_decide_eq_true c
   obtain ⟨kn,rfl⟩:=Xd k0
   have RE:kn < ws.length:=by omega
   have aK:L2.B5 (ws.map PV.str) (kn:Int)=some (.str ws[kn]):=Ly (by omega) (by rw [IF,Ag,Ad RE];rfl)
   refine Z7 rfl (JB ?_)
   walk_at "ww"
   refine ⟨_,_,rfl,aK,?_⟩
   walk_at "ww"
   refine ⟨by show 2<=100000;decide,by rw [AE];omega,qs++[(wh,ws[kn])],.is (.int j),.is (.str wh),.is (.int kn),?_,?_,?_⟩
   ·rw [DE];rfl
   ·rw [BK,IH];omega
   ·intro q hq
    rcases List.mem_append.mp hq with z | z
    ·exact oq q z
    ·rw [List.mem_singleton.mp z];exact ⟨yj,HE RE⟩
  ·rintro A8 ⟨qs,s7,s8,s9,rfl,lq,oq⟩
   have cZ:k < ws.length:=by omega
   have aK:L2.B5 (ws.map PV.str) (k:Int)=some (.str ws[k]):=Ly (by omega) (by rw [IF,Ag,Ad cZ];rfl)
   refine Zf rfl ?_
   walk_at "ww"
   refine ⟨by omega,bx (by omega),fun t9 a9 b9=>⟨_,rfl,a9,by rw [AE];omega,?_⟩⟩
   refine JB ?_
   walk_at "ww"
   refine ⟨_,_,rfl,aK,?_⟩
   walk_at "ww"
   refine ⟨by decide,by decide,fun r2 a2 b2=>?_⟩
   walk_at "ww"
   refine ⟨by show 3<=100000;decide,by rw [AE];omega,ks.take t9.toNat++⟨ws[k],qs,alike (.int r2) (.int 1)⟩ :: ks.drop t9.toNat,.is (.int k),.own (qs.map B7),s7,s8,s9,?_,?_,?_⟩
   ·rw [<- Xl,<- gf,DE];rfl
   ·rw [Rr cZ]
    show (List.map Kd.w (_++_ :: _)).Perm _
    rw [DE,BL,Xl,gf]
    refine (List.perm_middle.trans (List.Perm.cons _ ?_)).trans (gi (l₁:=[ws[k]]))
    rw [HI];exact lk
   ·intro kk xS
    rcases List.mem_append.mp xS with z | z
    ·exact ok kk (Rp z)
    ·rcases List.mem_cons.mp z with z | z
     ·rw [z];exact ⟨by show qs.length<=6;omega,oq⟩
     ·exact ok kk (Ro z)
 ·rintro A8 ⟨ks,s5,s6,s7,s8,s9,rfl,lk,ok⟩
  refine M5 4 rfl ?_
  have Ou:(wk ks).Perm ws:=by
   have e:ws.take (1+(m0:Int)).toNat=ws:=Kq (by omega)
   rw [e] at lk;exact lk
  have ll:=Ou.length_eq
  rw [AE] at ll
  refine GW (A9 rfl ⟨ks,rfl,by omega,by omega,Ou.nodup_iff.mpr nd,fun k hk=>hN _ (Ou.mem_iff.mp (List.mem_map.mpr ⟨k,hk,rfl⟩)),fun k hk=>⟨(ok k hk).1,fun p hp=>⟨((ok k hk).2 p hp).1,Ou.mem_iff.mpr ((ok k hk).2 p hp).2⟩⟩⟩)
def oh:BN ["words", "word"] ["words", "word"] (Am WS):=⟨rfl,rfl,rfl,by decide +kernel,rfl,by decide +kernel,by decide +kernel⟩
def YC  : ∀ ss R,NA ss R->ss.length=2:=by rintro _ _ ⟨ws,d,x,rfl,_,_,_,rfl⟩;rfl
def zB (F:AQ K "check_word" "check_word" WS f fd) (m:mg "check_word" = some (.ref f))  :
  AB P w K mg base "check_word" 1 ["words", "word"] (AV NA):=by
 refine AB.mk F (F.binds (by walk_at "bD2")) m (F.BR (k:=0) oh (fun vs H Q E h=>Fz.CW YC h) (fun AZ A outer s H vs Q E hr h=>?_))
 refine ⟨_,(AL rfl (BQ (rh (xg (Eu hr) (qv 1) (qv 0)) (gA Jw (qv 1) (qv 0) (by with_unfolding_all rfl))) (AL rfl IL) BS)),?_⟩
 refine Fz.CY h YC ?_
 rintro _ _ ⟨ws,d,x,rfl,hd,hz,hx,rfl⟩
 show Ws [_,_] _ _ _
 refine By ?_
 rcases hd with rfl | ⟨xs,rfl⟩
 ·refine mh (Bn (MQ (A9 rfl ⟨x,rfl,C9 rfl ⟨_,rfl,?_⟩⟩)))
  refine ⟨_,rfl,Bm ?_ (Bb ⟨_,rfl,rfl⟩)⟩
  rw [decide_eq_true hx];decide
 ·refine y2 (G4 (j8 (A9 rfl (A9 rfl ⟨_,_,.inr x,rfl,rfl,_,rfl,?_⟩))))
  rw [Mh,decide_eq_true hx]
  exact Bm (by decide) (Bb ⟨_,rfl,rfl⟩)
def Yb:BN ["words", "puts", "put"] ["words", "puts"] (Am VE):=⟨rfl,rfl,rfl,by decide +kernel,rfl,by decide +kernel,by decide +kernel⟩
def aU  : ∀ ss R,TU ss R->ss.length=2:=by rintro _ _ ⟨ws,ps,rfl,_,_,rfl⟩;rfl
def kE {IW:Addr}(F:AQ K "check_puts" "check_puts" VE f fd) (m:mg "check_puts" = some (.ref f)) (HY:AB P w K mg base "check_word" 1 ["words", "word"] (AV NA)) (T6:mg "WHERES" = some (.ref IW)) (V1:∀ H,Ab K H IW [.str "next", .str "last", .str "back", .str "first"]) :
  AB P w K mg base "check_puts" 2 ["words", "puts"] (AV TU):=by
 refine AB.mk F (F.binds (by walk_at "bD2")) m (F.BR (k:=1) Yb (fun vs H Q E h=>Fz.CW aU h) (fun AZ A outer s H vs Q E hr h=>?_))
 refine ⟨_,(AL rfl (E2 Dk rfl (D6 (qv 1)) (DN 2 Yb.nd) (AI rfl (BQ (BB Jw (AW B8 (qv 2) AA) (ID (v:=.ref IW) (by rfl) T6 rfl)) (AL rfl IL) BS)
   (AL rfl (DY (Aj HY hr (A0 (qv 0) (A0 (AW B8 (qv 2) AA) A7)))))))),?_⟩
 refine Fz.CY h aU ?_
 rintro _ _ ⟨ws,ps,rfl,hz,hp,rfl⟩
 show Ws [_,_,.any] _ _ _
 have C:Fg K IW (WH.map .str):=Fg.of V1 rfl rfl
 refine EZ (fun _ i A8=>∃ s2:Slot,A8=[.is (.lst (ws.map .str)),.is (.lst (ps.map B7)),s2]) ?_
 walk_at "ww"
 refine ⟨⟨_,rfl⟩,?_,?_⟩
 ·rintro k p A8 hq ⟨s2,rfl⟩
  rw [Ag] at hq
  obtain ⟨q,ex,rfl⟩:=Option.map_eq_some_iff.mp hq
  refine FG ?_
  have sq:=hp q (CC ex)
  refine AX (By (Bn (Px (neg:=true) C (BW (BU rfl ⟨rfl,Aw ⟨_,_,rfl,rfl,q.1,rfl,_,rfl,?_⟩⟩)))))
  rw [decide_eq_true sq.1]
  refine Bm (by decide) (Bb ?_)
  refine K6 (wp_call (Ac (A9 rfl (Ac (BW (BU rfl ⟨rfl,Aw ⟨_,_,rfl,rfl,BO ⟨_,⟨ws,_,q.2,rfl,.inl rfl,hz,sq.2,rfl⟩,?_⟩⟩⟩))))))
  rintro _ rfl
  exact ⟨_,rfl⟩
 ·rintro A8 ⟨s2,rfl⟩
  exact ⟨_,rfl,rfl⟩
def kK:BN ["text"] ["text"] (Am Pz):=⟨rfl,rfl,rfl,by decide +kernel,rfl,by decide +kernel,by decide +kernel⟩
def wz:Scope:={ kind:=.function,names:=[(".0", .local),("sign", .local),("LETTERS", .globalImplicit)],isGenerator:=false,isCoroutine:=false,more:=[] }
def uw:DP ["text"] (Am Pz) wz "sign" [] []:=⟨rfl,by decide +kernel,by decide +kernel,rfl,rfl,by decide +kernel,by decide +kernel,by decide +kernel,by decide +kernel⟩
def ub {XE:Tok}{Us:Tok}(F:AQ K "is_name" "is_name" Pz f fd) (m:mg "is_name" = some (.ref f)) (Li:mg "all" = none) (BV:mg "len" = none) (X6:mg "LETTERS" = some (.str "abcdefghijklmnopqrstuvwxyz" XE)) (Ti:mg "MOST_LETTERS" = some (.int 8 Us)) :
  AB P w K mg base "is_name" 1 ["text"] (SY):=by
 refine AB.mk F (F.binds (by walk_at "bD1")) m (F.BR (k:=0) kK (fun vs H Q E h=>?_) (fun AZ A outer s H vs Q E hr h=>?_))
 ·obtain ⟨x,rfl,hx,q⟩:=h;rfl
 obtain ⟨x,rfl,hx,q⟩:=h
 refine ⟨_,(AL rfl (B1 (W0 (pU QY QY AA (Cc ZW BV (A0 (qv 0) A7)) (ID (v:=.int 8) (by rfl) Ti ⟨_,rfl⟩)) (Vq (Cc (bX rfl) Li (A0 (I0 rfl uw (vO (qv 0)) (fun _ _ _ _=>by exact Gp) (fun _ _ _ _=>by exact (R3 pW (qv 0) (ID (v:=.str "abcdefghijklmnopqrstuvwxyz") (by rfl) X6 ⟨_,rfl⟩)))) A7)))))),?_⟩
 refine ⟨_,rfl,_,rfl,small (by omega),_,_,rfl,rfl,_,rfl,?_⟩
 refine CT (fun c=>?_) (fun c=>⟨_,rfl,W7 ?_⟩)
 ·refine ⟨_,_,rfl,rfl,_,rfl,?_⟩
  refine CT (fun c2=>?_) (fun c2=>?_)
  ·refine ⟨_,rfl,x,rfl,fun acc Az=>uZ (fun _=>true) fq Az (by rw [<- Cw,<- HB];exact small (by omega)) (fun i v H' Q' _ _ h=>h H' (AD.refl _)) (fun i v H' Q' hv _ _ h=>?_) (fun H' s1 e1=>?_)⟩
   ·obtain ⟨cc,rfl⟩:=signs_get hv
    exact ⟨_,rfl,_,_,rfl,rfl,h H' (AD.refl _)⟩
   ·rw [tm] at e1
    refine ⟨acc,_,rfl,AJ.of e1,?_⟩
    rw [all_map]
    have e:isNm x=x.cps.toList.all LQ:=by unfold isNm;rw [c,c2];rfl
    rw [<- e];exact q H' s1
  ·have e:isNm x=false:=by unfold isNm;rw [Bool.eq_false_iff.mpr c2];simp
   rw [<- e];exact q H (AD.refl _)
 ·have e:isNm x=false:=by unfold isNm;rw [Bool.eq_false_iff.mpr c];simp
  rw [<- e];exact q H (AD.refl _)
def Nw:BN ["kinds", "words", "number", "kind"] ["kinds"] (Am QP):=⟨rfl,rfl,rfl,by decide +kernel,rfl,by decide +kernel,by decide +kernel⟩
def uG:Scope:={ kind:=.function,names:=[(".0", .local),("kind", .local)],isGenerator:=false,isCoroutine:=false,more:=[] }
def z9:DP ["kinds", "words", "number", "kind"] (Am QP) uG "kind" [] []:=⟨rfl,by decide +kernel,by decide +kernel,rfl,rfl,by decide +kernel,by decide +kernel,by decide +kernel,by decide +kernel⟩
def YV  : ∀ ss R,Um ss R->ss.length=1:=by rintro _ _ ⟨ks,rfl,_,rfl⟩;rfl
def lY {Ss:Tok}{XH:Tok}(F:AQ K "check_kinds" "check_kinds" QP f fd) (m:mg "check_kinds" = some (.ref f)) (Ui:AB P w K mg base "check_puts" 2 ["words", "puts"] (AV TU)) (To:AB P w K mg base "is_name" 1 ["text"] (SY)) (VS:mg "enumerate" = none) (BV:mg "len" = none) (Sa:mg "MOST_KINDS" = some (.int 8 Ss)) (Ud:mg "MOST_PUTS" = some (.int 6 XH)) :
  AB P w K mg base "check_kinds" 3 ["kinds"] (AV Um):=by
 refine AB.mk F (F.binds (by walk_at "bD1")) m (F.BR (k:=2) Nw (fun vs H Q E h=>Fz.CW YV h) (fun AZ A outer s H vs Q E hr h=>?_))
 refine ⟨_,(AI rfl (BQ (Iw (lO QY QY AA (Cc JF BV (A0 (qv 0) A7)) (ID (v:=.int 8) (by rfl) Sa ⟨_,rfl⟩))) (AL rfl IL) BS)
   (AI rfl (bT (i:=1) Nw.nd rfl (Or.inl rfl) rfl z9 (D6 (qv 0)) (fun _ _ _ _=>by exact Gp) (fun _ _ _ _=>by exact (AW (show Cz _ (EC K) from B8) (qv 0) AA)))
   (AI rfl (Co (E2 Dk rfl (qS rfl VS (A0 (qv 0) A7)) (Ye rfl (Nu (DN 2 Nw.nd) (Nu (DN 3 Nw.nd) aZ))) (AI rfl (BQ (Iw (Jb (Aj To hr (A0 (AW B8 (qv 3) AA) A7)))) (AL rfl IL) BS)
   (AI rfl (BQ (BB Hh (AW B8 (qv 3) AA) (Ks Qy (qv 1) L9 (LH (qv 2)))) (AL rfl IL) BS)
   (AL rfl (BQ (BB NV (Cc JF BV (A0 (AW B8 (qv 3) AA) A7)) (ID (v:=.int 6) (by rfl) Ud ⟨_,rfl⟩)) (AL rfl IL) BS))))))
   (AL rfl (E2 Dk rfl (D6 (qv 0)) (DN 3 Nw.nd) (AL rfl (DY (Aj Ui hr (A0 (qv 1) (A0 (AW B8 (qv 3) AA) A7)))))))))),?_⟩
 refine Fz.CY h YV ?_
 rintro _ _ ⟨ks,rfl,g,rfl⟩
 show Ws [_,.any,.any,.any] _ _ _
 have l1:=g.l1
 have l8:=g.l8
 walk_at "ww"
 rw [AE]
 refine Ji (decide_eq_true (by omega)) ?_
 refine Aw ⟨_,rfl,_,rfl,?_⟩
 rw [decide_eq_true (show (ks.length:Int)<=8 by omega)]
 refine Bm (by decide) (Bb ?_)
 refine AX (KD (GX EV (fun _=>true) (fun k=>PV.str k.w) (Ef (E4 (A9 rfl ⟨_,.inl ⟨rfl,ks,rfl,by omega,fun k _=>HZ rfl,fun k _ _=>BW (BU rfl ⟨rfl,Aw ⟨_,_,rfl,rfl,rfl⟩⟩),?_⟩⟩))) lC))
 rw [List.filter_eq_self.mpr fun _ _=>rfl]
 refine M5 1 rfl ?_
 have ew:(ks.map fun k=>PV.str k.w)=(wk ks).map PV.str:=by rw [DF];rfl
 rw [ew]
 show Ws [.is (.lst (ks.map EV)),.is (.lst ((wk ks).map .str)),.any,.any] _ _ _
 refine AX (Fh (EZ (fun _ i A8=>∃ s2 s3:Slot,A8=[.is (.lst (ks.map EV)),.is (.lst ((wk ks).map .str)),s2,s3]) ?_))
 walk_at "ww"
 refine ⟨⟨_,_,rfl⟩,?_,?_⟩
 ·rintro i q A8 hq ⟨s2,s3,rfl⟩
  obtain ⟨x0,hx,rfl⟩:=si hq
  rw [Ag] at hx
  obtain ⟨k,ex,rfl⟩:=Option.map_eq_some_iff.mp hx
  have hi:=(List.getElem?_eq_some_iff.mp ex).1
  have km:=CC ex
  refine tX ⟨_,_,rfl,?_⟩
  walk_at "ww"
  refine xW (BW (BU rfl ⟨rfl,Aw ⟨_,_,rfl,rfl,k.w,rfl,Dj (g.nm k km).2.1 (by decide),_,rfl,?_⟩⟩))
  rw [se (g.nm k km)]
  refine Bm (by decide) (Bb ?_)
  walk_at "ww"
  rw [show Cu (wk ks) none (some (i:Int))=(wk ks).take i from dG (by rw [AE];omega)]
  refine Bm (fun c=>?_) (Bb ?_)
  ·obtain ⟨j,hj,ej⟩:=Fu (of_decide_eq_true c)
   rw [C7,AE] at hj
   rw [JK] at ej
   have q:=List.pairwise_iff_getElem.mp g.nd j i (by rw [AE];omega) (by rw [AE];exact hi) (by omega)
   refine q (ej.trans ?_)
   rw [Oc,(List.getElem?_eq_some_iff.mp ex).2]
  refine By (Bn (Y2 (QV (Bz (BW (BU rfl ⟨rfl,Aw ⟨_,_,rfl,rfl,_,.inl ⟨rfl,?_⟩⟩⟩))))))
  walk_at "ww"
  rw [AE]
  refine Bm (fun c=>?_) (Bb ⟨_,_,rfl⟩)
  have:=of_decide_eq_true c
  have:=(g.ps k km).1
  omega
 ·rintro A8 ⟨s2,s3,rfl⟩
  refine EZ (fun _ i A8=>∃ s2 s3:Slot,A8=[.is (.lst (ks.map EV)),.is (.lst ((wk ks).map .str)),s2,s3]) ?_
  walk_at "ww"
  refine ⟨⟨_,_,rfl⟩,?_,?_⟩
  ·rintro i p A8 hp ⟨s2,s3,rfl⟩
   rw [Ag] at hp
   obtain ⟨k,ex,rfl⟩:=Option.map_eq_some_iff.mp hp
   have km:=CC ex
   refine FG ?_
   refine K6 (wp_call (Ac (A9 rfl (Ac (BW (BU rfl ⟨rfl,Aw ⟨_,_,rfl,rfl,BO ⟨_,⟨wk ks,k.ps,rfl,by rw [AE];omega,(g.ps k km).2,rfl⟩,?_⟩⟩⟩))))))
   rintro _ rfl
   exact ⟨_,_,rfl⟩
  ·rintro A8 ⟨s2,s3,rfl⟩
   exact ⟨_,rfl,rfl⟩
def ZV:BN ["self", "kinds", "kind"] ["self", "kinds"] (Am Sb):=⟨rfl,rfl,rfl,by decide +kernel,rfl,by decide +kernel,by decide +kernel⟩
def c6 {A4:Addr}:∀ ss R,(Tc A4) ss R->ss.length=2:=by rintro _ _ ⟨dx,a,ks,rfl,_,rfl⟩;rfl
def lx {A4:Addr}(F:AQ K "__init__" "Errands.__init__" Sb f fd) (mt:Mk K A4 f) (W5:AB P w K mg base "check_kinds" 3 ["kinds"] (AV Um)) (Dt:mg "tuple" = none) (ES:Dc K A4) (Ot:Ez K A4 "goes_by_word") (GH:Ez K A4 "puts_by_word") :
  WT P w K mg base A4 4 ["self", "kinds"] (D7 (Tc A4)):=by
 refine ⟨f,fd,F.BR (k:=3) ZV (fun vs H Q E h=>Fz.VW c6 h) (fun AZ A outer s H vs Q E hr h=>?_),(F.binds (by walk_at "bD2")),mt⟩
 refine ⟨_,(AI rfl (DY (Aj W5 hr (A0 (qv 1) A7)))
   (AI rfl (fJ (qv 0) Rc)
   (AI rfl (fJ (qv 0) Rc)
   (AL rfl (E2 Dk rfl (D6 (qv 1)) (DN 2 ZV.nd) (AI rfl (Ol (Eu hr) (OF (qv 0)) (AW B8 (qv 2) AA) (GR Oi Dt (A0 (AW B8 (qv 2) AA) A7)))
   (AL rfl (Ol (Eu hr) (OF (qv 0)) (AW B8 (qv 2) AA) (AW B8 (qv 2) AA))))))))),?_⟩
 refine Fz.oA h c6 ?_
 rintro _ _ ⟨dx,a,ks,rfl,g,rfl⟩
 show Ws [_,_,.any] _ _ _
 refine AX (K6 (wp_call (Ac (A9 rfl (BO ⟨_,⟨ks,rfl,g,rfl⟩,?_⟩)))))
 rintro _ rfl
 refine AX (bU (i:=0) (PB fun b1=>Ci rfl ⟨true,A4,dx,[],a,[],rfl,rfl,ES,GH,by decide,Ai,?_⟩))
 rw [OV.Gx]
 show Ws [.ow true (.nd (.obj A4 dx ["puts_by_word"]) a [.nd (.Ap []) b1 []]),.is (.lst (ks.map EV)),.any] _ _ _
 refine AX (bU (i:=0) (PB fun b2=>Ci rfl ⟨true,A4,dx,_,a,_,rfl,rfl,ES,Ot,by decide,Ai,?_⟩))
 rw [OV.Gx]
 have l8:=g.l8
 refine EZ (fun _ i A8=>∃ (s2:Slot),A8=[.ow true (IC A4 dx a b1 b2 (ks.take i)),.is (.lst (ks.map EV)),s2]) ?_
 walk_at "ww"
 refine ⟨⟨_,rfl⟩,?_,?_⟩
 ·rintro i p A8 hp ⟨s2,rfl⟩
  rw [Ag] at hp
  obtain ⟨k,ex,rfl⟩:=Option.map_eq_some_iff.mp hp
  have hi:=(List.getElem?_eq_some_iff.mp ex).1
  have nk:k.w∉wk (ks.take i):=fun m=>by
   obtain ⟨j,hj,ej⟩:=Fu m
   rw [AE,C7] at hj
   rw [Oc,JK] at ej
   have q:=List.pairwise_iff_getElem.mp g.nd j i (by rw [AE];omega) (by rw [AE];exact hi) (by omega)
   refine q ?_
   rw [Oc,Oc,ej,(List.getElem?_eq_some_iff.mp ex).2]
  have DT:(wk (ks.take i)).Nodup:=by
   rw [show wk (ks.take i)=(wk ks).take i from Xl]
   exact g.nd.sublist (Xq _ _)
  refine FG ?_
  refine AX (Pu (i:=0) (t:=IC A4 dx a b1 b2 (ks.take i)) (EY (QB rfl (Bz (BW (BU rfl ⟨rfl,Aw ⟨_,_,rfl,rfl,_,.inl ⟨rfl,?_⟩⟩⟩))))))
  refine Zr (Ci rfl ⟨A4,dx,_,a,_,0,_,rfl,ES,GH,rfl,rfl,true,b1,_,_,rfl,rfl,by rw [AE,C7];omega,RZ DT,Ai,BW (BU rfl ⟨rfl,Aw ⟨_,_,rfl,rfl,.inr k.w,rfl,?_⟩⟩)⟩)
  rw [JL,Mc nk,Q6 nk]
  unfold IC
  rw [OV.KR (show _=some _ from rfl),OV.Gx]
  refine Pu (i:=0) (t:=.nd (.obj A4 dx G8) a [.nd (.Ap (BE (wk (ks.take i)++[k.w]))) b1 ((ks.take i).map (fun k=>.fz (.tup (k.ps.map B7)))++[.fz (.tup (k.ps.map B7))]),.nd (.Ap (BE (wk (ks.take i)))) b2 ((ks.take i).map fun k=>.fz (.bl k.g))]) (EY (BW (BU rfl ⟨rfl,Aw ⟨_,_,rfl,rfl,?_⟩⟩)))
  refine Zr (Ci rfl ⟨A4,dx,_,a,_,1,_,rfl,ES,Ot,by decide +kernel,rfl,true,b2,_,_,rfl,rfl,by rw [AE,C7];omega,RZ DT,Ai,BW (BU rfl ⟨rfl,Aw ⟨_,_,rfl,rfl,.inr k.w,rfl,?_⟩⟩)⟩)
  rw [JL,Mc nk,Q6 nk,OV.KR (show _=some _ from rfl),OV.Gx]
  refine ⟨.is (EV k),?_⟩
  rw [LW ex]
  simp only [wk,DE,BL,II]
  rfl
 ·rintro A8 ⟨s2,rfl⟩
  rw [AE,FL]
  exact ⟨_,_,_,_,rfl,rfl,rfl,b1,b2,rfl⟩
def LV:BN ["kinds", "handed", "book", "word", "puts", "goes"] ["kinds"] (Am Pa):=⟨rfl,rfl,rfl,by decide +kernel,rfl,by decide +kernel,by decide +kernel⟩
def oy:Scope:={ kind:=.function,names:=[(".0", .local),("word", .local),("puts", .local),("goes", .local),("list", .globalImplicit)],isGenerator:=false,isCoroutine:=false,more:=[] }
def kJ:GV ["kinds", "handed", "book", "word", "puts", "goes"] (Am Pa) oy ["word", "puts", "goes"] [] []:=⟨rfl,by decide +kernel,by decide +kernel,by decide +kernel,rfl,by decide +kernel,by decide +kernel,by decide +kernel,by decide +kernel⟩
def YD {A4:Addr}:∀ ss R,(VU A4) ss R->ss.length=1:=by rintro _ _ ⟨ks,rfl,_,rfl⟩;rfl
def sX {A4:Addr}(F:AQ K "_law_book" "_law_book" Pa f fd) (m:mg "_law_book" = some (.ref f)) (U2:WT P w K mg base A4 4 ["self", "kinds"] (D7 (Tc A4))) (D8:mg "list" = none) (U7:mg "Errands" = some (.ref A4)) :
  AB P w K mg base "_law_book" 6 ["kinds"] (AV (VU A4)):=by
 refine AB.mk F (F.binds (by walk_at "bD1")) m (F.BR (k:=5) LV (fun vs H Q E h=>Fz.CW YD h) (fun AZ A outer s H vs Q E hr h=>?_))
 refine ⟨_,(AI rfl (yh (i:=1) LV.nd rfl (Or.inl rfl) rfl kJ (.cons (.cons (.cons .nil))) (fun _=>rfl) (fun _=>rfl) (D6 (qv 0)) (fun _ _ _ _=>by exact Gp) (fun _ _ _ _=>by exact (Dl (A0 (qv 0) (A0 (GR (show C2 _ (.type "list") (Fz.eQ K) from Fz.xx) D8 (A0 (qv 1) A7)) (A0 (qv 2) A7))))))
   (AI rfl (Aq 2 LV.nd (vJ U2 hr (by decide) U7 (A0 (qv 1) A7)))
   (AI rfl (Co (E2 Dk rfl (qu (qv 1)) (Ye rfl (Nu (DN 3 LV.nd) (Nu (DN 4 LV.nd) (Nu (DN 5 LV.nd) aZ)))) (AL rfl (DY (HW GU Rw Rx N3 (qv 4) (A0 (Dl (A0 BF (A0 (qv 3) A7))) A7))))))
   (AI rfl (DY (Sy GU zl zo aN (qv 1)))
   (AL rfl (B1 (qv 2))))))),?_⟩
 refine Fz.CY h YD ?_
 rintro _ _ ⟨ks,rfl,g,rfl⟩
 show Ws [_,.any,.any,.any,.any,.any] _ _ _
 have l8:=g.l8
 refine AX (JC (ur (fun x u=>∃ (k:Kd) (b:Addr),x=k.P/\u=.tp [.fz (.str k.w),.nd .lst b ((k.ps.map B7).map .fz),.fz (.bl k.g)]) (Ef (E4 (A9 rfl ⟨_,.inl ⟨rfl,by rw [AE];omega,fun x hx=>?_,fun l us hl hG=>?_⟩⟩)))))
 ·obtain ⟨k,km,rfl⟩:=List.mem_map.mp hx
  refine ⟨_,rfl,rfl,HZ rfl,?_⟩
  refine Mo (Ed (EY (A9 rfl (Ed (ME (M4 rfl (BU rfl fun b=>Ed (EY (A9 rfl (N4 ⟨fun _ h=>absurd h Ai,fun _ h=>absurd h Ai,fun _ h=>absurd h Ai,by show 3<=100000;decide,rfl,k,b,rfl,rfl⟩))))))))))
 have Mb:∃ bs:List Addr,bs.length=ks.length/\us=DZ ks bs:=ZS hl hG
 obtain ⟨bs,lb,rfl⟩:=Mb
 show Ws [.is (.lst (ks.map Kd.P)),.ow false (.nd .lst l (DZ ks bs)),.any,.any,.any,.any] _ _ _
 refine AX (JC (nD ?_))
 show Wx [.is (.lst (ks.map Kd.P)),.is (OV.nd .lst l (DZ ks bs)).pv,.any,.any,.any,.any] _ _
 refine iT (yP (A9 rfl (JT fun x dx=>⟨_,⟨dx,x,ks,by rw [x9 ks bs l lb],g,rfl⟩,?_⟩)))
 rintro _ _ ⟨rfl,b1,b2,rfl⟩
 refine ⟨rfl,_,_,rfl,rfl,la _ _ _ _ _ _,?_⟩
 show Ws [.is (.lst (ks.map Kd.P)),.ow false (.nd .lst l (DZ ks bs)),.ow false (IC A4 dx x b1 b2 ks),.any,.any,.any] _ _ _
 refine P6 2 rfl ?_
 rw [rE]
 show Ws [.is (.lst (ks.map Kd.P)),.ow false (.nd .lst l (DZ ks bs)),.is (BC A4 ks),.any,.any,.any] _ _ _
 refine AX (Fh (jd (i:=1) (a0:=l) ks.length (fun n A8=>∃ (us:List OV) (s3 s4 s5:Slot),A8=[.is (.lst (ks.map Kd.P)),.ow false (.nd .lst l us),.is (BC A4 ks),s3,s4,s5]/\us.length=ks.length/\∀ (j:Nat) u,us[j]?=some u->∃ (k:Kd) (b:Addr) (qs:List PV),u=.tp [.fz (.str k.w),.nd .lst b (qs.map .fz),.fz (.bl k.g)]/\qs.length<=7/\(n<=j->qs.length<=6)) ⟨_,_,_,_,rfl,fA ks bs lb,fun j u hu=>?_⟩ (fun n A8 hn hI=>?_) ?_))
 ·obtain ⟨k,b,km,rfl⟩:=df ks bs lb hu
  have:=(g.ps k km).1
  exact ⟨k,b,_,rfl,by rw [AE];omega,fun _=>by rw [AE];exact this⟩
 ·obtain ⟨us,s3,s4,s5,rfl,hl,hu⟩:=hI
  refine ⟨false,us,rfl,hl,fun AN=>?_⟩
  obtain ⟨u,eu⟩:∃ u,us[n]?=some u:=⟨_,Ad (by omega)⟩
  obtain ⟨k,b,qs,rfl,h7,h6⟩:=hu n u eu
  have h6:=h6 (Ae _)
  refine ⟨_,eu,t5 ?_⟩
  show Ws [.is (.lst (ks.map Kd.P)),.ow false (.nd .lst l us),.is (BC A4 ks),.is (.str k.w),.raw (ptr b),.is (.bl k.g)] _ _ _
  have at':(OV.nd .lst l us).at [n,1]=some (.nd .lst b (qs.map .fz)):=by rw [OV.KU,eu];show OV.at _ [1]=_;rw [OV.L6];show OV.at _ []=_;rw [OV.Hv]
  refine ae (i:=1) (yg (j:=4) (p:=[n,1]) rfl rfl at' ⟨false,b,_,rfl,rfl,by rw [AE];omega,EY (JB (Dw (EK (Dw (A9 rfl (FO ⟨by show 2<=100000;decide,?_⟩))))))⟩)
  refine ⟨Ai,us.set n (.tp [.fz (.str k.w),.nd .lst b ((qs++[PV.tup [.str "first", .str k.w]]).map .fz),.fz (.bl k.g)]),.is (.str k.w),.raw (ptr b),.is (.bl k.g),?_,by rw [HG];exact hl,fun j u hj=>?_⟩
  ·rw [OV.KR eu,OV.LA (show _=some _ from rfl),OV.Gx,DE]
   rfl
  ·by_cases c:j=n
   ·subst c
    rw [CS (by omega)] at hj
    cases hj
    exact ⟨k,b,_,rfl,by rw [BK];show _+1<=_;omega,fun z=>by omega⟩
   ·rw [CB (Bi c)] at hj
    obtain ⟨k',b',oz,e,h1,h2⟩:=hu j u hj
    exact ⟨k',b',oz,e,h1,fun z=>h2 (by omega)⟩
 ·rintro A8 ⟨us,s3,s4,s5,rfl,hl,hu⟩
  refine AX (aW (i:=1) (Ci rfl ⟨false,l,us,rfl,rfl,?_⟩))
  exact GW (A9 rfl rfl)
def Nc:BN ["script", "k", "cell", "rest_here"] ["script", "k"] (Am SE):=⟨rfl,rfl,rfl,by decide +kernel,rfl,by decide +kernel,by decide +kernel⟩
def yy (F:AQ K "_law_pot" "_law_pot" SE f fd) (m:mg "_law_pot" = some (.ref f)) (BV:mg "len" = none) :
  AB P w K mg base "_law_pot" 1 ["script", "k"] (OE K):=by
 refine AB.mk F (F.binds (by walk_at "bD2")) m (F.BR (k:=0) Nc (fun vs H Q E h=>?_) (fun AZ A outer s H vs Q E hr h=>?_))
 ·obtain ⟨a,ns,k,rfl,hS,k0,k1,q⟩:=h;rfl
 obtain ⟨a,ns,k,rfl,hS,k0,k1,q⟩:=h
 refine ⟨_,(AI rfl (Aq 2 Nc.nd AA)
   (AI rfl (Co (BQ (BB Sr (qv 1) (Cc Q2 BV (A0 (qv 0) A7))) (AL rfl (Aq 2 Nc.nd (B4 Hg (AW CK (qv 0) (qv 1)) (B4 Kg (B4 Kg (B4 Kg (B4 M8 AA AA) (B4 M8 AA AA)) (B4 M8 AA AA)) (B4 M8 AA AA))))) BS))
   (AI rfl (Aq 3 Nc.nd AA)
   (AI rfl (Co (BQ (BB rZ (qv 2) (B4 M8 AA AA)) (AL rfl (Aq 3 Nc.nd (qv 2))) BS))
   (AL rfl (B1 (FC (A0 (qv 3) (A0 (B4 Hg (B4 Kg (B4 G0 (B4 G0 (B4 Hg (qv 2) AA) (B4 Kg AA (qv 1))) AA) AA) AA) A7))))))))),?_⟩
 have hl:(ns.map V.int).length=ns.length:=AE _
 refine ⟨fun σ' H'=>∃ c:Int,σ'=[some (.ref a),some (.int k),some (.int c),none]/\H=H'/\0<=c/\c < 10 ^ 256,?_,?_⟩
 ·refine ⟨_,rfl,_,rfl,a,_,rfl,.inl hS,_,_,rfl,rfl,_,rfl,?_⟩
  refine CT (fun c=>?_) (fun c=>?_)
  ·have c':k < (((ns.map V.int).length:Nat):Int):=of_decide_eq_true c
   rw [hl] at c'
   have hk:k.toNat < ns.length:=by omega
   have hv:B5 (ns.map V.int) k=some (.int ns[k.toNat]):=Ly k0 (by rw [Ag,Ad hk] <;> rfl)
   refine ⟨_,rfl,_,rfl,a,_,_,_,rfl,rfl,hS,hv,_,_,rfl,rfl,⟨by decide,by decide,by decide +kernel⟩,_,_,rfl,rfl,⟨by decide,by decide,by decide +kernel⟩,_,_,rfl,rfl,⟨by decide +kernel,by decide +kernel⟩,_,_,rfl,rfl,⟨by decide,by decide,by decide +kernel⟩,_,_,rfl,rfl,⟨by decide +kernel,by decide +kernel⟩,
    _,_,rfl,rfl,⟨by decide,by decide,by decide +kernel⟩,_,_,rfl,rfl,⟨by decide +kernel,by decide +kernel⟩,_,_,rfl,rfl,(by show (0:Int) < _;decide +kernel),?_⟩
   exact ⟨_,rfl,rfl,JI _ (by decide +kernel),Ko _ (by decide +kernel)⟩
  ·exact ⟨0,rfl,rfl,by decide,by decide +kernel⟩
 rintro σ' H' ⟨c,rfl,rfl,c0,c1⟩
 refine ⟨fun σ' H'=>∃ d:Int,σ'=[some (.ref a),some (.int k),some (.int c),some (.int d)]/\H=H'/\0<=d/\d < 10 ^ 256,?_,?_⟩
 ·refine ⟨_,rfl,_,_,rfl,rfl,⟨by decide,by decide,by decide +kernel⟩,_,_,rfl,rfl,_,rfl,?_⟩
  refine CT (fun _=>?_) (fun _=>?_)
  ·exact ⟨_,rfl,c,rfl,rfl,c0,c1⟩
  ·exact ⟨0,rfl,rfl,by decide,by decide +kernel⟩
 rintro σ' H' ⟨d,rfl,rfl,d0,d1⟩
 have e0:0<=c % 2147483629:=JI _ (by decide)
 have e1:c % 2147483629 < 2147483629:=Ko _ (by decide)
 refine ⟨_,rfl,_,rfl,_,_,rfl,rfl,(by show (0:Int) < 2147483629;decide),_,rfl,_,_,rfl,rfl,⟨by decide +kernel,MB (by omega) (by omega)⟩,_,_,rfl,rfl,_,_,rfl,rfl,_,_,rfl,rfl,⟨MB (by omega) (by omega),by decide +kernel⟩,_,_,rfl,rfl,(by show (0:Int) < 2147483647;decide),?_⟩
 refine ⟨(by show 2<=sizeLine;decide),fun p hp=>?_⟩
 exact q p _ hp (Cs hp _) ⟨d,_,Aa,d0,d1,JI _ (by decide),Ko _ (by decide)⟩
def YM:BN ["pot", "kinds", "many"] ["pot", "kinds"] (Am P5):=⟨rfl,rfl,rfl,by decide +kernel,rfl,by decide +kernel,by decide +kernel⟩
def jQ:Scope:={ kind:=.function,names:=[(".0", .local),("k", .local),("_law_take", .globalImplicit),("len", .globalImplicit),("kinds", .free),("pot", .free)],isGenerator:=false,isCoroutine:=false,more:=[] }
def hJ:DP ["pot", "kinds", "many"] (Am P5) jQ "k" ["kinds", "pot"] [1,0]:=⟨rfl,by decide +kernel,by decide +kernel,rfl,rfl,by decide +kernel,by decide +kernel,by decide +kernel,by decide +kernel⟩
def gL  : ∀ ss R,SK ss R->ss.length=2:=by rintro _ _ ⟨ks,rfl,_,rfl⟩;rfl
def kq (F:AQ K "_law_crowd" "_law_crowd" P5 f fd) (m:mg "_law_crowd" = some (.ref f)) (CN:AB P w K mg base "_law_take" 1 ["pot", "many"] (LO)) (BV:mg "len" = none) (DO:mg "range" = none) :
  AB P w K mg base "_law_crowd" 2 ["pot", "kinds"] (AV SK):=by
 refine AB.mk F (F.binds (by walk_at "bD2")) m (F.BR (k:=1) YM (fun vs H Q E h=>Fz.CW gL h) (fun AZ A outer s H vs Q E hr h=>?_))
 refine ⟨_,(AI rfl (Aq 2 YM.nd (AW B8 (Dl (A0 AA (A0 AA (A0 AA (A0 AA (A0 AA (A0 AA (A0 AA (A0 AA A7))))))))) (Aj CN hr (A0 (qv 0) (A0 AA A7)))))
   (AL rfl (B1 (I0 rfl hJ (LU rfl DO (A0 (qv 2) A7)) (fun _ _ _ _=>by exact Gp) (fun _ _ _ _=>by exact (AW (show Cz _ (EC K) from B8) (AW (show Cz _ (MF K) from CK) (qv 0) (Aj CN hr (A0 (qv 1) (A0 (Cc (show C2 _ (.builtin "len") (Nd K) from JF) BV (A0 (qv 0) A7)) A7)))) AA)))))),?_⟩
 refine Fz.CY h gL ?_
 rintro _ _ ⟨ks,rfl,g,rfl⟩
 show Ws [_,_,.any] _ _ _
 have l1:=g.l1
 have l8:=g.l8
 walk_at "ww"
 refine ⟨by decide,?_⟩
 walk_at "ww"
 refine ⟨by decide,by decide,fun t t0 t1=>?_⟩
 obtain ⟨z,e,hz⟩:=ra t0 t1
 refine ⟨_,_,rfl,e,?_⟩
 refine J0 (nh (fun _ p=>∃ c∈wk ks,p=.str c) ?_)
 walk_at "ww"
 rw [IF]
 refine ⟨by omega,by omega,by rw [Hd];omega,fun x hx=>HZ rfl,fun x hx=>?_,fun ys KA hP=>?_⟩
 ·walk_at "ww"
  rw [AE]
  refine ⟨by omega,by omega,fun q q0 q1=>?_⟩
  obtain ⟨qn,rfl⟩:=Xd q0
  have hq:qn < ks.length:=by omega
  refine ⟨_,_,rfl,Gn (by rw [Ag,Ad hq];rfl),_,.inr ⟨rfl,rfl,?_⟩⟩
  walk_at "ww"
  exact ⟨_,List.mem_map.mpr ⟨_,HE hq,rfl⟩,rfl⟩
 ·rw [Hd] at KA
  have all:∀ y∈ys,∃ c∈wk ks,y=.str c:=fun y hy=>by
   obtain ⟨q,hq,eq⟩:=Fu hy
   have h1:ys[q]?=some y:=by rw [Ad hq,eq]
   exact hP q _ y (Ad (show q < (Et z).length by rw [Hd];omega)) h1
  obtain ⟨cs,rfl,hc⟩:=T4 all
  exact ⟨cs,rfl,by rw [AE] at KA;omega,hc⟩
def sj:BN ["pot"] ["pot"] (Am Ug):=⟨rfl,rfl,rfl,by decide +kernel,rfl,by decide +kernel,by decide +kernel⟩
def fb  : ∀ ss R,UN ss R->ss.length=1:=by rintro _ _ ⟨rfl,rfl⟩;rfl
def lN (F:AQ K "_law_rule" "_law_rule" Ug f fd) (m:mg "_law_rule" = some (.ref f)) (CN:AB P w K mg base "_law_take" 1 ["pot", "many"] (LO)) :
  AB P w K mg base "_law_rule" 2 ["pot"] (AV UN):=by
 refine AB.mk F (F.binds (by walk_at "bD1")) m (F.BR (k:=1) sj (fun vs H Q E h=>Fz.CW fb h) (fun AZ A outer s H vs Q E hr h=>?_))
 refine ⟨_,(AL rfl (B1 (AW B8 (Dl (A0 BF (A0 BF (A0 BF A7)))) (Aj CN hr (A0 (qv 0) (A0 AA A7)))))),?_⟩
 refine Fz.CY h fb ?_
 rintro _ _ ⟨rfl,rfl⟩
 show Ws [_] _ _ _
 walk_at "ww"
 refine ⟨by decide,?_⟩
 walk_at "ww"
 refine ⟨by decide,by decide,fun t t0 t1=>?_⟩
 obtain ⟨r,hr,e⟩:=mi t0 t1
 exact ⟨_,_,rfl,e,r,hr,rfl⟩
def vg:BN ["rule"] ["rule"] (Am XD):=⟨rfl,rfl,rfl,by decide +kernel,rfl,by decide +kernel,by decide +kernel⟩
def dQ  : ∀ ss R,VL ss R->ss.length=1:=by rintro _ _ ⟨r,rfl,_,rfl⟩;rfl
def kM {Ih:Addr}(F:AQ K "check_rule" "check_rule" XD f fd) (m:mg "check_rule" = some (.ref f)) (WI:mg "RULES" = some (.ref Ih)) (SQ:∀ H,Ab K H Ih [.str "none", .str "ahead", .str "all"]) :
  AB P w K mg base "check_rule" 1 ["rule"] (AV VL):=by
 refine AB.mk F (F.binds (by walk_at "bD1")) m (F.BR (k:=0) vg (fun vs H Q E h=>Fz.CW dQ h) (fun AZ A outer s H vs Q E hr h=>?_))
 refine ⟨_,(AL rfl (BQ (BB Jw (qv 0) (ID (v:=.ref Ih) (by rfl) WI rfl)) (AL rfl IL) BS)),?_⟩
 refine Fz.CY h dQ ?_
 rintro _ _ ⟨r,rfl,hr,rfl⟩
 have C:Fg K Ih (DJ.map .str):=Fg.of SQ rfl rfl
 show Ws [_] _ _ _
 refine By (Bn (Px (neg:=true) C (A9 rfl ⟨r,rfl,_,rfl,?_⟩)))
 rw [decide_eq_true hr]
 exact Bm (by decide) (Bb ⟨_,rfl,rfl⟩)
def r8:BN ["self"] ["self"] (Am Wk):=⟨rfl,rfl,rfl,by decide +kernel,rfl,by decide +kernel,by decide +kernel⟩
def bf {A4:Addr}:∀ ss R,(LI A4) ss R->ss.length=1:=by rintro _ _ ⟨ks,rfl,_,rfl⟩;rfl
def iZ {A4:Addr}(F:AQ K "words" "Errands.words" Wk f fd) (mt:Meth K A4 "words" f) (D8:mg "list" = none) (ES:Dc K A4) (GH:Ez K A4 "puts_by_word") :
  Hq P w K mg base A4 "words" 1 ["self"] (AV (LI A4)):=by
 refine ⟨f,fd,F.BR (k:=0) r8 (fun vs H Q E h=>Fz.CW bf h) (fun AZ A outer s H vs Q E hr h=>?_),(F.binds (by walk_at "bD1")),mt,ES⟩
 refine ⟨_,(AL rfl (B1 (GR (vo rfl) D8 (A0 (OF (qv 0)) A7)))),?_⟩
 refine Fz.CY h bf ?_
 rintro _ _ ⟨ks,rfl,g,rfl⟩
 show Ws [_] _ _ _
 have l8:=g.l8
 refine J0 (vR (Xa (A9 rfl ⟨A4,G8,_,0,_,rfl,ES,GH,by decide +kernel,rfl,BE (wk ks),_,rfl,by unfold BE;rw [AE,AE];omega,kL _⟩)))
def fj:BN ["book", "crowd", "word"] ["book", "crowd"] (Am U1):=⟨rfl,rfl,rfl,by decide +kernel,rfl,by decide +kernel,by decide +kernel⟩
def cG {A4:Addr}:∀ ss R,(VQ A4) ss R->ss.length=2:=by rintro _ _ ⟨ks,tp,cs,rfl,_,_,_,rfl⟩;rfl
def ik {VD:Tok}{A4:Addr}(F:AQ K "check_crowd" "check_crowd" U1 f fd) (m:mg "check_crowd" = some (.ref f)) (Fd:Hq P w K mg base A4 "words" 1 ["self"] (AV (LI A4))) (HY:AB P w K mg base "check_word" 1 ["words", "word"] (AV NA)) (BV:mg "len" = none) (S9:mg "MOST_IN_CROWD" = some (.int 12 VD)) :
  AB P w K mg base "check_crowd" 2 ["book", "crowd"] (AV (VQ A4)):=by
 refine AB.mk F (F.binds (by walk_at "bD2")) m (F.BR (k:=1) fj (fun vs H Q E h=>Fz.CW cG h) (fun AZ A outer s H vs Q E hr h=>?_))
 refine ⟨_,(AI rfl (BQ (BB NV (Cc JF BV (A0 (qv 1) A7)) (ID (v:=.int 12) (by rfl) S9 ⟨_,rfl⟩)) (AL rfl IL) BS)
   (AL rfl (E2 Dk rfl (D6 (qv 1)) (DN 2 fj.nd) (AL rfl (DY (Aj HY hr (A0 (Qq Fd hr (by decide) (qv 0)) (A0 (qv 2) A7)))))))),?_⟩
 refine Fz.CY h cG ?_
 rintro _ _ ⟨ks,tp,cs,rfl,g,hz,hc,rfl⟩
 show Ws [_,_,.any] _ _ _
 have l8:=g.l8
 walk_at "ww"
 rw [AE]
 refine Bm (fun c=>by have:=of_decide_eq_true c;omega) (Bb ?_)
 refine EZ (fun _ i A8=>∃ (s2:Slot),A8=[.is (BC A4 ks),.sq tp (cs.map .str),s2]) ?_
 walk_at "ww"
 refine ⟨⟨_,rfl⟩,?_,?_⟩
 ·rintro i p A8 hp ⟨s2,rfl⟩
  rw [Ag] at hp
  obtain ⟨c,ex,rfl⟩:=Option.map_eq_some_iff.mp hp
  refine FG ?_
  refine K6 (wp_call (Ac (Bo (O7 (A9 rfl ⟨G8,_,rfl,by decide +kernel,BO ⟨_,⟨ks,rfl,g,rfl⟩,?_⟩⟩)))))
  rintro _ rfl
  refine Ac (A9 rfl (BO ⟨_,⟨wk ks,_,c,rfl,.inl rfl,by rw [AE];omega,hc c (CC ex),rfl⟩,?_⟩))
  rintro _ rfl
  exact ⟨_,rfl⟩
 ·rintro A8 ⟨s2,rfl⟩
  exact ⟨_,rfl,rfl⟩
def kQ:BN ["self", "word"] ["self", "word"] (Am VN):=⟨rfl,rfl,rfl,by decide +kernel,rfl,by decide +kernel,by decide +kernel⟩
def YB {A4:Addr}:∀ ss R,(XR A4) ss R->ss.length=2:=by rintro _ _ ⟨ks,x,rfl,_,_,rfl⟩;rfl
def uo {A4:Addr}(F:AQ K "puts" "Errands.puts" VN f fd) (mt:Meth K A4 "puts" f) (HY:AB P w K mg base "check_word" 1 ["words", "word"] (AV NA)) (D8:mg "list" = none) (ES:Dc K A4) (GH:Ez K A4 "puts_by_word") :
  Hq P w K mg base A4 "puts" 2 ["self", "word"] (AV (XR A4)):=by
 refine ⟨f,fd,F.BR (k:=1) kQ (fun vs H Q E h=>Fz.CW YB h) (fun AZ A outer s H vs Q E hr h=>?_),(F.binds (by walk_at "bD2")),mt,ES⟩
 refine ⟨_,(AI rfl (DY (Aj HY hr (A0 (OF (qv 0)) (A0 (qv 1) A7))))
   (AL rfl (B1 (GR Ln D8 (A0 (Mu (Eu hr) (OF (qv 0)) (qv 1) (fun _ _=>rfl)) A7))))),?_⟩
 refine Fz.CY h YB ?_
 rintro _ _ ⟨ks,x,rfl,g,hx,rfl⟩
 show Ws [_,_] _ _ _
 have l8:=g.l8
 obtain ⟨k,ek,_,ep,_,_⟩:=g.at hx
 refine AX (K6 (wp_call (Ac (Xa (A9 rfl ⟨A4,G8,_,0,_,rfl,ES,GH,by decide +kernel,rfl,Ac (A9 rfl (BO ⟨_,⟨wk ks,_,x,rfl,.inr ⟨_,rfl⟩,by rw [AE];omega,hx,rfl⟩,?_⟩))⟩)))))
 rintro _ rfl
 refine J0 (M4 rfl (Bz (NH (Xa (A9 rfl ⟨A4,G8,_,0,_,rfl,ES,GH,by decide +kernel,rfl,BE (wk ks),_,rfl,A9 rfl ⟨.inr x,_,rfl,MW hx (by rw [Ag,ek];rfl),_,.inr ⟨rfl,?_⟩⟩⟩)))))
 rw [ep]
def p9:BN ["book", "word", "rule"] ["book", "word", "rule"] (Am QF):=⟨rfl,rfl,rfl,by decide +kernel,rfl,by decide +kernel,by decide +kernel⟩
def rT:Scope:={ kind:=.function,names:=[(".0", .local),("put", .local),("WHERES_AHEAD", .globalImplicit),("rule", .free)],isGenerator:=false,isCoroutine:=false,more:=[] }
def xJ:DP ["book", "word", "rule"] (Am QF) rT "put" ["rule"] [2]:=⟨rfl,by decide +kernel,by decide +kernel,rfl,rfl,by decide +kernel,by decide +kernel,by decide +kernel,by decide +kernel⟩
def Y4 {A4:Addr}:∀ ss R,(LK A4) ss R->ss.length=3:=by rintro _ _ ⟨ks,x,r,rfl,_,_,_,rfl⟩;rfl
def qF {FD:Addr}{A4:Addr}(F:AQ K "comers_of" "comers_of" QF f fd) (m:mg "comers_of" = some (.ref f)) (TH:Hq P w K mg base A4 "puts" 2 ["self", "word"] (AV (XR A4))) (Kv:mg "WHERES_AHEAD" = some (.ref FD)) (Lk:∀ H,Ab K H FD [.str "next", .str "last"]) :
  AB P w K mg base "comers_of" 3 ["book", "word", "rule"] (AV (LK A4)):=by
 refine AB.mk F (F.binds (by walk_at "bD3")) m (F.BR (k:=2) p9 (fun vs H Q E h=>Fz.CW Y4 h) (fun AZ A outer s H vs Q E hr h=>?_))
 refine ⟨_,(AI rfl (BQ (BB Hy (qv 2) BF) (AL rfl (B1 (FC A7))) BS)
   (AL rfl (B1 (I0 rfl xJ (D6 (tG TH hr (by decide) (qv 0) (A0 (qv 1) A7))) (fun _ _ _ _=>by exact (Q4 (KH (BB Hy (qv 0) BF) (Lg (BB (show Ay _ (compareOp .In) (Iv K false) from Hh) (AW (show Cz _ (EC K) from B8) (qv 1) AA) (ID (v:=.ref FD) (by rfl) Kv rfl)))).pt)) (fun _ _ _ _=>by exact (qv 1)))))),?_⟩
 refine Fz.CY h Y4 ?_
 rintro _ _ ⟨ks,x,r,rfl,g,hx,hr,rfl⟩
 have C:Fg K FD (Kh.map .str):=Fg.of Lk rfl rfl
 show Ws [_,_,_] _ _ _
 have h6:=(g.Mg x).1
 walk_at "ww"
 refine CT (fun c=>?_) (fun c=>Bb ?_)
 ·have e:r = "none" := of_decide_eq_true c
  walk_at "ww"
  refine ⟨by decide,?_⟩
  unfold CG
  rw [if_pos e];rfl
 ·have e:¬ r = "none" := fun z=>c (decide_eq_true z)
  refine J0 (GX B7 (fun p=>decide (r = "all") || decide (p.1∈Kh)) B7 (Ef (E4 (Bo (O7 (A9 rfl ⟨G8,_,rfl,by decide +kernel,Ac (A9 rfl (BO ⟨_,⟨ks,x,rfl,g,hx,rfl⟩,?_⟩))⟩))))) TK)
  rintro _ rfl
  refine ⟨_,.inl ⟨rfl,G7 ks x,rfl,by omega,fun p hp=>?_,fun p hp _=>A9 rfl rfl,?_⟩⟩
  ·refine Jy (Bn (QK (A9 rfl (EK ⟨rfl,_,rfl,?_⟩))))
   show if decide (r = "all")=true then _ else _
   refine CT (fun c2=>by rw [c2];rfl) (fun c2=>?_)
   refine Bn (Px (neg:=false) C (BW (BU rfl ⟨rfl,Aw ⟨_,_,rfl,rfl,p.1,rfl,_,rfl,?_⟩⟩)))
   rw [Bool.eq_false_iff.mpr c2];rfl
  ·unfold CG
   rw [if_neg e]
def Ma:BN ["book", "rule", "way", "settled", "put", "first", "found"] ["book", "rule", "way", "settled"] (Am PH):=⟨rfl,rfl,rfl,by decide +kernel,rfl,by decide +kernel,by decide +kernel⟩
def eZ {n:Nat}{A4:Addr}:∀ ss R,(Jl A4 n) ss R->ss.length=4:=by rintro _ _ ⟨ks,r,V,x,L,a,rfl,_⟩;rfl
def sJ {A4:Addr}(n:Nat) (F:AQ K "ring_along" "ring_along" PH f fd) (m:mg "ring_along" = some (.ref f)) (Gh:AB P w K mg base "comers_of" 3 ["book", "word", "rule"] (AV (LK A4))) (O1:AB P w K mg base "ring_along" (4+n) ["book", "rule", "way", "settled"] (D7 (Jl A4 (n)))) :
  AB P w K mg base "ring_along" (4+n+1) ["book", "rule", "way", "settled"] (D7 (Jl A4 (n+1))):=by
 refine AB.mk F (F.binds (by walk_at "bD4")) m (F.BR (k:=4+n) Ma (fun vs H Q E h=>Fz.VW eZ h) (fun AZ A outer s H vs Q E hr h=>?_))
 refine ⟨_,(AI rfl (BQ (S7 (Eu hr) (AW CK (qv 2) (Nh MN AA)) (qv 3)) (AL rfl (B1 MC)) BS)
   (AI rfl (Co (E2 Dk rfl (D6 (Aj (hk:=by omega) Gh hr (A0 (qv 0) (A0 (AW CK (qv 2) (Nh MN AA)) (A0 (qv 1) A7))))) (DN 4 Ma.nd) (AI rfl (BQ (BB Hh (AW B8 (qv 4) AA) (qv 2)) (AI rfl (Aq 5 Ma.nd (HW GU gs zp Zp (qv 2) (A0 (AW B8 (qv 4) AA) A7)))
   (AL rfl (B1 (Dl (A0 (Ks Qy (qv 2) L9 (LH (B4 G0 (qv 5) AA))) (A0 (Ks Qy (qv 2) (LH (qv 5)) L9) A7)))))) BS)
   (AI rfl (Aq 6 Ma.nd (Aj (hk:=by omega) O1 hr (A0 (qv 0) (A0 (qv 1) (A0 (B4 Zh (qv 2) (FC (A0 (AW B8 (qv 4) AA) A7))) (A0 (qv 3) A7))))))
   (AL rfl (BQ (BB Vx (qv 6) MC) (AL rfl (B1 (qv 6))) BS))))))
   (AI rfl (Ol (Eu hr) (qv 3) (AW CK (qv 2) (Nh MN AA)) ER)
   (AL rfl (B1 MC))))),?_⟩
 refine Fz.pX h eZ ?_
 rintro _ R ⟨ks,r,V,x,L,a,rfl,g,hr,h9,nd,sub,ch,vL,tL,dO,sL,hR⟩
 show Ws [_,_,_,_,.any,.any,.any] _ _ _
 have l8:=g.l8
 have xw:x∈wk ks:=sub x (by simp)
 have lW:(V++[x]).length<=8:=by
  have:=Fo nd sub
  rw [AE] at this;omega
 have no:∀ {L'},D4 (AM ks r) (n+1) (V++[x]) L=(L',none)->R=.mt (fun p t'=>p=.A5/\t'=KY a L'/\Top (AM ks r) L'/\L'.Nodup/\(∀ y∈L',y∈wk ks)/\(∀ y∈L,y∈L')/\(∀ y∈V,y∉L')/\x∈L'):=fun {L'} h=>by
  rcases hR with ⟨L2,e,eR⟩ | ⟨L2,W,i,e,eR⟩
  ·rw [h] at e;cases e;exact eR
  ·rw [h] at e;cases e
 have yes:∀ {L' W i},D4 (AM ks r) (n+1) (V++[x]) L=(L',some (W,i))->R=.ow (fun u=>∃ b c,u=Er W i b c/\(V++[x]) <+: W/\Jf (AM ks r) (wk ks) W i):=fun {L' W i} h=>by
  rcases hR with ⟨L2,e,eR⟩ | ⟨L2,W,i,e,eR⟩
  ·rw [h] at e;cases e
  ·rw [h] at e;cases e;exact eR
 have lst:∀ {ss:List Slot}{k:PV->Prop},ss[2]?=some (.is (.lst ((V++[x]).map .str)))->k (.str x)->Wp ss (BH (MF K) (BM 2) (Qx (rU fun i=>.int (-i)) (tC (.int 1)))) k:=fun h hk=>FY (C9 h ⟨rfl,RF (Aw ⟨_,rfl,_,_,rfl,Zq V x,hk⟩)⟩)
 refine AX (By (G4 (aQ (lst rfl (Ci (i:=3) rfl ⟨BE L,a,_,.inr x,rfl,rfl,_,rfl,?_⟩)))))
 rw [Mh]
 refine CT (fun c=>?_) (fun c=>Bb ?_)
 ·have c:=of_decide_eq_true c
  rw [no (k6 c)]
  exact Zg (i:=3) rfl (Gq ⟨rfl,rfl,tL,dO,sL,fun y h=>h,vL,c⟩)
 have hx:x∉L:=fun z=>c (decide_eq_true z)
 refine AX (Fh (EZ (fun xs i A8=>∃ (L':List Str) (s4 s5 s6:Slot),A8=[.is (BC A4 ks),.is (.str r),.is (.lst ((V++[x]).map .str)),.ow true (KY a L'),s4,s5,s6]/\Top (AM ks r) L'/\L'.Nodup/\(∀ y∈L',y∈wk ks)/\(∀ y∈L,y∈L')/\(∀ y∈V++[x],y∉L')/\(∀ p∈(CG ks r x).take i,p.2∈L')/\EL (D4 (AM ks r) n) (V++[x]) (AM ks r x) L=EL (D4 (AM ks r) n) (V++[x]) ((AM ks r x).drop i) L') (Ef (E4 (Bo (Gj (Ac (A9 rfl (Ac (lst rfl (Ac (A9 rfl (BO ⟨_,⟨ks,x,r,rfl,g,xw,hr,rfl⟩,?_⟩)))))))))))))
 rintro _ rfl
 refine ⟨_,.inl ⟨rfl,⟨L,_,_,_,rfl,tL,dO,sL,fun y h=>h,fun y hy=>?_,fun p hp=>absurd hp (by simp),rfl⟩,?_,?_⟩⟩
 ·rcases List.mem_append.mp hy with h | h
  ·exact vL y h
  ·rw [List.mem_singleton.mp h];exact hx
 ·rintro i q A8 hq ⟨L',s4,s5,s6,rfl,Hk,Dn,Gb,FK,nV,Ck,eF⟩
  rw [Ag] at hq
  obtain ⟨p,ep,rfl⟩:=Option.map_eq_some_iff.mp hq
  have pm:=CC ep
  have pn:p.2∈AM ks r x:=List.mem_map.mpr ⟨p,pm,rfl⟩
  have en:(AM ks r x)[i]?=some p.2:=by unfold AM;rw [Ag,ep];rfl
  have pS:=(List.getElem?_eq_some_iff.mp en).1
  have ed:(AM ks r x).drop i=p.2 :: (AM ks r x).drop (i+1):=by
   rw [Xf pS,(List.getElem?_eq_some_iff.mp en).2]
  rw [ed] at eF
  refine FG ?_
  refine AX (By (Bn (Lx (BW (BU rfl ⟨rfl,Aw ⟨_,_,rfl,rfl,p.2,rfl,C9 rfl ⟨V++[x],rfl,_,rfl,?_⟩⟩⟩)))))
  refine CT (fun c=>?_) (fun c=>Bb ?_)
  ·have hp:=of_decide_eq_true c
   have hi:=List.idxOf_lt_length_iff.mpr hp
   rw [rL hp] at eF
   rw [yes (ZK hx eF)]
   refine AX (GL (Uk (C9 rfl ⟨rfl,V++[x],rfl,BW (BU rfl ⟨rfl,Aw ⟨_,_,rfl,rfl,p.2,rfl,hp,?_⟩⟩)⟩)))
   refine Lu (Mo (Ed (ME (P8 (C9 rfl ⟨rfl,PK (R7 (Su (A9 rfl ⟨_,rfl,Aw ⟨_,rfl,_,rfl,fun b=>?_⟩⟩)))⟩)))))
   refine Ed (ME (P8 (C9 rfl ⟨rfl,R7 (A9 rfl ⟨_,rfl,PK fun c=>N4 ⟨fun _ h=>absurd h Ai,fun _ h=>absurd h Ai,by show 2<=100000;decide,b,c,?_,List.prefix_refl _,nd,ch,sub,p.2,x,?_,?_,pn⟩⟩)⟩)))
   ·rw [Oj,Oj]
    unfold Er
    rw [show Cu (V++[x]) none (some (((V++[x]).idxOf p.2:Nat)+1:Int))=(V++[x]).take ((V++[x]).idxOf p.2+1) from Yk (V++[x]) _,show Cu (V++[x]) (some (((V++[x]).idxOf p.2:Nat):Int)) none=(V++[x]).drop ((V++[x]).idxOf p.2) from qX (V++[x]) _]
   ·rw [Ad hi,IG hi]
   ·simp
  ·have hp:p.2∉V++[x]:=fun z=>c (decide_eq_true z)
   have eG:∀ y∈V++[x]++[p.2],y∈wk ks:=fun y hy=>by
    rcases List.mem_append.mp hy with h | h
    ·exact sub y h
    ·rw [List.mem_singleton.mp h];exact g.X0 pn
   rcases two (D4 (AM ks r) n (V++[x]++[p.2]) L') with ⟨L2,e2⟩ | ⟨L2,⟨W,j⟩,e2⟩
   ·rw [iB hp e2] at eF
    refine AX (dq (i:=3) (R9 rfl (DX (A9 rfl (DX (A9 rfl (DX (Bo (PL (C9 rfl ⟨rfl,Bz (Bo (Jv (Dw (BW (BU rfl ⟨rfl,Aw ⟨_,_,rfl,rfl,FO ⟨by show 1<=100000;decide,?_⟩⟩⟩)))))⟩))))))))))
    refine ⟨_,.inl ⟨rfl,rfl,by rw [AE];show _+1<=_;omega,La rfl (JT ⟨_,⟨ks,r,V++[x],p.2,L',a,by rw [DE (l₁:=V++[x])];rfl,g,hr,by rw [BK,IH];omega,Hm nd hp,eG,ch.snoc pn,nV,Hk,Dn,Gb,.inl ⟨L2,e2,rfl⟩⟩,?_⟩)⟩⟩
    rintro _ _ ⟨rfl,rfl,VC,DM,VZ,HR,ZX,p2⟩
    refine ⟨_,_,rfl,?_⟩
    refine By (Bn (L7 (A9 rfl (Gq ⟨rfl,_,rfl,Bm (by decide) (Bb ⟨L2,_,_,_,rfl,VC,DM,VZ,fun y h=>HR y (FK y h),ZX,fun z hz=>?_,eF⟩)⟩))))
    rw [LW ep] at hz
    rcases List.mem_append.mp hz with h | h
    ·exact HR _ (Ck z h)
    ·rw [List.mem_singleton.mp h];exact p2
   ·rw [mC hp e2] at eF
    rw [yes (ZK hx eF)]
    refine AX (bB 3 rfl (DX (A9 rfl (DX (A9 rfl (DX (Bo (PL (C9 rfl ⟨rfl,Bz (Bo (Jv (Dw (BW (BU rfl ⟨rfl,Aw ⟨_,_,rfl,rfl,FO ⟨by show 1<=100000;decide,?_⟩⟩⟩)))))⟩)))))))))
    refine ⟨_,.inl ⟨rfl,rfl,by rw [AE];show _+1<=_;omega,La rfl (JT ⟨_,⟨ks,r,V++[x],p.2,L',a,by rw [DE (l₁:=V++[x])];rfl,g,hr,by rw [BK,IH];omega,Hm nd hp,eG,ch.snoc pn,nV,Hk,Dn,Gb,.inr ⟨L2,W,j,e2,rfl⟩⟩,?_⟩)⟩⟩
    rintro _ ⟨b,c,rfl,pre,rg⟩
    show Ws [.is (BC A4 ks),.is (.str r),.is (.lst ((V++[x]).map .str)),.any,.is (B7 p),s5,.ow false (Er W j b c)] _ _ _
    refine By (NO ?_)
    rw [show List.map DG _=[.is (BC A4 ks),.is (.str r),.is (.lst ((V++[x]).map .str)),.any,.is (B7 p),DG s5,.is (Er W j b c).pv] from rfl,Tj]
    refine Bn (L7 (A9 rfl (Gq ⟨rfl,_,rfl,Ji rfl ?_⟩)))
    exact Lu (X8 rfl ⟨b,c,rfl,(List.prefix_append _ _).trans pre,rg⟩)
 ·rintro A8 ⟨L',s4,s5,s6,rfl,Hk,Dn,Gb,FK,nV,Ck,eF⟩
  rw [AE,FL] at Ck
  rw [AE,show (AM ks r x).drop (CG ks r x).length=[] from Xg (by unfold AM;rw [AE];exact Ae _),xP] at eF
  have Hc:x∉L':=nV x (by simp)
  have l3:=Fo Dn Gb
  rw [AE] at l3
  rw [no (yB hx eF)]
  refine AX (Pu (i:=3) (EY (Lz (Ci rfl ⟨true,a,BE L',_,rfl,rfl,by rw [AE];omega,RZ Dn,Ai,lst rfl ⟨.inr x,rfl,?_⟩⟩))))
  rw [OV.Gx,Mc Hc,Q6 Hc]
  refine Zg (i:=3) rfl (Gq ⟨rfl,?_,Hk.snoc fun y hy=>?_,Hm Dn Hc,fun y hy=>?_,fun y hy=>by simp [FK y hy],fun y hy m=>?_,by simp⟩)
  ·unfold KY;rw [DE];rfl
  ·obtain ⟨p,hp,rfl⟩:=List.mem_map.mp hy
   exact Ck p hp
  ·rcases List.mem_append.mp hy with h | h
   ·exact Gb y h
   ·rw [List.mem_singleton.mp h];exact xw
  ·rcases List.mem_append.mp m with h | h
   ·exact nV y (by simp [hy]) h
   ·rw [List.mem_singleton.mp h] at hy
    exact (List.nodup_append.mp nd).2.2 x hy x (by simp) rfl
def sP {A4:Addr}(F:AQ K "ring_along" "ring_along" PH f fd) (m:mg "ring_along" = some (.ref f)) (Gh:AB P w K mg base "comers_of" 3 ["book", "word", "rule"] (AV (LK A4))):AB P w K mg base "ring_along" 13 ["book", "rule", "way", "settled"] (D7 (Jl A4 9)):=by
 have z:∀ n:Nat,AB P w K mg base "ring_along" (4+n) ["book", "rule", "way", "settled"] (D7 (Jl A4 (n))):=fun n=>by
  induction n with
  | zero=>exact AB.mk F (F.binds (by walk_at "bD4")) m (F.BR (k:=3) Ma (fun vs H Q E h=>(Fz.R5 (dD) h).elim) (fun AZ A outer s H vs Q E hr h=>(Fz.R5 (dD) h).elim))
  | succ n ih=>exact sJ (A4:=A4) n F m Gh ih
 exact z 9
def PN:BN ["book", "crowd", "rule", "settled", "word", "found"] ["book", "crowd", "rule"] (Am V5):=⟨rfl,rfl,rfl,by decide +kernel,rfl,by decide +kernel,by decide +kernel⟩
def YT {A4:Addr}:∀ ss R,(Ul A4) ss R->ss.length=3:=by rintro _ _ ⟨ks,tp,cs,r,rfl,_⟩;rfl
def qm {A4:Addr}(F:AQ K "way_and_ring" "way_and_ring" V5 f fd) (m:mg "way_and_ring" = some (.ref f)) (O1:AB P w K mg base "ring_along" 13 ["book", "rule", "way", "settled"] (D7 (Jl A4 9))) :
  AB P w K mg base "way_and_ring" 14 ["book", "crowd", "rule"] (AV (Ul A4)):=by
 refine AB.mk F (F.binds (by walk_at "bD3")) m (F.BR (k:=13) PN (fun vs H Q E h=>Fz.CW YT h) (fun AZ A outer s H vs Q E hr h=>?_))
 refine ⟨_,(AI rfl (Aq 3 PN.nd Rc)
   (AI rfl (Co (E2 Dk rfl (D6 (qv 1)) (DN 4 PN.nd) (AI rfl (Aq 5 PN.nd (Aj O1 hr (A0 (qv 0) (A0 (qv 2) (A0 (FC (A0 (qv 4) A7)) (A0 (qv 3) A7))))))
   (AL rfl (BQ (BB Vx (qv 5) MC) (AL rfl (B1 (qv 5))) BS)))))
   (AL rfl (B1 MC)))),?_⟩
 refine Fz.CY h YT ?_
 rintro _ R ⟨ks,tp,cs,r,rfl,g,hr,hz,hc,hR⟩
 show Ws [_,_,_,.any,.any,.any] _ _ _
 have no:E7 (AM ks r) 9 cs []=none->R=.is (fun p=>p=.A5/\∃ L,Top (AM ks r) L/\L.Nodup/\(∀ y∈L,y∈wk ks)/\∀ c∈cs,c∈L):=fun h=>by
  rcases hR with ⟨e,eR⟩ | ⟨W,i,e,eR⟩
  ·exact eR
  ·rw [h] at e;cases e
 have yes:∀ {W i},E7 (AM ks r) 9 cs []=some (W,i)->R=.ow (fun u=>∃ b c x,u=Er W i b c/\Jf (AM ks r) (wk ks) W i/\W[0]?=some x/\x∈cs):=fun {W i} h=>by
  rcases hR with ⟨e,eR⟩ | ⟨W,i,e,eR⟩
  ·rw [h] at e;cases e
  ·rw [h] at e;cases e;exact eR
 refine AX (JC (PB fun a=>?_))
 show Ws [_,_,_,.ow false (KY a []),.any,.any] _ _ _
 refine AX (Fh (EZ (fun xs i A8=>∃ (L':List Str) (s4 s5:Slot),A8=[.is (BC A4 ks),.sq tp (cs.map .str),.is (.str r),.ow false (KY a L'),s4,s5]/\Top (AM ks r) L'/\L'.Nodup/\(∀ y∈L',y∈wk ks)/\(∀ y∈cs.take i,y∈L')/\E7 (AM ks r) 9 cs []=E7 (AM ks r) 9 (cs.drop i) L') ?_))
 walk_at "ww"
 refine ⟨⟨[],_,_,rfl,Top.nil,MJ,fun y hy=>absurd hy Ai,fun y hy=>absurd hy (by simp),rfl⟩,?_,?_⟩
 ·rintro i q A8 hq ⟨L',s4,s5,rfl,Hk,Dn,Gb,Ck,eF⟩
  rw [Ag] at hq
  obtain ⟨c,ec,rfl⟩:=Option.map_eq_some_iff.mp hq
  have cm:=CC ec
  rw [Xf (List.getElem?_eq_some_iff.mp ec).1,(List.getElem?_eq_some_iff.mp ec).2] at eF
  have Z6:∀ y∈[]++[c],y∈wk ks:=fun y hy=>by rw [JL,List.mem_singleton] at hy;rw [hy];exact hc c cm
  refine FG ?_
  rcases two (D4 (AM ks r) 9 ([]++[c]) L') with ⟨L2,e2⟩ | ⟨L2,⟨W,j⟩,e2⟩
  ·rw [xb e2] at eF
   refine AX (dq (i:=3) (R9 rfl (DX (A9 rfl (DX (A9 rfl (DX (Bo (Jv (Dw (A9 rfl (FO ⟨by show 1<=100000;decide,?_⟩))))))))))))
   refine La rfl (JT ⟨_,⟨ks,r,[],c,L',a,rfl,g,hr,by decide,by simp,Z6,EI.one c,fun y hy=>absurd hy Ai,Hk,Dn,Gb,.inl ⟨L2,e2,rfl⟩⟩,?_⟩)
   rintro _ _ ⟨rfl,rfl,VC,DM,VZ,HR,ZX,p2⟩
   refine ⟨_,_,rfl,?_⟩
   refine By (Bn (L7 (A9 rfl (Gq ⟨rfl,_,rfl,Bm (by decide) (Bb ⟨L2,_,_,rfl,VC,DM,VZ,fun z hz=>?_,eF⟩)⟩))))
   rw [LW ec] at hz
   rcases List.mem_append.mp hz with h | h
   ·exact HR _ (Ck z h)
   ·rw [List.mem_singleton.mp h];exact p2
  ·rw [l9 e2] at eF
   rw [yes eF]
   refine AX (bB 3 rfl (DX (A9 rfl (DX (A9 rfl (DX (Bo (Jv (Dw (A9 rfl (FO ⟨by show 1<=100000;decide,?_⟩)))))))))))
   refine La rfl (JT ⟨_,⟨ks,r,[],c,L',a,rfl,g,hr,by decide,by simp,Z6,EI.one c,fun y hy=>absurd hy Ai,Hk,Dn,Gb,.inr ⟨L2,W,j,e2,rfl⟩⟩,?_⟩)
   rintro _ ⟨b,d,rfl,pre,rg⟩
   show Ws [.is (BC A4 ks),.sq tp (cs.map .str),.is (.str r),.any,.is (.str c),.ow false (Er W j b d)] _ _ _
   refine By (NO ?_)
   rw [show List.map DG _=[.is (BC A4 ks),.sq tp (cs.map .str),.is (.str r),.any,.is (.str c),.is (Er W j b d).pv] from rfl,Tj]
   refine Bn (L7 (A9 rfl (Gq ⟨rfl,_,rfl,Ji rfl ?_⟩)))
   obtain ⟨W2,eW⟩:=pre
   refine Lu (X8 rfl ⟨b,d,c,rfl,rg,?_,cm⟩)
   rw [<- eW];rfl
 ·rintro A8 ⟨L',s4,s5,rfl,Hk,Dn,Gb,Ck,eF⟩
  rw [AE,FL] at Ck
  rw [AE,gU,uI] at eF
  rw [no eF]
  exact GW (Gq ⟨rfl,L',Hk,Dn,Gb,Ck⟩)
def o9:BN ["many", "length"] ["many", "length"] (Am RD):=⟨rfl,rfl,rfl,by decide +kernel,rfl,by decide +kernel,by decide +kernel⟩
def uF:Scope:={ kind:=.function,names:=[(".0", .local),("number", .cell),("sum", .globalImplicit),("many", .free)],isGenerator:=false,isCoroutine:=false,more:=[] }
def ke:Scope:={ kind:=.function,names:=[(".0", .local),("counts", .local),("number", .free)],isGenerator:=false,isCoroutine:=false,more:=[] }
def iF:LX ["many", "length"] (Am RD) uF "number" ["many"] [0]:=⟨rfl,by decide +kernel,rfl,by decide +kernel,fun _ _=>rfl,fun _=>rfl,rfl,by decide +kernel,by decide +kernel,by decide +kernel,by decide +kernel⟩
def pM:Scope:={ kind:=.function,names:=[(".0", .local),("number", .cell),("sum", .globalImplicit),("many", .cell)],isGenerator:=false,isCoroutine:=false,more:=[] }
def kF:DP ["many", "number"] pM ke "counts" ["number"] [1]:=⟨rfl,by decide +kernel,by decide +kernel,rfl,rfl,by decide +kernel,by decide +kernel,by decide +kernel,by decide +kernel⟩
def YR  : ∀ ss R,Pb ss R->ss.length=2:=by rintro _ _ ⟨cs,n,rfl,_,_,_,rfl⟩;rfl
def pD (F:AQ K "sums_of" "sums_of" RD f fd) (m:mg "sums_of" = some (.ref f)) (DO:mg "range" = none) (SN:mg "sum" = none) :
  AB P w K mg base "sums_of" 1 ["many", "length"] (AV Pb):=by
 refine AB.mk F (F.binds (by walk_at "bD2")) m (F.BR (k:=0) o9 (fun vs H Q E h=>Fz.CW YR h) (fun AZ A outer s H vs Q E hr h=>?_))
 refine ⟨_,(AL rfl (B1 (hU rfl iF (LU rfl DO (A0 (qv 1) A7)) (fun _ _ _ _=>by exact Gp) (fun _ _ _ _=>by exact (Cc (show C2 _ (.builtin "sum") (Vr K) from kI rfl) SN (A0 (I0 rfl kF (show QI _ _ _ (QJ K _) from D6 (qv 0)) (fun _ _ _ _=>by exact Gp) (fun _ _ _ _=>by exact (AW (show Cz _ (EC K) from B8) (qv 1) (qv 0)))) A7)))))),?_⟩
 refine Fz.CY h YR ?_
 rintro _ _ ⟨cs,n,rfl,hn,hc,hl,rfl⟩
 show Ws [_,_] _ _ _
 refine J0 (GX (fun k:Nat=>PV.int (k:Int)) (fun _=>true) (fun j=>PV.int (cs.map fun c=>c.getD j 0).sum) (eJ (A9 rfl ⟨_,rfl,by omega,by omega,List.range n,by rw [IF];rfl,by rw [Rn];omega,fun k _=>HZ rfl,fun k hk _=>?_,?_⟩)) (fun a b e=>by injection e with e;omega))
 ·have hk:=List.mem_range.mp hk
  refine ki (Bz (Bo (GX (fun c:List Int=>PV.tup (c.map .int)) (fun _=>true) (fun c=>PV.int (c.getD k 0)) (Ef (E4 (A9 rfl ⟨_,.inl ⟨rfl,cs,rfl,by omega,fun c _=>HZ rfl,fun c bu _=>?_,?_⟩⟩))) (fun a b e=>by injection e with e;exact Zl e))))
  ·refine BW (BU rfl ⟨rfl,A9 rfl ⟨_,_,rfl,Gn (by rw [Ag,Ad (show k < c.length by have:=hl c bu;omega)];rfl),?_⟩⟩)
   rw [Kp,Ad (show k < c.length by have:=hl c bu;omega)];rfl
  ·rw [List.filter_eq_self.mpr fun _ _=>rfl]
   exact ⟨_,.inl ⟨rfl,rfl,cs.map fun c=>c.getD k 0,by rw [DF];rfl,rfl⟩⟩
 ·rw [List.filter_eq_self.mpr fun _ _=>rfl,DF]
  rfl
def aL:BN ["put", "known", "rounds"] ["put", "known"] (Am UK):=⟨rfl,rfl,rfl,by decide +kernel,rfl,by decide +kernel,by decide +kernel⟩
def Y8  : ∀ ss R,Qs ss R->ss.length=2:=by rintro _ _ ⟨ks,r,M,p,rfl,_,rfl⟩;rfl
def vK {FD:Addr}(F:AQ K "rounds_to" "rounds_to" UK f fd) (m:mg "rounds_to" = some (.ref f)) (Kv:mg "WHERES_AHEAD" = some (.ref FD)) (Lk:∀ H,Ab K H FD [.str "next", .str "last"]) :
  AB P w K mg base "rounds_to" 1 ["put", "known"] (AV Qs):=by
 refine AB.mk F (F.binds (by walk_at "bD2")) m (F.BR (k:=0) aL (fun vs H Q E h=>Fz.CW Y8 h) (fun AZ A outer s H vs Q E hr h=>?_))
 refine ⟨_,(AI rfl (Aq 2 aL.nd (AW B8 (Mu (Eu hr) (qv 1) (AW B8 (qv 0) AA) (fun _ _=>rfl)) AA))
   (AI rfl (BQ (BB Hh (AW B8 (qv 0) AA) (ID (v:=.ref FD) (by rfl) Kv rfl)) (AL rfl (B1 (qv 2))) BS)
   (AL rfl (B1 (B4 G0 (qv 2) AA))))),?_⟩
 refine Fz.CY h Y8 ?_
 rintro _ _ ⟨ks,r,M,p,rfl,hp,rfl⟩
 have C:Fg K FD (Kh.map .str):=Fg.of Lk rfl rfl
 show Ws [_,_,.any] _ _ _
 have hi:=List.idxOf_lt_length_iff.mpr hp
 have ev:HC (BE M) (M.map (Il ks r)) (.inr p.2)=some (Il ks r p.2):=MW hp (by rw [Ag,Ad hi,IG hi];rfl)
 refine AX (GL (BW (Bz (NH (A9 rfl ⟨BE M,_,rfl,BW (BU rfl ⟨rfl,Aw ⟨_,_,rfl,rfl,.inr p.2,_,rfl,ev,_,.inr ⟨rfl,rfl,Aw ⟨_,_,rfl,rfl,?_⟩⟩⟩⟩)⟩)))))
 refine AX (By (Bn (Px (neg:=false) C (BW (BU rfl ⟨rfl,Aw ⟨_,_,rfl,rfl,p.1,rfl,_,rfl,?_⟩⟩)))))
 refine CT (fun c=>?_) (fun c=>Bb ?_)
 ·refine GW (A9 rfl ?_)
  unfold J5
  rw [if_pos (of_decide_eq_true c)]
 ·walk_at "ww"
  unfold J5
  rw [if_neg (fun z=>c (decide_eq_true z))]
def N6:BN ["book", "word", "rule", "known", "comers", "put", "counts"] ["book", "word", "rule", "known"] (Am Lj):=⟨rfl,rfl,rfl,by decide +kernel,rfl,by decide +kernel,by decide +kernel⟩
def sg:Scope:={ kind:=.function,names:=[(".0", .local),("put", .local),("known", .free)],isGenerator:=false,isCoroutine:=false,more:=[] }
def nv:DP ["book", "word", "rule", "known", "comers", "put", "counts"] (Am Lj) sg "put" ["known"] [3]:=⟨rfl,by decide +kernel,by decide +kernel,rfl,rfl,by decide +kernel,by decide +kernel,by decide +kernel,by decide +kernel⟩
def sQ:Scope:={ kind:=.function,names:=[(".0", .local),("put", .local),("rounds_to", .globalImplicit),("known", .free)],isGenerator:=false,isCoroutine:=false,more:=[] }
def uv:DP ["book", "word", "rule", "known", "comers", "put", "counts"] (Am Lj) sQ "put" ["known"] [3]:=⟨rfl,by decide +kernel,by decide +kernel,rfl,rfl,by decide +kernel,by decide +kernel,by decide +kernel,by decide +kernel⟩
def fQ {n:Nat}{A4:Addr}:∀ ss R,(Jt A4 n) ss R->ss.length=4:=by rintro _ _ ⟨ks,x,r,T,i,M,a,rfl,_,_,_,_,_,_,_,_,_,_,rfl⟩;rfl
def wZ {A4:Addr}(n:Nat) (F:AQ K "reckon" "reckon" Lj f fd) (m:mg "reckon" = some (.ref f)) (Fd:Hq P w K mg base A4 "words" 1 ["self"] (AV (LI A4))) (Gh:AB P w K mg base "comers_of" 3 ["book", "word", "rule"] (AV (LK A4))) (O4:AB P w K mg base "reckon" (4+n) ["book", "word", "rule", "known"] (D7 (Jt A4 (n)))) (NN:AB P w K mg base "rounds_to" 1 ["put", "known"] (AV Qs)) (MU:AB P w K mg base "sums_of" 1 ["many", "length"] (AV Pb)) (BV:mg "len" = none) (GN:mg "max" = none) (Dt:mg "tuple" = none) :
  AB P w K mg base "reckon" (4+n+1) ["book", "word", "rule", "known"] (D7 (Jt A4 (n+1))):=by
 refine AB.mk F (F.binds (by walk_at "bD4")) m (F.BR (k:=4+n) N6 (fun vs H Q E h=>Fz.VW fQ h) (fun AZ A outer s H vs Q E hr h=>?_))
 refine ⟨_,(AI rfl (BQ (S7 (Eu hr) (qv 1) (qv 3)) (AL rfl jH) BS)
   (AI rfl (Aq 4 N6.nd (Aj (hk:=by omega) Gh hr (A0 (qv 0) (A0 (qv 1) (A0 (qv 2) A7)))))
   (AI rfl (Co (E2 Dk rfl (D6 (qv 4)) (DN 5 N6.nd) (AL rfl (DY (Aj (hk:=by omega) O4 hr (A0 (qv 0) (A0 (AW B8 (qv 5) AA) (A0 (qv 2) (A0 (qv 3) A7)))))))))
   (AI rfl (Aq 6 N6.nd (Aj (hk:=by omega) MU hr (A0 (I0 rfl nv (D6 (qv 4)) (fun _ _ _ _=>by exact Gp) (fun _ _ _ _=>by exact (AW (show Cz _ (EC K) from B8) (Mu (Eu hr) (qv 0) (AW (show Cz _ (EC K) from B8) (qv 1) AA) (fun _ _=>rfl)) AA))) (A0 (Cc JF BV (A0 (Qq Fd hr (by omega) (qv 0)) A7)) A7))))
   (AI rfl (vt (qv 6) (HW GU gs zp Zp (Qq Fd hr (by omega) (qv 0)) (A0 (qv 1) A7)) AA i5)
   (AL rfl (Ol (Eu hr) (qv 3) (qv 1) (Dl (A0 (qv 1) (A0 (GR Oi Dt (A0 (qv 6) A7)) (A0 (Cc (lI rfl) GN (A0 (B4 Zh (FC (A0 AA A7)) (I0 rfl uv (D6 (qv 4)) (fun _ _ _ _=>by exact Gp) (fun _ _ _ _=>by exact (Aj (hk:=by omega) NN hr (A0 (qv 1) (A0 (qv 0) A7)))))) A7)) A7))))))))))),?_⟩
 refine Fz.xR 3 h fQ ?_
 rintro _ _ ⟨ks,x,r,T,i,M,a,rfl,g,hr,tT,DT,sT,hi,hn,ZH,sM,cM,rfl⟩
 show Ws [_,_,_,_,.any,.any,.any] _ _ _
 have l8:=g.l8
 have xT:=CC hi
 have xw:=sT x xT
 have lT:T.length<=8:=by
  have:=Fo DT sT
  rw [AE] at this;omega
 have h6:=cD g r x
 refine AX (By (G4 (aQ (A9 rfl (Ci (i:=3) rfl ⟨BE M,a,_,.inr x,rfl,rfl,_,rfl,?_⟩)))))
 rw [Mh]
 refine CT (fun c=>?_) (fun c=>Bb ?_)
 ·exact kX (i:=3) rfl ⟨rfl,M,rfl,ZH,sM,cM,fun y h=>h,of_decide_eq_true c,fun y h=>.inl h⟩
 have hx:x∉M:=fun z=>c (decide_eq_true z)
 refine AX (KD (Gj (Ac (A9 rfl (Ac (A9 rfl (Ac (A9 rfl (BO ⟨_,⟨ks,x,r,rfl,g,xw,hr,rfl⟩,?_⟩)))))))))
 rintro _ rfl
 refine M5 4 rfl ?_
 show Ws [.is (BC A4 ks),.is (.str x),.is (.str r),.ow true (E5 ks r a M),.is (.lst ((CG ks r x).map B7)),.any,.any] _ _ _
 refine AX (Fh (EZ (fun xs j A8=>∃ (M':List Str) (s5 s6:Slot),A8=[.is (BC A4 ks),.is (.str x),.is (.str r),.ow true (E5 ks r a M'),.is (.lst ((CG ks r x).map B7)),s5,s6]/\M'.Nodup/\(∀ y∈M',y∈T)/\Oo (AM ks r) M'/\(∀ y∈M,y∈M')/\(∀ y∈M',y∈M∨CP (AM ks r) (AM ks r x) y)/\∀ p∈(CG ks r x).take j,p.2∈M') (Ef (E4 (A9 rfl ⟨_,.inl ⟨rfl,⟨M,_,_,rfl,ZH,sM,cM,fun y h=>h,fun y h=>.inl h,fun p hp=>absurd hp (by simp)⟩,?_,?_⟩⟩)))))
 ·rintro j q A8 hq ⟨M',s5,s6,rfl,Dn,s',c',Wy,Pp,Ck⟩
  rw [Ag] at hq
  obtain ⟨p,ep,rfl⟩:=Option.map_eq_some_iff.mp hq
  have pn:p.2∈AM ks r x:=List.mem_map.mpr ⟨p,CC ep,rfl⟩
  have pt:=tT i x hi p.2 pn
  obtain ⟨i',C0,e'⟩:=Fu pt
  rw [C7] at C0
  rw [JK] at e'
  refine FG ?_
  refine ai (i:=3) (R9 rfl (DX (A9 rfl (DX (BW (BU rfl ⟨rfl,Aw ⟨_,_,rfl,rfl,DX (A9 rfl (La rfl (JT ⟨_,⟨ks,p.2,r,T,i',M',a,rfl,g,hr,tT,DT,sT,by rw [Ad (by omega),e'],by omega,Dn,s',c',rfl⟩,?_⟩)))⟩⟩))))))
  rintro _ _ ⟨rfl,M2,rfl,DM,s2,c2,HR,x2,Sj⟩
  refine ⟨_,_,rfl,M2,_,_,rfl,DM,s2,c2,fun y h=>HR y (Wy y h),fun y hy=>?_,fun q hq=>?_⟩
  ·rcases Sj y hy with h | h
   ·exact Pp y h
   ·refine .inr (h.mono fun z hz=>?_)
    rw [List.mem_singleton.mp hz]
    exact .here pn
  ·rw [LW ep] at hq
   rcases List.mem_append.mp hq with h | h
   ·exact HR _ (Ck q h)
   ·rw [List.mem_singleton.mp h];exact x2
 ·rintro A8 ⟨M',s5,s6,rfl,Dn,s',c',Wy,Pp,Ck⟩
  rw [AE,FL] at Ck
  have Hc:x∉M':=fun z=>(Pp x z).elim hx (YU tT DT xT)
  have lM:=Fo Dn s'
  obtain ⟨eC,eR⟩:=uR tT lT xT
  have ix:=List.idxOf_lt_length_iff.mpr xw
  rw [AE] at ix
  have lo:∀ {p:Str×Str},p∈CG ks r x->HC (BE M') (M'.map (Il ks r)) (.inr p.2)=some (Il ks r p.2):=fun {p} hp=>by
   have hi:=List.idxOf_lt_length_iff.mpr (Ck p hp)
   exact MW (Ck p hp) (by rw [Ag,Ad hi,IG hi];rfl)
  refine AX (KD (Gj (Ac (Bo (WJ ?_)))))
  rw [show List.map DG _=[.is (BC A4 ks),.is (.str x),.is (.str r),.is (E5 ks r a M').pv,.is (.lst ((CG ks r x).map B7)),DG s5,DG s6] from rfl,Sw]
  refine GX B7 (fun _=>true) (fun p=>PV.tup ((cnt ks r p.2).map .int)) (Ef (E4 (A9 rfl ⟨_,.inl ⟨rfl,CG ks r x,rfl,by omega,fun p _=>HZ rfl,fun p hp _=>?_,?_⟩⟩))) TK
  ·exact BW (Bz (NH (A9 rfl ⟨BE M',_,rfl,BW (BU rfl ⟨rfl,Aw ⟨_,_,rfl,rfl,.inr p.2,_,rfl,lo hp,_,.inr ⟨rfl,rfl,Aw ⟨_,_,rfl,rfl,rfl⟩⟩⟩⟩)⟩)))
  rw [List.filter_eq_self.mpr fun _ _=>rfl]
  refine ⟨LY _ (fun p=>by rw [Cr];exact eP _) _,?_⟩
  refine Ac (QV (Bz (Bo (O7 (A9 rfl ⟨G8,_,rfl,by decide +kernel,BO ⟨_,⟨ks,rfl,g,rfl⟩,?_⟩⟩)))))
  rintro _ rfl
  refine ⟨_,.inl ⟨rfl,?_⟩⟩
  rw [AE,AE]
  refine BO ⟨_,⟨(CG ks r x).map fun p=>cnt ks r p.2,ks.length,by rw [DF];rfl,l8,by rw [AE];omega,fun c hc=>?_,rfl⟩,?_⟩
  ·obtain ⟨p,_,rfl⟩:=List.mem_map.mp hc
   exact ph ks r p.2
  rintro _ rfl
  generalize hG:(fun j:Nat=>(((CG ks r x).map fun p=>cnt ks r p.2).map fun c=>c.getD j 0).sum)=G
  show Ws [.is (BC A4 ks),.is (.str x),.is (.str r),.ow true (E5 ks r a M'),.is (.lst ((CG ks r x).map B7)),s5,.own (((List.range ks.length).map G).map .int)] _ _ _
  refine AX (n6 rfl (Uk (Bz (Bo (O7 (A9 rfl ⟨G8,_,rfl,by decide +kernel,BO ⟨_,⟨ks,rfl,g,rfl⟩,?_⟩⟩))))))
  rintro _ rfl
  refine ⟨_,.inl ⟨rfl,rfl,wk ks,rfl,A9 rfl ⟨x,rfl,xw,_,G ((wk ks).idxOf x),rfl,?_,Aw ⟨_,rfl,?_⟩⟩⟩⟩
  ·rw [Ag,Ag,Ob ix];rfl
  have eS:((((List.range ks.length).map G).map PV.int).set ((wk ks).idxOf x) (.int (G ((wk ks).idxOf x)+1)))=(cnt ks r x).map .int:=by
   rw [<- List.map_set,sum_set rfl ix,eC]
   unfold J4
   rw [<- hG]
   congr 1
   refine Xk fun j _=>?_
   unfold AM
   show (List.map (fun c=>List.getD c j 0) (List.map (fun p=>cnt ks r p.2) (CG ks r x))).sum+_=_
   rw [DF,DF];rfl
  rw [eS]
  show Ws [.is (BC A4 ks),.is (.str x),.is (.str r),.ow true (E5 ks r a M'),.is (.lst ((CG ks r x).map B7)),s5,.own ((cnt ks r x).map .int)] _ _ _
  refine Pu (i:=3) (t:=E5 ks r a M') (EY (nK ?_))
  rw [show List.map DG _=[.is (BC A4 ks),.is (.str x),.is (.str r),.is (E5 ks r a M').pv,.is (.lst ((CG ks r x).map B7)),DG s5,.is (.lst ((cnt ks r x).map .int))] from rfl,Sw]
  refine JB (Dw (A9 rfl (Dw (QB rfl (C9 rfl (Dw (qe (Bz (Bo (PL (Bz (Bo (Jv (Dw (Aw (FO ⟨by decide,?_⟩))))))))))))))))
  refine ⟨_,.inl ⟨rfl,rfl,Bz (Bo (GX B7 (fun _=>true) (fun p=>PV.int (J5 (Eo ks r) p)) (Ef (E4 (A9 rfl ⟨_,.inl ⟨rfl,CG ks r x,rfl,by omega,fun p _=>HZ rfl,fun p hp _=>?_,?_⟩⟩))) TK))⟩⟩
  ·refine wp_call (Ac (A9 rfl (Ac (A9 rfl (BO ⟨_,⟨ks,r,M',p,rfl,Ck p hp,rfl⟩,?_⟩)))))
   rintro _ rfl
   rfl
  rw [List.filter_eq_self.mpr fun _ _=>rfl]
  refine ⟨_,.inl ⟨rfl,rfl,by rw [AE];show 1+_<=_;omega,_,.inl ⟨rfl,rfl,1 :: (CG ks r x).map (J5 (Eo ks r)),by rw [BL,DF];rfl,by simp,fun m hm hy=>?_⟩⟩⟩
  have em:m=Eo ks r x:=by rw [eR];exact uH hm hy
  subst em
  refine FO ⟨by show 3<=100000;decide,?_,?_⟩
  ·simp only [Cr,FE];rw [eP];rfl
  refine Ci rfl ⟨true,a,BE M',_,rfl,rfl,by rw [AE];omega,RZ Dn,Ai,A9 rfl ⟨.inr x,rfl,?_⟩⟩
  rw [OV.Gx,Mc Hc,Q6 Hc]
  refine ⟨_,_,_,_,rfl,rfl,rfl,M'++[x],?_,Hm Dn Hc,fun y hy=>?_,fun y hy z hz=>?_,fun y hy=>by simp [Wy y hy],by simp,fun y hy=>?_⟩
  ·unfold E5;rw [DE];rfl
  ·rcases List.mem_append.mp hy with h | h
   ·exact s' y h
   ·rw [List.mem_singleton.mp h];exact xT
  ·rcases List.mem_append.mp hy with h | h
   ·exact Oe _ (c' y h z hz)
   ·rw [List.mem_singleton.mp h] at hz
    obtain ⟨p,hp,rfl⟩:=List.mem_map.mp hz
    exact Oe _ (Ck p hp)
  ·rcases List.mem_append.mp hy with h | h
   ·rcases Pp y h with q | q
    ·exact .inl q
    ·exact .inr (q.mono fun z hz=>.step (.here (by simp)) hz)
   ·rw [List.mem_singleton.mp h];exact .inr (.here (by simp))
def mU {A4:Addr}(F:AQ K "reckon" "reckon" Lj f fd) (m:mg "reckon" = some (.ref f)) (Fd:Hq P w K mg base A4 "words" 1 ["self"] (AV (LI A4))) (Gh:AB P w K mg base "comers_of" 3 ["book", "word", "rule"] (AV (LK A4))) (NN:AB P w K mg base "rounds_to" 1 ["put", "known"] (AV Qs)) (MU:AB P w K mg base "sums_of" 1 ["many", "length"] (AV Pb)) (BV:mg "len" = none) (GN:mg "max" = none) (Dt:mg "tuple" = none):AB P w K mg base "reckon" 13 ["book", "word", "rule", "known"] (D7 (Jt A4 9)):=by
 have z:∀ n:Nat,AB P w K mg base "reckon" (4+n) ["book", "word", "rule", "known"] (D7 (Jt A4 (n))):=fun n=>by
  induction n with
  | zero=>exact AB.mk F (F.binds (by walk_at "bD4")) m (F.BR (k:=3) N6 (fun vs H Q E h=>(Fz.R5 (fU) h).elim) (fun AZ A outer s H vs Q E hr h=>(Fz.R5 (fU) h).elim))
  | succ n ih=>exact wZ (A4:=A4) n F m Fd Gh ih NN MU BV GN Dt
 exact z 9
def XO:BN ["book", "crowd", "rule", "known", "word"] ["book", "crowd", "rule"] (Am WY):=⟨rfl,rfl,rfl,by decide +kernel,rfl,by decide +kernel,by decide +kernel⟩
def dM {A4:Addr}:∀ ss R,(TX A4) ss R->ss.length=3:=by rintro _ _ ⟨ks,tp,cs,r,T,rfl,_,_,_,_,_,_,rfl⟩;rfl
def uM {A4:Addr}(F:AQ K "known_rows" "known_rows" WY f fd) (m:mg "known_rows" = some (.ref f)) (O4:AB P w K mg base "reckon" 13 ["book", "word", "rule", "known"] (D7 (Jt A4 9))) :
  AB P w K mg base "known_rows" 14 ["book", "crowd", "rule"] (AV (TX A4)):=by
 refine AB.mk F (F.binds (by walk_at "bD3")) m (F.BR (k:=13) XO (fun vs H Q E h=>Fz.CW dM h) (fun AZ A outer s H vs Q E hr h=>?_))
 refine ⟨_,(AI rfl (Aq 3 XO.nd Rc)
   (AI rfl (Co (E2 Dk rfl (D6 (qv 1)) (DN 4 XO.nd) (AL rfl (DY (Aj O4 hr (A0 (qv 0) (A0 (qv 4) (A0 (qv 2) (A0 (qv 3) A7)))))))))
   (AL rfl (B1 (qv 3))))),?_⟩
 refine Fz.CY h dM ?_
 rintro _ _ ⟨ks,tp,cs,r,T,rfl,g,hr,tT,DT,sT,hc,rfl⟩
 show Ws [_,_,_,.any,.any] _ _ _
 have lT:T.length<=8:=by
  have:=Fo DT sT
  have:=g.l8
  rw [AE] at *;omega
 refine AX (JC (PB fun a=>?_))
 show Ws [_,_,_,.ow false (E5 ks r a []),.any] _ _ _
 refine AX (Fh (EZ (fun xs i A8=>∃ (M:List Str) (s4:Slot),A8=[.is (BC A4 ks),.sq tp (cs.map .str),.is (.str r),.ow false (E5 ks r a M),s4]/\M.Nodup/\(∀ y∈M,y∈T)/\Oo (AM ks r) M/\(∀ y∈M,CP (AM ks r) cs y)/\∀ y∈cs.take i,y∈M) ?_))
 walk_at "ww"
 refine ⟨⟨[],_,rfl,MJ,fun y hy=>absurd hy Ai,fun y hy=>absurd hy Ai,fun y hy=>absurd hy Ai,fun y hy=>absurd hy (by simp)⟩,?_,?_⟩
 ·rintro i q A8 hq ⟨M,s4,rfl,nd,s',c',re,Ck⟩
  rw [Ag] at hq
  obtain ⟨c,ec,rfl⟩:=Option.map_eq_some_iff.mp hq
  have cm:=CC ec
  obtain ⟨j,hj,ej⟩:=Fu (hc c cm)
  refine FG ?_
  refine ai (i:=3) (R9 rfl (DX (A9 rfl (DX (A9 rfl (DX (A9 rfl (La rfl (JT ⟨_,⟨ks,c,r,T,j,M,a,rfl,g,hr,tT,DT,sT,by rw [Ad hj,ej],by omega,nd,s',c',rfl⟩,?_⟩)))))))))
  rintro _ _ ⟨rfl,M2,rfl,DM,s2,c2,HR,x2,Sj⟩
  refine ⟨_,_,rfl,M2,_,rfl,DM,s2,c2,fun y hy=>?_,fun z hz=>?_⟩
  ·rcases Sj y hy with h | h
   ·exact re y h
   ·exact h.mono fun z hz=>by rw [List.mem_singleton.mp hz];exact .here cm
  ·rw [LW ec] at hz
   rcases List.mem_append.mp hz with h | h
   ·exact HR _ (Ck z h)
   ·rw [List.mem_singleton.mp h];exact x2
 ·rintro A8 ⟨M,s4,rfl,nd,s',c',re,Ck⟩
  rw [AE,FL] at Ck
  refine Lu (X8 rfl ⟨a,M,rfl,nd,fun x=>⟨re x,fun q=>?_⟩⟩)
  induction q with
  | here m=>exact Ck _ m
  | step _ hy ih=>exact c' _ ih _ hy
def dm:BN ["book", "crowd", "rule", "known"] ["book", "crowd", "rule"] (Am Qe):=⟨rfl,rfl,rfl,by decide +kernel,rfl,by decide +kernel,by decide +kernel⟩
def yX:Scope:={ kind:=.function,names:=[(".0", .local),("word", .local),("known", .free)],isGenerator:=false,isCoroutine:=false,more:=[] }
def kO:DP ["book", "crowd", "rule", "known"] (Am Qe) yX "word" ["known"] [3]:=⟨rfl,by decide +kernel,by decide +kernel,rfl,rfl,by decide +kernel,by decide +kernel,by decide +kernel,by decide +kernel⟩
def YO {A4:Addr}:∀ ss R,(Ue A4) ss R->ss.length=3:=by rintro _ _ ⟨ks,tp,cs,r,T,rfl,_,_,_,_,_,_,rfl⟩;rfl
def uX {A4:Addr}(F:AQ K "table_of" "table_of" Qe f fd) (m:mg "table_of" = some (.ref f)) (Fd:Hq P w K mg base A4 "words" 1 ["self"] (AV (LI A4))) (Si:AB P w K mg base "known_rows" 14 ["book", "crowd", "rule"] (AV (TX A4))) :
  AB P w K mg base "table_of" 15 ["book", "crowd", "rule"] (AV (Ue A4)):=by
 refine AB.mk F (F.binds (by walk_at "bD3")) m (F.BR (k:=14) dm (fun vs H Q E h=>Fz.CW YO h) (fun AZ A outer s H vs Q E hr h=>?_))
 refine ⟨_,(AI rfl (Aq 3 dm.nd (Aj Si hr (A0 (qv 0) (A0 (qv 1) (A0 (qv 2) A7)))))
   (AL rfl (B1 (I0 rfl kO (D6 (Qq Fd hr (by decide) (qv 0))) (fun _ _ _ _=>by exact (Q4 (S7 (Eu hr) (qv 1) (qv 0)))) (fun _ _ _ _=>by exact (Mu (Eu hr) (qv 0) (qv 1) (fun _ _=>rfl))))))),?_⟩
 refine Fz.CY h YO ?_
 rintro _ _ ⟨ks,tp,cs,r,T,rfl,g,hr,tT,DT,sT,hc,rfl⟩
 show Ws [_,_,_,.any] _ _ _
 have l8:=g.l8
 refine AX (JC (RA (Ac (A9 rfl (G3 (JR rfl (Ac (A9 rfl (BO ⟨_,⟨ks,tp,cs,r,T,rfl,g,hr,tT,DT,sT,hc,rfl⟩,?_⟩)))))))))
 rintro _ ⟨a,M,rfl,nd,hM⟩
 show Ws [_,_,_,.ow false (E5 ks r a M)] _ _ _
 refine P6 3 rfl ?_
 rw [Sw]
 show Ws [.is (BC A4 ks),.sq tp (cs.map .str),.is (.str r),.is (Rf ks r M)] _ _ _
 refine J0 (GX PV.str (fun w=>decide (w∈M)) (Il ks r) (Ef (E4 (Bo (O7 (A9 rfl ⟨G8,_,rfl,by decide +kernel,BO ⟨_,⟨ks,rfl,g,rfl⟩,?_⟩⟩))))) (fun a b e=>by injection e))
 rintro _ rfl
 refine ⟨_,.inl ⟨rfl,wk ks,rfl,by rw [AE];omega,fun x _=>?_,fun x _ hx=>?_,M,rfl,hM⟩⟩
 ·refine G4 (my (A9 rfl (A9 rfl ⟨BE M,_,.inr x,rfl,rfl,_,rfl,?_⟩)))
  rw [Mh]
 ·have hm:=of_decide_eq_true hx
  have hi:=List.idxOf_lt_length_iff.mpr hm
  exact NH (A9 rfl ⟨BE M,_,rfl,A9 rfl ⟨.inr x,_,rfl,MW hm (by rw [Ag,Ad hi,IG hi];rfl),rfl⟩⟩)
def ZR:BN ["book", "crowd", "rule", "found"] ["book", "crowd", "rule"] (Am V0):=⟨rfl,rfl,rfl,by decide +kernel,rfl,by decide +kernel,by decide +kernel⟩
def dv {A4:Addr}:∀ ss R,(Wu A4) ss R->ss.length=3:=by rintro _ _ ⟨ks,tp,cs,r,rfl,_,_,_,_,rfl⟩;rfl
def kC {A4:Addr}(F:AQ K "ending" "ending" V0 f fd) (m:mg "ending" = some (.ref f)) (TN:AB P w K mg base "check_crowd" 2 ["book", "crowd"] (AV (VQ A4))) (XZ:AB P w K mg base "check_rule" 1 ["rule"] (AV VL)) (XJ:AB P w K mg base "table_of" 15 ["book", "crowd", "rule"] (AV (Ue A4))) (TF:AB P w K mg base "way_and_ring" 14 ["book", "crowd", "rule"] (AV (Ul A4))) :
  AB P w K mg base "ending" 16 ["book", "crowd", "rule"] (AV (Wu A4)):=by
 refine AB.mk F (F.binds (by walk_at "bD3")) m (F.BR (k:=15) ZR (fun vs H Q E h=>Fz.CW dv h) (fun AZ A outer s H vs Q E hr h=>?_))
 refine ⟨_,(AI rfl (DY (Aj XZ hr (A0 (qv 2) A7)))
   (AI rfl (DY (Aj TN hr (A0 (qv 0) (A0 (qv 1) A7))))
   (AI rfl (Aq 3 ZR.nd (Aj TF hr (A0 (qv 0) (A0 (qv 1) (A0 (qv 2) A7)))))
   (AI rfl (BQ (BB Vx (qv 3) MC) (AL rfl (B1 (Dl (A0 BF (A0 (AW B8 (qv 3) AA) (A0 (AW B8 (qv 3) AA) A7)))))) BS)
   (AL rfl (B1 (Dl (A0 BF (A0 (Aj XJ hr (A0 (qv 0) (A0 (qv 1) (A0 (qv 2) A7)))) A7))))))))),?_⟩
 refine Fz.CY h dv ?_
 rintro _ _ ⟨ks,tp,cs,r,rfl,g,hr,hz,hc,rfl⟩
 show Ws [_,_,_,.any] _ _ _
 refine AX (K6 (wp_call (Ac (A9 rfl (BO ⟨_,⟨r,rfl,hr,rfl⟩,?_⟩)))))
 rintro _ rfl
 refine AX (K6 (wp_call (Ac (A9 rfl (G3 (JR rfl (BO ⟨_,⟨ks,tp,cs,rfl,g,hz,hc,rfl⟩,?_⟩)))))))
 rintro _ rfl
 cases ew:E7 (AM ks r) 9 cs [] with
 | none=>
  refine AX (GL (wp_call (Ac (A9 rfl (G3 (JR rfl (Ac (A9 rfl (BO ⟨_,⟨ks,tp,cs,r,rfl,g,hr,hz,hc,.inl ⟨ew,rfl⟩⟩,?_⟩)))))))))
  rintro q ⟨rfl,T,tT,DT,sT,LD⟩
  refine AX (By (Bn (L7 (A9 rfl (Gq ⟨rfl,_,rfl,Bm (by decide) (Bb ?_)⟩)))))
  refine Lu (Mo (Ed (EY (EK (Ed (ME (Gj (Ac (A9 rfl (G3 (JR rfl (Ac (A9 rfl (BO ⟨_,⟨ks,tp,cs,r,T,rfl,g,hr,tT,DT,sT,LD,rfl⟩,?_⟩))))))))))))))
  rintro _ ⟨M,rfl,hM⟩ b
  exact N4 ⟨fun _ h=>absurd h Ai,fun _ h=>absurd h Ai,by show 2<=100000;decide,.inr ⟨T,tT,DT,sT,LD,b,M,rfl,hM⟩⟩
 | some w=>
  obtain ⟨W,i⟩:=w
  refine AX (JC (RA (Ac (A9 rfl (G3 (JR rfl (Ac (A9 rfl (BO ⟨_,⟨ks,tp,cs,r,rfl,g,hr,hz,hc,.inr ⟨W,i,ew,rfl⟩⟩,?_⟩)))))))))
  rintro _ ⟨b,d,x,rfl,rg,h0,cm⟩
  show Ws [.is (BC A4 ks),.sq tp (cs.map .str),.is (.str r),.ow false (Er W i b d)] _ _ _
  refine AX (By (NO ?_))
  rw [show List.map DG _=[.is (BC A4 ks),.sq tp (cs.map .str),.is (.str r),.is (Er W i b d).pv] from rfl,Tj]
  refine Bn (L7 (A9 rfl (Gq ⟨rfl,_,rfl,Ji rfl ?_⟩)))
  refine Lu (Mo (Ed (EY (EK (wL rfl ⟨fun _ h=>absurd h Ai,by show 3<=100000;decide,.inl ⟨jF rg ⟨x,h0,cm⟩,W,i,b,d,x,rfl,ew,rg,h0,cm⟩⟩)))))
def Te:BN ["kinds", "word", "rule", "wheres", "puts"] ["kinds", "word", "rule"] (Am N8):=⟨rfl,rfl,rfl,by decide +kernel,rfl,by decide +kernel,by decide +kernel⟩
def i6:Scope:={ kind:=.function,names:=[(".0", .local),("row", .local),("word", .free)],isGenerator:=false,isCoroutine:=false,more:=[] }
def rP:DP ["kinds", "word", "rule", "wheres", "puts"] (Am N8) i6 "row" ["word"] [1]:=⟨rfl,by decide +kernel,by decide +kernel,rfl,rfl,by decide +kernel,by decide +kernel,by decide +kernel,by decide +kernel⟩
def kA:Scope:={ kind:=.function,names:=[(".0", .local),("where", .local),("kind", .local),("wheres", .free)],isGenerator:=false,isCoroutine:=false,more:=[] }
def ly:GV ["kinds", "word", "rule", "wheres", "puts"] (Am N8) kA ["where", "kind"] ["wheres"] [3]:=⟨rfl,by decide +kernel,by decide +kernel,by decide +kernel,rfl,by decide +kernel,by decide +kernel,by decide +kernel,by decide +kernel⟩
def Ze  : ∀ ss R,Lf ss R->ss.length=3:=by rintro _ _ ⟨ks,x,r,rfl,_,_,_,rfl⟩;rfl
def ib (F:AQ K "_law_comers" "_law_comers" N8 f fd) (m:mg "_law_comers" = some (.ref f))  :
  AB P w K mg base "_law_comers" 1 ["kinds", "word", "rule"] (AV Lf):=by
 refine AB.mk F (F.binds (by walk_at "bD3")) m (F.BR (k:=0) Te (fun vs H Q E h=>Fz.CW Ze h) (fun AZ A outer s H vs Q E hr h=>?_))
 refine ⟨_,(AI rfl (Aq 3 Te.nd (Mu (Eu hr) (wV (Th BF (Dl A7) (Th BF (Dl (A0 BF (A0 BF A7))) (Th BF (Dl (A0 BF (A0 BF (A0 BF (A0 BF A7))))) tN))) rfl rfl (by simp) (by decide)) (qv 2) (fun _ _=>rfl)))
   (AI rfl (Aq 4 Te.nd (AW CK (I0 rfl rP (D6 (qv 0)) (fun _ _ _ _=>by exact (Q4 (BB Hy (AW (show Cz _ (EC K) from B8) (qv 1) AA) (qv 0)))) (fun _ _ _ _=>by exact (AW (show Cz _ (EC K) from B8) (qv 1) AA))) AA))
   (AL rfl (B1 (nJ rfl ly (.cons (.cons .nil)) (fun _=>rfl) (fun _=>rfl) (D6 (qv 4)) (fun _ _ _ _=>by exact (Q4 (BB (show Ay _ (compareOp .In) (Iv K false) from Hh) (qv 1) (qv 0)))) (fun _ _ _ _=>by exact (qv 2))))))),?_⟩
 refine Fz.CY h Ze ?_
 rintro _ _ ⟨ks,x,r,rfl,g,hx,hr,rfl⟩
 show Ws [_,_,_,.any,.any] _ _ _
 have l8:=g.l8
 have h6:=(g.Mg x).1
 refine AX (GL (NH (gE (oU (by decide) ?_))))
 refine Ed (EY (JB (FO ⟨by decide,?_⟩)))
 refine Ed (EY (JB (Dw (EK (Dw (EK (FO ⟨by decide,?_⟩)))))))
 refine Ed (EY (JB (Dw (EK (Dw (EK (Dw (EK (Dw (EK (FO ⟨by decide,?_⟩)))))))))))
 refine N4 ⟨fun _ h=>absurd h Ai,fun _ h=>absurd h Ai,fun _ h=>absurd h Ai,rfl,fun l=>⟨rfl,_,_,by rw [OV.pv],A9 rfl ⟨.inr r,.tup ((Q9 r).map .str),rfl,?_,?_⟩⟩⟩
 ·simp only [DJ,EW,Ai,or_false] at hr
  rcases hr with rfl | rfl | rfl <;> rfl
 obtain ⟨k,rest,ef,ep⟩:=g.kh hx
 refine AX (GL (FY (Bz (Bo (GX Kd.P (fun k=>decide (k.w=x)) (fun k=>PV.tup (k.ps.map B7)) (Ef (E4 (A9 rfl ⟨_,.inl ⟨rfl,ks,rfl,by omega,fun k _=>?_,fun k _ _=>?_,?_⟩⟩))) Kd.inj)))))
 ·exact Bn (QK (BW (BU rfl ⟨rfl,Aw ⟨_,_,rfl,rfl,A9 rfl ⟨rfl,_,rfl,rfl⟩⟩⟩)))
 ·exact BW (BU rfl ⟨rfl,Aw ⟨_,_,rfl,rfl,rfl⟩⟩)
 rw [ef]
 refine ⟨_,.inl ⟨rfl,rfl,Aw ⟨0,PV.tup (k.ps.map B7),rfl,(Gn (j:=0) rfl:L2.B5 (List.map (fun k:Kd=>PV.tup (k.ps.map B7)) (k :: rest)) ((0:Nat):Int)=_),?_⟩⟩⟩
 rw [ep]
 refine J0 (qU (fun q=>match q with | .tup [.str a,_]=>decide (a∈Q9 r) | _=>false) (fun q=>match q with | .tup [_,b]=>b | _=>.A5) (Ef (E4 (A9 rfl ⟨_,.inr ⟨rfl,by rw [AE];omega,fun q hq=>?_,?_⟩⟩))))
 ·obtain ⟨p,hp,rfl⟩:=List.mem_map.mp hq
  refine ⟨_,rfl,rfl,?_,fun _=>A9 rfl rfl⟩
  exact Bn (Lx (A9 rfl ⟨p.1,rfl,BU rfl ⟨_,rfl,_,rfl,rfl⟩⟩))
 ·rw [<- hV g hr x,List.filter_map,DF,DF]
  rfl
def Pe:BN ["kinds", "some", "rule", "found", "left", "word"] ["kinds", "some", "rule"] (Am T7):=⟨rfl,rfl,rfl,by decide +kernel,rfl,by decide +kernel,by decide +kernel⟩
def Zn  : ∀ ss R,WK ss R->ss.length=3:=by rintro _ _ ⟨ks,S,r,rfl,_,_,_,_,rfl⟩;rfl
def oX (F:AQ K "_law_reached" "_law_reached" T7 f fd) (m:mg "_law_reached" = some (.ref f)) (Fl:AB P w K mg base "_law_comers" 1 ["kinds", "word", "rule"] (AV Lf)) (D8:mg "list" = none) :
  AB P w K mg base "_law_reached" 2 ["kinds", "some", "rule"] (AV WK):=by
 refine AB.mk F (F.binds (by walk_at "bD3")) m (F.BR (k:=1) Pe (fun vs H Q E h=>Fz.CW Zn h) (fun AZ A outer s H vs Q E hr h=>?_))
 refine ⟨_,(AI rfl (Aq 3 Pe.nd (FC A7))
   (AI rfl (Aq 4 Pe.nd (GR Ln D8 (A0 (qv 1) A7)))
   (AI rfl (Co (Tv Dk (BB (yl hr.Qv) (qv 4) (FC A7)) (AI rfl (Aq 5 Pe.nd (Sy GU PySem.F.slot_list_pop PySem.F.type_list_pop pF (qv 4)))
   (AL rfl (BQ (BB Jw (qv 5) (qv 3)) (AI rfl (DY (HW GU Rw Rx N3 (qv 3) (A0 (qv 5) A7)))
   (AL rfl (DY (HW GU PySem.F.slot_list_extend PySem.F.type_list_extend qJ (qv 4) (A0 (Aj Fl hr (A0 (qv 0) (A0 (qv 5) (A0 (qv 2) A7)))) A7))))) BS)))))
   (AL rfl (B1 (qv 3)))))),?_⟩
 refine Fz.CY h Zn ?_
 rintro _ _ ⟨ks,S,r,rfl,g,hr,hz,hS,rfl⟩
 show Ws [_,_,_,.any,.any,.any] _ _ _
 have l8:=g.l8
 walk_at "ww"
 refine ⟨by decide,?_⟩
 walk_at "ww"
 refine wQ (fun m A8=>∃ (A B:List Str) (s5:Slot),A8=[.is (.lst (ks.map Kd.P)),.sq false (S.map .str),.is (.str r),.own (A.map .str),.own (B.map .str),s5]/\A.Nodup/\(∀ y∈A,CP (AM ks r) S y)/\(∀ y∈B,CP (AM ks r) S y)/\(∀ y∈S,y∈A∨y∈B)/\(∀ y∈A,∀ z∈AM ks r y,z∈A∨z∈B)/\B.length<=12+6 * A.length/\m+7 * A.length=B.length+7 * 9) (S.length+7 * 9) ?_ ?_
 ·exact ⟨[],S,_,rfl,MJ,fun y hy=>absurd hy Ai,fun y hy=>.here hy,fun y hy=>.inr hy,fun y hy=>absurd hy Ai,by simp;omega,by simp⟩
 rintro m A8 ⟨A,B,s5,rfl,nd,rA,rB,cS,cA,lB,hm⟩
 have lA:A.length<=8:=by
  have:=Fo nd (bs:=wk ks) fun y hy=>UR g hS (rA y hy)
  rw [AE] at this;omega
 walk_at "ww"
 refine ⟨by decide,_,.inl ⟨rfl,rfl,rfl,_,rfl,?_⟩⟩
 rw [AE]
 refine CT (fun c=>?_) (fun c=>?_)
 ·obtain ⟨B',x,rfl⟩:∃ B' x,B=B'++[x]:=by
   have Ao:B≠[]:=fun z=>by subst z;cases c
   exact ⟨_,_,(gS Ao).symm⟩
  have rx:=rB x (by simp)
  have xw:=UR g hS rx
  refine AX (iK (y:=.str x) rfl (by simp) ?_)
  rw [DE,BL,II,List.dropLast_concat]
  show Ws [.is (.lst (ks.map Kd.P)),.sq false (S.map .str),.is (.str r),.own (A.map .str),.own (B'.map .str),.is (.str x)] _ _ _
  rw [BK,IH] at lB hm
  walk_at "ww"
  refine CT (fun c2=>?_) (fun c2=>Bb ?_)
  ·have hx:x∉A:=fun z=>by rw [decide_eq_true z] at c2;cases c2
   walk_at "ww"
   refine ⟨by rw [AE];omega,?_⟩
   refine qc rfl (Gj (Ac (A9 rfl (Ac (A9 rfl (Ac (A9 rfl (BO ⟨_,⟨ks,x,r,rfl,g,xw,hr,rfl⟩,?_⟩))))))))
   rintro _ rfl
   have h6:=gH g r x
   refine ⟨by rw [AE,AE];omega,(8 * 7+B'.length+(AM ks r x).length) - 7 * A.length,by omega,A++[x],B'++AM ks r x,.is (.str x),?_,Hm nd hx,?_,?_,?_,?_,?_,?_⟩
   ·rw [DE,DE];rfl
   ·intro y hy
    rcases List.mem_append.mp hy with h | h
    ·exact rA y h
    ·rw [List.mem_singleton.mp h];exact rx
   ·intro y hy
    rcases List.mem_append.mp hy with h | h
    ·exact rB y (by simp [h])
    ·exact .step rx h
   ·intro y hy
    rcases cS y hy with h | h
    ·exact .inl (by simp [h])
    ·rcases List.mem_append.mp h with h | h
     ·exact .inr (by simp [h])
     ·exact .inl (by simp [List.mem_singleton.mp h])
   ·intro y hy z hz
    rcases List.mem_append.mp hy with h | h
    ·rcases cA y h z hz with q | q
     ·exact .inl (by simp [q])
     ·rcases List.mem_append.mp q with q | q
      ·exact .inr (by simp [q])
      ·exact .inl (by simp [List.mem_singleton.mp q])
    ·rw [List.mem_singleton.mp h] at hz
     exact .inr (by simp [hz])
   ·rw [BK,BK,IH];omega
   ·rw [BK,BK,IH];omega
  ·have hx:x∈A:=zI fun z=>c2 (by rw [decide_eq_false z];rfl)
   refine ⟨m - 1,by omega,A,B',_,rfl,nd,rA,fun y hy=>rB y (by simp [hy]),fun y hy=>?_,fun y hy z hz=>?_,by omega,by omega⟩
   ·rcases cS y hy with h | h
    ·exact .inl h
    ·rcases List.mem_append.mp h with h | h
     ·exact .inr h
     ·exact .inl (by rw [List.mem_singleton.mp h];exact hx)
   ·rcases cA y hy z hz with q | q
    ·exact .inl q
    ·rcases List.mem_append.mp q with q | q
     ·exact .inr q
     ·exact .inl (by rw [List.mem_singleton.mp q];exact hx)
 ·have hB:B=[]:=by
   cases B with
   | nil=>rfl
   | cons b r=>exact absurd rfl c
  subst hB
  refine ZT rfl ⟨A,rfl,nd,lA,fun x=>⟨rA x,fun q=>?_⟩⟩
  induction q with
  | here m=>exact (cS _ m).elim id fun z=>absurd z Ai
  | step _ hy ih=>exact (cA _ ih _ hy).elim id fun z=>absurd z Ai
def YN:BN ["kinds", "crowd", "rule", "word"] ["kinds", "crowd", "rule"] (Am WR):=⟨rfl,rfl,rfl,by decide +kernel,rfl,by decide +kernel,by decide +kernel⟩
def Zw  : ∀ ss R,RN ss R->ss.length=3:=by rintro _ _ ⟨ks,cs,r,rfl,_,_,_,_,rfl⟩;rfl
def q8 (F:AQ K "_law_rings" "_law_rings" WR f fd) (m:mg "_law_rings" = some (.ref f)) (Fl:AB P w K mg base "_law_comers" 1 ["kinds", "word", "rule"] (AV Lf)) (P9:AB P w K mg base "_law_reached" 2 ["kinds", "some", "rule"] (AV WK)) :
  AB P w K mg base "_law_rings" 3 ["kinds", "crowd", "rule"] (AV RN):=by
 refine AB.mk F (F.binds (by walk_at "bD3")) m (F.BR (k:=2) YN (fun vs H Q E h=>Fz.CW Zw h) (fun AZ A outer s H vs Q E hr h=>?_))
 refine ⟨_,(AI rfl (Co (E2 Dk rfl (D6 (Aj P9 hr (A0 (qv 0) (A0 (qv 1) (A0 (qv 2) A7))))) (DN 3 YN.nd) (AL rfl (BQ (BB Hh (qv 3) (Aj P9 hr (A0 (qv 0) (A0 (Aj Fl hr (A0 (qv 0) (A0 (qv 3) (A0 (qv 2) A7)))) (A0 (qv 2) A7))))) (AL rfl (B1 ER)) BS))))
   (AL rfl (B1 ER))),?_⟩
 refine Fz.CY h Zw ?_
 rintro _ _ ⟨ks,cs,r,rfl,g,hr,hz,hc,rfl⟩
 show Ws [_,_,_,.any] _ _ _
 refine AX (Fh (EZ (fun xs i A8=>∃ (L:List Str) (s3:Slot),xs=L.map .str/\A8=[.is (.lst (ks.map Kd.P)),.sq false (cs.map .str),.is (.str r),s3]/\(∀ x,x∈L↔CP (AM ks r) cs x)/\∀ x∈L.take i,¬ CP (AM ks r) (AM ks r x) x) (Ef (E4 (Bo (Gj (Ac (A9 rfl (G3 (JR rfl (Ac (A9 rfl (BO ⟨_,⟨ks,cs,r,rfl,g,hr,hz,hc,rfl⟩,?_⟩)))))))))))))
 rintro _ ⟨L,rfl,nd,l8,hL⟩
 refine ⟨_,.inl ⟨rfl,⟨L,_,rfl,rfl,hL,fun x hx=>absurd hx (by simp)⟩,?_,?_⟩⟩
 ·rintro i p A8 hp ⟨L',s3,eL,rfl,_,hn⟩
  have eL:=Sq eL
  subst eL
  rw [Ag] at hp
  obtain ⟨x,ex,rfl⟩:=Option.map_eq_some_iff.mp hp
  have xm:=CC ex
  have xw:=UR g hc ((hL x).mp xm)
  have h6:=gH g r x
  refine FG ?_
  refine By (Bn (Lx (A9 rfl ⟨x,rfl,Bz (Bo (Gj (Ac (A9 rfl (G3 (Bz (Bo (Gj (Ac (A9 rfl (Ac (A9 rfl (Ac (A9 rfl (BO ⟨_,⟨ks,x,r,rfl,g,xw,hr,rfl⟩,?_⟩)))))))))))))))⟩)))
  rintro _ rfl
  refine ⟨_,.inl ⟨rfl,Ac (A9 rfl (BO ⟨_,⟨ks,AM ks r x,r,rfl,g,hr,by omega,fun y hy=>g.X0 hy,rfl⟩,?_⟩))⟩⟩
  rintro _ ⟨M,rfl,_,_,hM⟩
  refine ⟨_,.inl ⟨rfl,M,rfl,_,rfl,?_⟩⟩
  refine CT (fun c=>?_) (fun c=>Bb ?_)
  ·exact GW (Lz ⟨true,rfl,⟨fun _=>⟨x,(hL x).mp xm,(hM x).mp (of_decide_eq_true c)⟩,fun _=>rfl⟩⟩)
  ·refine ⟨L,_,rfl,rfl,hL,fun y hy=>?_⟩
   rw [LW ex] at hy
   rcases List.mem_append.mp hy with h | h
   ·exact hn y h
   ·rw [List.mem_singleton.mp h]
    exact fun q=>c (decide_eq_true ((hM x).mpr q))
 ·rintro A8 ⟨L',s3,eL,rfl,_,hn⟩
  have eL:=Sq eL
  subst eL
  rw [AE,FL] at hn
  refine GW (Lz ⟨false,rfl,⟨fun z=>(by cases z),fun ⟨x,h1,h2⟩=>absurd h2 (hn x ((hL x).mpr h1))⟩⟩)
def xu:BN ["found"] ["found"] (Am RW):=⟨rfl,rfl,rfl,by decide +kernel,rfl,by decide +kernel,by decide +kernel⟩
def mx:Scope:={ kind:=.function,names:=[(".0", .local),("name", .local),("isinstance", .globalImplicit),("str", .globalImplicit)],isGenerator:=false,isCoroutine:=false,more:=[] }
def vd:DP ["found"] (Am RW) mx "name" [] []:=⟨rfl,by decide +kernel,by decide +kernel,rfl,rfl,by decide +kernel,by decide +kernel,by decide +kernel,by decide +kernel⟩
def aR  : ∀ ss R,Uw ss R->ss.length=1:=by rintro _ _ ⟨ns,rfl,hz,rfl⟩;rfl
def ue (F:AQ K "_law_texts" "_law_texts" RW f fd) (m:mg "_law_texts" = some (.ref f)) (Li:mg "all" = none) (Kk:mg "isinstance" = none) (D8:mg "list" = none) (VI:mg "str" = none) :
  AB P w K mg base "_law_texts" 1 ["found"] (AV Uw):=by
 refine AB.mk F (F.binds (by walk_at "bD1")) m (F.BR (k:=0) xu (fun vs H Q E h=>Fz.CW aR h) (fun AZ A outer s H vs Q E hr h=>?_))
 refine ⟨_,(AL rfl (B1 (W0 (Cc WA Kk (A0 (qv 0) (A0 (Vf "list" D8) A7))) (Vq (Cc (bX rfl) Li (A0 (I0 rfl vd (D6 (qv 0)) (fun _ _ _ _=>by exact Gp) (fun _ _ _ _=>by exact (Cc (show C2 _ (.builtin "isinstance") (Ql K) from WA) Kk (A0 (qv 0) (A0 (Vf "str" VI) A7))))) A7)))))),?_⟩
 refine Fz.CY h aR ?_
 rintro _ _ ⟨ns,rfl,hz,rfl⟩
 show Ws [_] _ _ _
 walk_at "ww"
 refine vI ?_
 walk_at "ww"
 refine ⟨true,X2 _ _,_,rfl,br ?_⟩
 walk_at "wp"
 refine Bz (Bo (GX PV.str (fun _=>true) (fun _=>.bl true) ?_ str_inj))
 walk_at "ww"
 refine ⟨by omega,fun x hx=>by walk_at "ww"; rfl,fun x hx _=>?_,?_⟩
 ·refine ao ?_
  walk_at "ww"
  exact ⟨true,X2 _ _,rfl⟩
 ·walk_at "ww"
  rw [show (List.map (fun _=>true) (ns.filter fun _=>true)).all id=true from by simp]
def Vn:BN ["kinds", "rule", "chain", "words", "k"] ["kinds", "rule", "chain"] (Am Pg):=⟨rfl,rfl,rfl,by decide +kernel,rfl,by decide +kernel,by decide +kernel⟩
def y3:Scope:={ kind:=.function,names:=[(".0", .local),("row", .local)],isGenerator:=false,isCoroutine:=false,more:=[] }
def nT:DP ["kinds", "rule", "chain", "words", "k"] (Am Pg) y3 "row" [] []:=⟨rfl,by decide +kernel,by decide +kernel,rfl,rfl,by decide +kernel,by decide +kernel,by decide +kernel,by decide +kernel⟩
def aB  : ∀ ss R,Tq ss R->ss.length=3:=by rintro _ _ ⟨ks,r,W,rfl,_,_,_,_,_,_,rfl⟩;rfl
def mX (F:AQ K "_law_is_chain" "_law_is_chain" Pg f fd) (m:mg "_law_is_chain" = some (.ref f)) (Fl:AB P w K mg base "_law_comers" 1 ["kinds", "word", "rule"] (AV Lf)) (Tz:AB P w K mg base "_law_texts" 1 ["found"] (AV Uw)) (BV:mg "len" = none) (DO:mg "range" = none) :
  AB P w K mg base "_law_is_chain" 3 ["kinds", "rule", "chain"] (AV Tq):=by
 refine AB.mk F (F.binds (by walk_at "bD3")) m (F.BR (k:=2) Vn (fun vs H Q E h=>Fz.CW aB h) (fun AZ A outer s H vs Q E hr h=>?_))
 refine ⟨_,(AI rfl (bT (i:=3) Vn.nd rfl (Or.inl rfl) rfl nT (D6 (qv 0)) (fun _ _ _ _=>by exact Gp) (fun _ _ _ _=>by exact (AW (show Cz _ (EC K) from B8) (qv 0) AA)))
   (AI rfl (BQ (KH (Iw (Jb (Aj Tz hr (A0 (qv 2) A7)))) (Lg (BB (iI hr.Qv) (qv 2) (FC A7)))).pt (AL rfl (B1 ER)) BS)
   (AI rfl (Co (E2 Dk rfl (LU rfl DO (A0 (Cc JF BV (A0 (qv 2) A7)) A7)) (DN 4 Vn.nd) (AI rfl (BQ (KH (BB Jw (AW CK (qv 2) (qv 4)) (qv 3)) (Lg (BB Hh (AW CK (qv 2) (qv 4)) (Ks Qy (qv 2) L9 (LH (qv 4)))))).pt (AL rfl (B1 ER)) BS)
   (AL rfl (BQ (Ry (BB NV (qv 4) AA) (X7 (BB Jw (AW CK (qv 2) (qv 4)) (Aj Fl hr (A0 (qv 0) (A0 (AW CK (qv 2) (B4 PZ (qv 4) AA)) (A0 (qv 1) A7))))))).pt (AL rfl (B1 ER)) BS)))))
   (AL rfl (B1 ER))))),?_⟩
 refine Fz.CY h aB ?_
 rintro _ _ ⟨ks,r,W,rfl,g,hr,ne,nd,sub,ch,rfl⟩
 show Ws [_,_,_,.any,.any] _ _ _
 have l8:=g.l8
 have lW:W.length<=8:=by
  have:=Fo nd sub
  rw [AE] at this;omega
 refine AX (KD (GX Kd.P (fun _=>true) (fun k=>PV.str k.w) (Ef (E4 (A9 rfl ⟨_,.inl ⟨rfl,ks,rfl,by omega,fun k _=>HZ rfl,fun k _ _=>BW (BU rfl ⟨rfl,Aw ⟨_,_,rfl,rfl,rfl⟩⟩),?_⟩⟩))) Kd.inj))
 rw [List.filter_eq_self.mpr fun _ _=>rfl,show ks.map (fun k=>PV.str k.w)=(wk ks).map .str from by unfold wk;rw [DF];rfl]
 refine M5 3 rfl ?_
 refine AX (By (Jy (Jk (G4 (wp_call (G3 (C9 rfl (BO ⟨_,⟨W,rfl,by omega,rfl⟩,?_⟩))))))))
 rintro _ rfl
 refine ⟨_,rfl,Bm (by decide) ?_⟩
 refine Bn (ZU (C9 rfl ⟨W,rfl,Bz (Bo (Jv (FO ⟨by decide,_,.inl ⟨rfl,rfl,[],rfl,_,rfl,?_⟩⟩)))⟩))
 rw [decide_eq_false ne]
 refine Bm (by decide) (Bb ?_)
 refine AX (Fh (EZ (fun xs i A8=>∃ s4:Slot,A8=[.is (.lst (ks.map Kd.P)),.is (.str r),.is (.lst (W.map .str)),.is (.lst ((wk ks).map .str)),s4]) ?_))
 walk_at "ww"
 rw [AE]
 refine ⟨by omega,by omega,⟨_,rfl⟩,?_,?_⟩
 ·rintro i p A8 hp ⟨s4,rfl⟩
  obtain ⟨hi,rfl⟩:=TM hp
  obtain ⟨y,ey⟩:∃ y,W[i]?=some y:=⟨_,Ad (by omega)⟩
  have at_:L2.B5 (W.map PV.str) ((i:Nat):Int)=some (.str y):=Gn (by rw [Ag,ey];rfl)
  have ym:=sub y (CC ey)
  refine FG ?_
  refine AX (By (Jy (Bn (MQ (FY (C9 rfl ⟨rfl,A9 rfl ⟨_,_,rfl,at_,y,rfl,C9 rfl ⟨wk ks,rfl,_,rfl,?_⟩⟩⟩))))))
  rw [decide_eq_true ym]
  refine Bm (by decide) ?_
  refine Bn (Lx (FY (C9 rfl ⟨rfl,A9 rfl ⟨_,_,rfl,at_,y,rfl,Bz (Bo (P8 (C9 rfl ⟨rfl,PK (R7 (A9 rfl ⟨_,rfl,_,.inl ⟨rfl,W.take i,?_,_,rfl,?_⟩⟩))⟩)))⟩⟩)))
  ·rw [Oj,show Cu W none (some ((i:Nat):Int))=W.take i from Yk W i]
  rw [decide_eq_false (yF nd ey)]
  refine Bm (by decide) (Bb ?_)
  by_cases i0:i=0
  ·subst i0
   refine By (Vo (Bn ?_))
   walk_at "ww"
   exact Bm (by decide) (Bm (by decide) (Bb ⟨_,rfl⟩))
  ·obtain ⟨j,rfl⟩:∃ j,i=j+1:=⟨i - 1,by omega⟩
   obtain ⟨z,ez⟩:∃ z,W[j]?=some z:=⟨_,Ad (by omega)⟩
   refine By (Vo (Bn ?_))
   walk_at "ww"
   refine Ji (decide_eq_true (by omega)) ?_
   refine Bn (MQ (FY (C9 rfl ⟨rfl,A9 rfl ⟨_,_,rfl,at_,y,rfl,?_⟩⟩)))
   refine Bz (Bo (Gj (Ac (A9 rfl (Ac (FY (C9 rfl ⟨rfl,Su (A9 rfl ⟨_,rfl,Aw ⟨_,rfl,_,.str z,rfl,?_,Ac (A9 rfl (BO ⟨_,⟨ks,z,r,rfl,g,sub z (CC ez),hr,rfl⟩,?_⟩))⟩⟩)⟩)))))))
   ·rw [show ((j+1:Nat):Int) - 1=(j:Nat) from by omega]
    exact Gn (by rw [Ag,ez];rfl)
   ·rintro _ rfl
    refine ⟨_,.inl ⟨rfl,AM ks r z,rfl,_,rfl,?_⟩⟩
    rw [decide_eq_true (ch j z y ez ey)]
    exact Bm (by decide) (Bb ⟨_,rfl⟩)
 ·rintro A8 ⟨s4,rfl⟩
  exact GW (Lz rfl)
def UZ:BN ["kinds", "crowd", "rule", "found", "way", "ring"] ["kinds", "crowd", "rule", "found"] (Am TJ):=⟨rfl,rfl,rfl,by decide +kernel,rfl,by decide +kernel,by decide +kernel⟩
def aY  : ∀ ss R,WW ss R->ss.length=4:=by rintro _ _ ⟨ks,cs,r,W,i,x,rfl,_,_,_,_,_,rfl⟩;rfl
def xK (F:AQ K "_law_endless_right" "_law_endless_right" TJ f fd) (m:mg "_law_endless_right" = some (.ref f)) (Fl:AB P w K mg base "_law_comers" 1 ["kinds", "word", "rule"] (AV Lf)) (Qw:AB P w K mg base "_law_is_chain" 3 ["kinds", "rule", "chain"] (AV Tq)) (Kk:mg "isinstance" = none) (BV:mg "len" = none) (Dt:mg "tuple" = none) :
  AB P w K mg base "_law_endless_right" 4 ["kinds", "crowd", "rule", "found"] (AV WW):=by
 refine AB.mk F (F.binds (by walk_at "bD4")) m (F.BR (k:=3) UZ (fun vs H Q E h=>Fz.CW aY h) (fun AZ A outer s H vs Q E hr h=>?_))
 refine ⟨_,(AI rfl (BQ (KH (Iw (Jb (Cc WA Kk (A0 (qv 3) (A0 (Vf "tuple" Dt) A7))))) (KH (BB SX (Cc JF BV (A0 (qv 3) A7)) AA) (Lg (BB SX (AW B8 (qv 3) AA) BF)))).pt (AL rfl (B1 ER)) BS)
   (AI rfl (Aq 4 UZ.nd (AW B8 (qv 3) AA))
   (AI rfl (Aq 5 UZ.nd (AW B8 (qv 3) AA))
   (AI rfl (BQ (KH (Iw (Jb (Aj Qw hr (A0 (qv 0) (A0 (qv 2) (A0 (qv 4) A7)))))) (Lg (Iw (Jb (Aj Qw hr (A0 (qv 0) (A0 (qv 2) (A0 (qv 5) A7)))))))).pt (AL rfl (B1 ER)) BS)
   (AI rfl (BQ (BB Jw (AW CK (qv 5) AA) (Aj Fl hr (A0 (qv 0) (A0 (AW CK (qv 5) (Nh MN AA)) (A0 (qv 2) A7))))) (AL rfl (B1 ER)) BS)
   (AL rfl (B1 (W0 (R3 Hh (AW CK (qv 4) AA) (qv 1)) (Vq (R3 Hy (AW CK (qv 4) (Nh MN AA)) (AW CK (qv 5) AA))))))))))),?_⟩
 refine Fz.CY h aY ?_
 rintro _ _ ⟨ks,cs,r,W,i,x,rfl,g,hr,rg,h0,hx,rfl⟩
 show Ws [_,_,_,.is (.tup [.str "endless", .lst ((W.take (i+1)).map .str),.lst ((W.drop i).map .str)]),.any,.any] _ _ _
 obtain ⟨y,z,ey,ez,jt⟩:=rg.at'
 have hi:=(List.getElem?_eq_some_iff.mp ey).1
 refine AX (By (Jy (Jk (G4 (ao (A9 rfl ⟨true,X2 _ _,_,rfl,Bm (by decide) ?_⟩))))))
 refine Jy (Bn (Qk (QV (BU rfl (Aw ⟨rfl,_,rfl,Bm (by simp [alike]) ?_⟩)))))
 refine Bn (Qk (BW (BU rfl ⟨rfl,Aw ⟨_,_,rfl,rfl,EK ⟨rfl,_,rfl,Bm (by decide) (Bb ?_)⟩⟩⟩)))
 refine AX (GL (BW (BU rfl ⟨rfl,Aw ⟨_,_,rfl,rfl,?_⟩⟩)))
 refine AX (GL (BW (BU rfl ⟨rfl,Aw ⟨_,_,rfl,rfl,?_⟩⟩)))
 refine AX (By (Jy (Jk (G4 (wp_call (Ac (A9 rfl (Ac (A9 rfl (Ac (A9 rfl (BO ⟨_,⟨ks,r,W.take (i+1),rfl,g,hr,?_,rg.nd.sublist (Xq _ _),fun y hy=>rg.sub y (Rp hy),sC rg.ch _,rfl⟩,?_⟩))))))))))))
 ·intro e
  have:=congrArg List.length e
  rw [C7,Od] at this
  omega
 rintro _ rfl
 refine ⟨_,rfl,Bm (by decide) ?_⟩
 refine Jk (G4 (wp_call (Ac (A9 rfl (Ac (A9 rfl (Ac (A9 rfl (BO ⟨_,⟨ks,r,W.drop i,rfl,g,hr,?_,rg.nd.sublist (zQ _ _),fun y hy=>rg.sub y (Ro hy),sY rg.ch _,rfl⟩,?_⟩)))))))))
 ·intro e
  have:=congrArg List.length e
  rw [HF,Od] at this
  omega
 rintro _ rfl
 refine ⟨_,rfl,Bm (by decide) (Bb ?_)⟩
 have ad:∀ {n:Nat}{v:Str}{l:List Str},l[n]?=some v->(l.map PV.str)[n]?=some (.str v):=fun h=>by rw [Ag,h];rfl
 have e0:L2.B5 ((W.drop i).map PV.str) 0=some (.str y):=(Gn (j:=0) (ad (by rw [gb];exact ey)):L2.B5 _ ((0:Nat):Int)=_)
 have el:L2.B5 ((W.drop i).map PV.str) (-1)=some (.str z):=dN (by rw [gb,HF,show i+(W.length - i - 1)=W.length - 1 from by omega];exact ez)
 have w0:L2.B5 ((W.take (i+1)).map PV.str) 0=some (.str x):=(Gn (j:=0) (ad (by rw [Xi];simp [h0])):L2.B5 _ ((0:Nat):Int)=_)
 have wl:L2.B5 ((W.take (i+1)).map PV.str) (-1)=some (.str y):=dN (by rw [Xi,C7,Og (by omega)];simp [ey])
 refine AX (By (Bn (MQ (FY (C9 rfl ⟨rfl,Aw ⟨_,_,rfl,e0,y,rfl,?_⟩⟩)))))
 refine Bz (Bo (Gj (Ac (A9 rfl (Ac (FY (C9 rfl ⟨rfl,RF (Aw ⟨_,rfl,_,_,rfl,el,Ac (A9 rfl (BO ⟨_,⟨ks,z,r,rfl,g,rg.sub z (CC ez),hr,rfl⟩,?_⟩))⟩)⟩)))))))
 rintro _ rfl
 refine ⟨_,.inl ⟨rfl,AM ks r z,rfl,_,rfl,?_⟩⟩
 rw [decide_eq_true jt]
 refine Bm (by decide) (Bb ?_)
 refine GW (bq (Lx (FY (C9 rfl ⟨rfl,Aw ⟨_,_,rfl,w0,x,rfl,C9 rfl ⟨cs,rfl,_,rfl,?_⟩⟩⟩))))
 rw [decide_eq_true hx]
 refine Ji rfl ?_
 refine QK (FY (C9 rfl ⟨rfl,RF (Aw ⟨_,rfl,_,_,rfl,wl,FY (C9 rfl ⟨rfl,Aw ⟨_,_,rfl,e0,?_⟩⟩)⟩)⟩))
 exact ⟨rfl,by simp [alike]⟩
def Hw:BN ["script", "kinds", "book", "k", "pot", "crowd", "rule", "found", "kept"] ["script"] (Am Lv):=⟨rfl,rfl,rfl,by decide +kernel,rfl,by decide +kernel,by decide +kernel⟩
def mE {A4:Addr}(F:AQ K "law" "law" Lv f fd) (m:mg "law" = some (.ref f)) (WZ:AB P w K mg base "_law_book" 6 ["kinds"] (AV (VU A4))) (XQ:AB P w K mg base "_law_crowd" 2 ["pot", "kinds"] (AV SK)) (WU:AB P w K mg base "_law_endless_right" 4 ["kinds", "crowd", "rule", "found"] (AV WW)) (VA:AB P w K mg base "_law_kinds" 4 ["pot"] (AV TQ)) (P7:AB P w K mg base "_law_pot" 1 ["script", "k"] (OE K)) (SW:AB P w K mg base "_law_rings" 3 ["kinds", "crowd", "rule"] (AV RN)) (VG:AB P w K mg base "_law_rule" 2 ["pot"] (AV UN)) (QC:AB P w K mg base "ending" 16 ["book", "crowd", "rule"] (AV (Wu A4))) (BV:mg "len" = none) (D8:mg "list" = none) (GN:mg "max" = none) (Vv:mg "min" = none) (DO:mg "range" = none) (Dt:mg "tuple" = none) :
  Cm P w K mg base FA 18 f fd ["script"] (Mm K):=by
 refine (F.BR (k:=17) Hw (fun vs H Q E h=>by obtain ⟨a,ns,rfl,_⟩:=h;rfl) (fun AZ A outer s H vs Q E hr h=>?_))
 refine ⟨_,(AI rfl (Aq 1 Hw.nd (Aj VA hr (A0 (Aj P7 hr (A0 (qv 0) (A0 AA A7))) A7)))
   (AI rfl (Aq 2 Hw.nd (Aj WZ hr (A0 (qv 1) A7)))
   (AI rfl (Co (E2 Dk rfl (qB rfl DO (A0 AA (A0 (Cc (cx rfl) GN (A0 AA (A0 (Cc (tF rfl) Vv (A0 (Cc JF BV (A0 (qv 0) A7)) (A0 AA A7))) A7))) A7))) (DN 3 Hw.nd) (AI rfl (Aq 4 Hw.nd (Aj P7 hr (A0 (qv 0) (A0 (qv 3) A7))))
   (AI rfl (Aq 5 Hw.nd (Aj XQ hr (A0 (qv 4) (A0 (qv 1) A7))))
   (AI rfl (Aq 6 Hw.nd (Aj VG hr (A0 (qv 4) A7)))
   (AI rfl (Aq 7 Hw.nd (Aj QC hr (A0 (qv 2) (A0 (GR Oi Dt (A0 (qv 5) A7)) (A0 (qv 6) A7)))))
   (AL rfl (BQ (Iw (Jb (Aj SW hr (A0 (qv 1) (A0 (qv 5) (A0 (qv 6) A7)))))) (AL rfl (BQ (BB SX (AW B8 (qv 7) AA) BF) (AL rfl (B1 ER)) BS)) (AI rfl (BQ (Iw (Jb (Aj WU hr (A0 (qv 1) (A0 (qv 5) (A0 (qv 6) (A0 (qv 7) A7))))))) (AL rfl (B1 ER)) BS)
   (AI rfl (Aq 8 Hw.nd (Dl (A0 BF (A0 (GR Ln D8 (A0 (AW B8 (qv 7) AA) A7)) (A0 (GR Ln D8 (A0 (AW B8 (qv 7) AA) A7)) A7)))))
   (AI rfl (DY (HW GU Rw Rx N3 (AW B8 (qv 7) AA) (A0 BF A7)))
   (AI rfl (BQ (BB (Fz.e5 hr.units) (AW B8 (qv 7) AA) (AW B8 (qv 8) AA)) (AL rfl (B1 ER)) BS)
   (AI rfl (DY (Sy GU zl zo aN (AW B8 (qv 7) AA)))
   (AL rfl (BQ (BB (Fz.e5 hr.units) (Aj QC hr (A0 (qv 2) (A0 (GR Ln D8 (A0 (qv 5) A7)) (A0 (qv 6) A7)))) (qv 8)) (AL rfl (B1 ER)) BS)))))))))))))))
   (AL rfl (B1 ER))))),?_⟩
 refine Fz.p6 h ?_
 intro sc cV
 show Ws [_,.any,.any,.any,.any,.any,.any,.any,.any] _ _ _
 refine AX (GL (qo rfl (Aw ⟨_,rfl,by decide,by decide,BO ⟨[],_,rfl,⟨rfl,rfl⟩,?_⟩⟩)))
 rintro _ ⟨ks,rfl,g⟩
 refine AX (GL (wp_call (Ac (A9 rfl (BO ⟨_,⟨ks,rfl,g,rfl⟩,?_⟩)))))
 rintro _ rfl
 refine AX (Fh (EZ (fun _ i A8=>∃ (s3 s4 s5 s6 s7 s8:Slot),A8=[.raw (Dp K sc),.is (.lst (ks.map Kd.P)),.is (BC A4 ks),s3,s4,s5,s6,s7,s8]) ?_))
 walk_at "ww"
 obtain ⟨m,em,hm⟩:=sE (b:=2) (c:=21) (n:=sc.length) (by decide) (by decide) (by omega)
 rw [em]
 refine ⟨⟨by decide,by decide,by omega,by omega⟩,⟨_,_,_,_,_,_,rfl⟩,?_,?_⟩
 ·rintro i p A8 hp ⟨s3,s4,s5,s6,s7,s8,rfl⟩
  obtain ⟨hi,rfl⟩:=n9 hp
  refine FG ?_
  refine AX (cK rfl (A9 rfl ⟨_,rfl,by omega,by omega,?_⟩))
  refine AX (KD (mI rfl (Ac (A9 rfl (BO ⟨_,⟨ks,rfl,g,rfl⟩,?_⟩)))))
  rintro _ ⟨cs,rfl,hz,hc⟩
  refine M5 5 rfl ?_
  refine AX (GL (sf rfl (BO ⟨_,⟨rfl,rfl⟩,?_⟩)))
  rintro _ ⟨r,hr,rfl⟩
  show Ws [.raw (Dp K sc),.is (.lst (ks.map Kd.P)),.is (BC A4 ks),.is (.int (1+(i:Int))),.AK,.is (.lst (cs.map .str)),.is (.str r),s7,s8] _ _ _
  refine AX (JC (RA (Ac (A9 rfl (G3 (Bz (QB rfl (C9 rfl ?_))))))))
  refine ⟨_,.inr ⟨rfl,Ac (A9 rfl (BO ⟨_,⟨ks,true,cs,r,rfl,g,hr,hz,hc,rfl⟩,?_⟩))⟩⟩
  have ring:∀ {ss:List Slot}{k:Bool->Prop}(b:Bool),(b=true↔LG (AM ks r) cs)->ss[1]?=some (.is (.lst (ks.map Kd.P)))->ss[5]?=some (.is (.lst (cs.map .str)))->ss[6]?=some (.is (.str r))->k (!b)->Wt ss (Qm (tB (CL (AV RN) [] E0 (AO (BM 1) (AO (BM 5) (AO (BM 6) An)))))) k:=fun {ss k} b hb h1 h2 h3 hk=>by
   refine Jk (G4 (wp_call (Ac (A9 h1 (G3 (C9 h2 (Ac (A9 h3 (BO ⟨_,⟨ks,cs,r,rfl,g,hr,hz,hc,rfl⟩,?_⟩)))))))))
   rintro _ ⟨b',rfl,D0⟩
   have e:b'=b:=by
    cases b' <;> cases b <;> first | rfl | exact absurd (hb.mpr (D0.mp rfl)) (by decide) | exact absurd (D0.mpr (hb.mp rfl)) (by decide)
   subst e
   exact ⟨_,rfl,hk⟩
  rintro _ (⟨rg,W,j,b,c,x,rfl,ew,ok,h0,hx⟩ | ⟨T,tT,DT,sT,LD,b,M,rfl,hM⟩)
  ·show Ws [.raw (Dp K sc),.is (.lst (ks.map Kd.P)),.is (BC A4 ks),.is (.int (1+(i:Int))),.AK,.is (.lst (cs.map .str)),.is (.str r),.ow false (Hl W j b c),s8] _ _ _
   refine By (ring true ⟨fun _=>rg,fun _=>rfl⟩ rfl rfl rfl (Bm (by decide) ?_))
   have DR:∀ s8,List.map DG [.raw (Dp K sc),.is (.lst (ks.map Kd.P)),.is (BC A4 ks),.is (.int (1+(i:Int))),.AK,.is (.lst (cs.map .str)),.is (.str r),.ow false (Hl W j b c),s8]=[.raw (Dp K sc),.is (.lst (ks.map Kd.P)),.is (BC A4 ks),.is (.int (1+(i:Int))),.any,.is (.lst (cs.map .str)),.is (.str r),.is (Jo W j),DG s8]:=fun s8=>by rw [<- UO W j b c];rfl
   refine AX (By (NO ?_))
   rw [DR]
   refine Jk (G4 (wp_call (Ac (A9 rfl (Ac (A9 rfl (Ac (A9 rfl (Ac (A9 rfl (BO ⟨_,⟨ks,cs,r,W,j,x,rfl,g,hr,ok,h0,hx,rfl⟩,?_⟩)))))))))))
   rintro _ rfl
   refine ⟨_,rfl,Bm (by decide) (Bb ?_)⟩
   refine AX (JC (Mo (Ed (EY (EK (Ed (ME (WJ ?_))))))))
   rw [DR]
   refine M4 rfl (Bz (BW (BU rfl ⟨rfl,Aw ⟨_,_,rfl,rfl,_,.inl ⟨rfl,LY _ (fun _=>by simp [Cr]) _,fun b1=>?_⟩⟩⟩)))
   refine Ed (ME (WJ ?_))
   rw [DR]
   refine M4 rfl (Bz (BW (BU rfl ⟨rfl,Aw ⟨_,_,rfl,rfl,_,.inl ⟨rfl,LY _ (fun _=>by simp [Cr]) _,fun b2=>?_⟩⟩⟩)))
   refine N4 ⟨(fun _ h=>by cases h),(fun _ h=>by cases h),(fun _ h=>by cases h),(by show 3<=100000;decide),?_⟩
   show Ws [.raw (Dp K sc),.is (.lst (ks.map Kd.P)),.is (BC A4 ks),.is (.int (1+(i:Int))),.AK,.is (.lst (cs.map .str)),.is (.str r),.ow false (Hl W j b c),.ow false (Hl W j b1 b2)] _ _ _
   refine P6 8 rfl ?_
   rw [UO]
   have lW:W.length<=8:=by
    have h1:=Fo ok.nd ok.sub
    have h2:=g.l8
    rw [AE] at h1;omega
   refine AX (ae (i:=7) (Io (Ci rfl ⟨_,rfl,Aw ⟨1,1,_,rfl,rfl,rfl,false,b,_,rfl,rfl,?_,EY (EK ⟨by decide,?_⟩)⟩⟩)))
   ·rw [AE,AE,C7];omega
   rw [show ([]++[1]:List Nat)=[1] from rfl,wc]
   show Ws [.raw (Dp K sc),.is (.lst (ks.map Kd.P)),.is (BC A4 ks),.is (.int (1+(i:Int))),.AK,.is (.lst (cs.map .str)),.is (.str r),.ow false (.tp [.fz (.str "endless"),.nd .lst b (((W.take (j+1)).map PV.str++[PV.str ""]).map .fz),.nd .lst c (((W.drop j).map .str).map .fz)]),.is (Jo W j)] _ _ _
   refine AX (By (NO ?_))
   rw [show List.map DG _=[.raw (Dp K sc),.is (.lst (ks.map Kd.P)),.is (BC A4 ks),.is (.int (1+(i:Int))),.any,.is (.lst (cs.map .str)),.is (.str r),.is (OV.tp [.fz (.str "endless"),.nd .lst b (((W.take (j+1)).map PV.str++[PV.str ""]).map .fz),.nd .lst c (((W.drop j).map .str).map .fz)]).pv,.is (Jo W j)] from rfl,show (OV.tp [.fz (.str "endless"),.nd .lst b (((W.take (j+1)).map PV.str++[PV.str ""]).map .fz),.nd .lst c (((W.drop j).map .str).map .fz)]).pv=.tup [.str "endless", .lst ((W.take (j+1)).map PV.str++[PV.str ""]),.lst ((W.drop j).map .str)] from by rw [OV.pv,OV.BD,OV.BD,OV.BD,OV.BD,OV.pv,OV.pv,OV.pv,Iq,Iq]]
   refine Bn (UY (BW (BU rfl ⟨rfl,Aw ⟨_,_,rfl,rfl,BW (BU rfl ⟨rfl,Aw ⟨_,_,rfl,rfl,Sd _,Sd _,_,rfl,Bm (by rw [Zb 40 (show dat K 40 (.lst ((W.drop j).map PV.str)) from Sd _)];decide) (Bb ?_)⟩⟩)⟩⟩)))
   refine AX (aW (i:=7) (Io (Ci rfl ⟨_,rfl,Aw ⟨2,2,_,rfl,rfl,rfl,false,c,_,rfl,rfl,?_⟩⟩)))
   refine By (Bn (UY (gE (RA (Ac (A9 rfl (G3 (Bz (Bo (M4 rfl (C9 rfl ?_)))))))))))
   refine ⟨_,.inl ⟨rfl,Ac (A9 rfl (BO ⟨_,⟨ks,false,cs,r,rfl,g,hr,hz,hc,rfl⟩,?_⟩))⟩⟩
   rintro _ (⟨_,W',j',b3,b4,x',rfl,ZO,_⟩ | ⟨T,tT,DT,sT,LD,b,M,rfl,hM⟩)
   ·rw [ew] at ZO
    cases ZO
    refine ⟨rfl,A9 rfl ?_⟩
    rw [UO]
    refine ⟨Vh W j,Vh W j,_,rfl,Bm (by rw [Zb 40 (Vh (K:=K) W j)];decide) (Bb ⟨_,_,_,_,_,_,rfl⟩)⟩
   ·exact absurd rg (Zj tT DT LD)
  ·have nr:¬ LG (AM ks r) cs:=Zj tT DT LD
   show Ws [.raw (Dp K sc),.is (.lst (ks.map Kd.P)),.is (BC A4 ks),.is (.int (1+(i:Int))),.AK,.is (.lst (cs.map .str)),.is (.str r),.ow false (.tp [.fz (.str "ends"),.nd .lst b ((Mp ks r M).map .fz)]),s8] _ _ _
   refine P6 7 rfl ?_
   rw [show (OV.tp [.fz (.str "ends"),.nd .lst b ((Mp ks r M).map .fz)]).pv=.tup [.str "ends", .lst (Mp ks r M)] from by simp [OV.pv,OV.BD,Iq]]
   refine By (ring false ⟨fun z=>(by cases z),fun z=>absurd z nr⟩ rfl rfl rfl (Ji rfl ?_))
   refine By (Bn (Qk (BW (BU rfl ⟨rfl,Aw ⟨_,_,rfl,rfl,EK ⟨rfl,_,rfl,Bm (by decide) (Bb ⟨_,_,_,_,_,_,rfl⟩)⟩⟩⟩))))
 ·rintro A8 ⟨s3,s4,s5,s6,s7,s8,rfl⟩
  exact GW (Lz rfl)
def all_mk {l:PySem.W.OpenLaw}{w:World}{K:ZAY}{h:Heap}{mg:ZAa}{fa f1 f2 f3 f4 f5 f6 f7 f8 f9 QZ gI Y7 dg Zt bV RV dI R8 bZ fw bD d4 fP cO dC gJ bK dH aA bM gM fm aq aO:Addr}{g1 g2 g3 g4 g5 g6 g7 g8 g9 jD qz vz w6 sk vV qN ug oP xr tS xM jK p8 nL um nQ pV iE mH mW nW x6 xv xN:FuncData}(X:K.In h) (G:h.Ns mainGlobals mg) (mS:mg "law" = some (.ref fa))
  {XE:Tok}{VD:Tok}{Ss:Tok}{Us:Tok}{XH:Tok}{Ih:Addr}{IW:Addr}{FD:Addr}
  {A4:Addr}(pQ:PySem.W.nsIn K mainGlobals "Errands" = some (some (.ref A4)))
  (jC:PySem.W.plainGet K A4 Str.empty=true)
  (o7:PySem.W.hasDictIn K A4=true)
  (wG:PySem.W.plainOver K A4=true)
  (yf:PySem.W.findIn K (.ref A4) "__setattr__" = some (some (.builtin "object.__setattr__")))
  (pj:PySem.W.makesIn K A4=true)
  (og:PySem.W.keepIn K (.ref A4)=true)
  (Ot:PySem.W.findIn K (.ref A4) "goes_by_word" = some none)
  (GH:PySem.W.findIn K (.ref A4) "puts_by_word" = some none)
  (a1:nS K "_law_take" (.ref f1)) (F1:AQ K "_law_take" "_law_take" Wv f1 g1)
  (a2:nS K "_law_letters" (.ref f2)) (F2:AQ K "_law_letters" "_law_letters" Ts f2 g2)
  (a3:nS K "_law_name" (.ref f3)) (F3:AQ K "_law_name" "_law_name" UP f3 g3)
  (a4:nS K "_law_names" (.ref f4)) (F4:AQ K "_law_names" "_law_names" Tg f4 g4)
  (a5:nS K "_law_kinds" (.ref f5)) (F5:AQ K "_law_kinds" "_law_kinds" V2 f5 g5)
  (a6:nS K "check_word" (.ref f6)) (F6:AQ K "check_word" "check_word" WS f6 g6)
  (a7:nS K "check_puts" (.ref f7)) (F7:AQ K "check_puts" "check_puts" VE f7 g7)
  (a8:nS K "is_name" (.ref f8)) (F8:AQ K "is_name" "is_name" Pz f8 g8)
  (a9:nS K "check_kinds" (.ref f9)) (F9:AQ K "check_kinds" "check_kinds" QP f9 g9)
  (sV:PySem.W.findIn K (.ref A4) "__init__" = some (some (.ref QZ))) (tV:AQ K "__init__" "Errands.__init__" Sb QZ jD)
  (oV:PySem.W.isFn K (.ref QZ)=true)
  (kU:nS K "_law_book" (.ref gI)) (hX:AQ K "_law_book" "_law_book" Pa gI qz)
  (sW:nS K "_law_pot" (.ref Y7)) (tY:AQ K "_law_pot" "_law_pot" SE Y7 vz)
  (zC:nS K "_law_crowd" (.ref dg)) (nH:AQ K "_law_crowd" "_law_crowd" P5 dg w6)
  (gy:nS K "_law_rule" (.ref Zt)) (qG:AQ K "_law_rule" "_law_rule" Ug Zt sk)
  (qt:nS K "check_rule" (.ref bV)) (kg:AQ K "check_rule" "check_rule" XD bV vV)
  (xA:PySem.W.findIn K (.ref A4) "words" = some (some (.ref RV))) (eX:AQ K "words" "Errands.words" Wk RV qN)
  (wa:PySem.W.isFn K (.ref RV)=true)
  (v8:nS K "check_crowd" (.ref dI)) (uC:AQ K "check_crowd" "check_crowd" U1 dI ug)
  (xO:PySem.W.findIn K (.ref A4) "puts" = some (some (.ref R8))) (Yt:AQ K "puts" "Errands.puts" VN R8 oP)
  (qQ:PySem.W.isFn K (.ref R8)=true)
  (o6:nS K "comers_of" (.ref bZ)) (mF:AQ K "comers_of" "comers_of" QF bZ xr)
  (uP:nS K "ring_along" (.ref fw)) (xY:AQ K "ring_along" "ring_along" PH fw tS)
  (sH:nS K "way_and_ring" (.ref bD)) (pJ:AQ K "way_and_ring" "way_and_ring" V5 bD xM)
  (i9:nS K "sums_of" (.ref d4)) (qM:AQ K "sums_of" "sums_of" RD d4 jK)
  (rQ:nS K "rounds_to" (.ref fP)) (lV:AQ K "rounds_to" "rounds_to" UK fP p8)
  (pY:nS K "reckon" (.ref cO)) (pk:AQ K "reckon" "reckon" Lj cO nL)
  (kl:nS K "known_rows" (.ref dC)) (rF:AQ K "known_rows" "known_rows" WY dC um)
  (qg:nS K "table_of" (.ref gJ)) (jj:AQ K "table_of" "table_of" Qe gJ nQ)
  (uY:nS K "ending" (.ref bK)) (u9:AQ K "ending" "ending" V0 bK pV)
  (jZ:nS K "_law_comers" (.ref dH)) (y6:AQ K "_law_comers" "_law_comers" N8 dH iE)
  (rC:nS K "_law_reached" (.ref aA)) (uS:AQ K "_law_reached" "_law_reached" T7 aA mH)
  (tq:nS K "_law_rings" (.ref bM)) (l5:AQ K "_law_rings" "_law_rings" WR bM mW)
  (mq:nS K "_law_texts" (.ref gM)) (oO:AQ K "_law_texts" "_law_texts" RW gM nW)
  (kY:nS K "_law_is_chain" (.ref fm)) (jJ:AQ K "_law_is_chain" "_law_is_chain" Pg fm x6)
  (mK:nS K "_law_endless_right" (.ref aq)) (ve:AQ K "_law_endless_right" "_law_endless_right" TJ aq xv)
  (cL:nS K "law" (.ref aO)) (ag:AQ K "law" "law" Lv aO xN)
  (w8:nN K "all")
  (rX:nN K "enumerate")
  (lK:nN K "isinstance")
  (z7:nN K "len")
  (nI:nN K "list")
  (jA:nN K "max")
  (rM:nN K "min")
  (zD:nN K "range")
  (vn:nN K "str")
  (lg:nN K "sum")
  (vA:nN K "tuple")
  (qT:nS K "LETTERS" (.str "abcdefghijklmnopqrstuvwxyz" XE))
  (xU:nS K "MOST_IN_CROWD" (.int 12 VD))
  (vY:nS K "MOST_KINDS" (.int 8 Ss))
  (p5:nS K "MOST_LETTERS" (.int 8 Us))
  (uE:nS K "MOST_PUTS" (.int 6 XH))
  (jG:nS K "RULES" (.ref Ih))
  {iz:Option Addr}{qh:Array (Option Value)}{oK:Nat}{mJ r9 iy:Tok}(mB:K.lookup Ih=some ⟨.type "tuple", iz,.seq #[.str "none" mJ,.str "ahead" r9,.str "all" iy] oK,qh⟩)
  (qC:nS K "WHERES" (.ref IW))
  {su:Option Addr}{vi:Array (Option Value)}{nP:Nat}{vF tU qf qP:Tok}(yU:K.lookup IW=some ⟨.type "tuple", su,.seq #[.str "next" vF,.str "last" tU,.str "back" qf,.str "first" qP] nP,vi⟩)
  (hZ:nS K "WHERES_AHEAD" (.ref FD))
  {xD:Option Addr}{yK:Array (Option Value)}{pR:Nat}{sS yQ:Tok}(rV:K.lookup FD=some ⟨.type "tuple", xD,.seq #[.str "next" sS,.str "last" yQ] pR,yK⟩)
  : ∃ fd:FuncData,(∀ (s:Shared) (v:Value),BindsTo s fd ⟨[v],[]⟩ [("script", v)])/\∀ base:Heap,K.In base->base.Ns mainGlobals mg->Cm l.prog w K mg base FA 18 fa fd ["script"] (Mm K):=by
 have e:=mS.symm.trans (BI X G cL)
 cases e
 have ES:Dc K A4:=⟨jC,o7,wG,yf⟩
 have k9:Mk K A4 QZ:=⟨pj,sV,oV,og⟩
 have iA:Meth K A4 "words" RV:=⟨xA,wa,eX.kp⟩
 have t7:Meth K A4 "puts" R8:=⟨xO,qQ,Yt.kp⟩
 have Li:=HK X G w8
 have VS:=HK X G rX
 have Kk:=HK X G lK
 have BV:=HK X G z7
 have D8:=HK X G nI
 have GN:=HK X G jA
 have Vv:=HK X G rM
 have DO:=HK X G zD
 have VI:=HK X G vn
 have SN:=HK X G lg
 have Dt:=HK X G vA
 have X6:=BI X G qT
 have S9:=BI X G xU
 have Sa:=BI X G vY
 have Ti:=BI X G p5
 have Ud:=BI X G uE
 have WI:=BI X G jG
 have SQ:∀ H,Ab K H Ih [.str "none", .str "ahead", .str "all"]:=fun H=>.inr ⟨_,_,_,mB,rfl,rfl,(by show 3<=sizeLine;decide +kernel),(.cons ⟨_,rfl⟩ (.cons ⟨_,rfl⟩ (.cons ⟨_,rfl⟩ .nil)))⟩
 have T6:=BI X G qC
 have V1:∀ H,Ab K H IW [.str "next", .str "last", .str "back", .str "first"]:=fun H=>.inr ⟨_,_,_,yU,rfl,rfl,(by show 4<=sizeLine;decide +kernel),(.cons ⟨_,rfl⟩ (.cons ⟨_,rfl⟩ (.cons ⟨_,rfl⟩ (.cons ⟨_,rfl⟩ .nil))))⟩
 have Kv:=BI X G hZ
 have Lk:∀ H,Ab K H FD [.str "next", .str "last"]:=fun H=>.inr ⟨_,_,_,rV,rfl,rfl,(by show 2<=sizeLine;decide +kernel),(.cons ⟨_,rfl⟩ (.cons ⟨_,rfl⟩ .nil))⟩
 have U7:=BI X G pQ
 obtain ⟨_,_,kV,dc,pm,an,cd,ct,_,rfl,_,_⟩:=id ag.ex
 refine ⟨PySem.W.fnOf "law" "law" (Mi Lv) (Ki Lv) (Am Lv) .none kV dc pm an cd ct,fun s v=>.of_eq rfl,fun base _ _=>?_⟩
 have CN:=ng (P:=l.prog) (w:=w) (base:=base)  F1  (BI X G a1)
 have O3:=qy (P:=l.prog) (w:=w) (base:=base)  F2  (BI X G a2)
 have WD:=iO (P:=l.prog) (w:=w) (base:=base)  F3  (BI X G a3) O3 CN BV
 have V9:=jv (P:=l.prog) (w:=w) (base:=base)  F4  (BI X G a4) WD DO
 have VA:=pO (P:=l.prog) (w:=w) (base:=base)  F5  (BI X G a5) V9 CN GN DO Dt
 have HY:=zB (P:=l.prog) (w:=w) (base:=base)  F6  (BI X G a6)
 have Ui:=kE (P:=l.prog) (w:=w) (base:=base)  F7  (BI X G a7) HY T6 V1
 have To:=ub (P:=l.prog) (w:=w) (base:=base)  F8  (BI X G a8) Li BV X6 Ti
 have W5:=lY (P:=l.prog) (w:=w) (base:=base)  F9  (BI X G a9) Ui To VS BV Sa Ud
 have U2:=lx (P:=l.prog) (w:=w) (mg:=mg) (base:=base) (A4:=A4) tV  k9 W5 Dt ES Ot GH
 have WZ:=sX (P:=l.prog) (w:=w) (base:=base) (A4:=A4) hX  (BI X G kU) U2 D8 U7
 have P7:=yy (P:=l.prog) (w:=w) (base:=base)  tY  (BI X G sW) BV
 have XQ:=kq (P:=l.prog) (w:=w) (base:=base)  nH  (BI X G zC) CN BV DO
 have VG:=lN (P:=l.prog) (w:=w) (base:=base)  qG  (BI X G gy) CN
 have XZ:=kM (P:=l.prog) (w:=w) (base:=base)  kg  (BI X G qt) WI SQ
 have Fd:=iZ (P:=l.prog) (w:=w) (mg:=mg) (base:=base) (A4:=A4) eX  iA D8 ES GH
 have TN:=ik (P:=l.prog) (w:=w) (base:=base) (A4:=A4) uC  (BI X G v8) Fd HY BV S9
 have TH:=uo (P:=l.prog) (w:=w) (mg:=mg) (base:=base) (A4:=A4) Yt  t7 HY D8 ES GH
 have Gh:=qF (P:=l.prog) (w:=w) (base:=base) (A4:=A4) mF  (BI X G o6) TH Kv Lk
 have O1:=sP (P:=l.prog) (w:=w) (base:=base) (A4:=A4) xY  (BI X G uP) Gh
 have TF:=qm (P:=l.prog) (w:=w) (base:=base) (A4:=A4) pJ  (BI X G sH) O1
 have MU:=pD (P:=l.prog) (w:=w) (base:=base)  qM  (BI X G i9) DO SN
 have NN:=vK (P:=l.prog) (w:=w) (base:=base)  lV  (BI X G rQ) Kv Lk
 have O4:=mU (P:=l.prog) (w:=w) (base:=base) (A4:=A4) pk  (BI X G pY) Fd Gh NN MU BV GN Dt
 have Si:=uM (P:=l.prog) (w:=w) (base:=base) (A4:=A4) rF  (BI X G kl) O4
 have XJ:=uX (P:=l.prog) (w:=w) (base:=base) (A4:=A4) jj  (BI X G qg) Fd Si
 have QC:=kC (P:=l.prog) (w:=w) (base:=base) (A4:=A4) u9  (BI X G uY) TN XZ XJ TF
 have Fl:=ib (P:=l.prog) (w:=w) (base:=base)  y6  (BI X G jZ)
 have P9:=oX (P:=l.prog) (w:=w) (base:=base)  uS  (BI X G rC) Fl D8
 have SW:=q8 (P:=l.prog) (w:=w) (base:=base)  l5  (BI X G tq) Fl P9
 have Tz:=ue (P:=l.prog) (w:=w) (base:=base)  oO  (BI X G mq) Li Kk D8 VI
 have Qw:=mX (P:=l.prog) (w:=w) (base:=base)  jJ  (BI X G kY) Fl Tz BV DO
 have WU:=xK (P:=l.prog) (w:=w) (base:=base)  ve  (BI X G mK) Fl Qw Kk BV Dt
 exact mE (P:=l.prog) (w:=w) (base:=base) (A4:=A4) ag  (BI X G cL) WZ XQ WU VA P7 SW VG QC BV D8 GN Vv DO Dt
def walk {l:PySem.W.OpenLaw}{q:Program}{loose:List Str}{XP:(ZAa)->Heap->Prop}{YP:World->Heap->Prop}{d:DefRec}{K:Params->ZAY}(hn:l.most=some 63) (NJ:d.params.defaults=[])
  (hY:∀ (w:World) (h:Heap),YP w h->(K w.params).In h)
  (F:∀ (w:World) (mg:ZAa) (fa:Addr) (h:Heap),(K w.params).In h->h.Ns mainGlobals mg->mg d.name=some (.ref fa)->
   ∃ fd:FuncData,(∀ (s:Shared) (u:Value),BindsTo s fd ⟨[u],[]⟩ [("script", u)])/\∀ base:Heap,(K w.params).In base->base.Ns mainGlobals mg->Cm l.prog w (K w.params) mg base FA 18 fa fd ["script"] (Mm (K w.params))) :
  PySem.W.WalkO q loose XP YP l.row.toRowW d [] (fun f vs=>PySem.call f vs):=
 L2.j4 (n:=63) (k:=18) (x := "script") (CX:=fun _=>FA) (sp:=fun w=>Mm (K w.params)) hn (by decide) NJ ⟨rfl,by decide,by decide⟩ hY F (fun _ _ a ns hl _ hS=>⟨a,ns,rfl,hS,hl,fun _=>rfl⟩) fun _ _ _ _ _ z=>z
end Pf
open PySem.W
local macro_rules | `(tactic| walk_at "kF")=>`(tactic| (refine' L2.lH ?_ ?_ ?_;all_goals try k_is;all_goals k_is))
set_option maxRecDepth 100000 in
set_option maxHeartbeats 0 in
theorem PySem.Challenge.cw_stirround_k76_ways_and_rings_holds : PySem.Challenge.rw_stirround_k76_ways_and_rings.Holds := by
 w_on;o_law;k_head;(case hw=>w_witness2)
 k_fill
 refine Pf.walk (l:=PySem.Challenge.rw_stirround_k76_ways_and_rings) rfl rfl (fun w h Y=>PySem.W.kIn_of Y) ?F
 case F=>
  intro w mg fa h KX G NX
  refine' Pf.all_mk KX G NX ?_ ?_ ?_ ?_ ?_ ?_ ?_ ?_ ?_ ?_ ?_ ?_ ?_ ?_ ?_ ?_ ?_ ?_ ?_ ?_ ?_ ?_ ?_ ?_ ?_ ?_ ?_ ?_ ?_ ?_ ?_ ?_ ?_ ?_ ?_ ?_ ?_ ?_ ?_ ?_ ?_ ?_ ?_ ?_ ?_ ?_ ?_ ?_ ?_ ?_ ?_ ?_ ?_ ?_ ?_ ?_ ?_ ?_ ?_ ?_ ?_ ?_ ?_ ?_ ?_ ?_ ?_ ?_ ?_ ?_ ?_ ?_ ?_ ?_ ?_ ?_ ?_ ?_ ?_ ?_ ?_ ?_ ?_ ?_ ?_ ?_ ?_ ?_ ?_ ?_ ?_ ?_ ?_ ?_ ?_ ?_ ?_ ?_ ?_ ?_ ?_ ?_
  any_goals first | k_is | (show _=_;k_is) | kernel_rfl | walk_at "kF"
#print axioms PySem.Challenge.cw_stirround_k76_ways_and_rings_holds
