import PyProof.Rows.All
import Wide.All
import OpenK.AllK
import Wide.FinOn
import Lean
import PyProof.EqAt
import PyProof.EqKinds
import PyProof.TupleCall
import KE.KRevIter
import PyProof.CallType
import PyProof.EnumMake
import PyProof.EnumFor
import PyProof.Draws
import PyProof.Rows.CallKwBuiltin
import PyProof.StrBlockH
import KE.KIntText
import PyProof.Rows.SortStr
import PyProof.TupleIter
import PyProof.ZipIter
import PyProof.Rows.ZipGen
import PyProof.Rows.TupAdd
import KE.KLcPair
import PyProof.IsRules
import PyProof.ListRange
import PyProof.NeKinds
import KE.KTryMore
import OpenK.KOwn
import PyProof.ExcInit
import PyProof.FString
import PyProof.ReprStr
import PyProof.StrLawsRepr
import PyProof.CallStr
import OpenK.KCls
import PyProof.ExcArgsOwn
import PyProof.Rows.StrJoin2
import PyProof.FactsAll.set_2
import PyProof.MeetsSeq2
import PyProof.Rows.Range3
import PyProof.Rows.ChunkLeaf
import PyProof.DictWalks
import PyProof.ListMulRoad
import PyProof.ListCopy
import PyProof.Rows.SumAny
import PyProof.ListIndex
import PySem.Challenge.RW_stirround_k71_errands_told
def AJ:=@List.length_map
def AV:=@Nat.le_refl
def AY:=@PySem.Heap.lt_size
def Ah:=@Ne.symm
def Ak:=@List.getElem?_map
def Ay:=@List.not_mem_nil
def B4:=@List.getElem?_eq_getElem
def B6:=@PySem.W.mg_of
def B9:=@PySem.Heap.get?_push_of_some
def BA:=@Option.some.inj
def BP:=@Nat.ne_of_lt
def BV:=@List.map_cons
def Bd:=@List.getElem?_set_ne
def Be:=@List.nodup_append
def Bm:=@List.length_cons
def Bs:=@List.size_toArray
def Bt:=@Nat.le_trans
def Bx:=@PySem.Heap.get?_push_size
def C6:=@Bool.false_ne_true
def C7:=@List.getElem?_set_self
def CT:=@List.append_assoc
def CU:=@Nat.lt_of_lt_of_le
def Ci:=@List.map_map
def Cj:=@Nat.zero_le
def DL:=@List.length_append
def DW:=@Bool.and_eq_true
def Dn:=@PySem.Heap.get?_update_other
def Dp:=@List.map_append
def E9:=@List.mem_append_right
def EV:=@List.append_nil
def EW:=@List.getElem?_append_left
def EX:=@List.getElem?_append_right
def EY:=@List.length_take
def EZ:=@List.mem_of_getElem?
def Ez:=@PySem.PassesOwn.never
def Fe:=@List.mem_cons_of_mem
def Ff:=@PySem.W.kia_one
def G6:=@PySem.Heap.get?_update_self
def G7:=@List.all_eq_true
def G8:=@PySem.F.plainAttrs_list
def G9:=@PySem.mem_of_lookup
def HC:=@List.length_set
def HD:=@List.lookup_cons
def HE:=@PySem.W.mg_none_of
def Ho:=@PySem.Heap.size_push
def Hq:=@Int.emod_nonneg
def Hr:=@List.getElem_mem
def Hs:=@List.map_nil
def Ht:=@PySem.F.slot_list_append
def Hu:=@PySem.F.type_list_append
def Iy:=@Int.emod_lt_of_pos
def Iz:=@Int.toNat_natCast
def J0:=@List.mem_cons_self
def J1:=@List.take_length
def J2:=@List.zip_cons_cons
def J3:=@Nat.lt_irrefl
def J4:=@Nat.ne_of_gt
def J5:=@PySem.Obj.data_mapFields
def KH:=@Bool.true_and
def KI:=@List.any_cons
def KJ:=@List.getD_eq_getElem?_getD
def KL:=@List.mem_cons
def MW:=@Bool.eq_iff_iff
def MX:=@PySem.Heap.get?_none_of_le
def MY:=@PySem.Heap.size_after_update
def MZ:=@List.all_cons
def Ma:=@List.find?_cons
def Mb:=@List.getElem_map
def Mc:=@List.mem_append_left
def Md:=@Nat.le_succ
def Me:=@Option.map_some
def Oe:=@List.filterMap_cons
def Of:=@List.set_cons_succ
def Og:=@List.set_set
def Oh:=@List.take_succ_eq_append_getElem
def Oi:=@Nat.lt_of_le_of_lt
def Oj:=@Nat.succ.inj
def Ol:=@PySem.Obj.isFreed_of_fields
def Om:=@PySem.W.callWith_K
def UT:=@Array.length_toList
def UU:=@Bool.and_false
def UW:=@PySem.F.slot_tuple_iterator_next
def UX:=@List.drop_zero
def UY:=@List.getElem?_range
def UZ:=@List.length_nil
def Ua:=@List.map_take
def Ub:=@List.mem_append
def Uc:=@List.nil_append
def Ud:=@List.set_cons_zero
def Ue:=@List.take_of_length_le
def Ug:=@Nat.sub_self
def Uh:=@Nat.sub_zero
def Ui:=@PySem.W.looks_findIn
def aR:=@Int.eq_ofNat_of_zero_le
def aS:=@Int.lt_of_le_of_lt
def aT:=@List.cons_append
def aU:=@List.filter_append
def aV:=@List.foldl_cons
def aW:=@List.getElem?_replicate
def aX:=@List.getElem_idxOf
def aY:=@List.length_filter_le
def aZ:=@List.length_zip
def aa:=@List.map_drop
def ae:=@List.of_mem_zip
def af:=@Nat.le_of_eq
def ag:=@Nat.le_of_lt
def ah:=@Nat.lt_succ_self
def ai:=@Nat.lt_trans
def aj:=@Option.bind_some
def ak:=@Option.isSome_map
def ao:=@PySem.Paired.length
def aq:=@PyProof.Rows.callWith_type1
def aw:=@PySem.W.any_some
def ax:=@PySem.W.looks_clsIn
def ay:=@PySem.W.methodCall_KW
def az:=@PySem.W.plainGet_of
def rM:=@Array.find?_toList
def rN:=@Array.getElem?_toList
def rO:=@PySem.Calls.Name_function_global
def rP:=@PySem.Calls.callWith_builtin
def rQ:=@PySem.F.args_tuple_iterator_next_1
def rR:=@PySem.F.entry_tuple_iterator_next
def rS:=@Int.toNat_of_nonneg
def rT:=@List.contains_cons
def rV:=@List.countP_cons
def rW:=@List.getElem?_eq_none
def rX:=@List.getElem_inj
def rY:=@List.getElem_of_mem
def rZ:=@List.getElem_take
def ra:=@List.length_drop
def rb:=@List.length_erase_of_mem
def rf:=@List.length_pos_of_mem
def rg:=@List.length_replicate
def rh:=@List.length_singleton
def rk:=@List.lookup_cons_self
def rl:=@List.mem_erase_of_ne
def rm:=@List.mem_of_mem_take
def rq:=@List.reverse_cons
def sA:=@List.set_append_right
def sC:=@List.take_sublist
def sD:=@Nat.le_succ_of_le
def sE:=@Nat.lt_succ_of_lt
def sF:=@Nat.min_eq_right
def sG:=@Option.getD_none
def sH:=@Option.some.injEq
def sI:=@PySem.F.excBase_ValueError
def sJ:=@PySem.F.slot_list_insert
def sL:=@PySem.W.Looks.here
def sM:=@PySem.W.cellsFrom_some
def sN:=@PySem.W.findObj_own
def sO:=@PySem.W.handedOut_of
def sP:=@PySem.W.kitx_dict
def sQ:=@PySem.W.kitx_list
def sR:=@PySem.W.looks_find
def sS:=@PySem.W.looks_mroIn
def sT:=@PySem.W.set_plain
def sU:=@PySem.Within.cons
open PySem PySem.Spec PyProof.Rows
abbrev tV:=PySem.W.Frag
abbrev tW:=(List (Addr×Obj))
abbrev tX:=(Str->Option Value)
namespace PySem.W.Fast
def tw1341101799657172170:=0
def tw12022497534316010506:=0
def tw8607319043613162025:=0
def tw4843810237971328283:=0
def tw1705244582917468666:=0
def tw6193526569550073167:=0
def tw1380876115665063376:=0
def tw18374488913950262695:=0
def tw7986585953786875974:=0
def tw5569009860568463847:=0
def tw9079325957732354831:=0
def tw9614934644764932626:=0
def tw16529969589183538157:=0
def tw3001059714204139571:=0
def tw14912055759579606265:=0
def tw17926280296609100339:=0
def tw4813632502589630629:=0
def tw3645790595336817037:=0
def tw10634922050291306675:=0
def tw12988997507000281549:=0
def tw947887410820434581:=0
def tw5897852340226681386:=0
def tw4129608542868388829:=0
def tw677647054832373940:=0
def tw9322121572454118377:=0
def tw7375835738126182244:=0
def tw5867245025466533290:=0
def tw1919725701041241617:=0
def tw16136489974464208159:=0
def tw4758341190828386663:=0
def tw5220230285945414855:=0
def tw17620132804542026601:=0
def tw3007425231013431120:=0
def tw14813092383150944303:=0
def tw13859496224567026620:=0
def tw17020203970320894285:=0
def tw11665412912581698079:=0
def tw5211064280730805222:=0
def tw2409849188991752779:=0
def tw6508900491124670169:=0
def tw3081572933051658806:=0
def tw13673118565362472448:=0
def tw11788527114883529025:=0
def tw10149522245639307263:=0
def tw10114498686845986380:=0
def tw2306451741886402360:=0
def tw13188199910926069903:=0
def tw14292459271644065715:=0
def tw5483526168093099049:=0
def tw14606785832599845432:=0
def tw17955491022184079365:=0
def tw12808290959453497410:=0
def tw17494129724033780876:=0
def tw17136621376074984393:=0
def tw14638096201032840204:=0
def tw5750636371699375167:=0
def tw6999609401980057590:=0
def tw12742087220357539711:=0
def tw2711300192624767971:=0
def tw12424286413507784618:=0
def tw7453850308535702942:=0
def tw11789671611969022274:=0
def tw14456229521502783287:=0
def tw16752980701604968850:=0
def tw9042874013791687080:=0
def tw8631262121475500633:=0
end PySem.W.Fast
set_option bootstrap.genMatcherCode false
set_option Elab.async false
set_option linter.all false
set_option maxRecDepth 100000
namespace L2
abbrev Key:=Sum Int Str
def IP:Key->Value->Bool
 | .inl k,v=>Value.isInt k v
 | .inr x,v=>Value.isStrOf x v
def iQ (w:World):Key->Int
 | .inl k=>hashInt k
 | .inr x=>hashStr w x
def Fs:∀ {k:Key}{v:Value},IP k v=true->(∃ i t,k=Sum.inl i/\v=Value.int i t)∨(∃ x t,k=Sum.inr x/\v=Value.str x t)
 | .inl i,v,h=>by
  obtain ⟨t,e⟩:=Value.isInt_shape (k:=i) (v:=v) h
  exact .inl ⟨i,t,rfl,e⟩
 | .inr x,v,h=>by
  obtain ⟨t,e⟩:=Value.isStrOf_shape (x:=x) (v:=v) h
  exact .inr ⟨x,t,rfl,e⟩
def iP (i:Int) (t:Tok):IP (.inl i) (.int i t)=true:=by simp [IP,Value.isInt]
def e9 (x:Str) (t:Tok):IP (.inr x) (.str x t)=true:=by simp [IP,Value.isStrOf]
def da (a b:Int):decide ((Sum.inl a:Key)=Sum.inl b)=(a == b):=by
 by_cases e:a=b
 ·subst e;simp
 ·have h:¬ (Sum.inl a:Key)=Sum.inl b:=fun q=>e (Sum.inl.inj q)
  rw [decide_eq_false h]
  exact (beq_eq_false_iff_ne.mpr e).symm
def kY (a b:Str):decide ((Sum.inr a:Key)=Sum.inr b)=decide (a=b):=by
 by_cases e:a=b
 ·subst e;simp
 ·have h:¬ (Sum.inr a:Key)=Sum.inr b:=fun q=>e (Sum.inr.inj q)
  rw [decide_eq_false h,decide_eq_false e]
def jt (a:Int) (b:Str):decide ((Sum.inl a:Key)=Sum.inr b)=false:=decide_eq_false (fun q=>nomatch q)
def kR (a:Str) (b:Int):decide ((Sum.inr a:Key)=Sum.inl b)=false:=decide_eq_false (fun q=>nomatch q)
def CZ (prog:Program) (w:World):PySem.KeyKind prog w Key where
 is:=IP
 hash:=iQ w
 inj:=fun v a b ha hb=>by
  rcases Fs ha with ⟨i,t,rfl,rfl⟩ | ⟨x,t,rfl,rfl⟩
  ·rcases Fs hb with ⟨j,u,rfl,e⟩ | ⟨y,u,rfl,e⟩
   ·injection e with e1 _;rw [e1]
   ·exact nomatch e
  ·rcases Fs hb with ⟨j,u,rfl,e⟩ | ⟨y,u,rfl,e⟩
   ·exact nomatch e
   ·injection e with e1 _;rw [e1]
 byValue:=fun k v h=>by
  rcases Fs h with ⟨i,t,rfl,rfl⟩ | ⟨x,t,rfl,rfl⟩ <;> rfl
 pyHash:=fun hv h=>by
  rcases Fs hv with ⟨i,t,rfl,rfl⟩ | ⟨x,t,rfl,rfl⟩
  ·exact wpAny_pyHash_int h
  ·exact wpAny_pyHash_str h
 eqBool:=fun hu hv h=>by
  rcases Fs hu with ⟨i,t,rfl,rfl⟩ | ⟨x,t,rfl,rfl⟩
  ·rcases Fs hv with ⟨j,u,rfl,rfl⟩ | ⟨y,u,rfl,rfl⟩
   ·rw [da] at h;exact wpAny_eqBool_int h
   ·rw [jt] at h;exact SeqAt.EqAt.int_str i t y u _ _ _ _ h
  ·rcases Fs hv with ⟨j,u,rfl,rfl⟩ | ⟨y,u,rfl,rfl⟩
   ·rw [kR] at h;exact SeqAt.EqAt.str_int x t j u _ _ _ _ h
   ·rw [kY] at h;exact wpAny_eqBool_str h
 «strs»:=fun k x t v h=>by
  rcases Fs h with ⟨i,u,rfl,e⟩ | ⟨y,u,rfl,e⟩
  ·exact nomatch e
  ·injection e with e1 _
   subst e1
   cases v <;> rfl
def gS (prog:Program) (w:World) (i:Int) (t:Tok):(CZ prog w).is (.inl i) (.int i t)=true:=iP i t
def n0 (prog:Program) (w:World) (x:Str) (t:Tok):(CZ prog w).is (.inr x) (.str x t)=true:=e9 x t
inductive V where
 | A4 | bl (b:Bool) | int (i:Int) | str (x:Str) | Ej (b:Array UInt8) | HY (b:UInt64) | ref (a:Addr) | ty (n:String)
 deriving DecidableEq
def RelV:V->Value->Prop
 | .A4,u=>u=Value.none
 | .bl b,u=>u=Value.bool b
 | .int i,u=>∃ t,u=Value.int i t
 | .str x,u=>∃ t,u=Value.str x t
 | .Ej b,u=>∃ t,u=Value.bytes b t
 | .HY b,u=>∃ t,u=Value.float b t
 | .ref a,u=>u=Value.ref a
 | .ty n,u=>u=Value.type n
abbrev Vals:List V->List Value->Prop:=Paired RelV
theorem Vals.length {xs:List V}{us:List Value}(r:Vals xs us):xs.length=us.length:=ao r
theorem Vals.get:∀ {xs:List V}{us:List Value}{i:Nat}{x:V},Vals xs us->xs[i]?=some x->∃ u,us[i]?=some u/\RelV x u
 | _,_,_,_,.nil,e=>by simp at e
 | _,_,0,_,.cons r _,e=>by simp at e;subst e;exact ⟨_,rfl,r⟩
 | _,_,i+1,x,.cons _ t,e=>by
  obtain ⟨u,h1,h2⟩:=Vals.get (i:=i) (x:=x) t (by simpa using e)
  exact ⟨u,by simpa using h1,h2⟩
theorem Vals.set {x:V}{u:Value}(r:RelV x u):∀ {xs:List V}{us:List Value}(i:Nat),Vals xs us->Vals (xs.set i x) (us.set i u)
 | _,_,_,.nil=>.nil
 | _,_,0,.cons _ t=>.cons r t
 | _,_,i+1,.cons q t=>.cons q (Vals.set r i t)
theorem Vals.append:∀ {xs ys:List V}{us ws:List Value},Vals xs us->Vals ys ws->Vals (xs++ys) (us++ws)
 | _,_,_,_,.nil,s=>s
 | _,_,_,_,.cons r t,s=>.cons r (Vals.append t s)
theorem Vals.take:∀ {xs:List V}{us:List Value}(n:Nat),Vals xs us->Vals (xs.take n) (us.take n)
 | _,_,0,_=>.nil
 | _,_,_+1,.nil=>.nil
 | _,_,n+1,.cons r t=>.cons r (Vals.take n t)
theorem Vals.drop:∀ {xs:List V}{us:List Value}(n:Nat),Vals xs us->Vals (xs.drop n) (us.drop n)
 | _,_,0,r=>r
 | _,_,_+1,.nil=>.nil
 | _,_,n+1,.cons _ t=>Vals.drop n t
def DI:Option V->Option Value->Prop
 | some v,some u=>RelV v u
 | none,none=>True
 | _,_=>False
def KV {κ:Type}:List (κ×V)->List (κ×Value)->Prop:=Paired fun (p:κ×V) (q:κ×Value)=>p.1=q.1/\RelV p.2 q.2
def kV:Key->V
 | .inl i=>.int i
 | .inr x=>.str x
inductive HO where
 /-- a list -/
 | lst (xs:List V)
 /-- a tuple (never changes) -/
 | tup (xs:List V)
 /-- a dict eR keys are ints and texts;one eR keys are tuples of ints and texts (FW empty one is both) -/
 | dK (A3:List (Key×V)) | dT (A3:List (List Key×V))
 /-- a set of ints: A0 members,A0 size -/
 | set (S:Int->Bool) (n:Nat)
 /-- an instance of FW class at C,A0 dict at dx,A0 attributes -/
 | ins (C dx:Addr) (fs:List (Str×V))
 /-- FW dict of FW instance at x -/
 | own (x:Addr)
 /-- FW dict of an exception -/
 | xd (fs:List (Str×V))
 /-- a bound method,f of x -/
 | met (f x:Addr)
 /-- a range object lo,lo+1,.. below hi -/
 | OT (lo hi:Int)
 /-- a j9 tU is known to FW object (FW VA;a dict while a loop walks it): read,never written while it is so -/
 | CH (o:Obj) (u:HO)
 /-- a code sk table -/
 | Hi (ps:Array Value)
 /-- any other j9,by mX is true of A0 one object (a def of tH own: ON a S n:=HO.ext fun h=>..) -/
 | ext (φ:Heap->Prop)
abbrev Hp:=Addr->Option HO
def upd (H:Hp) (a:Addr) (o:HO):Hp:=fun b=>if b=a then some o else H b
def AN {H:Hp}{a:Addr}{o:HO}:upd H a o a=some o:=by unfold upd;rw [if_pos rfl]
def AF {H:Hp}{a b:Addr}{o:HO}(h:b≠a):upd H a o b=H b:=by unfold upd;rw [if_neg h]
def il {H:Hp}{a b:Addr}{o u:HO}(h:H a=some o) (h':H b=some u) (d:o≠u):a≠b:=by
 intro e;subst e;rw [h] at h';exact d (BA h')
def Bu {H:Hp}{a b:Addr}{o:HO}(h:H a=some o) (h':H b=none):a≠b:=by
 intro e;subst e;rw [h] at h';cases h'
section
variable (P:Program) (w:World)
def BO (H:Hp) (h:Heap) (a:Addr):HO->Prop
 | .lst xs=>xs.length<=sizeLine/\∃ (A0:List Value) (n:Nat),Vals xs A0/\h.get? a=some { cls:=.type "list", data:=.seq A0.toArray n }
 | .tup xs=>xs.length<=sizeLine/\∃ A0:List Value,Vals xs A0/\(IsTup h a A0.toArray/\∀ ob,h.get? a=some ob->ob.dict=none)
 | .dK A3=>A3.length<=sizeLine/\(a == sysModules)=false/\∃ vs,KV A3 vs/\h.DictOf (CZ P w) a vs
 | .dT A3=>A3.length<=sizeLine/\(a == sysModules)=false/\∃ xs:List (List Key×Addr×Value),
   Paired (fun (p:List Key×V) (q:List Key×Addr×Value)=>p.1=q.1/\H q.2.1=some (.tup (p.1.map kV))/\RelV p.2 q.2.2) A3 xs/\
   ∃ o es ep,h.get? a=some o/\o.ExactDict/\o.data=.dict es ep/\es.toList=xs.map (entryOfKey (tupleKind (CZ P w)))/\(xs.map (·.1)).Nodup
 | .set S n=>h.SetOf (intKind P w) a S n
 | .ins C dx fs=>H dx=some (.own a)/\fs.length<=1000/\dx≠a/\h.get? a=some (PySem.W.instObj C dx)/\
   ∃ mA,h.Ns1 dx mA/\(∀ f,DI (fs.lookup f) (mA f))/\PySem.Within mA (fs.map (·.1))
 | .own _=>∃ o,h.get? a=some o
 | .xd fs=>∃ mA,h.Ns1 a mA/\∀ f,DI (fs.lookup f) (mA f)
 | .OT lo hi=>∃ t u v,h.get? a=some { cls:=.type "range", data:=.fields #[.int lo t,.int hi u,.int 1 v] }
 | .CH o u=>h.get? a=some o/\BO H h a u
 | .Hi ps=>h.get? a=some { cls:=.none,data:=.fields ps }
 | .met f x=>h.get? a=some (PySem.W.methodObj (.ref f) (.ref x))
 | .ext φ=>φ h/\(∃ o,h.get? a=some o)/\∀ h1 h2:Heap,φ h1->(∀ o,h1.get? a=some o->h2.get? a=some o)->φ h2
def B8 (H:Hp) (h:Heap):Prop:=∀ a o,H a=some o->BO P w H h a o
end
section
variable {P:Program}{w:World}{H H':Hp}{h h':Heap}{a:Addr}{o:HO}
theorem BO.lt (x:BO P w H h a o):a < h.objs.size:=by
 cases o with
 | lst xs=>obtain ⟨_,_,_,_,e⟩:=x;exact AY e
 | tup xs=>obtain ⟨_,_,_,p⟩:=x;exact p.1.lt
 | dK A3=>obtain ⟨_,_,_,_,o,_,_,e,_⟩:=x;exact AY e
 | dT A3=>obtain ⟨_,_,_,_,o,_,_,e,_⟩:=x;exact AY e
 | set S n=>obtain ⟨o,_,_,_,e,_⟩:=x;exact AY e
 | ins C dx fs=>obtain ⟨_,_,_,e,_⟩:=x;exact AY e
 | own y=>obtain ⟨_,e⟩:=x;exact AY e
 | xd fs=>obtain ⟨_,⟨_,_,_,e,_⟩,_⟩:=x;exact AY e
 | OT lo hi=>obtain ⟨_,_,_,e⟩:=x;exact AY e
 | CH ob u=>obtain ⟨e,_⟩:=x;exact AY e
 | Hi ps=>exact AY (show h.get? a=some _ from x)
 | met f y=>exact AY (show h.get? a=some _ from x)
 | ext φ=>obtain ⟨_,⟨_,e⟩,_⟩:=x;exact AY e
theorem Paired.T1 {α β:Type} {F G:α->β->Prop}:∀ {l₁:List α}{l₂:List β},Paired F l₁ l₂->(∀ a b,F a b->G a b)->Paired G l₁ l₂
 | _,_,.nil,_=>.nil
 | _,_,.cons r t,f=>.cons (f _ _ r) (Paired.T1 t f)
def BO.Ea (x:BO P w H h a o) (k:∀ b u,(b=a∨H b=some (.own a))->h.get? b=some u->h'.get? b=some u)
  (ho:∀ b,H b=some (.own a)->H' b=some (.own a)) (ht:∀ b xs,H b=some (.tup xs)->H' b=some (.tup xs)):BO P w H' h' a o:=by
 induction o with
 | lst xs=>obtain ⟨z,A0,n,r,e⟩:=x;exact ⟨z,A0,n,r,k _ _ (.inl rfl) e⟩
 | tup xs=>obtain ⟨z,A0,r,⟨ob,e,c⟩,dn⟩:=x;exact ⟨z,A0,r,⟨ob,k _ _ (.inl rfl) e,c⟩,fun VW e'=>by rw [k _ _ (.inl rfl) e] at e';cases e';exact dn _ e⟩
 | dK A3=>obtain ⟨z,y,vs,r,ob,es,ep,e,c⟩:=x;exact ⟨z,y,vs,r,ob,es,ep,k _ _ (.inl rfl) e,c⟩
 | dT A3=>
  obtain ⟨z,y,xs,r,ob,es,ep,e,c⟩:=x
  exact ⟨z,y,xs,Paired.T1 r fun p q z=>⟨z.1,ht _ _ z.2.1,z.2.2⟩,ob,es,ep,k _ _ (.inl rfl) e,c⟩
 | set S n=>obtain ⟨ob,es,ep,t,e,c⟩:=x;exact ⟨ob,es,ep,t,k _ _ (.inl rfl) e,c⟩
 | ins C dx fs=>
  obtain ⟨d,z,ne,e,mA,⟨od,es,ep,e2,c⟩,r⟩:=x
  exact ⟨ho _ d,z,ne,k _ _ (.inl rfl) e,mA,⟨od,es,ep,k _ _ (.inr d) e2,c⟩,r⟩
 | own y=>obtain ⟨ob,e⟩:=x;exact ⟨ob,k _ _ (.inl rfl) e⟩
 | xd fs=>obtain ⟨mA,⟨od,es,ep,e,c⟩,r⟩:=x;exact ⟨mA,⟨od,es,ep,k _ _ (.inl rfl) e,c⟩,r⟩
 | OT lo hi=>obtain ⟨t,u,v,e⟩:=x;exact ⟨t,u,v,k _ _ (.inl rfl) e⟩
 | CH ob u ih=>obtain ⟨e,q⟩:=x;exact ⟨k _ _ (.inl rfl) e,ih q⟩
 | Hi ps=>
  have e:h.get? a=some { cls:=.none,data:=.fields ps }:=x
  show h'.get? a=some { cls:=.none,data:=.fields ps }
  exact k a _ (.inl rfl) e
 | met f y=>
  have e:h.get? a=some (PySem.W.methodObj (.ref f) (.ref y)):=x
  show h'.get? a=some (PySem.W.methodObj (.ref f) (.ref y))
  exact k a _ (.inl rfl) e
 | ext φ=>obtain ⟨p,⟨o,e⟩,st⟩:=x;exact ⟨st _ _ p fun o q=>k _ _ (.inl rfl) q,⟨o,k _ _ (.inl rfl) e⟩,st⟩
theorem B8.lt (x:B8 P w H h) (e:H a=some o):a < h.objs.size:=(x a o e).lt
def B8.fresh (x:B8 P w H h) (e:h.objs.size<=a):H a=none:=by
 cases q:H a with
 | none=>rfl
 | some u=>exact absurd (CU (x.lt q) e) (J3 _)
def B8.kept (x:B8 P w H h) (k:∀ b u,h.get? b=some u->h'.get? b=some u):B8 P w H h':=fun a o e=>
 (x a o e).Ea (fun b u _ q=>k b u q) (fun _ q=>q) fun _ _ q=>q
def B8.laid (x:B8 P w H h) (k:∀ b u,h.get? b=some u->h'.get? b=some u) (hp:h.objs.size<=a) (new:BO P w (upd H a o) h' a o):B8 P w (upd H a o) h':=fun b u e=>by
 have hn:=x.fresh hp
 by_cases hb:b=a
 ·subst hb;rw [AN] at e;cases e;exact new
 ·rw [AF hb] at e
  exact (x b u e).Ea (fun c v _ q=>k c v q) (fun c q=>by rw [AF (Bu q hn)];exact q) fun c xs q=>by rw [AF (Bu q hn)];exact q
end
def Rd (H:Hp) (a:Addr) (u:HO):Prop:=H a=some u∨∃ o,H a=some (.CH o u)
def Rd.ok {P:Program}{w:World}{H:Hp}{h:Heap}{a:Addr}{u:HO}(r:Rd H a u) (x:B8 P w H h):BO P w H h a u:=by
 rcases r with r | ⟨o,r⟩
 ·exact x a u r
 ·obtain ⟨_,q⟩:=x a _ r
  exact q
def Jf:Option HO->Prop
 | some (.lst _)=>True
 | some (.dK _)=>True
 | some (.dT _)=>True
 | some (.set _ _)=>True
 | some (.ins _ _ _)=>True
 | some (.ext _)=>True
 | _=>False
section
variable {P:Program}{w:World}{H:Hp}{h h':Heap}{x e:Addr}{o':HO}
def B8.write (ok:B8 P w H h) (mu:Jf (H x)) (he:e=x∨H e=some (.own x)) (k:∀ b u,b≠e->h.get? b=some u->h'.get? b=some u) (Ft:∃ u,h'.get? e=some u)
  (new:BO P w (upd H x o') h' x o'):B8 P w (upd H x o') h':=fun b u q=>by
 have Yk:∀ c y,H c=some (.own y)->c≠x:=fun c y r z=>by subst z;rw [r] at mu;exact mu
 have iY:∀ c xs,H c=some (.tup xs)->c≠x:=fun c xs r z=>by subst z;rw [r] at mu;exact mu
 by_cases hb:b=x
 ·subst hb;rw [AN] at q;cases q;exact new
 ·rw [AF hb] at q
  by_cases FH:b=e
  ·have q':H b=some (.own x):=by
    rcases he with z | z
    ·exact absurd (FH.trans z) hb
    ·rw [FH];exact z
   rw [q] at q';cases q'
   obtain ⟨v,hv⟩:=Ft
   exact ⟨v,by rw [FH];exact hv⟩
  ·refine (ok b u q).Ea (fun c v hc r=>k c v ?_ r) (fun c r=>by rw [AF (Yk c b r)];exact r) fun c xs r=>by rw [AF (iY c xs r)];exact r
   rcases hc with rfl | hc
   ·exact FH
   ·rintro rfl
    rcases he with z | z
    ·exact Yk c b hc z
    ·rw [hc] at z;cases z;exact hb rfl
end
structure Un (fs ex:List Addr) (H H':Hp) (h h':Heap):Prop where
 keep:∀ b o,h.get? b=some o->H b=none->b∉fs->b∉ex->h'.get? b=some o
 slot:∀ b o,h.get? b=some o->H b=none->b∈fs->b∉ex->∃ sl,h'.get? b=some { o with slots:=sl }
 free:∀ b o,h.get? b=some o->H b=none->b∉ex->H' b=none
 there:∀ b o,h.get? b=some o->b∉ex->∃ o',h'.get? b=some o'
 EJ:∀ b xs,H b=some (.tup xs)->H' b=some (.tup xs)
 Ds:∀ b o u,H b=some (.CH o u)->H' b=some (.CH o u)
 ES:∀ b ps,H b=some (.Hi ps)->∃ more,H' b=some (.Hi (ps++more))
section
variable {fs lb ex sZ:List Addr}{H H1 H2:Hp}{h h1 h2 h':Heap}{a x e:Addr}{o:HO}
def Un.any (u:Un fs ex H H1 h h1){b:Addr}{ob:Obj}(q:h.get? b=some ob) (n:H b=none) (hx:b∉ex):∃ sl,h1.get? b=some { ob with slots:=sl }:=by
 by_cases hb:b∈fs
 ·exact u.slot b ob q n hb hx
 ·exact ⟨ob.slots,u.keep b ob q n hb hx⟩
def Un.kept (k:∀ b u,h.get? b=some u->h'.get? b=some u):Un fs ex H H h h':=
 ⟨fun b ob q _ _ _=>k b ob q,fun b ob q _ _ _=>⟨ob.slots,k b ob q⟩,fun _ _ _ n _=>n,fun b ob q _=>⟨ob,k b ob q⟩,fun _ _ q=>q,fun _ _ _ q=>q,fun _ ps q=>⟨#[],by rw [q];simp⟩⟩
def Un.refl:Un fs ex H H h h:=Un.kept fun _ _ q=>q
def Un.laid (k:∀ b u,h.get? b=some u->h'.get? b=some u) (hp:h.objs.size<=a) (hn:H a=none):Un fs ex H (upd H a o) h h' where
 keep:=fun b u q _ _ _=>k b u q
 slot:=fun b u q _ _ _=>⟨u.slots,k b u q⟩
 free:=fun b u q n _=>by rw [AF (BP (CU (AY q) hp))];exact n
 there:=fun b u q _=>⟨u,k b u q⟩
 EJ:=fun b xs q=>by rw [AF (Bu q hn)];exact q
 Ds:=fun b u xs q=>by rw [AF (Bu q hn)];exact q
 ES:=fun b ps q=>⟨#[],by rw [AF (Bu q hn),q];simp⟩
def Un.write (mu:Jf (H x)) (he:e=x∨H e=some (.own x)) (k:∀ b u,b≠e->h.get? b=some u->h'.get? b=some u) (Ft:∃ u,h'.get? e=some u):Un fs ex H (upd H x o) h h':=by
 have hx:∀ b,H b=none->b≠x:=fun b n z=>by subst z;rw [n] at mu;exact mu
 have hb:∀ b,H b=none->b≠e:=fun b n z=>by
  subst z
  rcases he with r | r
  ·exact hx b n r
  ·rw [n] at r;cases r
 have hm:∀ b u,H b=some u->¬ Jf (some u)->b≠x:=fun b u q nm z=>by subst z;rw [q] at mu;exact nm mu
 refine ⟨fun b u q n _ _=>k b u (hb b n) q,fun b u q n _ _=>⟨u.slots,k b u (hb b n) q⟩,fun b u q n _=>by rw [AF (hx b n)];exact n,fun b u q _=>?_,
  fun b xs q=>by rw [AF (hm b _ q fun z=>z)];exact q,fun b u xs q=>by rw [AF (hm b _ q fun z=>z)];exact q,fun b ps q=>⟨#[],by rw [AF (hm b _ q fun z=>z),q];simp⟩⟩
 by_cases FH:b=e
 ·subst FH;exact Ft
 ·exact ⟨u,k b u FH q⟩
end
def Nh (h:Heap) (H:Hp):List Addr:=(List.range h.objs.size).filter fun a=>(H a).isSome
def HB (h:Heap) (H:Hp):Heap:=PySem.W.hideAll h (Nh h H)
def nq (h:Heap) (H:Hp):(HB h H).objs.size=h.objs.size:=PySem.W.hideAll_size _ _
def kW {h:Heap}{H:Hp}{b:Addr}{o:Obj}(e:h.get? b=some o) (n:H b=none):(HB h H).get? b=some o:=
 PySem.W.hideAll_get _ e fun hm=>by
  have q:(H b).isSome=true:=(List.mem_filter.mp hm).2
  rw [n] at q;simp at q
def qR {h:Heap}{H:Hp}{b:Addr}{o:Obj}(e:(HB h H).get? b=some o):h.get? b=some o/\H b=none:=by
 have e':h.get? b=some o:=PySem.W.of_hideAll (Nh h H) e
 refine ⟨e',?_⟩
 cases q:H b with
 | none=>rfl
 | some x=>
  have hm:b∈Nh h H:=List.mem_filter.mpr ⟨List.mem_range.mpr (AY e'),by simp [q]⟩
  have z:(HB h H).get? b=none:=PySem.W.hideAll_none (Nh h H) hm
  rw [z] at e;cases e
def kG (g h:Heap) (L:Addr):tW:=(List.range h.objs.size).filterMap fun a=>if a=L∨(g.get? a).isSome=true then none else (h.get? a).map fun o=>(a,o)
def rest (g h:Heap) (L d:Addr):tW:=(kG g h L).filter fun p=>decide (p.1≠d)
structure Mod (K:tV) (mg:tX) (base:Heap):Prop where
 GA:K.In base
 glob:base.Ns mainGlobals mg
 blt:∃ mb,base.Ns builtinsNs mb/\∀ x:Str,x ≠ "__name__" -> mb x=bootBuiltins x
 nolimit:base.NoLimit
structure Cx where
 prog:Program
 w:World
 K:tV
 mg:tX
 base:Heap
 A:Around
 N:List Str
 s₀:Shared
 H₀:Hp
 env:Env
 outer:List Env
 stack:List Env
 ex:List Addr
 fn:Str->Bool
 calm:Bool
 pn:tW
 xe:Value->Shared->Prop
def Bj (l:List Env):List Addr:=l.filterMap (·.frame)
abbrev Cx.fs (X:Cx):List Addr:=Bj X.outer
def Oc (sc:Scope) (x:Str):Prop:=sc.names.lookup x=some .local∨sc.names.lookup x=some .cell∨sc.names.lookup x=some .free
def Loc (sc:Scope) (x:Str):Prop:=sc.names.lookup x=some .local∨sc.names.lookup x=some .cell
def Look (env:Env) (h:Heap) (m:tX) (x:Str) (u:Value):Prop:=
 (env.kindOf x=some .local/\m x=some u)∨((env.kindOf x=some .cell∨env.kindOf x=some .free)/\∃ c,env.cells.lookup x=some c/\h.IsCell c (some u))
structure Cx.Ok (X:Cx):Prop where
 mod:Mod X.K X.mg X.base
 kind:X.env.scope.kind=.function
 glob:X.env.globals=mainGlobals
 blt:X.env.builtins=builtinsNs
 above:X.s₀.heap.objs.size<=X.env.locals
 inj:∀ x y c,X.env.cells.lookup x=some c->X.env.cells.lookup y=some c->x=y
 has:∀ x,(X.env.kindOf x=some .cell∨X.env.kindOf x=some .free)->∃ c,X.env.cells.lookup x=some c
 HZ:∀ x c,X.fn x=true->X.env.cells.lookup x=some c->X.s₀.heap.objs.size<=c
 hd:X.calm=true->X.A.handled=none
 frames:X.A.frames=some X.stack
 GL:X.stack=X.outer∨(X.stack=X.env :: X.outer/\X.env.frame=some X.env.locals)
 GK:∀ b∈X.ex,b≠X.env.locals/\∀ x c,X.env.cells.lookup x=some c->c≠b
 bs:∀ b o,X.base.get? b=some o->X.s₀.heap.get? b=some o/\X.H₀ b=none
 E5:X.base.objs.size<=X.s₀.heap.objs.size
 GQ:∀ b o,X.base.get? b=some o->b∉X.ex
 Gf:∀ b∈X.ex,b∉X.fs
 Dj:X.s₀.heap.FunFrames X.base X.outer
 Fh:∀ b∈X.fs,X.H₀ b=none
structure Inv (X:Cx) (pins:tW) (σ:List (Option V)) (H:Hp) (s:Shared):Prop where
 ok:X.Ok
 os:s.os=X.s₀.os
 bare:AllBare s.gens
 base:Un X.fs X.ex X.H₀ H X.s₀.heap s.heap
 loc:∃ m,s.heap.Ns X.env.locals m/\∀ (i:Nat) (x:Str) (v:V),X.N[i]?=some x->σ[i]?=some (some v)->Oc X.env.scope x->∃ u,RelV v u/\Look X.env s.heap m x u
 cell:∀ x c,X.env.cells.lookup x=some c->∃ v,s.heap.IsCell c v
 free:H X.env.locals=none
 CW:∀ x c,X.env.cells.lookup x=some c->H c=none
 pin:∀ p∈X.pn++pins,s.heap.get? p.1=some p.2/\H p.1=none/\p.1≠X.env.locals/\p.1∉X.fs/\∀ v,p.2.data≠.cell v
 A7:B8 X.prog X.w H s.heap
 len:σ.length=X.N.length
section
variable {X:Cx}{pins:tW}{σ:List (Option V)} {H H':Hp}{s:Shared}{h':Heap}
def Cx.Ok.du (ok:X.Ok){b:Addr}{o:Obj}(e:X.base.get? b=some o):b∉X.fs:=fun hb=>by
 have:=(ok.Dj.mem hb).1
 rw [e] at this;cases this
theorem Inv.bs (I:Inv X pins σ H s):∀ b o,X.base.get? b=some o->s.heap.get? b=some o/\H b=none:=fun b o e=>
 ⟨I.base.keep b o (I.ok.bs b o e).1 (I.ok.bs b o e).2 (I.ok.du e) (I.ok.GQ b o e),I.base.free b o (I.ok.bs b o e).1 (I.ok.bs b o e).2 (I.ok.GQ b o e)⟩
def Inv.bk (I:Inv X pins σ H s):∀ b o,X.base.get? b=some o->s.heap.get? b=some o:=fun b o e=>(I.bs b o e).1
theorem Inv.mod (I:Inv X pins σ H s):Mod X.K X.mg X.base:=I.ok.mod
def Inv.B3 (I:Inv X pins σ H s):X.K.In s.heap:=I.ok.mod.GA.keeps I.bk
theorem Inv.lt (I:Inv X pins σ H s):X.env.locals < s.heap.objs.size:=let ⟨_,hn,_⟩:=I.loc;hn.lt
def Inv.sz (I:Inv X pins σ H s):X.s₀.heap.objs.size<=s.heap.objs.size:=Bt I.ok.above (ag I.lt)
def Inv.mr (I:Inv X pins σ H s){a:Addr}(h:s.heap.objs.size<=a):a∉X.fs:=fun hb=>by
 obtain ⟨_,o,ho,_⟩:=I.ok.Dj.mem hb
 exact absurd (CU (AY ho) (Bt I.sz h)) (J3 _)
def Inv.EB (I:Inv X pins σ H s):∀ x c,X.env.cells.lookup x=some c->c≠X.env.locals:=fun x c e z=>by
 obtain ⟨v,o,ho,hd⟩:=I.cell x c e
 obtain ⟨m,⟨o',es,ep,D3,LZ,_⟩,_⟩:=I.loc
 rw [z,D3] at ho;cases ho;rw [LZ] at hd;cases hd
theorem Inv.Dj (I:Inv X pins σ H s):s.heap.FunFrames X.base X.outer:=by
 have all:∀ (l:List Env),(∀ b∈Bj l,b∈X.fs)->X.s₀.heap.FunFrames X.base l->s.heap.FunFrames X.base l:=by
  intro l
  induction l with
  | nil=>intro _ _;trivial
  | cons env r ih=>
   intro hs hl
   obtain ⟨hk,⟨L,o,hf,hn,ho,hd⟩,hr⟩:=hl
   have hL:L∈X.fs:=hs L (by unfold Bj;rw [Oe,hf];exact J0)
   obtain ⟨sl,e⟩:=I.base.slot L o ho (I.ok.Fh L hL) hL fun z=>I.ok.Gf L z hL
   exact ⟨hk,⟨L,_,hf,hn,e,hd⟩,ih (fun b hb=>hs b (by unfold Bj;rw [Oe,hf];exact Fe _ hb)) hr⟩
 exact all X.outer (fun _ hb=>hb) I.ok.Dj
theorem Inv.stack (I:Inv X pins σ H s):s.heap.FunFrames X.base X.stack:=by
 rcases I.ok.GL with e | ⟨e,hf⟩
 ·rw [e];exact I.Dj
 ·rw [e]
  obtain ⟨m,hn,_⟩:=I.loc
  refine .cons (by rw [I.ok.kind];decide) hf hn ?_ I.Dj
  exact MX (Bt I.ok.E5 I.ok.above)
def Inv.JX (I:Inv X pins σ H s):∀ b∈Bj X.stack,b∈X.env.locals :: X.fs:=fun b hb=>by
 rcases I.ok.GL with e | ⟨e,hf⟩
 ·rw [e] at hb;exact Fe _ hb
 ·rw [e] at hb
  unfold Bj at hb
  rw [Oe,hf] at hb
  exact hb
def Inv.Kr (I:Inv X pins σ H s):∀ b∈Bj X.stack,H b=none:=fun b hb=>by
 rcases List.mem_cons.mp (I.JX b hb) with e | hb
 ·rw [e];exact I.free
 ·obtain ⟨_,o,ho,_⟩:=I.ok.Dj.mem hb
  exact I.base.free b o ho (I.ok.Fh b hb) fun z=>I.ok.Gf b z hb
def Inv.step {g':Array GenState}{t':Nat}{d':Drawn}{ch:List Addr}(I:Inv X pins σ H s)
  (Fx:∀ b∈ch,(b∈X.ex∨X.s₀.heap.objs.size<=b)/\b≠X.env.locals/\(∀ x c,X.env.cells.lookup x=some c->c≠b)/\∀ p∈X.pn++pins,p.1≠b)
  (keep:∀ b o,b≠X.env.locals->b∉X.fs->b∉ch->s.heap.get? b=some o->H b=none->h'.get? b=some o)
  (slot:∀ b o,b≠X.env.locals->b∈X.fs->b∉ch->s.heap.get? b=some o->H b=none->∃ sl,h'.get? b=some { o with slots:=sl }) (free:∀ b o,b∉ch->s.heap.get? b=some o->H b=none->H' b=none)
  (there:∀ b o,b∉ch->s.heap.get? b=some o->∃ o',h'.get? b=some o')
  (EJ:∀ b xs,H b=some (.tup xs)->H' b=some (.tup xs)) (Ds:∀ b o u,H b=some (.CH o u)->H' b=some (.CH o u)) (ES:∀ b ps,H b=some (.Hi ps)->∃ more,H' b=some (.Hi (ps++more)))
  (ns:∀ m,s.heap.Ns X.env.locals m->h'.Ns X.env.locals m) (A7:B8 X.prog X.w H' h') (hg:AllBare g') :
  Inv X pins σ H' { s with heap:=h',gens:=g',drawn:=d',toks:=t' }:=by
 have VP:∀ b o,X.s₀.heap.get? b=some o->b≠X.env.locals:=fun b o e=>BP (CU (AY e) I.ok.above)
 have N5:∀ b o,X.s₀.heap.get? b=some o->b∉X.ex->b∉ch:=fun b o e hx hb=>by
  rcases (Fx b hb).1 with z | z
  ·exact hx z
  ·exact absurd (CU (AY e) z) (J3 _)
 have cellK:∀ x c,X.env.cells.lookup x=some c->∀ v,s.heap.IsCell c v->h'.IsCell c v:=fun x c e v ⟨o,ho,hd⟩=>by
  have MO:c∉ch:=fun z=>(Fx c z).2.2.1 x c e rfl
  by_cases hc:c∈X.fs
  ·obtain ⟨sl,q⟩:=slot c o (I.EB x c e) hc MO ho (I.CW x c e)
   exact ⟨_,q,hd⟩
  ·exact ⟨o,keep c o (I.EB x c e) hc MO ho (I.CW x c e),hd⟩
 refine ⟨I.ok,I.os,hg,⟨fun b o e n hb hx=>?_,fun b o e n hb hx=>?_,fun b o e n hx=>?_,fun b o e hx=>?_,fun b xs e=>EJ b xs (I.base.EJ b xs e),fun b o xs e=>Ds b o xs (I.base.Ds b o xs e),fun b ps e=>?_⟩,?_,fun x c e=>?_,?_,fun x c e=>?_,fun p hp=>?_,A7,I.len⟩
 ·exact keep b o (VP b o e) hb (N5 b o e hx) (I.base.keep b o e n hb hx) (I.base.free b o e n hx)
 ·obtain ⟨sl,e1⟩:=I.base.slot b o e n hb hx
  obtain ⟨PN,e2⟩:=slot b _ (VP b o e) hb (N5 b o e hx) e1 (I.base.free b o e n hx)
  exact ⟨PN,e2⟩
 ·obtain ⟨o',e1⟩:=I.base.there b o e hx
  exact free b o' (N5 b o e hx) e1 (I.base.free b o e n hx)
 ·obtain ⟨o',e1⟩:=I.base.there b o e hx
  exact there b o' (N5 b o e hx) e1
 ·obtain ⟨m1,e1⟩:=I.base.ES b ps e
  obtain ⟨m2,e2⟩:=ES b _ e1
  exact ⟨m1++m2,by rw [e2,Array.append_assoc]⟩
 ·obtain ⟨m,hn,hl⟩:=I.loc
  refine ⟨m,ns m hn,fun i x v e1 e2 e3=>?_⟩
  obtain ⟨u,r,l⟩:=hl i x v e1 e2 e3
  refine ⟨u,r,?_⟩
  rcases l with l | ⟨k,c,e,z⟩
  ·exact .inl l
  ·exact .inr ⟨k,c,e,cellK x c e _ z⟩
 ·obtain ⟨v,z⟩:=I.cell x c e
  exact ⟨v,cellK x c e v z⟩
 ·obtain ⟨m,⟨o,_,_,ho,_⟩,_⟩:=I.loc
  exact free _ o (fun z=>(Fx _ z).2.1 rfl) ho I.free
 ·obtain ⟨v,o,ho,hd⟩:=I.cell x c e
  exact free c o (fun z=>(Fx c z).2.2.1 x c e rfl) ho (I.CW x c e)
 ·obtain ⟨e,n,ne,nf,d⟩:=I.pin p hp
  have MO:p.1∉ch:=fun z=>(Fx p.1 z).2.2.2 p hp rfl
  exact ⟨keep p.1 p.2 ne nf MO e n,free p.1 p.2 MO e n,ne,nf,d⟩
def Inv.un {t':Nat}(I:Inv X pins σ H s) (u:Un X.fs [] H H' s.heap h') (A7:B8 X.prog X.w H' h'):Inv X pins σ H' { s with heap:=h',toks:=t' }:=by
 obtain ⟨m,⟨o,es,ep,ho,r⟩,_⟩:=id I.loc
 obtain ⟨sl,hL⟩:=u.any ho I.free (by simp)
 exact I.step (g':=s.gens) (d':=s.drawn) (ch:=[]) (fun _ z=>nomatch z) (fun b o _ hb _ e n=>u.keep b o e n hb (by simp)) (fun b o _ hb _ e n=>u.slot b o e n hb (by simp)) (fun b o _ e n=>u.free b o e n (by simp)) (fun b o _ e=>u.there b o e (by simp)) u.EJ u.Ds u.ES (fun m' hm=>by
  obtain ⟨o',Nx,R4,D3,r'⟩:=hm
  rw [ho] at D3;cases D3
  exact ⟨_,Nx,R4,hL,r'⟩) A7 I.bare
def Inv.call {g':Array GenState}{t':Nat}{d':Drawn}{ch:List Addr}(I:Inv X pins σ H s) (u:Un (Bj X.stack) ch H H' s.heap h') (A7:B8 X.prog X.w H' h') (hg:AllBare g')
  (Fx:∀ b∈ch,(b∈X.ex∨X.s₀.heap.objs.size<=b)/\b≠X.env.locals/\(∀ x c,X.env.cells.lookup x=some c->c≠b)/\∀ p∈X.pn++pins,p.1≠b) :
  Inv X pins σ H' { s with heap:=h',gens:=g',drawn:=d',toks:=t' }:=by
 obtain ⟨m,⟨o,es,ep,ho,r⟩,_⟩:=id I.loc
 obtain ⟨sl,hL⟩:=u.any ho I.free fun z=>(Fx _ z).2.1 rfl
 exact I.step (ch:=ch) Fx (fun b o hL hb hc e n=>u.keep b o e n (fun z=>(List.mem_cons.mp (I.JX b z)).elim hL hb) hc) (fun b o _ _ hc e n=>u.any e n hc) (fun b o hc e n=>u.free b o e n hc) (fun b o hc e=>u.there b o e hc) u.EJ u.Ds u.ES (fun m' hm=>by
  obtain ⟨o',Nx,R4,D3,r'⟩:=hm
  rw [ho] at D3;cases D3
  exact ⟨_,Nx,R4,hL,r'⟩) A7 hg
def Inv.turned {t':Nat}{it:Addr}(I:Inv X pins σ H s) (k:∀ b o,b≠it->s.heap.get? b=some o->h'.get? b=some o) (hn:H it=none) (hL:it≠X.env.locals)
  (h1:it∈X.ex∨X.s₀.heap.objs.size<=it) (h2:∀ x c,X.env.cells.lookup x=some c->c≠it) (h3:∀ p∈X.pn++pins,p.1≠it):Inv X pins σ H { s with heap:=h',toks:=t' }:=by
 have HL:∀ b u,H b=some u->b≠it:=fun b u e z=>by rw [z,hn] at e;cases e
 refine I.step (g':=s.gens) (d':=s.drawn) (ch:=[it]) (fun b hb=>?_) (fun b o _ _ hc e _=>k b o (fun z=>hc (by simp [z])) e) (fun b o _ _ hc e _=>⟨o.slots,k b o (fun z=>hc (by simp [z])) e⟩) (fun _ _ _ _ n=>n)
  (fun b o hc e=>⟨o,k b o (fun z=>hc (by simp [z])) e⟩) (fun _ _ e=>e) (fun _ _ _ e=>e) (fun b ps e=>⟨#[],by rw [e];simp⟩) (fun m hm=>?_) (fun b u e=>?_) I.bare
 ·have e:b=it:=by simpa using hb
  subst e
  exact ⟨h1,hL,h2,h3⟩
 ·obtain ⟨o,es,ep,ho,r⟩:=hm
  exact ⟨o,es,ep,k _ o (Ah hL) ho,r⟩
 ·refine (I.A7 b u e).Ea (fun c v hc q=>k c v ?_ q) (fun _ q=>q) fun _ _ q=>q
  rcases hc with z | z
  ·rw [z];exact HL b u e
  ·exact HL c _ z
def Inv.tok (I:Inv X pins σ H s) (t:Nat):Inv X pins σ H { s with toks:=t }:=I.un (h':=s.heap) (t':=t) Un.refl I.A7
theorem Inv.kept {t':Nat}(I:Inv X pins σ H s) (k:∀ b u,s.heap.get? b=some u->h'.get? b=some u):Inv X pins σ H { s with heap:=h',toks:=t' }:=I.un (Un.kept k) (I.A7.kept k)
theorem Inv.laid {a:Addr}{o:HO}{t':Nat}(I:Inv X pins σ H s) (k:∀ b u,s.heap.get? b=some u->h'.get? b=some u) (hp:s.heap.objs.size<=a) (new:BO X.prog X.w (upd H a o) h' a o) :
  Inv X pins σ (upd H a o) { s with heap:=h',toks:=t' }:=I.un (Un.laid k hp (I.A7.fresh hp)) (I.A7.laid k hp new)
theorem Inv.write {x e:Addr}{o:HO}{t':Nat}(I:Inv X pins σ H s) (mu:Jf (H x)) (he:e=x∨H e=some (.own x)) (k:∀ b u,b≠e->s.heap.get? b=some u->h'.get? b=some u) (Ft:∃ u,h'.get? e=some u)
  (new:BO X.prog X.w (upd H x o) h' x o):Inv X pins σ (upd H x o) { s with heap:=h',toks:=t' }:=I.un (Un.write mu he k Ft) (I.A7.write mu he k Ft new)
def Inv.XJ {Ze:tW}(I:Inv X pins σ H s) (h:∀ p∈Ze,s.heap.get? p.1=some p.2/\H p.1=none/\p.1≠X.env.locals/\p.1∉X.fs/\∀ v,p.2.data≠.cell v):Inv X Ze σ H s:=
 ⟨I.ok,I.os,I.bare,I.base,I.loc,I.cell,I.free,I.CW,fun p hp=>(List.mem_append.mp hp).elim (fun z=>I.pin p (Mc _ z)) (h p),I.A7,I.len⟩
def Pz {N:List Str}(hN:N.Nodup){i j:Nat}{x:Str}(a:N[i]?=some x) (b:N[j]?=some x):i=j:=by
 obtain ⟨h1,e1⟩:=List.getElem?_eq_some_iff.mp a
 obtain ⟨h2,e2⟩:=List.getElem?_eq_some_iff.mp b
 exact (rX hN).mp (e1.trans e2.symm)
def Pu {M:Model}{A:Around}{E:Value->Shared->Prop}{i:Nat}{x:Str}{v:V}{u:Value}{Q:Unit->Shared->Prop}(I:Inv X pins σ H s) (hN:X.N.Nodup) (hi:X.N[i]?=some x) (hx:Loc X.env.scope x) (r:RelV v u)
  (h:∀ s',Inv X pins (σ.set i (some v)) H s'->(∃ a,Heap.SameBut a s.heap s'.heap/\(a=X.env.locals∨X.env.cells.lookup x=some a))->Q () s') (hf:X.fn x=true∨X.env.scope.names.lookup x=some .local:=by first | exact .inl rfl | exact .inr rfl | assumption):wpAny M A (storeName X.env x u) Q E s:=by
 obtain ⟨m,hn,hl⟩:=id I.loc
 have TX:(X.env.scope.kind == .class || (X.env.scope.kind == .module && X.env.locals != X.env.globals))=false:=by rw [I.ok.kind];rfl
 have hiσ:i < σ.length:=by rw [I.len];exact (List.getElem?_eq_some_iff.mp hi).1
 have EB:=I.EB
 have tracked:∀ {a:Addr}{h':Heap},(∃ o,s.heap.get? a=some o/\H a=none)->Heap.SameBut a s.heap h'->B8 X.prog X.w H h':=fun {a h'} ha hs b ob e=>by
  obtain ⟨_,_,Zx⟩:=ha
  refine (I.A7 b ob e).Ea (fun c w' hc q=>(hs.2 c ?_).trans q) (fun _ q=>q) fun _ _ q=>q
  rintro rfl
  rcases hc with rfl | hc
  ·rw [Zx] at e;cases e
  ·rw [Zx] at hc;cases hc
 rcases hx with hk | hk
 ·refine wpAny_storeName_local hk hn (fun h' MT hs=>?_) TX
  obtain ⟨oL,_,_,WV,_⟩:=id hn
  refine h _ ⟨I.ok,I.os,I.bare,⟨fun b o e n hb hx=>?_,fun b o e n hb hx=>?_,I.base.free,fun b o e hx=>?_,I.base.EJ,I.base.Ds,I.base.ES⟩,⟨_,MT,fun j y v' e1 e2 e3=>?_⟩,fun y c e=>?_,I.free,I.CW,fun p hp=>?_,tracked ⟨oL,WV,I.free⟩ hs,by simpa using I.len⟩ ⟨_,hs,.inl rfl⟩
  ·exact (hs.2 b (BP (CU (AY e) I.ok.above))).trans (I.base.keep b o e n hb hx)
  ·obtain ⟨sl,e1⟩:=I.base.slot b o e n hb hx
   exact ⟨sl,(hs.2 b (BP (CU (AY e) I.ok.above))).trans e1⟩
  ·obtain ⟨o',e1⟩:=I.base.there b o e hx
   exact ⟨o',(hs.2 b (BP (CU (AY e) I.ok.above))).trans e1⟩
  ·by_cases hj:j=i
   ·subst hj
    rw [hi] at e1;cases e1
    rw [C7 hiσ] at e2
    cases e2
    exact ⟨u,r,.inl ⟨hk,by simp⟩⟩
   ·rw [Bd (Ah hj)] at e2
    obtain ⟨u',r',q⟩:=hl j y v' e1 e2 e3
    refine ⟨u',r',?_⟩
    rcases q with ⟨k,e⟩ | ⟨k,c,e,z⟩
    ·refine .inl ⟨k,?_⟩
     have:y≠x:=fun e=>hj (Pz hN e1 (e▸hi))
     simp [this,e]
    ·exact .inr ⟨k,c,e,z.sameBut hs (EB y c e)⟩
  ·obtain ⟨w',z⟩:=I.cell y c e
   exact ⟨w',z.sameBut hs (EB y c e)⟩
  ·obtain ⟨e,n,ne,nf,d⟩:=I.pin p hp
   exact ⟨(hs.2 p.1 ne).trans e,n,ne,nf,d⟩
 ·have Kl:X.fn x=true:=by
   rcases hf with z | z
   ·exact z
   ·rw [z] at hk;cases hk
  obtain ⟨c,hc⟩:=I.ok.has x (.inl hk)
  obtain ⟨w',z⟩:=I.cell x c hc
  refine wpAny_storeName_cell I.ok.kind hk hc z (fun h' L9 hs=>?_)
  obtain ⟨oc,Nk,oY⟩:=id z
  refine h { s with heap:=h' } ⟨I.ok,I.os,I.bare,⟨fun b o e n hb hx=>?_,fun b o e n hb hx=>?_,I.base.free,fun b o e hx=>?_,I.base.EJ,I.base.Ds,I.base.ES⟩,⟨m,hn.sameBut hs (Ah (EB x c hc)),fun j y v' e1 e2 e3=>?_⟩,fun y c' e=>?_,I.free,I.CW,fun p hp=>?_,tracked ⟨oc,Nk,I.CW x c hc⟩ hs,by simpa using I.len⟩ ⟨c,hs,.inr hc⟩
  ·exact (hs.2 b (BP (CU (AY e) (I.ok.HZ x c Kl hc)))).trans (I.base.keep b o e n hb hx)
  ·obtain ⟨sl,e1⟩:=I.base.slot b o e n hb hx
   exact ⟨sl,(hs.2 b (BP (CU (AY e) (I.ok.HZ x c Kl hc)))).trans e1⟩
  ·obtain ⟨o',e1⟩:=I.base.there b o e hx
   exact ⟨o',(hs.2 b (BP (CU (AY e) (I.ok.HZ x c Kl hc)))).trans e1⟩
  ·by_cases hj:j=i
   ·subst hj
    rw [hi] at e1;cases e1
    rw [C7 hiσ] at e2
    cases e2
    exact ⟨u,r,.inr ⟨.inl hk,c,hc,L9⟩⟩
   ·rw [Bd (Ah hj)] at e2
    obtain ⟨u',r',q⟩:=hl j y v' e1 e2 e3
    refine ⟨u',r',?_⟩
    rcases q with q | ⟨k,c',e,z'⟩
    ·exact .inl q
    ·refine .inr ⟨k,c',e,z'.sameBut hs ?_⟩
     rintro rfl
     exact hj (Pz hN e1 (I.ok.inj _ _ _ e hc▸hi))
  ·by_cases NU:c'=c
   ·subst NU;exact ⟨_,L9⟩
   ·obtain ⟨w2,z2⟩:=I.cell y c' e
    exact ⟨w2,z2.sameBut hs NU⟩
  ·obtain ⟨e,n,ne,nf,d⟩:=I.pin p hp
   refine ⟨(hs.2 p.1 ?_).trans e,n,ne,nf,d⟩
   intro q
   rw [q,Nk] at e
   have q':oc=p.2:=BA e
   exact d w' (by rw [<- q'];exact oY)
def QU {M:Model}{A:Around}{E:Value->Shared->Prop}{i:Nat}{x:Str}{v:V}{u:Value}{Q:Unit->Shared->Prop}(I:Inv X pins σ H s) (hN:X.N.Nodup) (hi:X.N[i]?=some x) (hx:Loc X.env.scope x) (r:RelV v u)
  (h:∀ s',Inv X pins (σ.set i (some v)) H s'->Q () s') (hf:X.fn x=true∨X.env.scope.names.lookup x=some .local:=by first | exact .inl rfl | exact .inr rfl | assumption):wpAny M A (storeName X.env x u) Q E s:=
 Pu I hN hi hx r (fun s' I' _=>h s' I') hf
def Inv.XQ {s':Shared}{ch:List Addr}(I:Inv X pins σ H s) (ho:s'.os=s.os) (u:Un (Bj X.stack) ch H H' s.heap s'.heap) (A7:B8 X.prog X.w H' s'.heap) (hg:AllBare s'.gens)
  (Fx:∀ b∈ch,(b∈X.ex∨X.s₀.heap.objs.size<=b)/\b≠X.env.locals/\(∀ x c,X.env.cells.lookup x=some c->c≠b)/\∀ p∈X.pn++pins,p.1≠b):Inv X pins σ H' s':=by
 obtain ⟨h',g',d',t',o'⟩:=s'
 have e:o'=s.os:=ho
 subst e
 exact I.call (g':=g') (t':=t') (d':=d') u A7 hg Fx
end
abbrev XK:=Value->Option Addr->Hp->Prop
abbrev St:=List (Option V)
abbrev VK:=V->Hp->Prop
abbrev TE:=St->Hp->VK->Prop
abbrev TT:=St->Hp->(Bool->Hp->Prop)->Prop
abbrev TA:=St->Hp->(List V->Hp->Prop)->Prop
structure Ends where
 nx:St->Hp->Prop
 rt:VK
 bk:St->Hp->Prop:=fun _ _=>False
 ct:St->Hp->Prop:=fun _ _=>False
abbrev TS:=Ends->St->Hp->Prop
def EP (X:Cx) (pins:tW) (σ:St) (Q:VK) (u:Value) (s':Shared):Prop:=∃ v H',Inv X pins σ H' s'/\RelV v u/\Q v H'
def TP (X:Cx) (pins:tW) (σ:St) (Q:Bool->Hp->Prop) (b:Bool) (s':Shared):Prop:=∃ H',Inv X pins σ H' s'/\Q b H'
def AP (X:Cx) (pins:tW) (σ:St) (Q:List V->Hp->Prop) (us:List Value) (s':Shared):Prop:=∃ vs H',Inv X pins σ H' s'/\Vals vs us/\Q vs H'
def SP (X:Cx) (pins:tW) (D:Ends) (f:Flow) (s':Shared):Prop:=
 match f with
 | .next=>∃ σ' H',Inv X pins σ' H' s'/\D.nx σ' H'
 | .brk=>∃ σ' H',Inv X pins σ' H' s'/\D.bk σ' H'
 | .cont=>∃ σ' H',Inv X pins σ' H' s'/\D.ct σ' H'
 | .ret u=>∃ v σ' H',Inv X pins σ' H' s'/\RelV v u/\D.rt v H'
def PE (X:Cx) (e:Expr) (t:TE):Prop:=
 ∀ (pins:tW) (s:Shared) (σ:St) (H:Hp) (Q:VK),Inv X pins σ H s->t σ H Q->wpAny (model X.prog X.w) X.A (eval e X.env) (EP X pins σ Q) X.xe s
def PT (X:Cx) (e:Expr) (t:TT):Prop:=
 ∀ (pins:tW) (s:Shared) (σ:St) (H:Hp) (Q:Bool->Hp->Prop),Inv X pins σ H s->t σ H Q->wpAny (model X.prog X.w) X.A (isTrue e X.env (eval e X.env)) (TP X pins σ Q) X.xe s
def PW (X:Cx) (e:Expr) (t:TT):Prop:=
 ∀ (whole:Sem Value) (pins:tW) (s:Shared) (σ:St) (H:Hp) (Q:Bool->Hp->Prop),Inv X pins σ H s->t σ H Q->wpAny (model X.prog X.w) X.A (isTrue e X.env whole) (TP X pins σ Q) X.xe s
def PW.pt {X:Cx}{e:Expr}{t:TT}(h:PW X e t):PT X e t:=h _
def PA (X:Cx) (es:List Expr) (t:TA):Prop:=
 ∀ (pos:Pos) (pins:tW) (s:Shared) (σ:St) (H:Hp) (Q:List V->Hp->Prop),Inv X pins σ H s->t σ H Q->wpAny (model X.prog X.w) X.A (spliced (backTo pos (starEach es X.env))) (AP X pins σ Q) X.xe s
def PS (X:Cx) (st:Stmt) (t:TS):Prop:=
 ∀ (pins:tW) (s:Shared) (σ:St) (H:Hp) (D:Ends),Inv X pins σ H s->t D σ H->wpAny (model X.prog X.w) X.A (exec st X.env) (SP X pins D) X.xe s
def Cd (X:Cx) (st:List Stmt) (t:TS):Prop:=
 ∀ (pins:tW) (s:Shared) (σ:St) (H:Hp) (D:Ends),Inv X pins σ H s->t D σ H->wpAny (model X.prog X.w) X.A (execs st X.env) (SP X pins D) X.xe s
def AE {α:Type} {t:Sem α}{Q Q':α->Shared->Prop}{M:Model}{A:Around}{E:Value->Shared->Prop}{s:Shared}(h:wpAny M A t Q E s) (hQ:∀ a s,Q a s->Q' a s):wpAny M A t Q' E s:=wpAny_mono h hQ fun _ _ x=>x
section
variable {X:Cx}
def BB (i:Nat):TE:=fun σ H Q=>∃ v,σ[i]?=some (some v)/\Q v H
def tC (v:V):TE:=fun _ H Q=>Q v H
def XD {i:Nat}{x:Str}{pos:Pos}(hN:X.N[i]?=some x) (hv:Oc X.env.scope x) (hd:(x == ("__debug__" : Str))=false:=by decide) (DZ:(x == ("__classdict__" : Str))=false:=by decide):PE X (.Name x pos) (BB i):=by
 intro pins s σ H Q I h
 obtain ⟨v,e,h⟩:=h
 obtain ⟨m,hn,hl⟩:=I.loc
 obtain ⟨u,r,l⟩:=hl i x v hN e hv
 have fin:EP X pins σ Q u s:=⟨v,H,I,r,h⟩
 rcases l with ⟨hk,hm⟩ | ⟨hk,c,hc,Yw⟩
 ·exact wpAny_Name (wpAny_loadName_local I.ok.kind hk hn hm fin) hd
 ·rcases hk with hk | hk
  ·exact wpAny_Name (wpAny_loadName_cell I.ok.kind hk hc Yw fin) hd
  ·exact wpAny_Name (wpAny_loadName_free I.ok.kind hk hc Yw fin DZ) hd
def nt {i j pos}:PE X (.Constant (.int i) j pos) (tC (.int i)):=fun _ _ _ H _ I h=>wpAny_Constant_int ⟨.int i,H,I.tok _,⟨_,rfl⟩,h⟩
def gJ {b j pos}:PE X (.Constant (.bool b) j pos) (tC (.bl b)):=fun _ _ _ H _ I h=>Constant_bool ⟨.bl b,H,I,rfl,h⟩
def m8 {j pos}:PE X (.Constant .none j pos) (tC .A4):=fun _ _ _ H _ I h=>Constant_none ⟨.A4,H,I,rfl,h⟩
def og {x j pos}:PE X (.Constant (.str x) j pos) (tC (.str x)):=fun _ _ _ H _ I h=>Calls.Constant_str ⟨.str x,H,I.tok _,⟨_,rfl⟩,h⟩
def Gl (X:Cx) (x:Str):Prop:=X.env.kindOf x=some .globalImplicit
def Il {E:Value->Shared->Prop}{pins:tW}{s:Shared}{σ:St} {H:Hp}{x:Str}{u:Value}{pos:Pos}{Q:Value->Shared->Prop}(I:Inv X pins σ H s) (hg:Gl X x) (hm:X.mg x=some u) (h:Q u s)
  (hd:(x == ("__debug__" : Str))=false:=by decide):wpAny (model X.prog X.w) X.A (eval (.Name x pos) X.env) Q E s:=
 rO I.ok.kind hg (Calls.loadGlobal_global (by rw [I.ok.glob];exact I.mod.glob.keeps I.bk) hm h) hd
def Lx {E:Value->Shared->Prop}{pins:tW}{s:Shared}{σ:St} {H:Hp}{x:Str}{u:Value}{pos:Pos}{Q:Value->Shared->Prop}(I:Inv X pins σ H s) (hg:Gl X x) (hm:X.mg x=none) (hv:bootBuiltins x=some u) (h:Q u s)
  (hn:x ≠ "__name__" := by decide) (hd:(x == ("__debug__" : Str))=false:=by decide):wpAny (model X.prog X.w) X.A (eval (.Name x pos) X.env) Q E s:=by
 obtain ⟨mb,h1,h2⟩:=I.mod.blt
 exact rO I.ok.kind hg (Calls.loadGlobal_builtin (by rw [I.ok.glob];exact I.mod.glob.keeps I.bk) hm (by rw [I.ok.blt];exact h1.keeps I.bk) ((h2 x hn).trans hv) h) hd
def bD {x:Str}{v:V}{u:Value}{pos:Pos}(hg:Gl X x) (hm:X.mg x=some u) (r:RelV v u) (hd:(x == ("__debug__" : Str))=false:=by decide):PE X (.Name x pos) (tC v):=
 fun _ _ _ H _ I h=>Il I hg hm ⟨v,H,I,r,h⟩ hd
def nY {x:Str}{v:V}{u:Value}{pos:Pos}(hg:Gl X x) (hm:X.mg x=none) (hv:bootBuiltins x=some u) (r:RelV v u) (hn:x ≠ "__name__" := by decide) (hd:(x == ("__debug__" : Str))=false:=by decide):PE X (.Name x pos) (tC v):=
 fun _ _ _ H _ I h=>Lx I hg hm hv ⟨v,H,I,r,h⟩ hn hd
variable {a b:Expr}{ta tb:TE}{pos:Pos}
def PC (X:Cx) (op:CmpOp) (a b:Expr) (t:TE):Prop:=
 ∀ (pins:tW) (s:Shared) (σ:St) (H:Hp) (Q:VK),Inv X pins σ H s->t σ H Q->
  wpAny (model X.prog X.w) X.A (eval a X.env) (fun v s₁=>wpAny (model X.prog X.w) X.A (eval b X.env) (fun u s₂=>wpAny (model X.prog X.w) X.A (compareOp op v u) (EP X pins σ Q) X.xe s₂) X.xe s₁) X.xe s
def o4 (b:Expr){op:CmpOp}(h:op≠.In) (h2:op≠.NotIn):behindInMarks op b=false:=by
 have e1:(op == CmpOp.In)=false:=by cases op <;> first | rfl | exact absurd rfl h
 have e2:(op == CmpOp.NotIn)=false:=by cases op <;> first | rfl | exact absurd rfl h2
 cases b <;> simp [behindInMarks,e1,e2]
def tB (t:TE):TT:=fun σ H Q=>t σ H fun x H1=>∃ c,x=.bl c/\Q c H1
def qy {op:CmpOp}{t:TE}(h:PC X op a b t) (h1:behindInMarks op b=false:=by first | exact o4 _ (by decide) (by decide) | rfl):PT X (.Compare a [op] [b] pos) (tB t):=by
 intro pins s σ H Q I hw
 refine wpAny_isTrue_Compare1 (AE (h pins s σ H _ I hw) fun v s1 h1=>AE h1 fun u s2 h2=>AE h2 fun c s3 ⟨x,H1,I1,r1,q1⟩=>?_) h1
 obtain ⟨d,rfl,q⟩:=q1
 cases r1
 exact wpAny_truthy_bool ⟨H1,I1,q⟩
def gr {e:Expr}{t:TE}(h:PE X e t) (he:∀ whole,isTrue e X.env whole=(do let v <- whole;standAt e.pos;holding [v] (truthy v)):=by intro _;rfl):PT X e (tB t):=by
 intro pins s σ H Q I hw
 refine isTrue_plain (AE (h pins s σ H _ I hw) fun v s1 ⟨x,H1,I1,r1,q1⟩=>?_) (he _)
 obtain ⟨d,rfl,q⟩:=q1
 cases r1
 exact wpAny_truthy_bool ⟨H1,I1,q⟩
variable {tA GC:TT}{rest:List Expr}
def Q2 (t u:TT):TT:=fun σ H Q=>t σ H fun c H1=>if c=true then u σ H1 Q else Q false H1
def Rk (t u:TT):TT:=fun σ H Q=>t σ H fun c H1=>if c=true then Q true H1 else u σ H1 Q
def RF (t:TT):TT:=fun σ H Q=>t σ H fun c H1=>Q (!c) H1
def pw_and1 (ha:PT X a tA):PW X (.BoolOp .And [a] pos) tA:=by
 intro wh pins s σ H Q I h
 refine isTrue_and (AE (ha pins s σ H Q I h) fun c s1 e=>?_)
 cases c with
 | true=>exact isTrue_and_nil e
 | false=>exact e
def pw_or1 (ha:PT X a tA):PW X (.BoolOp .Or [a] pos) tA:=by
 intro wh pins s σ H Q I h
 refine isTrue_or (AE (ha pins s σ H Q I h) fun c s1 e=>?_)
 cases c with
 | false=>exact isTrue_or_nil e
 | true=>exact e
def pw_and (ha:PT X a tA) (hb:PW X (.BoolOp .And (b :: rest) pos) GC):PW X (.BoolOp .And (a :: b :: rest) pos) (Q2 tA GC):=by
 intro wh pins s σ H Q I h
 refine isTrue_and (AE (ha pins s σ H _ I h) fun c s1 ⟨H1,I1,q1⟩=>?_)
 cases c with
 | true=>exact hb wh pins s1 σ H1 Q I1 q1
 | false=>exact ⟨H1,I1,q1⟩
def pw_or (ha:PT X a tA) (hb:PW X (.BoolOp .Or (b :: rest) pos) GC):PW X (.BoolOp .Or (a :: b :: rest) pos) (Rk tA GC):=by
 intro wh pins s σ H Q I h
 refine isTrue_or (AE (ha pins s σ H _ I h) fun c s1 ⟨H1,I1,q1⟩=>?_)
 cases c with
 | true=>exact ⟨H1,I1,q1⟩
 | false=>exact hb wh pins s1 σ H1 Q I1 q1
def kb (ha:PT X a tA):PT X (.UnaryOp .Not a pos) (RF tA):=by
 intro pins s σ H Q I h
 exact isTrue_not (ha pins s σ H (fun c H1=>Q (!c) H1) I h)
def LL (ta tb:TE):TE:=fun σ H Q=>ta σ H fun x H1=>∃ c,x=.bl c/\if c=true then tb σ H1 Q else Q (.bl false) H1
def cz (ta tb:TE):TE:=fun σ H Q=>ta σ H fun x H1=>∃ c,x=.bl c/\if c=true then Q (.bl true) H1 else tb σ H1 Q
def gK (ta:TE):TE:=fun σ H Q=>ta σ H fun x H1=>∃ c,x=.bl c/\Q (.bl (!c)) H1
def ee {op} {t:TE}(h:PE X a t):PE X (.BoolOp op [a] pos) t:=fun pins s σ H Q I hw=>BoolOp_one (h pins s σ H Q I hw)
def fv (ha:PE X a ta) (hb:PE X (.BoolOp .And (b :: rest) pos) tb):PE X (.BoolOp .And (a :: b :: rest) pos) (LL ta tb):=by
 intro pins s σ H Q I h
 refine BoolOp_and (AE (ha pins s σ H _ I h) fun v s1 ⟨x,H1,I1,r1,q1⟩=>?_)
 obtain ⟨c,rfl,q1⟩:=q1
 cases r1
 refine wpAny_truthy_bool ?_
 cases c with
 | true=>exact hb pins s1 σ H1 Q I1 q1
 | false=>exact ⟨.bl false,H1,I1,rfl,q1⟩
end
def AG (K:tV) (H:Hp) (a:Addr) (xs:List V):Prop:=
 Rd H a (.lst xs)∨
  ∃ (o:Obj) (A0:Array Value) (n:Nat),K.lookup a=some o/\o.cls=.type "list" /\ o.dict=none/\o.data=.seq A0 n/\A0.size<=sizeLine/\Vals xs A0.toList
def AU (K:tV) (H:Hp) (a:Addr) (xs:List V):Prop:=
 Rd H a (.tup xs)∨
  ∃ (o:Obj) (A0:Array Value) (n:Nat),K.lookup a=some o/\o.cls=.type "tuple" /\ o.data=.seq A0 n/\A0.size<=sizeLine/\Vals xs A0.toList
def nv:Value->Option V
 | .none=>some .A4
 | .bool b=>some (.bl b)
 | .int i _=>some (.int i)
 | .str x _=>some (.str x)
 | .bytes b _=>some (.Ej b)
 | .float b _=>some (.HY b)
 | .ref a=>some (.ref a)
 | .type n=>some (.ty n)
 | _=>none
def RelV.abs {x:V}{u:Value}(r:RelV x u):nv u=some x:=by
 cases x with
 | A4=>cases r;rfl
 | bl _=>cases r;rfl
 | int _=>obtain ⟨t,rfl⟩:=r;rfl
 | str _=>obtain ⟨t,rfl⟩:=r;rfl
 | Ej _=>obtain ⟨t,rfl⟩:=r;rfl
 | HY _=>obtain ⟨t,rfl⟩:=r;rfl
 | ref _=>cases r;rfl
 | ty _=>cases r;rfl
theorem RelV.inj {x y:V}{u:Value}(r:RelV x u) (q:RelV y u):x=y:=BA (r.abs.symm.trans q.abs)
theorem Vals.inj:∀ {xs ys:List V}{us:List Value},Vals xs us->Vals ys us->xs=ys
 | _,_,_,.nil,.nil=>rfl
 | _,_,_,.cons r t,.cons r' t'=>by rw [r.inj r',Vals.inj t t']
section
variable {X:Cx}{pins:tW}{σ:St} {H:Hp}{s:Shared}{a:Addr}{xs ys:List V}
def AG.of {K:tV}(h:H a=some (.lst xs)):AG K H a xs:=.inl (.inl h)
def AU.of {K:tV}(h:H a=some (.tup xs)):AU K H a xs:=.inl (.inl h)
def Inv.list (I:Inv X pins σ H s) (h:AG X.K H a xs):∃ A0:List Value,Vals xs A0/\PlainL s.heap a A0.toArray/\xs.length<=sizeLine:=by
 rcases h with h | ⟨o,A0,n,hk,hc,hd,hs,hz,r⟩
 ·obtain ⟨z,A0,n,r,e⟩:=h.ok I.A7
  exact ⟨A0,r,⟨_,n,e,rfl,rfl,rfl⟩,z⟩
 ·refine ⟨A0.toList,r,⟨o,n,I.B3 a o hk,hc,hd,by simpa using hs⟩,?_⟩
  have e:=r.length
  simp only [UT] at e
  omega
def Inv.tuple (I:Inv X pins σ H s) (h:AU X.K H a xs):∃ A0:List Value,Vals xs A0/\IsTup s.heap a A0.toArray/\xs.length<=sizeLine:=by
 rcases h with h | ⟨o,A0,n,hk,hc,hs,hz,r⟩
 ·obtain ⟨z,A0,r,p⟩:=h.ok I.A7
  exact ⟨A0,r,p.1,z⟩
 ·refine ⟨A0.toList,r,⟨o,I.B3 a o hk,hc,n,by simpa using hs⟩,?_⟩
  have e:=r.length
  simp only [UT] at e
  omega
def Inv.V7 (I:Inv X pins σ H s) (h:AG X.K H a xs) (h':AG X.K H a ys):xs=ys:=by
 obtain ⟨A0,r,⟨o,n,e,_,_,d⟩,_⟩:=I.list h
 obtain ⟨its',r',⟨o',n',e',_,_,d'⟩,_⟩:=I.list h'
 rw [e] at e';cases e'
 rw [d] at d'
 injection d' with d1 _
 have:A0=its':=by simpa using congrArg Array.toList d1
 subst this
 exact r.inj r'
def Inv.MD (I:Inv X pins σ H s) (h:AU X.K H a xs) (h':AU X.K H a ys):xs=ys:=by
 obtain ⟨A0,r,⟨o,e,_,n,d⟩,_⟩:=I.tuple h
 obtain ⟨its',r',⟨o',e',_,n',d'⟩,_⟩:=I.tuple h'
 rw [e] at e';cases e'
 rw [d] at d'
 injection d' with d1 _
 have:A0=its':=by simpa using congrArg Array.toList d1
 subst this
 exact r.inj r'
end
abbrev Cx.G3 (X:Cx) (E:Value->Shared->Prop):Cx:={ X with xe:=E }
abbrev Cx.Li (X:Cx):Cx:=X.G3 fun _ _=>False
theorem Cx.Ok.G3 {X:Cx}(ok:X.Ok) (E:Value->Shared->Prop):(X.G3 E).Ok:=
 ⟨ok.mod,ok.kind,ok.glob,ok.blt,ok.above,ok.inj,ok.has,ok.HZ,ok.hd,ok.frames,ok.GL,ok.GK,ok.bs,ok.E5,ok.GQ,ok.Gf,ok.Dj,ok.Fh⟩
def Cx.Ok.HG {X:Cx}{E:Value->Shared->Prop}(ok:(X.G3 E).Ok):X.Ok:=
 ⟨ok.mod,ok.kind,ok.glob,ok.blt,ok.above,ok.inj,ok.has,ok.HZ,ok.hd,ok.frames,ok.GL,ok.GK,ok.bs,ok.E5,ok.GQ,ok.Gf,ok.Dj,ok.Fh⟩
section
variable {X:Cx}{pins:tW}{σ:St} {H:Hp}{s:Shared}{E:Value->Shared->Prop}
theorem Inv.G3 (I:Inv X pins σ H s) (E:Value->Shared->Prop):Inv (X.G3 E) pins σ H s:=⟨I.ok.G3 E,I.os,I.bare,I.base,I.loc,I.cell,I.free,I.CW,I.pin,I.A7,I.len⟩
theorem Inv.HG (I:Inv (X.G3 E) pins σ H s):Inv X pins σ H s:=⟨I.ok.HG,I.os,I.bare,I.base,I.loc,I.cell,I.free,I.CW,I.pin,I.A7,I.len⟩
theorem SP.HG {D:Ends}{f:Flow}{s':Shared}(h:SP (X.G3 E) pins D f s'):SP X pins D f s':=by
 cases f with
 | next=>obtain ⟨σ',H',I,q⟩:=h;exact ⟨σ',H',I.HG,q⟩
 | brk=>obtain ⟨σ',H',I,q⟩:=h;exact ⟨σ',H',I.HG,q⟩
 | cont=>obtain ⟨σ',H',I,q⟩:=h;exact ⟨σ',H',I.HG,q⟩
 | ret u=>obtain ⟨v,σ',H',I,r,q⟩:=h;exact ⟨v,σ',H',I.HG,r,q⟩
theorem Cd.Li {st:List Stmt}{t:TS}(h:Cd X.Li st t):Cd X st t:=fun pins s σ H D I hw=>
 wpAny_mono (h pins s σ H D (I.G3 _) hw) (fun _ _ q=>q.HG) fun _ _ z=>False.elim z
end
section
variable {X:Cx}{st:Stmt}{rest:List Stmt}{t u:TS}{e:Expr}{te:TE}{pos:Pos}
def NZ:TS:=fun D σ H=>D.nx σ H
def IV (t u:TS):TS:=fun D σ H=>t { D with nx:=u D } σ H
def YT:Cd X [] NZ:=fun _ _ σ H _ I h=>wpAny_execs_nil ⟨σ,H,I,h⟩
def Si (h1:PS X st t) (h2:Cd X rest u):Cd X (st :: rest) (IV t u):=by
 intro pins s σ H D I h
 refine wpAny_execs_cons (AE (h1 pins s σ H { D with nx:=u D } I h) fun f s1 q=>?_)
 cases f with
 | next=>
  obtain ⟨σ',H',I',q⟩:=q
  exact h2 pins s1 σ' H' D I' q
 | ret v=>exact q
 | brk=>exact q
 | cont=>exact q
def mi (h1:PS X st t):Cd X [st] t:=by
 intro pins s σ H D I h
 refine wpAny_execs_cons (AE (h1 pins s σ H D I h) fun f s1 q=>?_)
 cases f with
 | next=>exact wpAny_execs_nil q
 | ret v=>exact q
 | brk=>exact q
 | cont=>exact q
def Inv.quiet {pins:tW}{σ:St} {H:Hp}{s:Shared}(I:Inv X pins σ H s):interactive X.env=false:=by simp [interactive,I.ok.kind]
def Gu (te:TE):TS:=fun D σ H=>te σ H fun _ H1=>D.nx σ H1
def XM (he:PE X e te) (hs:swapsWith e none pos.line X.env=pure false:=by rfl):PS X (.Expr e pos) (Gu te):=by
 intro pins s σ H D I h
 exact wpAny_Expr_any (AE (he pins s σ H _ I h) fun v s1 ⟨x,H1,I1,r1,q1⟩=>⟨σ,H1,I1,q1⟩) I.quiet hs
def Jd (te:TE):TS:=fun D σ H=>te σ H D.rt
def pS (he:PE X e te):PS X (.Return (some e) pos) (Jd te):=by
 intro pins s σ H D I h
 exact wpAny_Return_some (AE (he pins s σ H _ I h) fun v s1 ⟨x,H1,I1,r1,q1⟩=>⟨x,σ,H1,I1,r1,q1⟩)
def Tu (c:TT) (t u:TS):TS:=fun D σ H=>c σ H fun b H1=>if b=true then t D σ H1 else u D σ H1
def p4 {c:Expr}{a b:List Stmt}{tc:TT}(hc:PT X c tc) (ha:Cd X a t) (hb:Cd X b u):PS X (.If c a b pos) (Tu tc t u):=by
 intro pins s σ H D I h
 refine wpAny_If (AE (hc pins s σ H _ I h) fun d s1 ⟨H1,I1,q1⟩=>?_)
 cases d with
 | true=>exact ha pins s1 σ H1 D I1 q1
 | false=>exact hb pins s1 σ H1 D I1 q1
def ZA:TS:=fun _ _ _=>False
def dS:PS X st ZA:=fun _ _ _ _ _ _ h=>h.elim
end
abbrev TG:=V->St->Hp->(St->Hp->Prop)->Prop
abbrev FA:=List V->St->Hp->(St->Hp->Prop)->Prop
def PG (X:Cx) (target:Expr) (t:TG):Prop:=
 ∀ (pins:tW) (s:Shared) (σ:St) (H:Hp) (v:V) (u:Value) (Q:St->Hp->Prop),Inv X pins σ H s->RelV v u->t v σ H Q->
  wpAny (model X.prog X.w) X.A (assign target X.env u) (fun _ s'=>∃ σ' H',Inv X pins σ' H' s'/\Q σ' H') X.xe s
def JJ (X:Cx) (ts:List Expr) (t:FA):Prop:=
 ∀ (pins:tW) (s:Shared) (σ:St) (H:Hp) (vs:List V) (us:List Value) (Q:St->Hp->Prop),Inv X pins σ H s->Vals vs us->t vs σ H Q->
  wpAny (model X.prog X.w) X.A (assignInOrder ((assignEach ts X.env).map (·.2)) us) (fun _ s'=>∃ σ' H',Inv X pins σ' H' s'/\Q σ' H') X.xe s
abbrev Mp:=V->V->V->Hp->(Hp->Prop)->Prop
def Pt (X:Cx) (t:Mp):Prop:=
 ∀ (pins:tW) (s:Shared) (σ:St) (H:Hp) (o i v:V) (ov iv u:Value) (Q:Hp->Prop),Inv X pins σ H s->RelV o ov->RelV i iv->RelV v u->t o i v H Q->
  wpAny (model X.prog X.w) X.A (setItem ov iv u) (fun _ s'=>∃ H',Inv X pins σ H' s'/\Q H') X.xe s
section
variable {X:Cx}{pos:Pos}
def BU (i:Nat):TG:=fun v σ H Q=>Q (σ.set i (some v)) H
def Ru {i:Nat}{x:Str}(hN:X.N.Nodup) (hi:X.N[i]?=some x) (hx:Loc X.env.scope x) (hf:X.fn x=true∨X.env.scope.names.lookup x=some .local:=by first | exact .inl rfl | exact .inr rfl | assumption):PG X (.Name x pos) (BU i):=by
 intro pins s σ H v u Q I r h
 exact wpAny_assign_Name (QU I hN hi hx r (fun s' I'=>⟨_,H,I',h⟩) hf)
def IK:FA:=fun vs σ H Q=>vs=[]/\Q σ H
def Dq (t:TG) (u:FA):FA:=fun vs σ H Q=>∃ v r,vs=v :: r/\t v σ H fun σ' H'=>u r σ' H' Q
def V1:JJ X [] IK:=by
 intro pins s σ H vs us Q I r h
 obtain ⟨e,h⟩:=h
 subst e
 cases r
 exact assignInOrder_nil ⟨σ,H,I,h⟩
def Vi {e:Expr}{es:List Expr}{t:TG}{u:FA}(h1:PG X e t) (h2:JJ X es u)
  (hs:(assignEach (e :: es) X.env).map (·.2)=assign e X.env :: (assignEach es X.env).map (·.2):=by rfl):JJ X (e :: es) (Dq t u):=by
 intro pins s σ H vs us Q I r h
 obtain ⟨v,vr,e1,h⟩:=h
 subst e1
 cases r with
 | cons r rr=>
  rw [hs]
  refine assignInOrder_cons (AE (h1 pins s σ H _ _ _ I r h) fun _ s1 ⟨σ1,H1,I1,q1⟩=>?_)
  exact h2 pins s1 σ1 H1 _ _ Q I1 rr q1
def JC (K:tV) (n:Nat) (t:FA):TG:=fun v σ H Q=>∃ a xs,v=.ref a/\AU K H a xs/\xs.length=n/\t xs σ H Q
def Xm {es:List Expr}{k:Nat}{t:FA}{n:Nat}(hc:X.calm=true) (h:JJ X es t)
  (hn:(assignEach es X.env).length=n:=by rfl) (Bp:(assignEach es X.env).findIdx? (·.1)=none:=by rfl):PG X (.Tuple es k pos) (JC X.K n t):=by
 intro pins s σ H v u Q I r hw
 obtain ⟨a,xs,e1,hq,hl,hw⟩:=hw
 subst e1
 cases r
 obtain ⟨A0,rv,ht,hz⟩:=I.tuple hq
 refine assign_Tuple_tuple (I.ok.hd hc) ht (by simp [hn,<- hl,rv.length]) Bp fun h' hx=>?_
 have I1:Inv X pins σ H { s with heap:=h' }:=I.kept (t':=s.toks) fun b o e=>hx b o (BP (AY e)) e
 exact h pins _ σ H xs _ Q I1 (by simpa using rv) hw
def aQ (to ti:TE) (t:Mp):TG:=fun v σ H Q=>to σ H fun o H1=>ti σ H1 fun i H2=>t o i v H2 fun H3=>Q σ H3
def iW {o i:Expr}{to ti:TE}{t:Mp}(ho:PE X o to) (hi:PE X i ti) (hs:Pt X t)
  (ha:∀ v,assign (.Subscript o i pos) X.env v=(do
   let ov <- holding [v] (eval o X.env)
   let iv <- holding [v,ov] (eval i X.env)
   standAt pos
   holding [v,ov,iv] (setItem ov iv v)
   release [v,ov,iv] []):=by intro _;rfl):PG X (.Subscript o i pos) (aQ to ti t):=by
 intro pins s σ H v u Q I r h
 rw [ha]
 refine wpAny_bind (wpAny_holding (AE (ho pins s σ H _ I h) fun ov s1 ⟨x,H1,I1,r1,q1⟩=>?_))
 refine wpAny_bind (wpAny_holding (AE (hi pins s1 σ H1 _ I1 q1) fun iv s2 ⟨y,H2,I2,r2,q2⟩=>?_))
 refine wpAny_bind (wpAny_standAt (wpAny_bind (wpAny_holding (AE (hs pins s2 σ H2 x y v ov iv u _ I2 r1 r2 r q2) fun _ s3 ⟨H3,I3,q3⟩=>?_))))
 exact wpAny_release ⟨σ,H3,I3,q3⟩
def DM (te:TE) (g:TG):TS:=fun D σ H=>te σ H fun x H1=>g x σ H1 D.nx
def bu {tg e:Expr}{te:TE}{g:TG}(he:PE X e te) (hg:PG X tg g) (hs:swapsWithSole [tg] e pos.line X.env=pure false:=by rfl) (hw:swappedStores [tg] e X.env=pure none:=by rfl)
  (h1:(assignEach [tg] X.env).map (·.2)=[assign tg X.env]:=by rfl):PS X (.Assign [tg] e pos) (DM te g):=by
 intro pins s σ H D I h
 refine wpAny_Assign_stores (AE (he pins s σ H _ I h) fun v s1 ⟨x,H1,I1,r1,q1⟩=>?_) hs hw
 rw [h1]
 exact AE (hg pins s1 σ H1 x v _ I1 r1 q1) fun _ s2 q=>q
def fH {i:Nat}{x:Str}{e:Expr}{te:TE}{pos':Pos}(hN:X.N.Nodup) (hi:X.N[i]?=some x) (hx:Loc X.env.scope x) (he:PE X e te) (hs:swapsWith e (some (.Name x pos')) pos.line X.env=pure false:=by rfl) (hf:X.fn x=true∨X.env.scope.names.lookup x=some .local:=by first | exact .inl rfl | exact .inr rfl | assumption) :
  PS X (.Assign [.Name x pos'] e pos) (DM te (BU i)):=by
 intro pins s σ H D I h
 refine wpAny_Assign_Name (AE (he pins s σ H _ I h) fun v s1 ⟨y,H1,I1,r1,q1⟩=>?_) hs
 exact QU I1 hN hi hx r1 (fun s2 I2=>⟨_,H1,I2,q1⟩) hf
def ZI (c:TT) (tb:TS):TS:=fun D σ H=>∃ W:Nat->St->Hp->Prop,(∃ m,W m σ H)/\∀ m σ H,W m σ H->
 c σ H fun b H1=>if b=true then ∃ N:St->Hp->Prop,(∀ σ' H',N σ' H'->∃ m',m' < m/\W m' σ' H')/\tb { D with nx:=N,ct:=N,bk:=D.nx } σ H1 else D.nx σ H1
def dD {c:Expr}{body:List Stmt}{tc:TT}{tb:TS}(hp:PassesOwn (model X.prog X.w) X.A X.env X.xe) (hc:PT X c tc) (hb:Cd X body tb):PS X (.While c body [] pos) (ZI tc tb):=by
 intro pins s σ H D I h
 obtain ⟨W,⟨m0,w0⟩,turn⟩:=h
 refine wpAny_While (codeAny_whileLoop (fun n s'=>∃ σ' H',Inv X pins σ' H' s'/\W n σ' H') ?_ m0 ⟨σ,H,I,w0⟩)
 rintro n s1 ⟨σ1,H1,I1,w1⟩
 refine wpAny_passesOwn hp (AE (hc pins s1 σ1 H1 _ I1 (turn n σ1 H1 w1)) fun b s2 ⟨H2,I2,q2⟩=>?_)
 cases b with
 | true=>
  obtain ⟨N,hN,q2⟩:=q2
  rw [if_pos rfl]
  refine wpAny_passesOwn hp (AE (hb pins s2 σ1 H2 _ I2 q2) fun f s3 q3=>?_)
  cases f with
  | next=>
   obtain ⟨σ3,H3,I3,n3⟩:=q3
   obtain ⟨m',hm,w3⟩:=hN σ3 H3 n3
   exact ⟨m',hm,σ3,H3,I3,w3⟩
  | cont=>
   obtain ⟨σ3,H3,I3,n3⟩:=q3
   obtain ⟨m',hm,w3⟩:=hN σ3 H3 n3
   exact ⟨m',hm,σ3,H3,I3,w3⟩
  | brk=>exact q3
  | ret v=>exact q3
 | false=>
  rw [if_neg C6]
  exact wpAny_execs_nil ⟨σ1,H2,I2,q2⟩
end
structure It where
 go:Nat->Hp->Prop
 E6:Nat->Hp->V->Hp->Prop
 stop:Nat->Hp->Prop
def Bw (X:Cx) (pins:tW) (H:Hp) (b:Addr):Prop:=
 H b=none/\b≠X.env.locals/\b∉X.fs/\(b∈X.ex∨X.s₀.heap.objs.size<=b)/\(∀ x c,X.env.cells.lookup x=some c->c≠b)/\∀ p∈X.pn++pins,p.1≠b
def Inv.Hy {X:Cx}{pins:tW}{σ:St} {H H':Hp}{s:Shared}{b:Addr}(I:Inv X pins σ H s) (hb:s.heap.objs.size<=b) (hn:H' b=none):Bw X pins H' b:=by
 refine ⟨hn,J4 (CU I.lt hb),I.mr hb,.inr (Bt I.sz hb),fun x c e z=>?_,fun p hp z=>?_⟩
 ·obtain ⟨v,q⟩:=I.cell x c e
  exact absurd (CU q.lt (by rw [z];exact hb)) (J3 _)
 ·exact absurd (CU (AY (I.pin p hp).1) (by rw [z];exact hb)) (J3 _)
structure Turn (P:Program) (w:World) (K:tV) (tg:Expr) (J:It) (fp:List Addr) (it:Addr) (tn:Nat->Heap->Prop):Prop where
 mem:it∈fp
 obj:∀ i h,tn i h->∀ b∈fp,∃ o,h.get? b=some o/\∀ v,o.data≠.cell v
 keep:∀ i h h',tn i h->(∀ b∈fp,∀ o,h.get? b=some o->h'.get? b=some o)->tn i h'
 item:∀ (X:Cx),X.prog=P->X.w=w->X.K=K->X.calm=true->∀ (i:Nat) (pins:tW) (s:Shared) (σ:St) (H:Hp) (E:Value->Shared->Prop),Inv X pins σ H s->(∀ b∈fp,Bw X pins H b)->tn i s.heap->J.go i H->
  wpAny (model P w) X.A (pyNext (.ref it)) (fun r s1=>∃ u,r=some u/\
   wpAny (model P w) X.A (letOwnedTupleGo tg (.ref it) u) (fun _ s2=>∃ x H',Inv X pins σ H' s2/\RelV x u/\J.E6 i H x H'/\tn (i+1) s2.heap/\∀ b∈fp,H' b=none) E s1) E s
 done:∀ (X:Cx),X.prog=P->X.w=w->X.K=K->X.calm=true->∀ (i:Nat) (pins:tW) (s:Shared) (σ:St) (H:Hp) (E:Value->Shared->Prop),Inv X pins σ H s->(∀ b∈fp,Bw X pins H b)->tn i s.heap->J.stop i H->
  wpAny (model P w) X.A (pyNext (.ref it)) (fun r s1=>r=none/\Inv X pins σ H s1) E s
 self:∀ (A:Around) (i:Nat) (s:Shared) (Q:Value->Shared->Prop) (E:Value->Shared->Prop),tn i s.heap->Q (.ref it) s->wpAny (model P w) A (pyIter (.ref it)) Q E s
abbrev TI:=St->Hp->(It->Hp->Prop)->Prop
def YA (X:Cx) (pins:tW) (σ:St) (tg:Expr) (R:It->Hp->Prop) (LI:Value) (s2:Shared):Prop:=
 ∃ (it:Addr) (fp:List Addr) (tn:Nat->Heap->Prop) (J:It) (H':Hp),LI=.ref it/\Inv X pins σ H' s2/\Turn X.prog X.w X.K tg J fp it tn/\tn 0 s2.heap/\(∀ b∈fp,Bw X pins H' b)/\R J H'
def PI (X:Cx) (tg iter:Expr) (wi:TI):Prop:=
 ∀ (pins:tW) (s:Shared) (σ:St) (H:Hp) (R:It->Hp->Prop),Inv X pins σ H s->wi σ H R->
  wpAny (model X.prog X.w) X.A (eval iter X.env) (fun v s1=>wpAny (model X.prog X.w) X.A (pyIter v) (YA X pins σ tg R) X.xe s1) X.xe s
def Nr {M:Model}{A:Around}{E:Value->Shared->Prop}{s:Shared}{tg:Expr}{it:Addr}{u:Value}{o:Obj}{n:String}{vs:Array Value}{Q:Unit->Shared->Prop}(ho:s.heap.get? it=some o) (hc:o.cls=.type n) (hd:o.data=.fields vs)
  (hn:["enumerate", "zip", "dict_itemiterator", "dict_reverseitemiterator", "odict_iterator", "itertools.zip_longest", "itertools.pairwise"].contains n=false) (hQ:Q () s):wpAny M A (letOwnedTupleGo tg (.ref it) u) Q E s:=by
 unfold letOwnedTupleGo
 cases tg <;> first
  | exact wpAny_pure hQ
  | (cases u <;> first
    | exact wpAny_pure hQ
    | (
      refine wpAny_bind (wpAny_load ho ?_)
      rw [hc,hd]
      show wpAny M A (if (["enumerate", "zip", "dict_itemiterator", "dict_reverseitemiterator", "odict_iterator", "itertools.zip_longest", "itertools.pairwise"].contains n && vs[0]? == some (rawInt _))=true then _ else _) Q E s
      rw [if_neg (by intro h;rw [hn,Bool.false_and] at h;cases h)]
      exact wpAny_pure hQ))
def X6 (K:tV) (a:Addr):It:=
 ⟨fun i H=>∃ xs x,AG K H a xs/\xs[i]?=some x,fun i H x H'=>H'=H/\∀ xs,AG K H a xs->xs[i]?=some x,fun i H=>∃ xs,AG K H a xs/\xs.length<=i⟩
def bO (K:tV) (a:Addr):It:=
 ⟨fun i H=>∃ xs x,AU K H a xs/\xs[i]?=some x,fun i H x H'=>H'=H/\∀ xs,AU K H a xs->xs[i]?=some x,fun i H=>∃ xs,AU K H a xs/\xs.length<=i⟩
def IZ (lo:Int) (n:Nat):It:=⟨fun i _=>i < n,fun i H x H'=>H'=H/\x=.int (lo+i),fun i _=>n<=i⟩
def JN {P:Program}{w:World}{K:tV}{tg:Expr}(a it:Addr):Turn P w K tg (X6 K a) [it] it (fun i h=>h.IsListIter it a i) where
 mem:=by simp
 obj:=fun i h st b hb=>by
  have e:b=it:=by simpa using hb
  subst e
  obtain ⟨o,e,c,d⟩:=st
  exact ⟨o,e,fun v z=>by rw [d] at z;cases z⟩
 keep:=fun i h h' st k=>st.at fun o e=>k it (by simp) o e
 item:=by
  intro X hP hw hK hc i pins s σ H E I hf st hg
  subst hP hw hK
  obtain ⟨xs,x,hq,hx⟩:=hg
  obtain ⟨A0,rv,p,hz⟩:=I.list hq
  obtain ⟨u,hu,ru⟩:=rv.get hx
  obtain ⟨f0,f1,f2,f3,f4,f5⟩:=hf it (by simp)
  refine wpAny_pyNext_list_item st p.isList (x:=u) (by simpa using hu) fun h' D0 sb=>?_
  have I1:Inv X pins σ H { s with heap:=h' }:=I.turned (t':=s.toks) (fun b o hb e=>(sb.2 b hb).trans e) f0 f1 f3 f4 f5
  obtain ⟨o,e,c,d⟩:=id D0
  exact ⟨u,rfl,Nr (s:={ s with heap:=h' }) e c d (by decide) ⟨x,H,I1,ru,⟨rfl,fun ys hy=>by rw [I.V7 hy hq];exact hx⟩,D0,fun b hb=>(hf b hb).1⟩⟩
 done:=by
  intro X hP hw hK hc i pins s σ H E I hf st hg
  subst hP hw hK
  obtain ⟨xs,hq,hx⟩:=hg
  obtain ⟨A0,rv,p,hz⟩:=I.list hq
  obtain ⟨f0,f1,f2,f3,f4,f5⟩:=hf it (by simp)
  have hl:=rv.length
  exact wpAny_pyNext_list_end (I.ok.hd hc) st p.isList (by simp;omega) fun h' eb=>⟨rfl,I.turned (t':=s.toks) (fun b o hb e=>eb b o hb e) f0 f1 f3 f4 f5⟩
 self:=fun _ _ _ _ _ st h=>wpAny_pyIter_listiter st h
def L6 {P:Program}{w:World}{K:tV}{tg:Expr}(a it:Addr):Turn P w K tg (bO K a) [it] it (fun i h=>h.IsTupleIter it a i) where
 mem:=by simp
 obj:=fun i h st b hb=>by
  have e:b=it:=by simpa using hb
  subst e
  obtain ⟨o,e,c,d⟩:=st
  exact ⟨o,e,fun v z=>by rw [d] at z;cases z⟩
 keep:=fun i h h' st k=>st.at fun o e=>k it (by simp) o e
 item:=by
  intro X hP hw hK hc i pins s σ H E I hf st hg
  subst hP hw hK
  obtain ⟨xs,x,hq,hx⟩:=hg
  obtain ⟨A0,rv,p,hz⟩:=I.tuple hq
  obtain ⟨u,hu,ru⟩:=rv.get hx
  obtain ⟨f0,f1,f2,f3,f4,f5⟩:=hf it (by simp)
  refine wpAny_pyNext_tuple_item st (show s.heap.IsTuple a A0.toArray from p) (x:=u) (by simpa using hu) fun h' D0 sb=>?_
  have I1:Inv X pins σ H { s with heap:=h' }:=I.turned (t':=s.toks) (fun b o hb e=>(sb.2 b hb).trans e) f0 f1 f3 f4 f5
  obtain ⟨o,e,c,d⟩:=id D0
  exact ⟨u,rfl,Nr (s:={ s with heap:=h' }) e c d (by decide) ⟨x,H,I1,ru,⟨rfl,fun ys hy=>by rw [I.MD hy hq];exact hx⟩,D0,fun b hb=>(hf b hb).1⟩⟩
 done:=by
  intro X hP hw hK hc i pins s σ H E I hf st hg
  subst hP hw hK
  obtain ⟨xs,hq,hx⟩:=hg
  obtain ⟨A0,rv,p,hz⟩:=I.tuple hq
  obtain ⟨f0,f1,f2,f3,f4,f5⟩:=hf it (by simp)
  have hl:=rv.length
  exact wpAny_pyNext_tuple_end (I.ok.hd hc) st (show s.heap.IsTuple a A0.toArray from p) (by simp;omega) fun h' eb=>⟨rfl,I.turned (t':=s.toks) (fun b o hb e=>eb b o hb e) f0 f1 f3 f4 f5⟩
 self:=fun _ _ _ _ _ st h=>wpAny_pyIter_tupleiter st h
def iI {P:Program}{w:World}{K:tV}{tg:Expr}(it:Addr) (lo:Int) (n:Nat):Turn P w K tg (IZ lo n) [it] it (fun i h=>IsRangeIter h it (lo+(i:Nat) * 1) ((n:Int) - (i:Nat)) 1) where
 mem:=by simp
 obj:=fun i h st b hb=>by
  have e:b=it:=by simpa using hb
  subst e
  exact ⟨_,st,fun v z=>by
   have z':Data.fields _=Data.cell v:=z
   cases z'⟩
 keep:=fun i h h' st k=>k it (by simp) _ st
 item:=by
  intro X hP hw hK hc i pins s σ H E I hf st hg
  subst hP hw hK
  obtain ⟨f0,f1,f2,f3,f4,f5⟩:=hf it (by simp)
  have W:=Walks.range (prog:=X.prog) (w:=X.w) (I.ok.hd hc) it lo 1 n
  refine W.item i s _ _ hg st fun v h' tk hv D0 kk=>?_
  obtain ⟨t,rfl⟩:=hv
  have I1:Inv X pins σ H { s with heap:=h',toks:=tk }:=I.turned (fun b o hb e=>kk b o (by simpa using hb) e) f0 f1 f3 f4 f5
  refine ⟨_,rfl,Nr (s:={ s with heap:=h',toks:=tk }) (n := "range_iterator") D0 rfl rfl (by decide) ⟨.int (lo+i),H,I1,⟨t,?_⟩,⟨rfl,rfl⟩,D0,fun b hb=>(hf b hb).1⟩⟩
  rw [Int.mul_one]
 done:=by
  intro X hP hw hK hc i pins s σ H E I hf st hg
  subst hP hw hK
  obtain ⟨f0,f1,f2,f3,f4,f5⟩:=hf it (by simp)
  exact wpAny_pyNext_range_end (I.ok.hd hc) st (by have:n<=i:=hg;omega) fun h' eb=>⟨rfl,I.turned (t':=s.toks) (fun b o hb e=>eb b o hb e) f0 f1 f3 f4 f5⟩
 self:=fun _ _ _ _ _ st h=>wpAny_pyIter_rangeiter st h
section
variable {X:Cx}{tg:Expr}
def Sa (K:tV) (tl:TE):TI:=fun σ H R=>tl σ H fun x H1=>∃ a,x=.ref a/\(∃ xs,AG K H1 a xs)/\R (X6 K a) H1
def kD {l:Expr}{tl:TE}(hl:PE X l tl):PI X tg l (Sa X.K tl):=by
 intro pins s σ H R I h
 refine AE (hl pins s σ H _ I h) fun v s1 ⟨x,H1,I1,r1,q1⟩=>?_
 obtain ⟨a,e,⟨xs,hq⟩,q⟩:=q1
 subst e
 cases r1
 obtain ⟨A0,rv,p,hz⟩:=I1.list hq
 refine wpAny_pyIter_list p.isList ?_
 refine ⟨s1.heap.objs.size,[s1.heap.objs.size],_,_,H1,rfl,I1.kept (t':=s1.toks) fun b o e=>B9 _ e,JN a _,⟨_,Bx _ rfl,rfl,rfl⟩,fun b hb=>?_,q⟩
 have e:b=s1.heap.objs.size:=by simpa using hb
 subst e
 exact I1.Hy (AV _) (I1.A7.fresh (AV _))
def bI {pins:tW}{σ:St} {H:Hp}{s:Shared}{R:It->Hp->Prop}{E:Value->Shared->Prop}{lo hi:Int}{t u v:Tok}{tk:Nat}(I:Inv X pins σ H s) (h1:-(2 ^ 62)<=lo) (h2:lo < 2 ^ 62) (h3:-(2 ^ 62)<=hi) (h4:hi < 2 ^ 62)
  (q:R (IZ lo (hi - lo).toNat) H):wpAny (model X.prog X.w) X.A (pyIter (.ref s.heap.objs.size)) (YA X pins σ tg R) E { s with heap:=s.heap.push { cls:=.type "range", data:=.fields #[.int lo t,.int hi u,.int 1 v] },toks:=tk }:=by
 refine wpAny_pyIter_range (IsRange.new ..) (small_one h1 h2 h3 h4) ?_
 have I1:Inv X pins σ H { s with heap:=s.heap.push { cls:=.type "range", data:=.fields #[.int lo t,.int hi u,.int 1 v] },toks:=tk }:=I.kept fun b o e=>B9 _ e
 refine ⟨(s.heap.push { cls:=.type "range", data:=.fields #[.int lo t,.int hi u,.int 1 v] }).objs.size,[(s.heap.push { cls:=.type "range", data:=.fields #[.int lo t,.int hi u,.int 1 v] }).objs.size],_,_,H,rfl,
  I1.kept (t':=tk) fun b o e=>B9 _ e,iI _ lo (hi - lo).toNat,?_,fun b hb=>?_,q⟩
 ·have e1:lo+((0:Nat):Int) * 1=lo:=by simp
  have e2:(((hi - lo).toNat:Nat):Int) - ((0:Nat):Int)=Builtin.Range.rangeSize lo hi 1:=by rw [rangeSize_one];split <;> omega
  show IsRangeIter _ _ (lo+((0:Nat):Int) * 1) ((((hi - lo).toNat:Nat):Int) - ((0:Nat):Int)) 1
  rw [e1,e2]
  exact Bx _ rfl
 ·have e:b=(s.heap.push { cls:=.type "range", data:=.fields #[.int lo t,.int hi u,.int 1 v] }).objs.size:=by simpa using hb
  subst e
  exact I1.Hy (AV _) (I1.A7.fresh (AV _))
def R3 (ta:TA):TI:=fun σ H R=>ta σ H fun vs H1=>∃ j:Int,vs=[.int j]/\-(2 ^ 62)<=j/\j < 2 ^ 62/\R (IZ 0 j.toNat) H1
def bx (ta:TA):TI:=fun σ H R=>ta σ H fun vs H1=>∃ i j:Int,vs=[.int i,.int j]/\(-(2 ^ 62)<=i/\i < 2 ^ 62/\-(2 ^ 62)<=j/\j < 2 ^ 62)/\R (IZ i (j - i).toNat) H1
def jU {a:Expr}{ta:TA}{p pos:Pos}(hg:Gl X "range") (hm:X.mg "range" = none) (ha:PA X [a] ta) (hs:starEach [a] X.env=[(false,eval a X.env)]:=by rfl):PI X tg (.Call (.Name "range" p) [a] [] pos) (R3 ta):=by
 intro pins s σ H R I h
 refine Call_ (Lx I hg hm boot_range (aq (AE (ha pos pins s σ H _ I h) fun us s1 ⟨vs,H1,I1,r1,q1⟩=>?_) hs rfl))
 obtain ⟨j,e,q1,q2,q⟩:=q1
 subst e
 cases r1 with
 | cons r rr=>
  cases rr
  obtain ⟨t,rfl⟩:=r
  exact call_range_1 (bI I1 (by omega) (by omega) q1 q2 (by simpa using q))
def Nz (wi:TI) (g:TG) (tb:TS):TS:=fun D σ H=>wi σ H fun J H1=>∃ W:Nat->Nat->St->Hp->Prop,(∃ m,W 0 m σ H1)/\∀ i m σ H,W i m σ H->
 (J.stop i H/\D.nx σ H)∨(J.go i H/\∃ N:St->Hp->Prop,(∀ σ' H',N σ' H'->∃ m',m' < m/\W (i+1) m' σ' H')/\∀ x H',J.E6 i H x H'->g x σ H' fun σ2 H2=>tb { D with nx:=N,ct:=N,bk:=D.nx } σ2 H2)
def JZ (fp:List Addr) (h:Heap):tW:=fp.filterMap fun b=>(h.get? b).map fun o=>(b,o)
def Jt {fp:List Addr}{h:Heap}{b:Addr}{o:Obj}(hb:b∈fp) (e:h.get? b=some o):(b,o)∈JZ fp h:=List.mem_filterMap.mpr ⟨b,hb,by rw [e];rfl⟩
def eY {fp:List Addr}{h:Heap}{p:Addr×Obj}(hp:p∈JZ fp h):p.1∈fp/\h.get? p.1=some p.2:=by
 obtain ⟨b,hb,e⟩:=List.mem_filterMap.mp hp
 cases q:h.get? b with
 | none=>rw [q] at e;cases e
 | some o=>
  rw [q] at e
  have e':(b,o)=p:=BA e
  subst e'
  exact ⟨hb,q⟩
def Inv.pinned {pins:tW}{σ:St} {H:Hp}{s:Shared}{fp:List Addr}(I:Inv X pins σ H s) (hf:∀ b∈fp,Bw X pins H b) (ho:∀ b∈fp,∃ o,s.heap.get? b=some o/\∀ v,o.data≠.cell v):Inv X (pins++JZ fp s.heap) σ H s:=
 I.XJ fun p hp=>(List.mem_append.mp hp).elim (fun z=>I.pin p (E9 _ z)) fun z=>by
  obtain ⟨hb,e⟩:=eY z
  obtain ⟨f0,f1,f2,_⟩:=hf p.1 hb
  obtain ⟨o,e',d⟩:=ho p.1 hb
  rw [e] at e';cases e'
  exact ⟨e,f0,f1,f2,d⟩
def Inv.Ic {pins pl:tW}{σ:St} {H:Hp}{s:Shared}(I:Inv X (pins++pl) σ H s):Inv X pins σ H s:=I.XJ fun p hp=>I.pin p (E9 _ (Mc _ hp))
def qD {iter:Expr}{body:List Stmt}{wi:TI}{g:TG}{tb:TS}{pos:Pos}(hp:PassesOwn (model X.prog X.w) X.A X.env X.xe) (hc:X.calm=true) (hi:PI X tg iter wi) (hg:PG X tg g) (hb:Cd X body tb)
  (hs:∀ x,foldedSetIterable iter X.env x=pure x:=by intro _;rfl):PS X (.For tg iter body [] pos) (Nz wi g tb):=by
 intro pins s σ H D I h
 refine wpAny_For (AE (hi pins s σ H _ I h) fun v s1 h1=>AE h1 fun LI s2 h2=>?_) hs
 obtain ⟨it,fp,tn,J,H2,e,I2,T,ER,f2,W,⟨m0,w0⟩,turn⟩:=h2
 subst e
 -- mX stays true of FW tO objects through FW loop
 have FU:∀ {H':Hp},(∀ b∈fp,H' b=none)->∀ b∈fp,Bw X pins H' b:=fun hn b hb=>⟨hn b hb,(f2 b hb).2⟩
 refine codeAny_forLoop_any (fun n s'=>∃ i σ' H',Inv X pins σ' H' s'/\tn i s'.heap/\(∀ b∈fp,H' b=none)/\W i n σ' H') ?_ m0 ⟨0,σ,H2,I2,ER,fun b hb=>(f2 b hb).1,w0⟩
 rintro n s3 ⟨i,σ3,H3,I3,WB,Xe,w3⟩
 rcases turn i n σ3 H3 w3 with ⟨stop,qn⟩ | ⟨go,N,hN,step⟩
 ·refine wpAny_passesOwn hp (AE (T.done X rfl rfl rfl hc i pins s3 σ3 H3 X.xe I3 (FU Xe) WB stop) fun r s4 ⟨hr,I4⟩=>?_)
  subst hr
  exact wpAny_execs_nil ⟨σ3,H3,I4,qn⟩
 ·refine wpAny_passesOwn hp (AE (T.item X rfl rfl rfl hc i pins s3 σ3 H3 X.xe I3 (FU Xe) WB go) fun r s4 ⟨u,hr,h4⟩=>?_)
  subst hr
  refine wpAny_passesOwn hp (AE h4 fun _ s5 ⟨x,H5,I5,r5,y5,GZ,Ig⟩=>?_)
  have pU:=I5.pinned (FU Ig) (T.obj _ _ GZ)
  refine wpAny_passesOwn hp (AE (hg _ s5 σ3 H5 x u _ pU r5 (step x H5 y5)) fun _ s6 ⟨σ6,H6,I6,q6⟩=>?_)
  refine wpAny_passesOwn hp (AE (hb _ s6 σ6 H6 _ I6 q6) fun f s7 q7=>?_)
  have again:∀ {σ7:St} {H7:Hp},Inv X (pins++JZ fp s5.heap) σ7 H7 s7->N σ7 H7->∃ m,m < n/\∃ i σ' H',Inv X pins σ' H' s7/\tn i s7.heap/\(∀ b∈fp,H' b=none)/\W i m σ' H':=fun {σ7 H7} I7 n7=>by
   obtain ⟨m',hm,w7⟩:=hN σ7 H7 n7
   refine ⟨m',hm,i+1,σ7,H7,I7.Ic,T.keep _ _ _ GZ fun b hb o e=>(I7.pin (b,o) (E9 _ (E9 _ (Jt hb e)))).1,fun b hb=>?_,w7⟩
   obtain ⟨o,e,d⟩:=T.obj _ _ GZ b hb
   exact (I7.pin (b,o) (E9 _ (E9 _ (Jt hb e)))).2.1
  cases f with
  | next=>obtain ⟨σ7,H7,I7,n7⟩:=q7;exact again I7 n7
  | cont=>obtain ⟨σ7,H7,I7,n7⟩:=q7;exact again I7 n7
  | brk=>obtain ⟨σ7,H7,I7,q7⟩:=q7;exact ⟨σ7,H7,I7.Ic,q7⟩
  | ret v=>obtain ⟨x7,σ7,H7,I7,r7,q7⟩:=q7;exact ⟨x7,σ7,H7,I7.Ic,r7,q7⟩
end
def cE {lo:Int}{n:Nat}{g:TG}{tb:TS}{D:Ends}{σ:St} {H:Hp}(Pv:Nat->St->Hp->Prop) (h0:Pv 0 σ H)
  (hs:∀ i σ H,i < n->Pv i σ H->g (.int (lo+i)) σ H fun σ2 H2=>tb { D with nx:=Pv (i+1),ct:=Pv (i+1),bk:=D.nx } σ2 H2) (hd:∀ σ H,Pv n σ H->D.nx σ H) :
  ∃ W:Nat->Nat->St->Hp->Prop,(∃ m,W 0 m σ H)/\∀ i m σ H,W i m σ H->
   ((IZ lo n).stop i H/\D.nx σ H)∨((IZ lo n).go i H/\∃ N:St->Hp->Prop,(∀ σ' H',N σ' H'->∃ m',m' < m/\W (i+1) m' σ' H')/\∀ x H',(IZ lo n).E6 i H x H'->g x σ H' fun σ2 H2=>tb { D with nx:=N,ct:=N,bk:=D.nx } σ2 H2):=by
 refine ⟨fun i m σ H=>m=n - i/\i<=n/\Pv i σ H,⟨n,by simp,Cj _,h0⟩,?_⟩
 rintro i m σ H ⟨rfl,hi,p⟩
 by_cases AM:i < n
 ·refine .inr ⟨AM,Pv (i+1),fun σ' H' p'=>⟨n - (i+1),by omega,rfl,AM,p'⟩,fun x H' y=>?_⟩
  obtain ⟨e,y⟩:=y
  subst e y
  exact hs i σ _ AM p
 ·have e:i=n:=by omega
  subst e
  exact .inl ⟨AV _,hd σ H p⟩
abbrev R2:=V->V->Hp->VK->Prop
def Aw (X:Cx) (f:Value->Value->Sem Value) (r:R2):Prop:=
 ∀ (pins:tW) (s:Shared) (σ:St) (H:Hp) (x y:V) (v u:Value) (Q:VK),Inv X pins σ H s->RelV x v->RelV y u->r x y H Q->
  wpAny (model X.prog X.w) X.A (f v u) (EP X pins σ Q) X.xe s
def D6 (X:Cx) (f:Value) (r:List V->Hp->VK->Prop):Prop:=
 ∀ (pins:tW) (s:Shared) (σ:St) (H:Hp) (xs:List V) (us:List Value) (Q:VK),Inv X pins σ H s->Vals xs us->r xs H Q->
  wpAny (model X.prog X.w) X.A (call f us) (EP X pins σ Q) X.xe s
def B0 (r:R2) (ta tb:TE):TE:=fun σ H Q=>ta σ H fun x H1=>tb σ H1 fun y H2=>r x y H2 Q
def mP (r:V->Hp->VK->Prop) (ta:TE):TE:=fun σ H Q=>ta σ H fun x H1=>r x H1 Q
def rI (C:Int->Int->Prop) (g:Int->Int->V):R2:=fun x y H Q=>∃ i j,x=.int i/\y=.int j/\C i j/\Q (g i j) H
def Eg (g:Int->Int->V):R2:=fun x y H Q=>∃ i j,x=.int i/\y=.int j/\Q (g i j) H
def rU (g:Int->V):V->Hp->VK->Prop:=fun x H Q=>∃ i,x=.int i/\Q (g i) H
section
variable {X:Cx}{a b c:Expr}{ta tb tc:TE}{pos:Pos}
def TQ (ha:PE X a ta) (hb:PE X b tb){pins:tW}{s:Shared}{σ:St} {H:Hp}{R:V->V->Hp->Prop}(I:Inv X pins σ H s)
  (h:ta σ H fun x H1=>tb σ H1 fun y H2=>R x y H2){Q:Value->Shared->Prop}{f:Value->Value->Sem Value}
  (hf:∀ v u s2 x y H2,Inv X pins σ H2 s2->RelV x v->RelV y u->R x y H2->wpAny (model X.prog X.w) X.A (f v u) Q X.xe s2) :
  wpAny (model X.prog X.w) X.A (eval a X.env) (fun v s₁=>wpAny (model X.prog X.w) X.A (eval b X.env) (fun u s₂=>wpAny (model X.prog X.w) X.A (f v u) Q X.xe s₂) X.xe s₁) X.xe s:=by
 refine AE (ha pins s σ H _ I h) fun v s1 ⟨x,H1,I1,r1,q1⟩=>?_
 refine AE (hb pins s1 σ H1 _ I1 q1) fun u s2 ⟨y,H2,I2,r2,q2⟩=>?_
 exact hf v u s2 x y H2 I2 r1 r2 q2
def cC {op:Operator}{r:R2}(ho:Aw X (binaryOp op) r) (ha:PE X a ta) (hb:PE X b tb):PE X (.BinOp a op b pos) (B0 r ta tb):=by
 intro pins s σ H Q I h
 exact wpAny_BinOp (TQ ha hb I h fun v u s2 x y H2 I2 rx ry q=>ho pins s2 σ H2 x y v u Q I2 rx ry q)
def Mh {f:Value->Value->Sem Value}{C:Int->Int->Prop}{g:Int->Int->Int}
  (rule:∀ (i j:Int) (t u:Tok) (s:Shared) (Q:Value->Shared->Prop) (E:Value->Shared->Prop),C i j->Q (.int (g i j) s.toks) { s with toks:=s.toks+1 }->wpAny (model X.prog X.w) X.A (f (.int i t) (.int j u)) Q E s) :
  Aw X f (rI C fun i j=>.int (g i j)):=by
 intro pins s σ H x y v u Q I rx ry h
 obtain ⟨i,j,rfl,rfl,hc,q⟩:=h
 obtain ⟨t,rfl⟩:=rx
 obtain ⟨t',rfl⟩:=ry
 exact rule i j t t' s _ _ hc ⟨.int (g i j),H,I.tok _,⟨_,rfl⟩,q⟩
def Y9 {f:Value->Value->Sem Value}{g:Int->Int->Int}
  (rule:∀ (i j:Int) (t u:Tok) (s:Shared) (Q:Value->Shared->Prop) (E:Value->Shared->Prop),Q (.int (g i j) s.toks) { s with toks:=s.toks+1 }->wpAny (model X.prog X.w) X.A (f (.int i t) (.int j u)) Q E s) :
  Aw X f (Eg fun i j=>.int (g i j)):=by
 intro pins s σ H x y v u Q I rx ry h
 obtain ⟨i,j,rfl,rfl,q⟩:=h
 obtain ⟨t,rfl⟩:=rx
 obtain ⟨t',rfl⟩:=ry
 exact rule i j t t' s _ _ ⟨.int (g i j),H,I.tok _,⟨_,rfl⟩,q⟩
def N0 {f:Value->Value->Sem Value}{g:Int->Int->Bool}
  (rule:∀ (i j:Int) (t u:Tok) (s:Shared) (Q:Value->Shared->Prop) (E:Value->Shared->Prop),Q (.bool (g i j)) s->wpAny (model X.prog X.w) X.A (f (.int i t) (.int j u)) Q E s) :
  Aw X f (Eg fun i j=>.bl (g i j)):=by
 intro pins s σ H x y v u Q I rx ry h
 obtain ⟨i,j,rfl,rfl,q⟩:=h
 obtain ⟨t,rfl⟩:=rx
 obtain ⟨t',rfl⟩:=ry
 exact rule i j t t' s _ _ ⟨.bl (g i j),H,I,rfl,q⟩
def nX (i j:Int):Prop:=0<=j/\j<=1000000/\i.natAbs < 2 ^ 64
def GJ:Aw X (binaryOp .Add) (Eg fun i j=>.int (i+j)):=Y9 fun _ _ _ _ _ _ _ q=>add_int q
def P7:Aw X (binaryOp .Sub) (Eg fun i j=>.int (i - j)):=Y9 fun _ _ _ _ _ _ _ q=>sub_int q
def Gi:Aw X (binaryOp .Mod) (rI (fun _ j=>0 < j) fun i j=>.int (i % j)):=Mh fun i j _ _ _ _ _ hc q=>by
 have h1:(0:Int) < j:=hc
 exact mod_int' (by omega) (by rw [Int.fmod_eq_emod_of_nonneg i (by omega)];exact q)
def Ji:Aw X (binaryOp .Pow) (rI nX fun i j=>.int (i ^ j.toNat)):=Mh fun _ _ _ _ _ _ _ hc q=>pow_int_small hc.1 hc.2.1 hc.2.2 q
end
def Mg:V->V->Bool
 | .A4,.A4=>true | .A4,.int _=>true | .int _,.A4=>true | .A4,.bl _=>true | .bl _,.A4=>true | .A4,.str _=>true | .str _,.A4=>true
 | .int _,.int _=>true | .bl _,.bl _=>true | .str _,.str _=>true | .Ej _,.Ej _=>true
 | .int _,.str _=>true | .str _,.int _=>true | .bl _,.str _=>true | .str _,.bl _=>true
 | _,_=>false
def YZ:R2:=fun x y H Q=>Mg x y=true/\Q (.bl (decide (x=y))) H
def Zk:R2:=fun x y H Q=>Mg x y=true/\Q (.bl (!decide (x=y))) H
def WC {i j:Int}:decide (V.int i=V.int j)=(i == j):=by
 rw [MW]
 simp
def WL {i j:Bool}:decide (V.bl i=V.bl j)=(i == j):=by
 rw [MW]
 simp
def Wk {i j:Str}:decide (V.str i=V.str j)=(i == j):=by
 rw [MW]
 simp
def ZK {i j:Array UInt8}:decide (V.Ej i=V.Ej j)=(i.toList == j.toList):=by
 rw [MW]
 cases i
 cases j
 simp
section
variable {X:Cx}{a b c:Expr}{ta tb tc:TE}{pos:Pos}
def BN {pins:tW}{σ:St} {H:Hp}{s:Shared}{Q:VK}{k k':Bool}(I:Inv X pins σ H s) (q:Q (.bl k) H) (e:k=k'):EP X pins σ Q (.bool k') s:=by
 subst e
 exact ⟨.bl k,H,I,rfl,q⟩
def HH:Aw X (compareOp .Eq) YZ:=by
 intro pins s σ H x y v u Q I rx ry h
 obtain ⟨hs,q⟩:=h
 cases x with
 | A4=>
  cases rx
  cases y with
  | A4=>cases ry;exact PySem.EqNone.eq_none_none (BN I q (by simp))
  | bl j=>cases ry;exact PySem.EqNone.eq_none_bool (BN I q (by simp))
  | int j=>obtain ⟨t',rfl⟩:=ry;exact PySem.EqNone.eq_none_int (BN I q (by simp))
  | str j=>obtain ⟨t',rfl⟩:=ry;exact PySem.EqNone.eq_none_str (BN I q (by simp))
  | _=>exact absurd (show false=true from hs) C6
 | bl i=>
  cases rx
  cases y with
  | A4=>cases ry;exact PySem.EqNone.eq_bool_none (BN I q (by simp))
  | bl j=>cases ry;exact eq_bool (BN I q WL)
  | str j=>obtain ⟨t',rfl⟩:=ry;exact PySem.EqMixed.eq_bool_str (BN I q (by simp))
  | _=>exact absurd (show false=true from hs) C6
 | int i=>
  obtain ⟨t,rfl⟩:=rx
  cases y with
  | A4=>cases ry;exact PySem.EqNone.eq_int_none (BN I q (by simp))
  | int j=>obtain ⟨t',rfl⟩:=ry;exact eq_int (BN I q WC)
  | str j=>obtain ⟨t',rfl⟩:=ry;exact PySem.EqMixed.eq_int_str (BN I q (by simp))
  | _=>exact absurd (show false=true from hs) C6
 | str i=>
  obtain ⟨t,rfl⟩:=rx
  cases y with
  | A4=>cases ry;exact PySem.EqNone.eq_str_none (BN I q (by simp))
  | bl j=>cases ry;exact PySem.EqMixed.eq_str_bool (BN I q (by simp))
  | int j=>obtain ⟨t',rfl⟩:=ry;exact PySem.EqMixed.eq_str_int (BN I q (by simp))
  | str j=>obtain ⟨t',rfl⟩:=ry;exact eq_str (BN I q Wk)
  | _=>exact absurd (show false=true from hs) C6
 | Ej i=>
  obtain ⟨t,rfl⟩:=rx
  cases y with
  | Ej j=>obtain ⟨t',rfl⟩:=ry;exact PySem.W.eq_bytes (BN I q ZK)
  | _=>exact absurd (show false=true from hs) C6
 | _=>cases y <;> exact absurd (show false=true from hs) C6
def dm:Aw X (compareOp .NotEq) Zk:=by
 intro pins s σ H x y v u Q I rx ry h
 obtain ⟨hs,q⟩:=h
 cases x with
 | A4=>
  cases rx
  cases y with
  | A4=>cases ry;exact PySem.EqNone.ne_none_none (BN I q (by simp))
  | bl j=>cases ry;exact PySem.EqNone.ne_none_bool (BN I q (by simp))
  | int j=>obtain ⟨t',rfl⟩:=ry;exact PySem.EqNone.ne_none_int (BN I q (by simp))
  | str j=>obtain ⟨t',rfl⟩:=ry;exact PySem.EqNone.ne_none_str (BN I q (by simp))
  | _=>exact absurd (show false=true from hs) C6
 | bl i=>
  cases rx
  cases y with
  | A4=>cases ry;exact PySem.EqNone.ne_bool_none (BN I q (by simp))
  | bl j=>cases ry;exact ne_bool (BN I q (congrArg not WL))
  | str j=>obtain ⟨t',rfl⟩:=ry;exact PySem.EqMixed.ne_bool_str (BN I q (by simp))
  | _=>exact absurd (show false=true from hs) C6
 | int i=>
  obtain ⟨t,rfl⟩:=rx
  cases y with
  | A4=>cases ry;exact PySem.EqNone.ne_int_none (BN I q (by simp))
  | int j=>obtain ⟨t',rfl⟩:=ry;exact ne_int (BN I q (congrArg not WC))
  | str j=>obtain ⟨t',rfl⟩:=ry;exact PySem.EqMixed.ne_int_str (BN I q (by simp))
  | _=>exact absurd (show false=true from hs) C6
 | str i=>
  obtain ⟨t,rfl⟩:=rx
  cases y with
  | A4=>cases ry;exact PySem.EqNone.ne_str_none (BN I q (by simp))
  | bl j=>cases ry;exact PySem.EqMixed.ne_str_bool (BN I q (by simp))
  | int j=>obtain ⟨t',rfl⟩:=ry;exact PySem.EqMixed.ne_str_int (BN I q (by simp))
  | str j=>obtain ⟨t',rfl⟩:=ry;exact ne_str (BN I q (congrArg not Wk))
  | _=>exact absurd (show false=true from hs) C6
 | Ej i=>
  obtain ⟨t,rfl⟩:=rx
  cases y with
  | Ej j=>obtain ⟨t',rfl⟩:=ry;exact PySem.W.ne_bytes (BN I q (congrArg not ZK))
  | _=>exact absurd (show false=true from hs) C6
 | _=>cases y <;> exact absurd (show false=true from hs) C6
def S6:Aw X (compareOp .Lt) (Eg fun i j=>.bl (decide (i < j))):=N0 fun _ _ _ _ _ _ _ q=>lt_int q
def Nb:Aw X (compareOp .LtE) (Eg fun i j=>.bl (decide (i<=j))):=N0 fun _ _ _ _ _ _ _ q=>le_int q
def Qf:Aw X (compareOp .Gt) (Eg fun i j=>.bl (decide (j < i))):=N0 fun _ _ _ _ _ _ _ q=>gt_int q
def jN:Aw X (compareOp .GtE) (Eg fun i j=>.bl (decide (j<=i))):=N0 fun _ _ _ _ _ _ _ q=>ge_int q
def fi:Aw X (compareOp .In) (fun x y H Q=>∃ i j,x=.str i/\y=.str j/\Q (.bl (!(Builtin.Str.occurrences j i 0 j.length 1).isEmpty)) H):=by
 intro pins s σ H x y v u Q I rx ry h
 obtain ⟨i,j,rfl,rfl,q⟩:=h
 obtain ⟨t,rfl⟩:=rx
 obtain ⟨t',rfl⟩:=ry
 exact in_str (BN I q rfl)
def XA (b:Expr){op:CmpOp}(h:op≠.In:=by decide) (h2:op≠.NotIn:=by decide):behindInMarks op b=false:=by
 have e1:(op == CmpOp.In)=false:=by cases op <;> first | rfl | exact absurd rfl h
 have e2:(op == CmpOp.NotIn)=false:=by cases op <;> first | rfl | exact absurd rfl h2
 cases b <;> simp [behindInMarks,e1,e2]
def jP {op:CmpOp}{r:R2}(ho:Aw X (compareOp op) r) (ha:PE X a ta) (hb:PE X b tb) (hm:behindInMarks op b=false):PE X (.Compare a [op] [b] pos) (B0 r ta tb):=by
 intro pins s σ H Q I h
 exact wpAny_Compare1 (TQ ha hb I h fun v u s2 x y H2 I2 rx ry q=>ho pins s2 σ H2 x y v u Q I2 rx ry q) hm
def Jy (t:TE):TT:=fun σ H Q=>t σ H fun x H'=>∃ k,x=.bl k/\Q k H'
def ma {op:CmpOp}{r:R2}(ho:Aw X (compareOp op) r) (ha:PE X a ta) (hb:PE X b tb) (hm:behindInMarks op b=false):PT X (.Compare a [op] [b] pos) (Jy (B0 r ta tb)):=by
 intro pins s σ H Q I h
 refine wpAny_isTrue_Compare1 (AE (ha pins s σ H _ I h) fun v s1 ⟨x,H1,I1,r1,q1⟩=>AE (hb pins s1 σ H1 _ I1 q1) fun u s2 ⟨y,H2,I2,r2,q2⟩=>
  AE (ho pins s2 σ H2 x y v u _ I2 r1 r2 q2) fun c s3 ⟨z,H3,I3,r3,k,e,q3⟩=>?_) hm
 subst e
 cases r3
 exact wpAny_truthy_bool ⟨H3,I3,q3⟩
def KQ (r r':R2) (ta tb tc:TE):TE:=fun σ H Q=>ta σ H fun x H1=>tb σ H1 fun y H2=>r x y H2 fun z H3=>∃ k,z=.bl k/\
 (if k=true then tc σ H3 fun w' H4=>r' y w' H4 Q else Q (.bl false) H3)
def eU {op Dg:CmpOp}{r r':R2}(ho:Aw X (compareOp op) r) (D3:Aw X (compareOp Dg) r') (ha:PE X a ta) (hb:PE X b tb) (hc:PE X c tc)
  (hm:lastMarks [op,Dg] [b,c]=false:=by with_unfolding_all rfl):PE X (.Compare a [op,Dg] [b,c] pos) (KQ r r' ta tb tc):=by
 intro pins s σ H Q I h
 refine Compare_chain (AE (ha pins s σ H _ I h) fun v s1 ⟨x,H1,I1,r1,q1⟩=>chain_link (AE (hb pins s1 σ H1 _ I1 q1) fun u s2 ⟨y,H2,I2,r2,q2⟩=>
  AE (ho pins s2 σ H2 x y v u _ I2 r1 r2 q2) fun d s3 ⟨z,H3,I3,r3,k,e,q3⟩=>?_)) hm
 subst e
 cases r3
 refine wpAny_truthy_bool ?_
 cases k with
 | false=>exact ite_ff ⟨.bl false,H3,I3,rfl,q3⟩
 | true=>exact ite_tt (chain_last (AE (hc pins s3 σ H3 _ I3 q3) fun w' s4 ⟨z',H4,I4,r4,q4⟩=>D3 pins s4 σ H4 y z' u w' Q I4 r2 r4 q4))
def gX {op Dg:CmpOp}{r r':R2}(ho:Aw X (compareOp op) r) (D3:Aw X (compareOp Dg) r') (ha:PE X a ta) (hb:PE X b tb) (hc:PE X c tc)
  (hm:lastMarks [op,Dg] [b,c]=false:=by with_unfolding_all rfl):PT X (.Compare a [op,Dg] [b,c] pos) (Jy (KQ r r' ta tb tc)):=by
 intro pins s σ H Q I h
 refine isTrue_chain (AE (ha pins s σ H _ I h) fun v s1 ⟨x,H1,I1,r1,q1⟩=>test_link (AE (hb pins s1 σ H1 _ I1 q1) fun u s2 ⟨y,H2,I2,r2,q2⟩=>
  AE (ho pins s2 σ H2 x y v u _ I2 r1 r2 q2) fun d s3 ⟨z,H3,I3,r3,k,e,q3⟩=>?_)) hm
 subst e
 cases r3
 refine wpAny_truthy_bool ?_
 cases k with
 | false=>
  obtain ⟨k',e',q'⟩:=q3
  cases e'
  exact ite_ff ⟨H3,I3,q'⟩
 | true=>
  refine ite_tt (test_last (AE (hc pins s3 σ H3 _ I3 q3) fun w' s4 ⟨z',H4,I4,r4,q4⟩=>AE (D3 pins s4 σ H4 y z' u w' _ I4 r2 r4 q4) fun d' s5 ⟨z2,H5,I5,r5,k2,e2,q5⟩=>?_))
  subst e2
  cases r5
  exact wpAny_truthy_bool ⟨H5,I5,q5⟩
def IW:(sizeLine:Nat) < 2 ^ 63:=by rw [sizeLine_eq];decide
def X3:Aw X (binaryOp .Add) (fun x y H Q=>∃ i j,x=.str i/\y=.str j/\i.length+j.length<=sizeLine/\Q (.str (i++j)) H):=by
 intro pins s σ H x y v u Q I rx ry h
 obtain ⟨i,j,rfl,rfl,hz,q⟩:=h
 obtain ⟨t,rfl⟩:=rx
 obtain ⟨t',rfl⟩:=ry
 exact add_str (fun t' tk=>⟨.str (i++j),H,I.tok _,⟨_,rfl⟩,q⟩) hz
def vals1 {x:V}{us:List Value}(r:Vals [x] us):∃ u,us=[u]/\RelV x u:=by
 cases r with
 | cons r1 r2=>cases r2;exact ⟨_,rfl,r1⟩
def vals2 {x y:V}{us:List Value}(r:Vals [x,y] us):∃ u w',us=[u,w']/\RelV x u/\RelV y w':=by
 cases r with
 | cons r1 r2=>
  cases r2 with
  | cons r3 r4=>cases r4;exact ⟨_,_,rfl,r1,r3⟩
def m9 (hc:X.calm=true):D6 X (.builtin "max") (fun xs H Q=>∃ i j,xs=[.int i,.int j]/\Q (.int (if j > i then j else i)) H):=by
 intro pins s σ H xs us Q I r h
 obtain ⟨i,j,rfl,q⟩:=h
 obtain ⟨u,w',rfl,⟨t,rfl⟩,⟨t',rfl⟩⟩:=vals2 r
 refine max_two_ints (I.ok.hd hc) fun h' tk k=>⟨_,H,I.kept k,?_,q⟩
 by_cases hj:j > i
 ·rw [if_pos hj,if_pos hj];exact ⟨_,rfl⟩
 ·rw [if_neg hj,if_neg hj];exact ⟨_,rfl⟩
end
structure Hv (h:Heap) (x dx C:Addr) (mA:tX):Prop where
 obj:h.get? x=some (PySem.W.instObj C dx)
 ns:h.Ns1 dx mA
 ne:dx≠x
def Wv {h:Heap}{dx:Addr}{mA:tX}(n:h.Ns1 dx mA):∃ od,h.get? dx=some od/\∀ name,PySem.W.lookIn name od=some (mA name):=by
 obtain ⟨o,es,ep,ho,hd,hk,_,hm⟩:=n
 refine ⟨o,ho,fun name=>?_⟩
 have e:=hm name
 unfold nsFind findBy at e
 rw [<- rM] at e
 unfold PySem.W.lookIn
 rw [hd]
 dsimp only
 split
 ·rename_i y q
  rw [q] at e
  exact congrArg some e
 ·rename_i q
  rw [q] at e
  have a:es.toList.any (·.refKey)=false:=by
   rw [List.any_eq_false]
   intro y hy
   obtain ⟨z,t,eI⟩:=hk y (Array.mem_toList_iff.mp hy)
   simp [DictEntry.refKey,eI]
  have a':¬ es.toList.any (·.refKey)=true:=by rw [a];exact C6
  rw [if_neg a']
  exact congrArg some e
def Hv.look {h:Heap}{x dx C:Addr}{mA:tX}(I:Hv h x dx C mA):∃ od,PySem.W.InstAt h x (PySem.W.instObj C dx) C (some od)/\∀ name,PySem.W.lookIn name od=some (mA name):=
 let ⟨od,ho,hl⟩:=Wv I.ns
 ⟨od,⟨I.obj,rfl,rfl,ho⟩,hl⟩
section
variable {prog:Program}{w:World}{A:Around}{E:Value->Shared->Prop}{s:Shared}{K:tV}{x dx C f:Addr}{mA:tX}{name:Str}{v:Value}
def get_map {expr:Bool}{Q:Value->Shared->Prop}(X:K.In s.heap) (I:Hv s.heap x dx C mA) (hg:PySem.W.plainGet K C name=true) (hh:PySem.W.hasDictIn K C=true)
  (ha:PySem.W.findIn K (.ref C) name=some none) (hv:mA name=some v) (Gk:PySem.W.handedIn v=true) (h:Q v { s with toks:=s.toks+1 }) :
  wpAny (model prog w) A (getAttr (.ref x) name expr) Q E s:=by
 obtain ⟨od,J,hl⟩:=I.look
 exact PySem.W.get_value X J (az hg).1 (sN hh ha rfl (by rw [hl,hv])) Gk h
def qe {pl:Sem Bool}{Q:Value×List Value->Shared->Prop}(X:K.In s.heap) (I:Hv s.heap x dx C mA) (hg:PySem.W.plainGet K C name=true)
  (hf:PySem.W.findIn K (.ref C) name=some (some (.ref f))) (ht:PySem.W.isFn K (.ref f)=true) (hv:mA name=none) (h:Q (.ref f,[.ref x]) s) :
  wpAny (model prog w) A (getMethod (.ref x) name pl) Q E s:=by
 obtain ⟨od,J,hl⟩:=I.look
 exact PySem.W.method_fn X J (az hg).1 (az hg).2 hf (beq_iff_eq.mp ht) (by show (PySem.W.lookIn name od).map (·.isSome)=some false;rw [hl,hv];rfl) h
def Zp {ns:List Str}{Q:Unit->Shared->Prop}(X:K.In s.heap) (I:Hv s.heap x dx C mA)
  (hs:PySem.W.findIn K (.ref C) "__setattr__" = some (some (.builtin "object.__setattr__"))) (hp:PySem.W.plainOver K C=true) (ht:PySem.W.takerIn K C name=some none) (hh:PySem.W.hasDictIn K C=true)
  (hw:PySem.Within mA ns) (hsz:ns.length<=sizeLine)
  (h:∀ h',Hv h' x dx C (fun y=>if y=name then some v else mA y)->Heap.SameBut dx s.heap h'->Q () { s with heap:=h',toks:=s.toks+2 }) :
  wpAny (model prog w) A (setAttr (.ref x) name v) Q E s:=by
 obtain ⟨od,J,hl⟩:=I.look
 refine sT X J hs (PySem.W.osa_open (s:={ s with toks:=s.toks+1 }) (r:=none) X J hp ht fun b=>?_)
 obtain ⟨cd,hc,LZ⟩:=aw hh
 have hx:s.heap.get? x=some ⟨.ref C,some dx,.plain,#[]⟩:=I.obj
 refine wpAny_bind (wpAny_pure (wpAny_bind (wpAny_bind (wpAny_loadPart hx (wpAny_bind (sL (s:={ s with toks:=s.toks+1 }) (ax X hc) ?_))))))
 rw [LZ]
 refine wpAny_pure (a:=some dx) (wpAny_bind (wpAny_pure (wpAny_bind ?_)))
 refine wpAny_nsSet1 (s:={ s with toks:=s.toks+1 }) I.ns fun h' Dd BD=>?_
 obtain ⟨oD,kI,lP,Pa,Q4,FI⟩:=Dd.count (sU name v hw)
 refine wpAny_bind (wpAny_lookBehind Pa (by rw [Q4];exact pastItsLine_dict (Bt FI (by rw [Bm];omega))) ?_)
 exact wpAny_pure (h _ ⟨(BD.2 _ (Ah I.ne)).trans I.obj,Dd,I.ne⟩ BD)
def j3 {R:Result->Shared->Prop}{vs:List Value}{kw:List (Str×Value)}(X:K.In s.heap) (hm:PySem.W.makesIn K C=true)
  (hi:PySem.W.findIn K (.ref C) "__init__" = some (some (.ref f))) (hf:PySem.W.typeIn K (.ref f)=some (.type "function"))
  (h:codeAny (model prog w) (A.under (.builtin "type.__call__" ⟨.ref C :: vs,kw⟩)) (.call (.ref f) ⟨.ref (s.heap.objs.size+1) :: vs,kw⟩) (PySem.W.InitBack (s.heap.objs.size+1) R)
   { s with heap:=(s.heap.push PySem.W.emptyDict).push (PySem.W.instObj C s.heap.objs.size) }) :
  codeAny (model prog w) A (.call (.ref C) ⟨vs,kw⟩) R s:=by
 obtain ⟨hh,g,d,t,os⟩:=s
 exact PySem.W.make_core (PySem.W.makes_of X hm) (Ui X hi) (fun self=>PySem.W.bind_fn X self hf) (.inl rfl) h
end
def CJ (f:Str) (v:V):List (Str×V)->List (Str×V)
 | []=>[(f,v)]
 | (g,x) :: r=>if g=f then (g,v) :: r else (g,x) :: CJ f v r
theorem XS (f g:Str) (v:V):∀ fs:List (Str×V),(CJ f v fs).lookup g=if g=f then some v else fs.lookup g
 | []=>by
  show List.lookup g [(f,v)]=_
  by_cases h:g=f
  ·have hb:(g == f)=true:=beq_iff_eq.mpr h
   simp only [List.lookup,hb,if_pos h]
  ·have hb:(g == f)=false:=beq_eq_false_iff_ne.mpr h
   simp only [List.lookup,hb,if_neg h]
 | (k,x) :: r=>by
  have ih:=XS f g v r
  rw [show CJ f v ((k,x) :: r)=(if k=f then (k,v) :: r else (k,x) :: CJ f v r) from rfl]
  by_cases hk:k=f
  ·rw [if_pos hk]
   by_cases h:g=k
   ·have hb:(g == k)=true:=beq_iff_eq.mpr h
    simp only [List.lookup,hb,if_pos (h.trans hk)]
   ·have hb:(g == k)=false:=beq_eq_false_iff_ne.mpr h
    simp only [List.lookup,hb,if_neg (fun e:g=f=>h (e.trans hk.symm))]
  ·rw [if_neg hk]
   by_cases h:g=k
   ·have hb:(g == k)=true:=beq_iff_eq.mpr h
    simp only [List.lookup,hb,if_neg (fun e:g=f=>hk (h.symm.trans e))]
   ·have hb:(g == k)=false:=beq_eq_false_iff_ne.mpr h
    simp only [List.lookup,hb]
    exact ih
theorem RW (f:Str) (v:V):∀ fs:List (Str×V),f∈(CJ f v fs).map (·.1)/\∀ g,g∈fs.map (·.1)->g∈(CJ f v fs).map (·.1)
 | []=>⟨by simp [CJ],fun g h=>by simp at h⟩
 | (k,x) :: r=>by
  obtain ⟨i1,i2⟩:=RW f v r
  rw [show CJ f v ((k,x) :: r)=(if k=f then (k,v) :: r else (k,x) :: CJ f v r) from rfl]
  by_cases hk:k=f
  ·rw [if_pos hk]
   subst hk
   exact ⟨by simp,fun g h=>by simpa using h⟩
  ·rw [if_neg hk]
   refine ⟨?_,fun g h=>?_⟩
   ·rw [BV]
    exact Fe _ i1
   ·rw [BV] at h ⊢
    rcases List.mem_cons.mp h with e | e
    ·exact List.mem_cons.mpr (.inl e)
    ·exact Fe _ (i2 g e)
theorem YD (f:Str) (v:V):∀ fs:List (Str×V),(CJ f v fs).length<=fs.length+1
 | []=>by simp [CJ]
 | (k,x) :: r=>by
  have ih:=YD f v r
  rw [show CJ f v ((k,x) :: r)=(if k=f then (k,v) :: r else (k,x) :: CJ f v r) from rfl]
  by_cases hk:k=f
  ·rw [if_pos hk,Bm,Bm];omega
  ·rw [if_neg hk,Bm,Bm];omega
def DI.some_of {v:V}{o:Option Value}(r:DI (some v) o):∃ u,o=some u/\RelV v u:=by
 cases o with
 | none=>exact (show False from r).elim
 | some u=>exact ⟨u,rfl,r⟩
def DI.none_of {o:Option Value}(r:DI none o):o=none:=by
 cases o with
 | none=>rfl
 | some u=>exact (show False from r).elim
def YV {v:V}{u:Value}(r:RelV v u):PySem.W.handedIn u=true:=by
 cases v with
 | A4=>cases (show u=Value.none from r);rfl
 | bl b=>cases (show u=Value.bool b from r);rfl
 | int i=>obtain ⟨t,e⟩:=(show ∃ t,u=Value.int i t from r);cases e;rfl
 | str x=>obtain ⟨t,e⟩:=(show ∃ t,u=Value.str x t from r);cases e;rfl
 | Ej b=>obtain ⟨t,e⟩:=(show ∃ t,u=Value.bytes b t from r);cases e;rfl
 | HY b=>obtain ⟨t,e⟩:=(show ∃ t,u=Value.float b t from r);cases e;rfl
 | ref a=>cases (show u=Value.ref a from r);rfl
 | ty n=>cases (show u=Value.type n from r);rfl
section
variable {P:Program}{w:World}{H H':Hp}{h h':Heap}{a C dx:Addr}{fs lb:List (Str×V)}
def NJ (A7:B8 P w H h) (e:H a=some (.ins C dx fs)):∃ mA,Hv h a dx C mA/\(∀ f,DI (fs.lookup f) (mA f))/\PySem.Within mA (fs.map (·.1))/\fs.length<=1000/\H dx=some (.own a):=by
 obtain ⟨d,z,ne,ob,mA,n,r,q⟩:=(show BO P w H h a (.ins C dx fs) from A7 a _ e)
 exact ⟨mA,⟨ob,n,ne⟩,r,q,z,d⟩
end
structure CY (K:tV) (C:Addr):Prop where
 pg:PySem.W.plainGet K C Str.empty=true
 hd:PySem.W.hasDictIn K C=true
 po:PySem.W.plainOver K C=true
 sa:PySem.W.findIn K (.ref C) "__setattr__" = some (some (.builtin "object.__setattr__"))
def CY.get {K:tV}{C:Addr}(c:CY K C) (f:Str):PySem.W.plainGet K C f=true:=c.pg
def DV (K:tV) (C:Addr) (f:Str):Prop:=PySem.W.findIn K (.ref C) f=some none
def DV.nh {K:tV}{C:Addr}{f:Str}(n:DV K C f):PySem.W.takerIn K C f=some none:=by
 unfold PySem.W.takerIn
 rw [show PySem.W.findIn K (.ref C) f=some none from n]
 rfl
structure K4 (K:tV) (C:Addr) (f:Str) (v:V) (u:Value):Prop where
 at_:PySem.W.findIn K (.ref C) f=some (some u)
 rel:RelV v u
 get:PySem.W.specialIn K u "__get__" = some none
 cp:PySem.W.copiedNames.contains f=false
structure Meth (K:tV) (C:Addr) (m:Str) (f:Addr):Prop where
 at_:PySem.W.findIn K (.ref C) m=some (some (.ref f))
 fn:PySem.W.isFn K (.ref f)=true
 kp:PySem.W.keepIn K (.ref f)=true
section
variable {X:Cx}{pins:tW}{σ:St} {H:Hp}{s:Shared}{a C dx:Addr}{fs:List (Str×V)}{f:Str}{v:V}{A:Around}{E:Value->Shared->Prop}
def hZ {b:Bool}{Q:Value->Shared->Prop}(I:Inv X pins σ H s) (e:H a=some (.ins C dx fs)) (c:CY X.K C) (n:DV X.K C f) (l:fs.lookup f=some v)
  (h:∀ u s',Inv X pins σ H s'->RelV v u->Q u s'):wpAny (model X.prog X.w) A (getAttr (.ref a) f b) Q E s:=by
 obtain ⟨mA,O,r,_,_,_⟩:=NJ I.A7 e
 obtain ⟨u,hu,ru⟩:=DI.some_of (v:=v) (o:=mA f) (by rw [<- l];exact r f)
 exact get_map I.B3 O (c.get f) c.hd n hu (YV ru) (h u _ (I.tok _) ru)
def Z9 {m:Str}{g:Addr}{pl:Sem Bool}{Q:Value×List Value->Shared->Prop}(I:Inv X pins σ H s) (e:H a=some (.ins C dx fs)) (c:CY X.K C) (k:Meth X.K C m g) (l:fs.lookup m=none)
  (h:Q (.ref g,[.ref a]) s):wpAny (model X.prog X.w) A (getMethod (.ref a) m pl) Q E s:=by
 obtain ⟨mA,O,r,_,_,_⟩:=NJ I.A7 e
 have hn:mA m=none:=DI.none_of (by rw [<- l];exact r m)
 exact qe I.B3 O (c.get m) k.at_ k.fn hn h
def jx {y:V}{u:Value}{Q:Unit->Shared->Prop}(I:Inv X pins σ H s) (e:H a=some (.ins C dx fs)) (c:CY X.K C) (n:DV X.K C f) (hl:fs.length < 1000) (ry:RelV y u)
  (h:∀ s',Inv X pins σ (upd H a (.ins C dx (CJ f y fs))) s'->Q () s'):wpAny (model X.prog X.w) A (setAttr (.ref a) f u) Q E s:=by
 obtain ⟨mA,O,r,wi,_,ho⟩:=NJ I.A7 e
 have hz:(fs.map (·.1)).length<=sizeLine:=by rw [AJ,sizeLine_eq];omega
 refine Zp I.B3 O c.sa c.po n.nh c.hd wi hz fun h' O' sb=>h _ ?_
 have hd:∃ o,h'.get? dx=some o:=let ⟨o,_,_,e',_⟩:=O'.ns;⟨o,e'⟩
 refine I.write (x:=a) (e:=dx) (by rw [e];exact True.intro) (.inr ho) (fun b q hb z=>(sb.2 b hb).trans z) hd ?_
 refine ⟨by rw [AF O.ne];exact ho,?_,O.ne,O'.obj,_,O'.ns,fun g=>?_,fun g hg=>?_⟩
 ·have:=YD f y fs;omega
 ·show DI ((CJ f y fs).lookup g) (if g=f then some u else mA g)
  rw [XS]
  by_cases q:g=f
  ·rw [if_pos q,if_pos q];exact ry
  ·rw [if_neg q,if_neg q];exact r g
 ·by_cases q:g=f
  ·rw [q];exact (RW f y fs).1
  ·refine (RW f y fs).2 g (wi g fun z=>hg ?_)
   show (if g=f then some u else mA g)=none
   rw [if_neg q];exact z
def Inv.made (I:Inv X pins σ H s):Inv X pins σ (upd (upd H s.heap.objs.size (.own (s.heap.objs.size+1))) (s.heap.objs.size+1) (.ins C s.heap.objs.size []))
  { s with heap:=(s.heap.push PySem.W.emptyDict).push (PySem.W.instObj C s.heap.objs.size) }:=by
 have e1:(s.heap.push PySem.W.emptyDict).get? s.heap.objs.size=some PySem.W.emptyDict:=Bx s.heap rfl
 have e2:((s.heap.push PySem.W.emptyDict).push (PySem.W.instObj C s.heap.objs.size)).get? (s.heap.objs.size+1)=some (PySem.W.instObj C s.heap.objs.size):=by
  have:=Bx (s.heap.push PySem.W.emptyDict) (o:=PySem.W.instObj C s.heap.objs.size) rfl
  rwa [Ho] at this
 have e3:(s.heap.push PySem.W.emptyDict).Ns s.heap.objs.size (fun _=>none):=⟨PySem.W.emptyDict,#[],_,e1,rfl,(fun e he=>absurd he (by simp)),fun _=>rfl⟩
 have I1:=I.laid (a:=s.heap.objs.size) (o:=.own (s.heap.objs.size+1)) (h':=s.heap.push PySem.W.emptyDict) (t':=s.toks) (fun b u q=>B9 _ q) (AV _) ⟨_,e1⟩
 refine I1.laid (a:=s.heap.objs.size+1) (o:=.ins C s.heap.objs.size []) (t':=s.toks) (fun b u q=>B9 _ q) (af (Ho _ _)) ?_
 have ne:s.heap.objs.size≠s.heap.objs.size+1:=BP (ah _)
 refine ⟨by rw [AF ne,AN],Cj _,ne,e2,fun _=>none,(Heap.Ns1.of_empty e3).at fun o q=>B9 _ q,fun _=>True.intro,fun y hy=>absurd rfl hy⟩
def VB {prog:Program}{w:World}{env:Env}{e:Expr}{f:Str}{pos:Pos}{s:Shared}{Q:Value->Shared->Prop}(hb:attributeBase e f env (eval e env)=eval e env)
  (h:wpAny (model prog w) A (eval e env) (fun o s₁=>wpAny (model prog w) A (getAttr o f true) Q E s₁) E s):wpAny (model prog w) A (eval (.Attribute e f pos) env) Q E s:=
 Attribute_any_ h (by rw [arm_eval_Attribute,hb])
end
def Mr (K:tV) (ta:TE) (f:Str):TE:=fun σ H Q=>ta σ H fun x H1=>∃ a C dx fs v,x=.ref a/\H1 a=some (.ins C dx fs)/\CY K C/\DV K C f/\fs.lookup f=some v/\Q v H1
def R5 (K:tV) (ta tv:TE) (f:Str):TS:=fun D σ H=>tv σ H fun y H1=>ta σ H1 fun x H2=>∃ a C dx fs,x=.ref a/\H2 a=some (.ins C dx fs)/\CY K C/\DV K C f/\fs.length < 1000/\
 D.nx σ (upd H2 a (.ins C dx (CJ f y fs)))
section
variable {X:Cx}{o e value:Expr}{f:Str}{pos pos' So:Pos}{ta tv:TE}
def fD (he:PE X e ta) (hb:attributeBase e f X.env (eval e X.env)=eval e X.env):PE X (.Attribute e f pos) (Mr X.K ta f):=by
 intro pins s σ H Q I h
 refine VB hb (AE (he pins s σ H _ I h) fun u s1 ⟨x,H1,I1,rx,a,C,dx,fs,v,ex,ea,c,n,l,q⟩=>?_)
 subst ex
 obtain rfl:u=Value.ref a:=rx
 exact hZ I1 ea c n l fun u' s2 I2 ru=>⟨v,H1,I2,ru,q⟩
def lS (ha:PE X o ta) (hv:PE X value tv) (hs:swapsWith value (some (.Attribute o f pos')) pos.line X.env=pure false):PS X (.Assign [.Attribute o f pos'] value pos) (R5 X.K ta tv f):=by
 intro pins s σ H D I h
 refine plainObj_wpAny_Assign_Attribute (AE (hv pins s σ H _ I h) fun u s1 ⟨y,H1,I1,ry,q⟩=>AE (ha pins s1 σ H1 _ I1 q) fun ov s2 ⟨x,H2,I2,rx,a,C,dx,fs,ex,ea,c,n,l,q2⟩=>?_) hs
 subst ex
 obtain rfl:ov=Value.ref a:=rx
 exact jx I2 ea c n l ry fun s3 I3=>⟨σ,_,I3,q2⟩
end
section
variable {X:Cx}{pins:tW}{σ:St} {H:Hp}{s:Shared}{A:Around}{E:Value->Shared->Prop}{Q:Value->Shared->Prop}{c:Value}{b:Bool}
inductive DP (K:tV) (H:Hp):V->Value->Prop where
 | A4:DP K H .A4 (.type "NoneType")
 | bl (x:Bool):DP K H (.bl x) (.type "bool")
 | int (i:Int):DP K H (.int i) (.type "int")
 | str (x:Str):DP K H (.str x) (.type "str")
 | HY (x:UInt64):DP K H (.HY x) (.type "float")
 | lst {a:Addr}{xs:List V}(e:H a=some (.lst xs)):DP K H (.ref a) (.type "list")
 | CH {a:Addr}{o:Obj}{xs:List V}(e:H a=some (.CH o (.lst xs))):DP K H (.ref a) (.type "list")
 | tup {a:Addr}{xs:List V}(e:H a=some (.tup xs)):DP K H (.ref a) (.type "tuple")
 | dK {a:Addr}{A3:List (Key×V)}(e:H a=some (.dK A3)):DP K H (.ref a) (.type "dict")
 | dT {a:Addr}{A3:List (List Key×V)}(e:H a=some (.dT A3)):DP K H (.ref a) (.type "dict")
 | ins {a C dx:Addr}{fs:List (Str×V)}(e:H a=some (.ins C dx fs)) (cl:CY K C) (ha:PySem.W.findIn K (.ref C) "__class__" = some (some (.builtin "object.__class__")))
   (hn:PySem.W.specialIn K (.builtin "object.__class__") "__get__" = some (some (.builtin "getset_descriptor.__get__"))) (HR:PySem.W.takesIn K (.builtin "object.__class__")=some true)
   (hm:PySem.W.mroIn K C (.type "object")=some true):DP K H (.ref a) (.ref C)
def Vw {x:V}{u t:Value}(I:Inv X pins σ H s) (rx:RelV x u) (ty:DP X.K H x t) (e:PySem.W.kitOne X.K t c=some b) (h:∀ tk,Q (.bool b) { s with toks:=tk }) :
  wpAny (model X.prog X.w) A (call (.builtin "isinstance") [u,c]) Q E s:=by
 cases ty with
 | A4=>cases (show u=Value.none from rx);exact Ff PySem.W.kitx_none I.B3 True.intro e (fun z=>nomatch z) h
 | bl y=>cases (show u=Value.bool y from rx);exact Ff PySem.W.kitx_bool I.B3 True.intro e (fun z=>nomatch z) h
 | int i=>obtain ⟨t,q⟩:=(show ∃ t,u=Value.int i t from rx);cases q;exact Ff PySem.W.kitx_int I.B3 True.intro e (fun z=>nomatch z) h
 | str y=>obtain ⟨t,q⟩:=(show ∃ t,u=Value.str y t from rx);cases q;exact Ff PySem.W.kitx_str I.B3 True.intro e (fun z=>nomatch z) h
 | HY y=>obtain ⟨t,q⟩:=(show ∃ t,u=Value.float y t from rx);cases q;exact Ff PySem.W.kitx_float I.B3 True.intro e (fun z=>nomatch z) h
 | @lst a xs ea=>
  cases (show u=Value.ref a from rx)
  obtain ⟨_,_,n,_,h1⟩:=(show BO X.prog X.w H s.heap a (.lst xs) from I.A7 a _ ea)
  exact Ff sQ I.B3 ⟨_,h1,rfl⟩ e (fun z=>nomatch z) h
 | @CH a ob xs ea=>
  cases (show u=Value.ref a from rx)
  obtain ⟨_,_,_,n,_,h1⟩:=(show BO X.prog X.w H s.heap a (.CH ob (.lst xs)) from I.A7 a _ ea)
  exact Ff sQ I.B3 ⟨_,h1,rfl⟩ e (fun z=>nomatch z) h
 | @tup a xs ea=>
  cases (show u=Value.ref a from rx)
  obtain ⟨_,_,_,p⟩:=(show BO X.prog X.w H s.heap a (.tup xs) from I.A7 a _ ea)
  obtain ⟨o,h1,h2,_⟩:=p.1
  exact Ff PySem.W.kitx_tuple I.B3 ⟨o,h1,h2⟩ e (fun z=>nomatch z) h
 | @dK a A3 ea=>
  cases (show u=Value.ref a from rx)
  obtain ⟨_,_,vs,_,p⟩:=(show BO X.prog X.w H s.heap a (.dK A3) from I.A7 a _ ea)
  obtain ⟨o,es,ep,h1,h2,_⟩:=p
  exact Ff sP I.B3 ⟨o,h1,h2.1⟩ e (fun z=>nomatch z) h
 | @dT a A3 ea=>
  cases (show u=Value.ref a from rx)
  obtain ⟨_,_,xs,_,o,es,ep,h1,h2,_⟩:=(show BO X.prog X.w H s.heap a (.dT A3) from I.A7 a _ ea)
  exact Ff sP I.B3 ⟨o,h1,h2.1⟩ e (fun z=>nomatch z) h
 | @ins a C dx fs ea cl ha hn HR hm=>
  cases (show u=Value.ref a from rx)
  obtain ⟨mA,O,_⟩:=NJ I.A7 ea
  obtain ⟨od,J,_⟩:=O.look
  exact Ff (PySem.W.kitx_own (cl.get _) cl.hd ha hn HR hm) I.B3 J e (fun z=>nomatch z) h
end
structure Au (k:Nat) (A:Around):Prop where
 hd:A.handled=none
 dp:A.depth+3 * k+5 < recursionLimit
 un:A.units+16 * k+200 < cLine
def Au.mono {j k:Nat}{A:Around}(r:Au k A) (h:j<=k):Au j A:=⟨r.hd,by have:=r.dp;omega,by have:=r.un;omega⟩
theorem Au.deeper {k:Nat}{A:Around}(r:Au (k+1) A) (env:Env):Au k (A.deeper env):=
 ⟨r.hd,by have:=r.dp;show A.depth+1+3 * k+5 < _;omega,by have:=r.un;show A.units+3+16 * k+200 < _;omega⟩
def lK {A:Around}{C:Addr}{us:List Value}{kw:List (Str×Value)}:(A.under (.builtin "type.__call__" ⟨.ref C :: us,kw⟩)).depth=A.depth+1:=by
 first | rfl | simp [Around.under,Code.weight,Code.isCreation,Code.isGuard,Code.isCaller,Code.frames,Code.isFrame,guardIds]
def cS {A:Around}{C:Addr}{us:List Value}{kw:List (Str×Value)}:(A.under (.builtin "type.__call__" ⟨.ref C :: us,kw⟩)).units=A.units+1:=by
 first | rfl | simp [Around.under,Code.cUnits,Code.frames,Code.isFrame]
def Au.make {k:Nat}{A:Around}(r:Au (k+1) A) (C:Addr) (us:List Value) (kw:List (Str×Value)):Au k (A.under (.builtin "type.__call__" ⟨.ref C :: us,kw⟩)):=
 ⟨r.hd,by have:=r.dp;rw [lK];omega,by have:=r.un;rw [cS];omega⟩
theorem Au.depth {k:Nat}{A:Around}(r:Au k A):A.depth < recursionLimit:=by have:=r.dp;omega
theorem Au.units {k:Nat}{A:Around}(r:Au k A):A.units+64 < cLine:=by have:=r.un;omega
def Au.Rt {k:Nat}{A:Around}(r:Au k A):A.units < cLine:=by have:=r.un;omega
def AS:TA:=fun _ H Q=>Q [] H
def AK (ta:TE) (tr:TA):TA:=fun σ H Q=>ta σ H fun x H1=>tr σ H1 fun xs H2=>Q (x :: xs) H2
section
variable {X:Cx}{e:Expr}{es:List Expr}{te:TE}{t:TA}{pos:Pos}
def ZN:PA X [] AS:=fun _ _ _ _ H Q I h=>Calls.spliced_nil ⟨[],H,I,.nil,h⟩
def SI (ha:PE X e te) (hr:PA X es t) (hs:starEach (e :: es) X.env=(false,eval e X.env) :: starEach es X.env:=by rfl):PA X (e :: es) (AK te t):=by
 intro pos pins s σ H Q I h
 rw [hs]
 show wpAny _ _ (spliced ((false,eval e X.env) :: backTo pos (starEach es X.env))) _ _ s
 refine Calls.spliced_cons (AE (ha pins s σ H _ I h) fun u s1 ⟨x,H1,I1,r1,q1⟩=>?_)
 exact AE (hr pos pins s1 σ H1 _ I1 q1) fun us s2 ⟨xs,H2,I2,r2,q2⟩=>⟨x :: xs,H2,I2,.cons r1 r2,q2⟩
def JQ (t:TA):TE:=fun σ H Q=>t σ H fun xs H1=>xs.length<=sizeLine/\∀ p,H1 p=none->Q (.ref p) (upd H1 p (.tup xs))
def P6 (t:TA):TE:=fun σ H Q=>t σ H fun xs H1=>xs.length<=sizeLine/\∀ p,H1 p=none->Q (.ref p) (upd H1 p (.lst xs))
def bG {x1} (h:PA X es t):PE X (.Tuple es x1 pos) (JQ t):=by
 intro pins s σ H Q I hq
 refine wpAny_Tuple_spliced (AE (h pos pins s σ H _ I hq) fun us s1 ⟨xs,H1,I1,r,z,q⟩=>⟨by rw [<- r.length];exact z,?_⟩)
 have hf:H1 s1.heap.objs.size=none:=I1.A7.fresh (AV _)
 refine ⟨.ref s1.heap.objs.size,upd H1 s1.heap.objs.size (.tup xs),I1.laid (t':=s1.toks) (fun b u e=>B9 _ e) (AV _) ?_,rfl,q _ hf⟩
 exact ⟨z,us,r,⟨_,Bx _ rfl,rfl,_,rfl⟩,fun VW e'=>by rw [Bx _ rfl] at e';cases e';rfl⟩
def mD (h:PA X es t):PE X (.List es pos) (P6 t):=by
 intro pins s σ H Q I hq
 refine wpAny_List_spliced (AE (h pos pins s σ H _ I hq) fun us s1 ⟨xs,H1,I1,r,z,q⟩=>⟨by rw [<- r.length];exact z,?_⟩)
 have hf:H1 s1.heap.objs.size=none:=I1.A7.fresh (AV _)
 refine ⟨.ref s1.heap.objs.size,upd H1 s1.heap.objs.size (.lst xs),I1.laid (t':=s1.toks) (fun b u e=>B9 _ e) (AV _) ?_,rfl,q _ hf⟩
 exact ⟨z,us,0,r,Bx _ rfl⟩
end
abbrev Sp:=List V->Hp->VK->XK->Prop
abbrev EM:=List Env->Hp->Shared->XK->Value->Shared->Prop
structure IG (P:Program) (w:World) (K:tV) (mg:tX) (base:Heap) (A:Around) (outer:List Env) (s:Shared) (H:Hp):Prop where
 frames:A.frames=some outer
 mod:Mod K mg base
 bs:∀ b o,base.get? b=some o->s.heap.get? b=some o/\H b=none
 E5:base.objs.size<=s.heap.objs.size
 Dj:s.heap.FunFrames base outer
 Fh:∀ b∈Bj outer,H b=none
 A7:B8 P w H s.heap
 bare:AllBare s.gens
def CE (outer:List Env) (P:Program) (w:World) (H:Hp) (s:Shared) (Q:VK) (u:Value) (s':Shared):Prop:=
 ∃ v H',s'.os=s.os/\AllBare s'.gens/\Un (Bj outer) [] H H' s.heap s'.heap/\B8 P w H' s'.heap/\RelV v u/\Q v H'
def CR (CX:EM) (outer:List Env) (P:Program) (w:World) (H:Hp) (s:Shared) (Q:VK) (E:XK) (r:Result) (s':Shared):Prop:=
 match r with
 | .ok (.ret u)=>CE outer P w H s Q u s'
 | .ok _=>False
 | .error e=>CX outer H s E e s'
structure Ba (P:Program) (w:World) (K:tV) (mg:tX) (base:Heap) (CX:EM) (k:Nat) (f:Addr) (fd:FuncData) (ps:List Str) (sp:Sp):Prop where
 len:∀ vs H Q E,sp vs H Q E->vs.length=ps.length
 run:∀ (A:Around) (outer:List Env) (s:Shared) (H:Hp) (args:Args) (us:List Value) (vs:List V) (Q:VK) (E:XK),Au k A->IG P w K mg base A outer s H->BindsTo s fd args (ps.zip us)->Vals vs us->sp vs H Q E->
  codeAny (model P w) A (.call (.ref f) args) (CR CX outer P w H s Q E) s
theorem Ba.mono {P:Program}{w:World}{K:tV}{mg:tX}{base:Heap}{CX:EM}{j k:Nat}{f:Addr}{fd:FuncData}{ps:List Str}{sp:Sp}(F:Ba P w K mg base CX j f fd ps sp) (h:j<=k) :
  Ba P w K mg base CX k f fd ps sp:=⟨F.len,fun A outer s H args us vs Q E hr=>F.run A outer s H args us vs Q E (hr.mono h)⟩
def IG.make {P:Program}{w:World}{K:tV}{mg:tX}{base:Heap}{A:Around}{outer:List Env}{s:Shared}{H:Hp}(e:IG P w K mg base A outer s H) (C:Addr) (us:List Value) (kw:List (Str×Value)) :
  IG P w K mg base (A.under (.builtin "type.__call__" ⟨.ref C :: us,kw⟩)) outer s H:=⟨by first | exact e.frames | (simpa [Around.under,Code.envs,Code.isFrame,pushEnvs] using e.frames),e.mod,e.bs,e.E5,e.Dj,e.Fh,e.A7,e.bare⟩
section
variable {X:Cx}{pins:tW}{σ:St} {H:Hp}{s s':Shared}
def Inv.KY (I:Inv X pins σ H s):IG X.prog X.w X.K X.mg X.base X.A X.stack s H:=
 ⟨I.ok.frames,I.ok.mod,I.bs,Bt I.ok.E5 I.sz,I.stack,I.Kr,I.A7,I.bare⟩
def Inv.after {Q:VK}{u:Value}(I:Inv X pins σ H s) (h:CE X.stack X.prog X.w H s Q u s'):EP X pins σ Q u s':=by
 obtain ⟨v,H',os,bare,un,A7,r,q⟩:=h
 obtain ⟨hh,g,d,t,PJ⟩:=s'
 obtain rfl:PJ=s.os:=os
 exact ⟨v,H',I.call (h':=hh) (g':=g) (d':=d) (t':=t) (ch:=[]) un A7 bare (fun b z=>absurd z (by simp)),r,q⟩
end
def CI (sp:Sp) (Ce:List V) (E:XK) (t:TA):TE:=fun σ H Q=>t σ H fun vs H1=>sp (vs++Ce) H1 Q E
def Tv (C:Addr) (m:Str) (sp:Sp) (Ce:List V) (E:XK) (ta:TE) (t:TA):TE:=fun σ H Q=>ta σ H fun x H1=>∃ a dx fs,x=.ref a/\H1 a=some (.ins C dx fs)/\fs.lookup m=none/\
 t σ H1 fun vs H2=>sp (x :: (vs++Ce)) H2 Q E
def Tc (C:Addr) (sp:Sp) (Ce:List V) (E:XK) (t:TA):TE:=fun σ H Q=>t σ H fun vs H1=>∀ x dx,H1 x=none->H1 dx=none->dx≠x->
 sp (.ref x :: (vs++Ce)) (upd (upd H1 dx (.own x)) x (.ins C dx [])) (fun v H2=>v=.A4/\Q (.ref x) H2) E
def Binds (K:tV) (fd:FuncData) (ps:List Str) (ds:List Value):Prop:=
 ∀ (s:Shared) (us:List Value),K.In s.heap->(us++ds).length=ps.length->BindsTo s fd ⟨us,[]⟩ (ps.zip (us++ds))
def Binds.all {K:tV}{fd:FuncData}{ps:List Str}(h:∀ us:List Value,us.length=ps.length->bindArgs fd ⟨us,[]⟩=pure (ps.zip us)):Binds K fd ps []:=fun s us _ hl=>by
 rw [EV] at hl ⊢
 exact .of_eq (h us hl)
def Passes (CX:EM) (X:Cx) (E:XK):Prop:=∀ (pins:tW) (σ:St) (H:Hp) (s:Shared) (e:Value) (s':Shared),Inv X pins σ H s->CX X.stack H s E e s'->X.xe e s'
section
variable {X:Cx}{CX:EM}{k:Nat}{f C:Addr}{fd:FuncData}{ps:List Str}{sp:Sp}{Ce:List V}{ds:List Value}{E:XK}{x m:Str}{p pos apos:Pos}{e o:Expr}{es:List Expr}{ta:TE}{t:TA}
def YR {pins:tW}{σ:St} {H:Hp}{s:Shared}{Q:VK}{us:List Value}{vs:List V}(F:Ba X.prog X.w X.K X.mg X.base CX k f fd ps sp) (hr:Au k X.A) (hb:Binds X.K fd ps ds) (hd:Vals Ce ds) (hx:Passes CX X E)
  (I:Inv X pins σ H s) (r:Vals vs us) (h:sp (vs++Ce) H Q E):wpAny (model X.prog X.w) X.A (call (.ref f) us) (EP X pins σ Q) X.xe s:=by
 have r2:Vals (vs++Ce) (us++ds):=r.append hd
 have hl:(us++ds).length=ps.length:=by rw [<- r2.length];exact F.len _ _ _ _ h
 refine wpAny_call (codeAny_mono (F.run X.A X.stack s H ⟨us,[]⟩ (us++ds) (vs++Ce) Q E hr I.KY (hb s us I.B3 hl) r2 h) fun r s' hq=>?_)
 cases r with
 | error e=>exact hx pins σ H s e s' I hq
 | ok fl=>
  cases fl with
  | ret u=>exact I.after hq
  | next=>exact False.elim hq
  | brk=>exact False.elim hq
  | cont=>exact False.elim hq
def me (F:Ba X.prog X.w X.K X.mg X.base CX k f fd ps sp) (hr:Au k X.A) (hg:Gl X x) (hm:X.mg x=some (.ref f)) (hk:PySem.W.keepIn X.K (.ref f)=true) (hb:Binds X.K fd ps ds) (hd:Vals Ce ds) (hx:Passes CX X E)
  (ha:PA X (e :: es) t) (Ax:(x == ("__debug__" : Str))=false:=by decide) (he:starEach (e :: es) X.env=(false,eval e X.env) :: starEach es X.env:=by rfl) (B1:(backTo pos (starEach es X.env)).any (·.1)=false:=by rfl) :
  PE X (.Call (.Name x p) (e :: es) [] pos) (CI sp Ce E t):=by
 intro pins s σ H Q I h
 refine wpAny_Call_Name_kw (Il I hg hm ?_ Ax)
 refine Om (h₀:=X.base) I.ok.mod.GA hk (AE (ha pos pins s σ H _ I h) fun us s1 ⟨vs,H1,I1,r,q⟩=>⟨I1.B3,?_⟩) he B1
 exact YR F hr hb hd hx I1 r q
def qu {pl:Sem Bool}(he:PE X o ta) (c:CY X.K C) (hm:Meth X.K C m f) (F:Ba X.prog X.w X.K X.mg X.base CX k f fd ps sp) (hr:Au k X.A) (hb:Binds X.K fd ps ds) (hd:Vals Ce ds) (hx:Passes CX X E)
  (ht:eval (.Call (.Attribute o m apos) [] [] pos) X.env=(do
   let ov <- eval o X.env
   standAt apos.atName
   let (f,first) <- holding [ov] (getMethod ov m pl)
   callWith pos f first (backTo pos (starEach [] X.env)) (backToKw pos (keywordEach [] X.env))):=by rfl) :
  PE X (.Call (.Attribute o m apos) [] [] pos) (Tv C m sp Ce E ta AS):=by
 intro pins s σ H Q I h
 refine ay (pl:=pl) (AE (he pins s σ H _ I h) fun u s1 ⟨x,H1,I1,rx,a,dx,fs,ex,ea,l,q⟩=>?_) ht
 subst ex
 obtain rfl:u=Value.ref a:=rx
 refine Z9 I1 ea c hm l ?_
 exact PySem.W.callWith_K0 (first:=[.ref a]) I1.B3 hm.kp (YR (us:=[.ref a]) (vs:=[.ref a]) F hr hb hd hx I1 (.cons rfl .nil) q)
structure Mk (K:tV) (C f:Addr):Prop where
 makes:PySem.W.makesIn K C=true
 init:PySem.W.findIn K (.ref C) "__init__" = some (some (.ref f))
 fn:PySem.W.isFn K (.ref f)=true
 kp:PySem.W.keepIn K (.ref C)=true
def kq {pins:tW}{σ:St} {H:Hp}{s:Shared}{Q:VK}{us:List Value}{vs:List V}(M:Mk X.K C f) (F:Ba X.prog X.w X.K X.mg X.base CX k f fd ps sp) (hr:Au (k+1) X.A) (hb:Binds X.K fd ps ds) (hd:Vals Ce ds)
  (hx:Passes CX X E) (I:Inv X pins σ H s) (r:Vals vs us)
  (h:∀ x dx,H x=none->H dx=none->dx≠x->sp (.ref x :: (vs++Ce)) (upd (upd H dx (.own x)) x (.ins C dx [])) (fun v H2=>v=.A4/\Q (.ref x) H2) E) :
  wpAny (model X.prog X.w) X.A (call (.ref C) us) (EP X pins σ Q) X.xe s:=by
 have hq:=h (s.heap.objs.size+1) s.heap.objs.size (I.A7.fresh (Md _)) (I.A7.fresh (AV _)) (BP (ah _))
 have I2:=Inv.made (C:=C) I
 have r2:Vals (V.ref (s.heap.objs.size+1) :: (vs++Ce)) (Value.ref (s.heap.objs.size+1) :: (us++ds)):=.cons rfl (r.append hd)
 have hl:(Value.ref (s.heap.objs.size+1) :: us++ds).length=ps.length:=by
  have e:=r2.length
  rw [F.len _ _ _ _ hq] at e
  exact e.symm
 refine wpAny_call (j3 (f:=f) I.B3 M.makes M.init (beq_iff_eq.mp M.fn) (codeAny_mono (F.run _ X.stack _ _ ⟨Value.ref (s.heap.objs.size+1) :: us,[]⟩ (Value.ref (s.heap.objs.size+1) :: (us++ds)) _ _ E (hr.make C us [])
  (I2.KY.make C us []) (hb _ (Value.ref (s.heap.objs.size+1) :: us) I2.B3 hl) r2 hq) fun r s' EO=>?_))
 cases r with
 | error e=>exact hx pins σ _ _ e s' I2 EO
 | ok fl=>
  cases fl with
  | ret u=>
   obtain ⟨v,H',I3,rv,ev,q3⟩:=I2.after EO
   subst ev
   exact ⟨rv,⟨V.ref (s.heap.objs.size+1),H',I3,rfl,q3⟩⟩
  | next=>exact False.elim EO
  | brk=>exact False.elim EO
  | cont=>exact False.elim EO
def i5 (M:Mk X.K C f) (F:Ba X.prog X.w X.K X.mg X.base CX k f fd ps sp) (hr:Au (k+1) X.A) (hg:Gl X x) (hm:X.mg x=some (.ref C)) (hb:Binds X.K fd ps ds) (hd:Vals Ce ds) (hx:Passes CX X E)
  (ha:PA X (e :: es) t) (Ax:(x == ("__debug__" : Str))=false:=by decide) (he:starEach (e :: es) X.env=(false,eval e X.env) :: starEach es X.env:=by rfl) (B1:(backTo pos (starEach es X.env)).any (·.1)=false:=by rfl) :
  PE X (.Call (.Name x p) (e :: es) [] pos) (Tc C sp Ce E t):=by
 intro pins s σ H Q I h
 refine wpAny_Call_Name_kw (Il I hg hm ?_ Ax)
 refine Om (h₀:=X.base) I.ok.mod.GA M.kp (AE (ha pos pins s σ H _ I h) fun us s1 ⟨vs,H1,I1,r,q⟩=>⟨I1.B3,?_⟩) he B1
 exact kq M F hr hb hd hx I1 r q
end
section
variable {X:Cx}{CX:EM}{k:Nat}{f C:Addr}{fd:FuncData}{ps ks:List Str}{sp:Sp}{E:XK}{x m:Str}{p pos apos tJ:Pos}{e o:Expr}{es:List Expr}{sV:List Keyword}{te ta:TE}{t tk:TA}{nm:Option Str}
variable {g:List Value->List Value->List Value}{gV:List V->List V->List V}
end
structure Bq (N P:List Str) (sc:Scope):Prop where
 kind:sc.kind=.function
 co:sc.isCoroutine=false
 gen:sc.isGenerator=false
 nd:N.Nodup
 pre:N.take P.length=P
 par:∀ x∈P,sc.names.lookup x=some .local∨sc.names.lookup x=some .cell
 gM:∀ y∈sc.names,y.2≠.free
theorem Xz {kindOf:Str->Option NameKind}{x:Str}:∀ {binds:List (Str×Value)}{m:tX},(∀ v,(x,v)∉binds)->bindL kindOf binds m x=m x
 | [],_,_=>rfl
 | (n,v) :: r,m,h=>by
  unfold bindL
  rw [Xz fun w hw=>h w (Fe _ hw)]
  split
  ·have:x≠n:=by rintro rfl;exact h v J0
   simp [this]
  ·rfl
theorem Z2 {kindOf:Str->Option NameKind}{x:Str}:∀ {binds:List (Str×Value)}{m:tX},(∀ v,(x,v)∉binds)->bindC kindOf binds m x=m x
 | [],_,_=>rfl
 | (n,v) :: r,m,h=>by
  unfold bindC
  rw [Z2 fun w hw=>h w (Fe _ hw)]
  split
  ·rfl
  ·have:x≠n:=by rintro rfl;exact h v J0
   simp [this]
theorem WW {kindOf:Str->Option NameKind}{x:Str}{v:Value}:∀ {P:List Str}{vs:List Value}{i:Nat}{m:tX},P.Nodup->P[i]?=some x->vs[i]?=some v->kindOf x=some .local->
  bindL kindOf (P.zip vs) m x=some v
 | [],_,_,_,_,h,_,_=>by simp at h
 | _ :: _,[],_,_,_,_,h,_=>by simp at h
 | p :: P,w :: vs,0,m,nd,h1,h2,hk=>by
  simp at h1 h2;subst h1;subst h2
  show bindL kindOf ((p,w) :: P.zip vs) m p=_
  unfold bindL
  rw [Xz fun v hv=>(List.nodup_cons.mp nd).1 (ae hv).1,if_pos hk]
  simp
 | p :: P,w :: vs,i+1,m,nd,h1,h2,hk=>by
  show bindL kindOf ((p,w) :: P.zip vs) m x=_
  unfold bindL
  exact WW (i:=i) (List.nodup_cons.mp nd).2 (by simpa using h1) (by simpa using h2) hk
theorem YO {kindOf:Str->Option NameKind}{x:Str}{v:Value}:∀ {P:List Str}{vs:List Value}{i:Nat}{m:tX},P.Nodup->P[i]?=some x->vs[i]?=some v->kindOf x≠some .local->
  bindC kindOf (P.zip vs) m x=some v
 | [],_,_,_,_,h,_,_=>by simp at h
 | _ :: _,[],_,_,_,_,h,_=>by simp at h
 | p :: P,w :: vs,0,m,nd,h1,h2,hk=>by
  simp at h1 h2;subst h1;subst h2
  show bindC kindOf ((p,w) :: P.zip vs) m p=_
  unfold bindC
  rw [Z2 fun v hv=>(List.nodup_cons.mp nd).1 (ae hv).1,if_neg hk]
  simp
 | p :: P,w :: vs,i+1,m,nd,h1,h2,hk=>by
  show bindC kindOf ((p,w) :: P.zip vs) m x=_
  unfold bindC
  exact YO (i:=i) (List.nodup_cons.mp nd).2 (by simpa using h1) (by simpa using h2) hk
def start (N:List Str) (vs:List V):St:=vs.map some++List.replicate (N.length - vs.length) none
def E8 (CX:EM) (P:Program) (w:World) (K:tV) (mg:tX) (base:Heap) (N:List Str) (qual:Str) (scope:Scope) (f:Addr) (cd:Value) (A:Around) (outer:List Env) (s:Shared) (H:Hp) (E:XK):Cx where
 prog:=P
 w:=w
 K:=K
 mg:=mg
 base:=base
 A:=A.deeper (envOfC qual scope s.heap.objs.size f cd)
 N:=N
 s₀:=s
 H₀:=H
 env:=envOfC qual scope s.heap.objs.size f cd
 outer:=outer
 stack:=envOfC qual scope s.heap.objs.size f cd :: outer
 ex:=[]
 calm:=true
 fn:=fun _=>true
 pn:=[]
 xe:=fun e s'=>wpAny (model P w) (A.deeper (envOfC qual scope s.heap.objs.size f cd)) (leaving (envOfC qual scope s.heap.objs.size f cd) e) (fun _ Kx=>CX outer H s E e Kx) (fun e' Kx=>CX outer H s E e' Kx) s'
def WJ {sc:Scope}{n:Nat}{x:Str}(h:sc.names.lookup x=some .cell):∃ c,(cellsFrom n sc.names []).lookup x=some c:=by
 have q:=sM sc.names n [] (.inl h)
 exact Option.isSome_iff_exists.mp q
def ky {CX:EM}{P:Program}{w:World}{K:tV}{mg:tX}{base:Heap}{N ps:List Str}{qual:Str}{scope:Scope}{f:Addr}{cd:Value}{A:Around}{outer:List Env}{s s1:Shared}{H:Hp}{E:XK}{us:List Value}{vs:List V}
  (S:Bq N ps scope) (hd:A.handled=none) (e0:IG P w K mg base A outer s H) (hl:vs.length=ps.length) (r:Vals vs us)
  (x:InCallC s s.heap.objs.size (bindL (envOfC qual scope s.heap.objs.size f cd).kindOf (ps.zip us) fun _=>none) (cellsFrom (s.heap.objs.size+1) scope.names []) (bindC (envOfC qual scope s.heap.objs.size f cd).kindOf (ps.zip us) fun _=>none) s1) :
  Inv (E8 CX P w K mg base N qual scope f cd A outer s H E) [] (start N vs) H s1:=by
 have B1:ps.length<=N.length:=by have:=congrArg List.length S.pre;rw [EY] at this;omega
 obtain ⟨h1,tk,rfl,hk⟩:=x.done
 have Km:∀ b:Addr,b∉(E8 CX P w K mg base N qual scope f cd A outer s H E).ex:=fun b z=>absurd (show b∈([]:List Addr) from z) (by simp)
 refine ⟨⟨e0.mod,S.kind,rfl,rfl,AV _,fun y z c h1 h2=>?_,fun y hy=>?_,fun y c _ h=>?_,fun _=>hd,Around.frames_deeper e0.frames,.inr ⟨rfl,rfl⟩,fun b z=>absurd z (Km b),e0.bs,e0.E5,fun b _ _=>Km b,fun b z=>absurd z (Km b),e0.Dj,e0.Fh⟩,
  rfl,e0.bare,Un.kept hk,⟨_,x.toInCall.ns,fun i y v h1 h2 h3=>?_⟩,fun y c h=>⟨_,x.cell y c h⟩,e0.A7.fresh (AV _),fun y c h=>?_,fun p hp=>absurd (show p∈([]:tW) from hp) (by simp),e0.A7.kept hk,?_⟩
 ·exact name_of_addr x.apart (G9 h1) (G9 h2)
 ·have hy:scope.names.lookup y=some .cell∨scope.names.lookup y=some .free:=hy
  rcases hy with hy | hy
  ·exact WJ hy
  ·exact absurd rfl (S.gM _ (G9 hy))
 ·exact ag (x.above y c (G9 h))
 ·have hi:i < vs.length:=by
   unfold start at h2
   by_cases hi:i < vs.length
   ·exact hi
   ·rw [EX (by simpa using hi)] at h2
    rw [aW] at h2
    split at h2 <;> cases h2
  have ha:vs[i]?=some v:=by
   unfold start at h2
   rw [EW (by simpa using hi),Ak] at h2
   cases e:vs[i]? with
   | none=>rw [e] at h2;cases h2
   | some a=>rw [e] at h2;cases h2;rfl
  obtain ⟨u,hu,rv⟩:=r.get ha
  have hp:ps[i]?=some y:=by
   rw [<- S.pre,List.getElem?_take_of_lt (by omega)];exact h1
  have Y3:ps.Nodup:=by rw [<- S.pre];exact S.nd.sublist (sC _ _)
  refine ⟨u,rv,?_⟩
  rcases S.par y (EZ hp) with k | k
  ·exact .inl ⟨k,WW Y3 hp hu k⟩
  ·obtain ⟨c,e⟩:=WJ (n:=s.heap.objs.size+1) k
   refine .inr ⟨.inl k,c,e,?_⟩
   have q:=x.cell y c e
   rw [YO Y3 hp hu (by show scope.names.lookup y≠_;rw [k];decide)] at q
   exact q
 ·exact e0.A7.fresh (ag (x.above y c (G9 h)))
 ·unfold start
  show _=N.length
  rw [DL,AJ,rg]
  omega
def Ve {CX:EM}{P:Program}{w:World}{K:tV}{mg:tX}{base:Heap}{k:Nat}{f:Addr}{name qual:Str}{params:Arguments}{body:List Stmt}{scope:Scope}{dV kV doc pm Ab ct oc:Value}{an od:Option Addr}
  {GS:Array (Option Value)}{N ps:List Str}{sp:Sp}(lk:K.lookup f=some ⟨oc,od,.func (PySem.W.fnOf name qual params body scope dV kV doc pm an Ab ct),GS⟩) (DZ:PySem.W.codeIn K Ab qual=true) (S:Bq N ps scope)
  (len:∀ vs H Q E,sp vs H Q E->vs.length=ps.length)
  (IQ:∀ (A:Around) (outer:List Env) (s:Shared) (H:Hp) (vs:List V) (Q:VK) (E:XK),Au k (A.deeper (envOfC qual scope s.heap.objs.size f Ab))->sp vs H Q E->
   ∃ t,Cd (E8 CX P w K mg base N qual scope f Ab A outer s H E) body t/\t { nx:=fun _ H'=>Q .A4 H',rt:=Q } (start N vs) H) :
  Ba P w K mg base CX (k+1) f (PySem.W.fnOf name qual params body scope dV kV doc pm an Ab ct) ps sp:=by
 refine ⟨len,fun A outer s H args us vs Q E hr e0 hb r DH=>?_⟩
 have hl:=len _ _ _ _ DH
 have KX:K.In s.heap:=e0.mod.GA.keeps fun b o e=>(e0.bs b o e).1
 have lim:s.heap.NoLimit:=e0.mod.nolimit.keeps fun b o e=>(e0.bs b o e).1
 have ie:∀ y∈ps.zip us,scope.names.lookup y.1=some .local∨(scope.names.lookup y.1=some .cell/\((cellsFrom (s.heap.objs.size+1) scope.names []).lookup y.1).isSome=true):=fun ⟨n,v⟩ hy=>by
  rcases S.par n (ae hy).1 with q | q
  ·exact .inl q
  ·exact .inr ⟨q,sM _ _ _ (.inl q)⟩
 refine codeAny_call_function hr.depth (KX _ _ lk) rfl S.co S.gen rfl (PySem.W.codeRec_of KX DZ) (hb _ _ _ _ ?_)
 refine wpAny_newFunctionEnv_cells S.kind ie fun env he s1 x=>?_
 subst he
 refine ⟨lim.keeps x.toInCall.keep,codeAny_func ?_⟩
 obtain ⟨t,ht,hq⟩:=IQ A outer s H vs Q E (hr.deeper _) DH
 have I:Inv (E8 CX P w K mg base N qual scope f Ab A outer s H E) [] (start N vs) H s1:=ky S hr.hd e0 hl r x
 refine wpAny_mono (ht [] s1 (start N vs) H _ I hq) (fun fl s' hs=>?_) fun e s' hs=>hs
 have fin:∀ {σ':St} {H':Hp}{v:V}{u:Value},Inv (E8 CX P w K mg base N qual scope f Ab A outer s H E) [] σ' H' s'->RelV v u->Q v H'->CE outer P w H s Q u s':=
  fun {σ' H' v u} J rv q=>⟨v,H',J.os,J.bare,J.base,J.A7,rv,q⟩
 cases fl with
 | ret u=>
  obtain ⟨v,σ',H',J,rv,q⟩:=hs
  exact fin J rv q
 | next=>
  obtain ⟨σ',H',J,q⟩:=hs
  exact fin (v:=V.A4) (u:=Value.none) J rfl q
 | brk=>
  obtain ⟨_,_,_,q⟩:=hs
  exact False.elim q
 | cont=>
  obtain ⟨_,_,_,q⟩:=hs
  exact False.elim q
section
variable {X:Cx}{x:Str}{p pos:Pos}{e:Expr}{es:List Expr}{t:TA}{id T:String}{r:List V->Hp->VK->Prop}
def BY (r:List V->Hp->VK->Prop) (t:TA):TE:=fun σ H Q=>t σ H fun vs H1=>r vs H1 Q
def rD (hc:D6 X (.builtin id) r) (hg:Gl X x) (hm:X.mg x=none) (hv:bootBuiltins x=some (.builtin id)) (ha:PA X (e :: es) t) (hn:x ≠ "__name__" := by decide) (Ax:(x == ("__debug__" : Str))=false:=by decide)
  (he:starEach (e :: es) X.env=(false,eval e X.env) :: starEach es X.env:=by rfl) (B1:(backTo pos (starEach es X.env)).any (·.1)=false:=by rfl):PE X (.Call (.Name x p) (e :: es) [] pos) (BY r t):=by
 intro pins s σ H Q I h
 refine wpAny_Call_Name_kw (Lx I hg hm hv ?_ hn Ax)
 exact PyProof.Rows.callWith_builtin1 (AE (ha pos pins s σ H _ I h) fun us s1 ⟨vs,H1,I1,r1,q1⟩=>hc pins s1 σ H1 vs us Q I1 r1 q1) he B1
def mf (hc:D6 X (.type T) r) (hg:Gl X x) (hm:X.mg x=none) (hv:bootBuiltins x=some (.type T)) (ha:PA X (e :: es) t) (hn:x ≠ "__name__" := by decide) (Ax:(x == ("__debug__" : Str))=false:=by decide)
  (he:starEach (e :: es) X.env=(false,eval e X.env) :: starEach es X.env:=by rfl) (B1:(backTo pos (starEach es X.env)).any (·.1)=false:=by rfl):PE X (.Call (.Name x p) (e :: es) [] pos) (BY r t):=by
 intro pins s σ H Q I h
 refine wpAny_Call_Name_kw (Lx I hg hm hv ?_ hn Ax)
 exact aq (AE (ha pos pins s σ H _ I h) fun us s1 ⟨vs,H1,I1,r1,q1⟩=>hc pins s1 σ H1 vs us Q I1 r1 q1) he B1
end
end L2
namespace HT
section
open PySem.SeqAt
open PySem.AutoSeq1 (wpAny_loadPart')
open PySem.MeetsSeq PySem.MeetsSeq2 PySem.MeetsSeq3
end
section
variable {prog:Program}{w:World}{A:Around}{E:Value->Shared->Prop}{s:Shared}
def Bh (n d:Nat):Option Int->Nat
 | none=>d
 | some v=>if v < 0 then (v+(n:Int)).toNat else min v.toNat n
def dF (n d:Nat):Bh n d none=d:=rfl
def fS (n d k:Nat):Bh n d (some (k:Int))=min k n:=by
 show (if (k:Int) < 0 then ((k:Int)+(n:Int)).toNat else min (k:Int).toNat n)=min k n
 rw [if_neg (by omega),Iz]
end
end HT
namespace L2
abbrev TO:=St->Hp->(Option Int->Hp->Prop)->Prop
def PO (X:Cx) (e:Option Expr) (t:TO):Prop:=
 ∀ (pins:tW) (s:Shared) (σ:St) (H:Hp) (Q:Option Int->Hp->Prop),Inv X pins σ H s->t σ H Q->
  wpAny (model X.prog X.w) X.A (evalPart e X.env) (fun u s'=>∃ o H',Inv X pins σ H' s'/\IsPart u o/\Q o H') X.xe s
def Tf:TO:=fun _ H Q=>Q none H
def UR (t:TE):TO:=fun σ H Q=>t σ H fun x H1=>∃ i,x=.int i/\Q (some i) H1
section
variable {X:Cx}{e:Expr}{te:TE}{lo hi:Option Expr}{tl th:TO}{pos p2:Pos}
def hV:PO X none Tf:=by
 intro pins s σ H Q I h
 rw [evalPart_none]
 exact wpAny_pure ⟨none,H,I,.none,h⟩
def cL (h:PE X e te):PO X (some e) (UR te):=by
 intro pins s σ H Q I hw
 rw [evalPart_some]
 refine AE (h pins s σ H _ I hw) fun u s1 ⟨x,H1,I1,r1,q1⟩=>?_
 obtain ⟨i,rfl,q⟩:=q1
 obtain ⟨t,rfl⟩:=r1
 exact ⟨some i,H1,I1,.int i t,q⟩
def NL (X:Cx) (r:V->Option Int->Option Int->Hp->VK->Prop):Prop:=
 ∀ (pins:tW) (s:Shared) (σ:St) (H:Hp) (x:V) (v vl vu:Value) (lo hi:Option Int) (sl:Addr) (Q:VK),Inv X pins σ H s->RelV x v->s.heap.IsSliceOf sl vl vu .none->IsPart vl lo->IsPart vu hi->r x lo hi H Q->
  ∃ T id,typeLookup (.type T) "__getitem__" = pure (some (.builtin id))/\s.TypeIs v T/\wpAny (model X.prog X.w) X.A (getItem v (.ref sl)) (EP X pins σ Q) X.xe s
def Js (r:V->Option Int->Option Int->Hp->VK->Prop) (te:TE) (tl th:TO):TE:=fun σ H Q=>te σ H fun x H1=>tl σ H1 fun l H2=>th σ H2 fun u H3=>r x l u H3 Q
def ly {r:V->Option Int->Option Int->Hp->VK->Prop}(hr:NL X r) (he:PE X e te) (hl:PO X lo tl) (hu:PO X hi th):PE X (.Subscript e (.Slice lo hi none p2) pos) (Js r te tl th):=by
 intro pins s σ H Q I h
 refine Subscript_ (AE (he pins s σ H _ I h) fun v s1 ⟨x,H1,I1,r1,q1⟩=>?_)
 refine wpAny_Slice (AE (hl pins s1 σ H1 _ I1 q1) fun vl s2 ⟨l,H2,I2,pl,q2⟩=>AE (hu pins s2 σ H2 _ I2 q2) fun vu s3 ⟨u,H3,I3,pu,q3⟩=>?_)
 rw [evalPart_none]
 refine wpAny_pure ?_
 have I4:Inv X pins σ H3 { s3 with heap:=s3.heap.push { cls:=.type "slice", data:=.fields #[vl,vu,.none] } }:=I3.kept (t':=s3.toks) fun b ob q=>B9 _ q
 obtain ⟨T,id,hT,ht,hg⟩:=hr pins { s3 with heap:=s3.heap.push { cls:=.type "slice", data:=.fields #[vl,vu,.none] } } σ H3 x v vl vu l u s3.heap.objs.size Q I4 r1 (Heap.IsSliceOf.new ..) pl pu q3
 show wpAny (model X.prog X.w) X.A (subscriptTail e (.Slice lo hi none p2) v (.ref s3.heap.objs.size)) (EP X pins σ Q) X.xe { s3 with heap:=s3.heap.push { cls:=.type "slice", data:=.fields #[vl,vu,.none] } }
 exact tail_any (ops:=[.ref s3.heap.objs.size,v]) ht hT hg (by with_unfolding_all rfl)
def Et (xs:List V) (lo hi:Option Int):List V:=(xs.drop (HT.Bh xs.length 0 lo)).take (HT.Bh xs.length xs.length hi - HT.Bh xs.length 0 lo)
def ql (xs:List V) (lo hi:Option Int):(Et xs lo hi).length<=xs.length:=by
 unfold Et
 rw [EY,ra]
 omega
end
def G1 (n:Nat) (i:Int):Option Nat:=if 0<=i then (if i < n then some i.toNat else none) else if -(n:Int)<=i then some (i+n).toNat else none
def BK {α:Type} (xs:List α) (i:Int):Option α:=(G1 xs.length i).bind fun j=>xs[j]?
def X5 {n:Nat}{i:Int}{j:Nat}(h:G1 n i=some j):seqIndex? i n=some j/\j < n/\-(n:Int)<=i/\i < n:=by
 unfold G1 at h
 by_cases h0:0<=i
 ·rw [if_pos h0] at h
  by_cases h1:i < n
  ·rw [if_pos h1] at h
   have e:i.toNat=j:=BA h
   exact ⟨by rw [seqIndex_of h0 h1,e],by omega,by omega,h1⟩
  ·rw [if_neg h1] at h;cases h
 ·rw [if_neg h0] at h
  by_cases h1:-(n:Int)<=i
  ·rw [if_pos h1] at h
   have e:(i+n).toNat=j:=BA h
   exact ⟨by rw [seqIndex_neg (by omega) h1,e],by omega,h1,by omega⟩
  ·rw [if_neg h1] at h;cases h
def PB {α:Type} {xs:List α}{i:Int}{v:α}(h:BK xs i=some v):∃ j,seqIndex? i xs.length=some j/\xs[j]?=some v/\j < xs.length/\-(xs.length:Int)<=i/\i < xs.length:=by
 unfold BK at h
 cases e:G1 xs.length i with
 | none=>rw [e] at h;cases h
 | some j=>
  rw [e] at h
  obtain ⟨h1,h2,h3,h4⟩:=X5 e
  exact ⟨j,h1,h,h2,h3,h4⟩
def Qm {α:Type} {xs:List α}{j:Nat}{v:α}(h:xs[j]?=some v):BK xs (j:Int)=some v:=by
 have hj:j < xs.length:=(List.getElem?_eq_some_iff.mp h).1
 have e:G1 xs.length (j:Int)=some j:=by
  unfold G1
  rw [if_pos (by omega),if_pos (by omega)];simp
 unfold BK;rw [e];exact h
def Ry (b:Expr):Prop:=∀ o i,subscripted b false o i=operate [o,i] (getItem o i)
def G5 (X:Cx) (r:R2):Prop:=
 ∀ (value slice:Expr) (pins:tW) (s:Shared) (σ:St) (H:Hp) (x y:V) (v u:Value) (Q:VK),Inv X pins σ H s->RelV x v->RelV y u->r x y H Q->
  subscripted slice false v u=operate [v,u] (getItem v u)->wpAny (model X.prog X.w) X.A (subscriptTail value slice v u) (EP X pins σ Q) X.xe s
def Kf (X:Cx) (id:String) (r:V->List V->Hp->VK->Prop):Prop:=
 ∀ (pins:tW) (s:Shared) (σ:St) (H:Hp) (x:V) (xs:List V) (v:Value) (us:List Value) (Q:VK),Inv X pins σ H s->RelV x v->Vals xs us->r x xs H Q->
  wpAny (model X.prog X.w) X.A (call (.builtin id) (v :: us)) (EP X pins σ Q) X.xe s
section
variable {X:Cx}{a b:Expr}{ta tb:TE}{pos:Pos}
def d4 {r:R2}(hr:G5 X r) (ha:PE X a ta) (hb:PE X b tb) (hs:Ry b):PE X (.Subscript a b pos) (B0 r ta tb):=by
 intro pins s σ H Q I h
 exact Subscript_ (TQ ha hb I h fun v u s2 x y H2 I2 rx ry q=>hr a b pins s2 σ H2 x y v u Q I2 rx ry q (hs _ _))
def Nj (K:tV):R2:=fun x y H Q=>∃ p xs i v,x=.ref p/\y=.int i/\AG K H p xs/\BK xs i=some v/\Q v H
def GF (K:tV):R2:=fun x y H Q=>∃ p xs i v,x=.ref p/\y=.int i/\AU K H p xs/\BK xs i=some v/\Q v H
def gI:R2:=fun x y H Q=>∃ z i c,x=.str z/\y=.int i/\z.length<=sizeLine/\BK z.cps.toList i=some c/\Q (.str ⟨#[c]⟩) H
def EG:G5 X (Nj X.K):=by
 intro value slice pins s σ H x y v u Q I rx ry h hs
 obtain ⟨p,xs,i,z,rfl,rfl,hq,he,q⟩:=h
 cases rx
 obtain ⟨t,rfl⟩:=ry
 obtain ⟨A0,r,pl,hz⟩:=I.list hq
 obtain ⟨j,h1,h2,h3,h4,h5⟩:=PB he
 obtain ⟨w,ew,GW⟩:=r.get h2
 have hl:=r.length
 have hn:=IW
 have fin:EP X pins σ Q w s:=⟨z,H,I,GW,q⟩
 by_cases h0:0<=i
 ·have hj:i.toNat=j:=by
   rw [seqIndex_of h0 h5] at h1
   exact BA h1
  exact item_listR pl.isList h0 (by omega) (by rw [hj];simpa using ew) fin hs
 ·have hj:(i+(A0.toArray.size:Int)).toNat=j:=by
   rw [seqIndex_neg (by omega) h4] at h1
   rw [Bs,<- hl]
   exact BA h1
  exact subscriptTail_builtinR (x:=w) pl.isList.typeIs slot_list_getitem.lookup
   (wpAny_getItem_list_neg (Q:=fun r s'=>r=w/\EP X pins σ Q r s') pl.isList (by omega) (by rw [Bs] <;> omega) (by omega) (by rw [hj];simpa using ew) ⟨rfl,fin⟩) hs
def Cf:G5 X (GF X.K):=by
 intro value slice pins s σ H x y v u Q I rx ry h hs
 obtain ⟨p,xs,i,z,rfl,rfl,hq,he,q⟩:=h
 cases rx
 obtain ⟨t,rfl⟩:=ry
 obtain ⟨A0,r,pl,hz⟩:=I.tuple hq
 obtain ⟨j,h1,h2,h3,h4,h5⟩:=PB he
 obtain ⟨w,ew,GW⟩:=r.get h2
 have hl:=r.length
 have hn:=IW
 have fin:EP X pins σ Q w s:=⟨z,H,I,GW,q⟩
 exact subscriptTail_builtinR (x:=w) pl.typeIs slot_tuple_getitem.lookup
  (getItem_tuple (j:=j) (Q:=fun r s'=>r=w/\EP X pins σ Q r s') pl (by omega) (by omega) (by rw [Bs,<- hl];exact h1) (by simpa using ew) ⟨rfl,fin⟩) hs
def iu:G5 X gI:=by
 intro value slice pins s σ H x y v u Q I rx ry h hs
 obtain ⟨z,i,c,rfl,rfl,hz,he,q⟩:=h
 obtain ⟨t,rfl⟩:=rx
 obtain ⟨t',rfl⟩:=ry
 obtain ⟨j,h1,h2,h3,h4,h5⟩:=PB he
 have hl:z.cps.toList.length=z.length:=by simp [Str.length]
 rw [hl] at h1 h4 h5
 have hn:=IW
 exact tail_any (typeIs_str s z t) slot_str_getitem.lookup (getItem_str (c:=c) (by
  have e1:decide (i < -(2 ^ 63:Int))=false:=decide_eq_false (by omega)
  have e2:decide (i>=2 ^ 63)=false:=decide_eq_false (by omega)
  rw [e1,e2,Bool.or_false]) (by rw [h1];simpa using h2) ⟨.str ⟨#[c]⟩,H,I.tok _,⟨_,rfl⟩,q⟩) hs
def eh (A0:List Value) (n j:Nat) (u:Value):Obj.mapSeq (·.setIfInBounds j u) { cls:=.type "list", data:=.seq A0.toArray n }={ cls:=.type "list", data:=.seq (A0.set j u).toArray n }:=by
 simp [Obj.mapSeq]
theorem Inv.lst {pins:tW}{σ:St} {H:Hp}{s:Shared}{p:Addr}{xs:List V}(I:Inv X pins σ H s) (h:H p=some (.lst xs)) :
  ∃ (A0:List Value) (n:Nat),Vals xs A0/\s.heap.get? p=some { cls:=.type "list", data:=.seq A0.toArray n }/\xs.length<=sizeLine:=by
 obtain ⟨z,A0,n,r,e⟩:=I.A7 p _ h
 exact ⟨A0,n,r,e,z⟩
def Inv.lM {pins:tW}{σ:St} {H:Hp}{s:Shared}{p:Addr}{xs ys:List V}{A0 its':List Value}{n n':Nat}{f:Obj->Obj}(I:Inv X pins σ H s) (h:H p=some (.lst xs))
  (ho:s.heap.get? p=some { cls:=.type "list", data:=.seq A0.toArray n }) (hf:f { cls:=.type "list", data:=.seq A0.toArray n }={ cls:=.type "list", data:=.seq its'.toArray n' }) (r:Vals ys its') (hz:ys.length<=sizeLine) (t:Nat) :
  Inv X pins σ (upd H p (.lst ys)) { s with heap:=s.heap.update p f,toks:=t }:=by
 have e:(s.heap.update p f).get? p=some { cls:=.type "list", data:=.seq its'.toArray n' }:=by
  rw [G6 f ho (by rw [hf] <;> rfl),hf]
 refine I.write (x:=p) (e:=p) (by rw [h];trivial) (.inl rfl) (fun b u hb q=>(Dn _ _ (Ah hb)).trans q) ⟨_,e⟩ ?_
 exact ⟨hz,its',n',r,e⟩
def eK:V->V->V->Hp->(Hp->Prop)->Prop:=fun o i v H Q=>∃ p xs k j,o=.ref p/\i=.int k/\H p=some (.lst xs)/\G1 xs.length k=some j/\Q (upd H p (.lst (xs.set j v)))
def set_list:Pt X eK:=by
 intro pins s σ H o i v ov iv u Q I ro ri rv h
 obtain ⟨p,xs,k,j,rfl,rfl,hp,hj,q⟩:=h
 cases ro
 obtain ⟨t,rfl⟩:=ri
 obtain ⟨A0,n,r,ho,hz⟩:=I.lst hp
 obtain ⟨h1,h2,h3,h4⟩:=X5 hj
 have hl:=r.length
 have hn:=IW
 have I':Inv X pins σ (upd H p (.lst (xs.set j v))) { s with heap:=s.heap.update p (Obj.mapSeq (·.setIfInBounds j u)) }:=
  I.lM hp ho (eh A0 n j u) (r.set rv j) (by rw [HC];exact hz) s.toks
 by_cases h0:0<=k
 ·have hk:k.toNat=j:=by
   rw [seqIndex_of h0 h4] at h1
   exact BA h1
  exact PySem.W.ki_setAt ho h0 (by omega) (by rw [Bs,<- hl];exact h4) (by rw [hk];exact ⟨_,I',q⟩)
 ·have hk:(k+(A0.toArray.size:Int)).toNat=j:=by
   rw [seqIndex_neg (by omega) h3] at h1
   rw [Bs,<- hl]
   exact BA h1
  exact PySem.W.ki_setBack ho (by omega) (by rw [Bs,<- hl];exact h3) (by omega) (by rw [hk];exact ⟨_,I',q⟩)
def oS (lo hi:Option Int) (n:Nat):(sliceBounds lo hi none n).1=((HT.Bh n 0 lo:Nat):Int)/\(sliceBounds lo hi none n).2.1=((HT.Bh n n hi:Nat):Int)/\(sliceBounds lo hi none n).2.2=1:=by
 refine ⟨?_,?_,rfl⟩
 ·cases lo with
  | none=>simp [sliceBounds,HT.Bh]
  | some i=>
   simp only [sliceBounds,HT.Bh,sG,show (1:Int) > 0 by decide,if_true]
   by_cases h:i < 0
   ·simp only [h,if_true] <;> omega
   ·simp only [h,if_false] <;> omega
 ·cases hi with
  | none=>simp [sliceBounds,HT.Bh]
  | some i=>
   simp only [sliceBounds,HT.Bh,sG,show (1:Int) > 0 by decide,if_true]
   by_cases h:i < 0
   ·simp only [h,if_true] <;> omega
   ·simp only [h,if_false] <;> omega
def nI (A0:List Value) (lo hi:Option Int):slicePick A0.toArray lo hi none=((A0.drop (HT.Bh A0.length 0 lo)).take (HT.Bh A0.length A0.length hi - HT.Bh A0.length 0 lo)).toArray:=by
 obtain ⟨h1,h2,h3⟩:=oS lo hi A0.toArray.size
 unfold slicePick
 rw [h1,h2,h3]
 simp only [sliceRange_one,pick_run,Bs] <;> rfl
def QF (K:tV):V->Option Int->Option Int->Hp->VK->Prop:=fun x lo hi H Q=>∃ a xs,x=.ref a/\AG K H a xs/\∀ p,H p=none->Q (.ref p) (upd H p (.lst (Et xs lo hi)))
def qC:NL X (QF X.K):=by
 intro pins s σ H x v vl vu lo hi sl Q I rx hs pl pu h
 obtain ⟨a,xs,rfl,hx,q⟩:=h
 cases rx
 obtain ⟨A0,r,ht,hz⟩:=I.list hx
 have hlen:=r.length
 refine ⟨"list", _,slot_list_getitem.lookup,ht.isList.typeIs,?_⟩
 refine wpAny_getItem_list_slice ht.isList hs pl pu .none (by simp) ?_ (by rw [Bs] <;> omega)
 rw [nI,<- hlen]
 refine ⟨.ref s.heap.objs.size,_,I.laid (t':=s.toks) (o:=.lst (Et xs lo hi)) (fun b ob q=>B9 _ q) (AV _) ?_,rfl,q _ (I.A7.fresh (AV _))⟩
 exact ⟨Bt (ql xs lo hi) hz,_,0,(r.drop (HT.Bh xs.length 0 lo)).take (HT.Bh xs.length xs.length hi - HT.Bh xs.length 0 lo),Bx _ rfl⟩
def Bn:V->Bool
 | .A4=>true
 | .bl _=>true
 | .int _=>true
 | .str _=>true
 | _=>false
def C1:V->V->Bool
 | .A4,.A4=>true
 | .bl a,.bl b=>a == b
 | .bl a,.int b=>(if a then 1 else 0) == b
 | .int a,.bl b=>a == (if b then 1 else 0)
 | .int a,.int b=>a == b
 | .str a,.str b=>a == b
 | _,_=>false
def Ms {A:Around}{s:Shared}{y x:V}{u v:Value}(ry:RelV y u) (rx:RelV x v) (fy:Bn y=true) (fx:Bn x=true):SeqAt.EqAt A s u v (C1 y x):=by
 cases y with
 | A4=>
  cases ry
  cases x with
  | A4=>cases rx;exact SeqAt.EqAt.same _
  | bl b=>cases rx;exact SeqAt.EqAt.none_bool b
  | int b=>obtain ⟨t,rfl⟩:=rx;exact SeqAt.EqAt.none_int b t
  | str b=>obtain ⟨t,rfl⟩:=rx;exact SeqAt.EqAt.none_str b t
  | _=>exact absurd (show false=true from fx) C6
 | bl a=>
  cases ry
  cases x with
  | A4=>cases rx;exact SeqAt.EqAt.bool_none a
  | bl b=>cases rx;exact SeqAt.EqAt.bool_bool a b
  | int b=>obtain ⟨t,rfl⟩:=rx;exact SeqAt.EqAt.bool_int a b t
  | str b=>obtain ⟨t,rfl⟩:=rx;exact SeqAt.EqAt.bool_str a b t
  | _=>exact absurd (show false=true from fx) C6
 | int a=>
  obtain ⟨t',rfl⟩:=ry
  cases x with
  | A4=>cases rx;exact SeqAt.EqAt.int_none a t'
  | bl b=>cases rx;exact SeqAt.EqAt.int_bool a t' b
  | int b=>obtain ⟨t,rfl⟩:=rx;exact SeqAt.EqAt.int_int a t' b t
  | str b=>obtain ⟨t,rfl⟩:=rx;exact SeqAt.EqAt.int_str a t' b t
  | _=>exact absurd (show false=true from fx) C6
 | str a=>
  obtain ⟨t',rfl⟩:=ry
  cases x with
  | A4=>cases rx;exact SeqAt.EqAt.str_none a t'
  | bl b=>cases rx;exact SeqAt.EqAt.str_bool a t' b
  | int b=>obtain ⟨t,rfl⟩:=rx;exact SeqAt.EqAt.str_int a t' b t
  | str b=>obtain ⟨t,rfl⟩:=rx;exact SeqAt.EqAt.str_str a t' b t
  | _=>exact absurd (show false=true from fx) C6
 | _=>exact absurd (show false=true from fy) C6
def DC (x:V) (u:Value):Bool:=match u with
 | .none=>C1 .A4 x
 | .bool b=>C1 (.bl b) x
 | .int i _=>C1 (.int i) x
 | .str z _=>C1 (.str z) x
 | _=>false
def UH {x y:V}{u:Value}(r:RelV y u) (f:Bn y=true):DC x u=C1 y x:=by
 cases y with
 | A4=>cases r;rfl
 | bl b=>cases r;rfl
 | int i=>obtain ⟨t,rfl⟩:=r;rfl
 | str z=>obtain ⟨t,rfl⟩:=r;rfl
 | _=>exact absurd (show false=true from f) C6
theorem LQ {x:V}:∀ {xs:List V}{us:List Value},Vals xs us->xs.all Bn=true->us.any (DC x)=xs.any fun y=>C1 y x
 | _,_,.nil,_=>rfl
 | y :: xs,u :: us,.cons r t,f=>by
  rw [MZ,DW] at f
  rw [KI,KI,UH r f.1,LQ t f.2]
theorem Jl {A:Around}{s:Shared}{x:V}{v:Value}(rx:RelV x v) (fx:Bn x=true):∀ {xs:List V}{us:List Value},Vals xs us->xs.all Bn=true->∀ u∈us,SeqAt.EqAt A s u v (DC x u)
 | _,_,.nil,_=>fun u hu=>by cases hu
 | y :: xs,u :: us,.cons r t,f=>fun u' hu=>by
  rw [MZ,DW] at f
  rcases List.mem_cons.mp hu with rfl | hu
  ·rw [UH r f.1];exact Ms r rx f.1 fx
  ·exact Jl rx fx t f.2 u' hu
def OW (x:V) (xs:List V):Bool:=xs.any fun y=>C1 y x
def K8 (K:tV) (neg:Bool):R2:=fun x y H Q=>∃ p xs,y=.ref p/\(AG K H p xs∨AU K H p xs)/\Bn x=true/\xs.all Bn=true/\Q (.bl (if neg then !OW x xs else OW x xs)) H
def Xg:Aw X (compareOp .In) (K8 X.K false):=by
 intro pins s σ H x y v u Q I rx ry h
 obtain ⟨p,xs,rfl,hq,fx,fs,q⟩:=h
 cases ry
 rcases hq with hq | hq
 ·obtain ⟨A0,r,pl,hz⟩:=I.list hq
  refine SeqAt.in_listAt (DC x) pl.isList (fun w hw=>Jl rx fx r fs w (by simpa using hw)) ⟨.bl _,H,I,rfl,?_⟩
  rw [show A0.toArray.any (DC x)=A0.any (DC x) by simp,LQ r fs]
  exact q
 ·obtain ⟨A0,r,pl,hz⟩:=I.tuple hq
  refine SeqAt.in_tupleAt (DC x) pl (fun w hw=>Jl rx fx r fs w (by simpa using hw)) ⟨.bl _,H,I,rfl,?_⟩
  rw [show A0.toArray.any (DC x)=A0.any (DC x) by simp,LQ r fs]
  exact q
def PR:Aw X (compareOp .NotIn) (K8 X.K true):=by
 intro pins s σ H x y v u Q I rx ry h
 obtain ⟨p,xs,rfl,hq,fx,fs,q⟩:=h
 cases ry
 rcases hq with hq | hq
 ·obtain ⟨A0,r,pl,hz⟩:=I.list hq
  refine SeqAt.notIn_listAt (DC x) pl.isList (fun w hw=>Jl rx fx r fs w (by simpa using hw)) ⟨.bl _,H,I,rfl,?_⟩
  rw [show A0.toArray.any (DC x)=A0.any (DC x) by simp,LQ r fs]
  exact q
 ·obtain ⟨A0,r,pl,hz⟩:=I.tuple hq
  refine SeqAt.notIn_tupleAt (DC x) pl (fun w hw=>Jl rx fx r fs w (by simpa using hw)) ⟨.bl _,H,I,rfl,?_⟩
  rw [show A0.toArray.any (DC x)=A0.any (DC x) by simp,LQ r fs]
  exact q
def Ob:D6 X (.builtin "len") (fun xs H Q=>∃ p ys,xs=[.ref p]/\(AG X.K H p ys∨AU X.K H p ys)/\Q (.int ys.length) H):=by
 intro pins s σ H xs us Q I r h
 obtain ⟨p,ys,rfl,hq,q⟩:=h
 obtain ⟨u,rfl,rx⟩:=vals1 r
 cases rx
 have hn:=IW
 rcases hq with hq | hq
 ·obtain ⟨A0,r',pl,hz⟩:=I.list hq
  have hlen:=r'.length
  exact Calls.call_len_list pl.isList (by simp only [Bs] <;> omega) ⟨.int ys.length,H,I.tok _,⟨s.toks+1,by rw [Bs,hlen]⟩,q⟩
 ·obtain ⟨A0,r',pl,hz⟩:=I.tuple hq
  have hlen:=r'.length
  exact len_tuple pl (by simp only [Bs] <;> omega) ⟨.int ys.length,H,I.tok _,⟨s.toks+1,by rw [Bs,hlen]⟩,q⟩
def W5:D6 X (.builtin "len") (fun xs H Q=>∃ z,xs=[.str z]/\z.length<=sizeLine/\Q (.int z.length) H):=by
 intro pins s σ H xs us Q I r h
 obtain ⟨z,rfl,hz,q⟩:=h
 obtain ⟨u,rfl,t,rfl⟩:=vals1 r
 have hn:=IW
 exact len_str (by omega) ⟨.int z.length,H,I.tok _,⟨_,rfl⟩,q⟩
def OP:D6 X (.type "list") (fun xs H Q=>∃ p ys,xs=[.ref p]/\(AG X.K H p ys∨AU X.K H p ys)/\∀ l,H l=none->Q (.ref l) (upd H l (.lst ys))):=by
 intro pins s σ H xs us Q I r h
 obtain ⟨p,ys,rfl,hq,q⟩:=h
 obtain ⟨u,rfl,rx⟩:=vals1 r
 cases rx
 have fin:∀ (A0:List Value),Vals ys A0->ys.length<=sizeLine->∀ (h':Heap) (c':Nat),(∀ b o',s.heap.get? b=some o'->h'.get? b=some o')->
   h'.get? s.heap.objs.size=some { cls:=.type "list", dict:=none,data:=.seq A0.toArray c',slots:=#[] }->EP X pins σ Q (.ref s.heap.objs.size) { s with heap:=h' }:=fun A0 r' hz h' c' kp e=>
  ⟨.ref s.heap.objs.size,_,I.laid (t':=s.toks) kp (AV _) (show BO X.prog X.w _ h' _ (.lst ys) from ⟨hz,A0,c',r',e⟩),rfl,q _ (I.A7.fresh (AV _))⟩
 rcases hq with hq | hq
 ·obtain ⟨A0,r',pl,hz⟩:=I.list hq
  have hlen:=r'.length
  obtain ⟨o,ho,hc,n,hd⟩:=pl.isList
  exact call_list_seq p (.inl rfl) ho hc hd (fun h' c' kp e=>fin A0 r' hz h' c' kp e) (by simp only [Bs] <;> omega)
 ·obtain ⟨A0,r',pl,hz⟩:=I.tuple hq
  have hlen:=r'.length
  obtain ⟨o,ho,hc,n,hd⟩:=pl
  exact call_list_seq p (.inr rfl) ho hc hd (fun h' c' kp e=>fin A0 r' hz h' c' kp e) (by simp only [Bs] <;> omega)
def R8:D6 X (.type "tuple") (fun xs H Q=>∃ p ys,xs=[.ref p]/\((AG X.K H p ys/\∀ l,H l=none->Q (.ref l) (upd H l (.tup ys)))∨(AU X.K H p ys/\Q (.ref p) H))):=by
 intro pins s σ H xs us Q I r h
 obtain ⟨p,ys,rfl,h⟩:=h
 obtain ⟨u,rfl,rx⟩:=vals1 r
 cases rx
 rcases h with ⟨hq,q⟩ | ⟨hq,q⟩
 ·obtain ⟨A0,r',pl,hz⟩:=I.list hq
  have hlen:=r'.length
  refine call_tuple_list pl.isList (fun h' kp=>?_) (by simp only [Bs] <;> omega)
  have I1:Inv X pins σ H { s with heap:=h' }:=I.kept (t':=s.toks) kp
  have I2:Inv X pins σ (upd H h'.objs.size (.tup ys)) { s with heap:=h'.push { cls:=.type "tuple", data:=.seq A0.toArray } }:=
   I1.laid (t':=s.toks) (fun b o e=>B9 _ e) (AV _) (show BO X.prog X.w _ _ _ (.tup ys) from ⟨hz,A0,r',⟨IsTup.new _ _,fun VW e'=>by rw [Bx _ rfl] at e';cases e';rfl⟩⟩)
  exact ⟨.ref h'.objs.size,_,I2,rfl,q _ (I1.A7.fresh (AV _))⟩
 ·obtain ⟨A0,r',pl,hz⟩:=I.tuple hq
  exact call_tuple_same pl ⟨.ref p,H,I,rfl,q⟩
def HV (K:tV) (T:String) (x:V) (H:Hp):Prop:=match x with
 | .str _=>T = "str"
 | .int _=>T = "int"
 | .ref p=>(T = "list" /\ ∃ xs,AG K H p xs)∨(T = "tuple" /\ ∃ o,K.lookup p=some o/\o.cls=.type "tuple" /\ o.dict=none)∨
   (T = "dict" /\ ((∃ A3,H p=some (.dK A3))∨∃ A3,H p=some (.dT A3)))∨(T = "set" /\ ∃ S n,H p=some (.set S n))∨(T = "tuple" /\ ∃ xs,H p=some (.tup xs))
 | _=>False
def cV {pins:tW}{σ:St} {H:Hp}{s:Shared}{T:String}{x:V}{v:Value}(I:Inv X pins σ H s) (r:RelV x v) (ty:HV X.K T x H) :
  s.TypeIs v T/\∀ a,v=.ref a->∃ ob,s.heap.get? a=some ob/\ob.dict=none:=by
 cases x with
 | str z=>
  obtain ⟨t,rfl⟩:=r
  cases (show T = "str" from ty)
  exact ⟨typeIs_str s z t,fun _ e=>nomatch e⟩
 | int i=>
  obtain ⟨t,rfl⟩:=r
  cases (show T = "int" from ty)
  exact ⟨typeIs_int s i t,fun _ e=>nomatch e⟩
 | ref p=>
  cases r
  rcases ty with ⟨rfl,xs,hq⟩ | ⟨rfl,o,hk,hc,hd⟩ | ⟨rfl,hk⟩ | ⟨rfl,S,n,hk⟩ | ⟨rfl,xs,hk⟩
  ·obtain ⟨A0,_,pl,_⟩:=I.list hq
   refine ⟨pl.isList.typeIs,fun a e=>?_⟩
   cases e
   obtain ⟨o,n,e,c,hd,_⟩:=pl
   exact ⟨o,e,hd⟩
  ·refine ⟨⟨o,I.B3 p o hk,hc⟩,fun a e=>?_⟩
   cases e
   exact ⟨o,I.B3 _ o hk,hd⟩
  ·have z:∃ o,s.heap.get? p=some o/\o.ExactDict:=by
    rcases hk with ⟨A3,hk⟩ | ⟨A3,hk⟩
    ·obtain ⟨_,_,_,_,o,_,_,e,ex,_⟩:=I.A7 p _ hk
     exact ⟨o,e,ex⟩
    ·obtain ⟨_,_,_,_,o,_,_,e,ex,_⟩:=I.A7 p _ hk
     exact ⟨o,e,ex⟩
   obtain ⟨o,e,ex⟩:=z
   refine ⟨⟨o,e,ex.1⟩,fun a e2=>?_⟩
   cases e2
   exact ⟨o,e,ex.2.1⟩
  ·obtain ⟨o,_,_,_,e,ex,_⟩:=I.A7 p _ hk
   refine ⟨⟨o,e,ex.1⟩,fun a e2=>?_⟩
   cases e2
   exact ⟨o,e,ex.2.1⟩
  ·obtain ⟨_,A0,_,⟨o,e,c,_⟩,dn⟩:=I.A7 p _ hk
   refine ⟨⟨o,e,c⟩,fun a e2=>?_⟩
   cases e2
   exact ⟨o,e,dn o e⟩
 | _=>exact False.elim ty
def cG (K:tV) (T:String) (r:V->List V->Hp->VK->Prop) (to:TE):TE:=fun σ H Q=>to σ H fun x H1=>HV K T x H1/\r x [] H1 Q
def GN (K:tV) (T:String) (r:V->List V->Hp->VK->Prop) (to:TE) (t:TA):TE:=fun σ H Q=>to σ H fun x H1=>HV K T x H1/\t σ H1 fun xs H2=>r x xs H2 Q
variable {o e:Expr}{es:List Expr}{to:TE}{t:TA}{name:Str}{apos BJ:Pos}{T id:String}{r:V->List V->Hp->VK->Prop}
def o9 (pa:PlainAttrs T) (slot:Slot T name id) (SX:typeOf (.builtin id)=pure (.type "method_descriptor")) (hm:Kf X id r) (ho:PE X o to) (ha:PA X (e :: es) t)
  (Ot:attributeBase o name X.env (eval o X.env)=eval o X.env:=by rfl)
  (Rn:((backTo BJ (starEach (e :: es) X.env)).all (fun x=>!x.1) && (backToKw BJ (keywordEach [] X.env)).all (fun x=>x.1.isSome)
   && decide ((e :: es).length+([]:List Keyword).length+(if ([]:List Keyword).isEmpty then 0 else 1) < 30))=true:=by rfl)
  (Oy:(apos.endLine == BJ.line)=true:=by rfl) (hs:starEach (e :: es) X.env=(false,eval e X.env) :: starEach es X.env:=by rfl) (Pl:(backTo BJ (starEach es X.env)).any (·.1)=false:=by rfl) :
  PE X (.Call (.Attribute o name apos) (e :: es) [] BJ) (GN X.K T r to t):=by
 intro pins s σ H Q I h
 refine wpAny_Call_method_late Ot Rn Oy rfl (AE (ho pins s σ H _ I h) fun v s1 ⟨x,H1,I1,r1,ty,q1⟩=>?_)
 obtain ⟨h1,h2⟩:=cV I1 r1 ty
 refine ⟨T,id,pa,slot,SX,h1,h2,?_⟩
 have hA:=ha BJ pins s1 σ H1 _ I1 q1
 rw [hs] at hA ⊢
 refine rP (by show (false || (backTo BJ (starEach es X.env)).any (·.1))=false;rw [Pl] <;> rfl) (Calls.evalArgs_plain ?_)
 exact AE hA fun us s2 ⟨vs,H2,I2,r2,q2⟩=>hm pins s2 σ H2 x vs v us Q I2 r1 r2 q2
end
def QR (X:Cx) (id:String) (r:V->List V->Hp->VK->Prop):Prop:=
 ∀ (pins:tW) (s:Shared) (σ:St) (H:Hp) (x:V) (xs:List V) (v:Value) (us:List Value) (Q:VK),Inv X pins σ H s->RelV x v->Vals xs us->r x xs H Q->
  wpAny (model X.prog X.w) X.A (call (.builtin id) (v :: us)) (EP X pins σ Q) X.xe s
def Vals.one:∀ {x:V}{us:List Value},Vals [x] us->∃ u,us=[u]/\RelV x u
 | _,_,.cons r .nil=>⟨_,rfl,r⟩
def Vals.two:∀ {x y:V}{us:List Value},Vals [x,y] us->∃ u v,us=[u,v]/\RelV x u/\RelV y v
 | _,_,_,.cons r (.cons q .nil)=>⟨_,_,rfl,r,q⟩
section
variable {X:Cx}{pins:tW}{σ:St} {H:Hp}{s:Shared}{l b:Addr}{xs ys zs:List V}
def Inv.W3 {A0 its':List Value}{n:Nat}{f:Array Value->Array Value}{t':Nat}(I:Inv X pins σ H s) (hH:H l=some (.lst xs))
  (e:s.heap.get? l=some { cls:=.type "list", data:=.seq A0.toArray n }) (hf:f A0.toArray=its'.toArray) (hv:Vals ys its') (hz:ys.length<=sizeLine) :
  Inv X pins σ (upd H l (.lst ys)) { s with heap:=s.heap.update l (Obj.mapSeq f),toks:=t' }:=by
 have q:=PySem.IsL.update e f
 rw [hf] at q
 refine I.write (x:=l) (e:=l) (by rw [hH];exact trivial) (.inl rfl) (fun b' u hb hu=>(Dn s.heap (Obj.mapSeq f) (Ah hb)).trans hu) ⟨_,q⟩ ?_
 exact ⟨hz,its',_,hv,q⟩
def Inv.Rl {A0:List Value}{t':Nat}(I:Inv X pins σ H s) (hv:Vals ys A0) (hz:ys.length<=sizeLine) :
  Inv X pins σ (upd H s.heap.objs.size (.lst ys)) { s with heap:=s.heap.push { cls:=.type "list", data:=.seq A0.toArray },toks:=t' }:=
 I.laid (fun _ _ q=>B9 _ q) (AV _) ⟨hz,A0,0,hv,Bx _ rfl⟩
theorem Inv.fresh (I:Inv X pins σ H s):H s.heap.objs.size=none:=I.A7.fresh (AV _)
def Inv.O8 (I:Inv X pins σ H s) (hH:H l=some (.lst xs)):xs.length<=sizeLine/\∃ (A0:List Value) (n:Nat),Vals xs A0/\xs.length=A0.length/\s.heap.get? l=some { cls:=.type "list", data:=.seq A0.toArray n }:=by
 obtain ⟨z,A0,n,r,e⟩:=I.A7 l _ hH
 exact ⟨z,A0,n,r,r.length,e⟩
end
section
variable {X:Cx}
def Lr:V->List V->Hp->VK->Prop:=fun x vs H Q=>∃ l xs y,x=.ref l/\vs=[y]/\H l=some (.lst xs)/\xs.length < sizeLine/\Q .A4 (upd H l (.lst (xs++[y])))
def US:QR X "list.append" Lr:=by
 intro pins s σ H x vs v us Q I rx rv h
 obtain ⟨l,xs,y,rfl,rfl,hH,hz,q⟩:=h
 cases rx
 obtain ⟨u,rfl,ru⟩:=rv.one
 obtain ⟨z,A0,n,r,hl,e⟩:=I.O8 hH
 refine call_meets F.slot_list_append ⟨_,e,rfl⟩ F.entry_list_append (F.args_list_append_2 _ _) (PySem.list_append l A0.toArray n u (by rw [Bs];omega)) ⟨e,?_⟩
 refine ⟨.A4,_,I.W3 (its':=A0++[u]) hH e (by simp) (r.append (.cons ru .nil)) ?_,rfl,q⟩
 rw [DL,rh]
 omega
def rJ:V->List V->Hp->VK->Prop:=fun x vs H Q=>∃ l xs,x=.ref l/\vs=[]/\H l=some (.lst xs)/\Q .A4 (upd H l (.lst xs.reverse))
def Zu:R2:=fun x y H Q=>∃ l b xs zs,x=.ref l/\y=.ref b/\H l=some (.lst xs)/\H b=some (.lst zs)/\xs.length+zs.length<=sizeLine/\∀ p,H p=none->Q (.ref p) (upd H p (.lst (xs++zs)))
def XB:Aw X (binaryOp .Add) Zu:=by
 intro pins s σ H x y v u Q I rx ry h
 obtain ⟨l,b,xs,zs,rfl,rfl,hH,hB,hz,q⟩:=h
 cases rx
 cases ry
 obtain ⟨z,A0,n,r,hl,e⟩:=I.O8 hH
 obtain ⟨z2,BR,n2,r2,Bl,e2⟩:=I.O8 hB
 refine PySem.P.add_list e e2 ?_ (by rw [Bs,Bs];omega)
 have ea:A0.toArray++BR.toArray=(A0++BR).toArray:=by simp
 rw [ea]
 exact ⟨.ref _,_,I.Rl (t':=s.toks) (r.append r2) (by rw [DL];omega),rfl,q _ I.fresh⟩
end
section
variable {prog:Program}{w:World}{A:Around}{E:Value->Shared->Prop}{s:Shared}
set_option maxRecDepth 100000 in
end
section
variable {X:Cx}
end
end L2
namespace VF
open PySem.W PySem.Calls
def pF {P:Params}{h:Heap}:∀ (ns:List Int) (vs:List Value),WellAll P h vs (ns.map WData.int)->IntsAre vs ns:=by
 intro ns
 induction ns with
 | nil=>
  intro vs w
  rw [Hs] at w
  cases w
  exact .nil
 | cons n ns ih=>
  intro vs w
  rw [BV] at w
  cases w with
  | cons a b=>
   cases a
   exact .cons _ _ (ih _ b)
def lD {l:OpenLaw}{n:Nat}(hn:l.most=some n){P:Params}{h:Heap}{args:List WData}{vals:List Value}
  (Hb:l.row.toRowW.claim.pre args=true) (RK:WellAll P h vals args) :
  ∃ a vs ns,vals=[Value.ref a]/\args=[WData.list (ns.map WData.int)]/\h.get? a=some { cls:=.type "list", data:=.seq vs.toArray }/\IntsAre vs ns/\ns.length<=n:=by
 have kL:WShape.hasAll [] args [.list .int]=true:=(pre_splitW Hb).1
 have hc:l.pre.holds [] { args:=args }=true:=(pre_splitW Hb).2
 obtain ⟨d,r,rfl,h1,h2⟩:=hasAllW_cons kL
 obtain rfl:=hasAllW_nil h2
 obtain ⟨xs,rfl,h3⟩:=hasW_list h1
 obtain ⟨ns,rfl⟩:=items_int h3
 have hlen:ns.length<=n:=by
  unfold OpenLaw.pre at hc
  have h4:(WTm.not (.lt (.lit (.int (n:Int))) (.len (.arg 0)))).holds [] { args:=[.list (ns.map .int)] }=true:=by
   have h4:=(holds_andW hc).1
   rw [hn] at h4
   exact h4
  have h5:=condW_of h4 (w_not (w_lt w_lit (w_len_list (w_arg rfl))))
  rw [AJ] at h5
  refine Nat.le_of_not_lt fun q=>?_
  have q':(n:Int) < ((ns.length:Nat):Int):=by omega
  first
   | (rw [decide_eq_true q'] at h5;exact absurd h5 (by decide))
   | (simp at h5;omega)
 cases RK with
 | cons w1 w2=>
  cases w2
  cases w1 with
  | list ho Mn=>exact ⟨_,_,ns,rfl,rfl,ho,pF ns _ Mn,hlen⟩
def i6 (l:OpenLaw) (args:List WData):l.row.toRowW.claim.post args (.bool true) args=true:=
 postW_of (r:=l.row.toRowW) (X:=(true == true))
  (show WShape.has [] (.bool true) .bool=true by first | rfl | decide | simp [WShape.has,WShape.arms,WShape.armsAll])
  (show (WTm.eq .res (.lit (.bool true))).value [] { args:=args,res:=some (.bool true),after:=args }=some (.bool (true == true)) from w_eq_bool (w_res rfl) w_lit) rfl
def lR {l:OpenLaw}{n:Nat}{q:Program}{loose:List Str}{XP:(tX)->Heap->Prop}{YP:World->Heap->Prop}{d:DefRec}
  (hn:l.most=some n) (KU:d.params.defaults=[])
  (call:∀ (w:World) (s₀ s₁:Shared) (mg mb:tX) (fa:Addr) (o:Obj) (pm cd doc:Value) (a:Addr) (vs:List Value) (ns:List Int),
   Ground q loose [] XP w s₀ mg mb s₁.heap->YP w s₁.heap->
   s₁.heap.get? fa=some o->o.data=.func (docDef d.name d.params d.body d.scope pm cd doc)->s₁.heap.CodeRec cd d.name->mg d.name=some (.ref fa)->
   s₁.heap.get? a=some { cls:=.type "list", data:=.seq vs.toArray }->IntsAre vs ns->ns.length<=n->s₁.gens=#[]->
   codeAny (model l.prog w) callerA (.call (.ref fa) ⟨[.ref a],[]⟩) (fun r s'=>r=.ok (.ret (.bool true))/\OldK s₁.heap s'.heap/\s'.os=s₁.os/\AllBare s'.gens) s₁) :
  WalkO q loose XP YP l.row.toRowW d [] (fun f vs=>PySem.call f vs):=by
 intro w s₀ s₁ mg mb G Y fa o pm cd doc dV kV ho hd DZ hD KW hg args vals as Hb tP t5 RK sX
 obtain rfl:dV=.none:=Dflts.none hD KU
 obtain rfl:kV=.none:=Dflts.noKw hD
 obtain ⟨a,vs,ns,rfl,rfl,Ri,hints,hlen⟩:=lD hn Hb RK
 refine enter_call (codeAny_mono (call w s₀ s₁ mg mb fa o pm cd doc a vs ns G Y ho (fd_plain hd) DZ KW Ri hints hlen hg) fun r s' hq=>?_)
 obtain ⟨rfl,h2,h3,h4⟩:=hq
 exact ⟨.inl ⟨.bool true,.bool true,[],rfl,fun _=>rfl,.bool true,i6 l _,fun _=>⟨List.Pairwise.nil,fun _ hm=>(nomatch hm)⟩⟩,h2,h3,h4⟩
section
variable {prog:Program}{w:World}{A:Around}{E:Value->Shared->Prop}{s:Shared}{K:Frag}
end
end VF
namespace L2
theorem XC:∀ {vs:List Value}{ns:List Int},IntsAre vs ns->Vals (ns.map V.int) vs
 | _,_,.nil=>.nil
 | _,_,.cons n t h=>.cons ⟨t,rfl⟩ (XC h)
def SS (H:Hp):Prop:=∀ b,H b=none∨∃ o xs,H b=some (.CH o (.lst xs))
def nA {P:Program}{w:World}{K:tV}{mg mb:tX}{CX:EM}{k:Nat}{fa a:Addr}{fd:FuncData}{x:Str}{sp:Sp}{s₁:Shared}{vs:List Value}{ns:List Int}
  (KX:K.In s₁.heap) (En:s₁.heap.Ns mainGlobals mg) (hb:s₁.heap.Ns builtinsNs mb) (rE:∀ x:Str,x ≠ "__name__" -> mb x=bootBuiltins x) (fu:s₁.heap.NoLimit) (hg:s₁.gens=#[])
  (ha:s₁.heap.get? a=some { cls:=.type "list", data:=.seq vs.toArray }) (hi:IntsAre vs ns) (hl:ns.length<=sizeLine) (hr:Au k callerA)
  (F:∀ base:Heap,K.In base->base.Ns mainGlobals mg->Ba P w K mg base CX k fa fd [x] sp) (oB:∀ (s:Shared) (u:Value),BindsTo s fd ⟨[u],[]⟩ [(x,u)])
  (DH:∀ H:Hp,SS H->AG K H a (ns.map V.int)->sp [.ref a] H (fun v _=>v=.bl true) fun _ _ _=>False)
  (Su:∀ H e s',CX [] H s₁ (fun _ _ _=>False) e s'->False) :
  codeAny (model P w) callerA (.call (.ref fa) ⟨[.ref a],[]⟩) (fun r s'=>r=.ok (.ret (.bool true))/\OldK s₁.heap s'.heap/\s'.os=s₁.os/\AllBare s'.gens) s₁:=by
 have rv:=XC hi
 have k6:=hi.length
 -- from an abstract heap in t7 nothing but FW VA may be tracked
 have core:∀ H:Hp,SS H->AG K H a (ns.map V.int)->B8 P w H s₁.heap->(∀ b,H b≠none->b=a)->(H a≠none->K.lookup a=none)->
   codeAny (model P w) callerA (.call (.ref fa) ⟨[.ref a],[]⟩) (fun r s'=>r=.ok (.ret (.bool true))/\OldK s₁.heap s'.heap/\s'.os=s₁.os/\AllBare s'.gens) s₁:=by
  intro H hO hS A7 hA hK
  have XU:∀ {b:Addr}{o:Obj},s₁.heap.get? b=some o->H b=none->(HB s₁.heap H).get? b=some o:=fun e n=>kW e n
  have Km:∀ {b:Addr}{o:Obj}{es:Array DictEntry}{ep:Nat},s₁.heap.get? b=some o->o.data=.dict es ep->H b=none:=fun {b o es ep} e d=>by
   cases q:H b with
   | none=>rfl
   | some u=>
    have e':b=a:=hA b (by rw [q];simp)
    subst e'
    rw [ha] at e;cases e
    have d':Data.seq vs.toArray _=Data.dict es ep:=d
    cases d'
  have NF:∀ {b:Addr}{m:tX},s₁.heap.Ns b m->(HB s₁.heap H).Ns b m:=fun {b m} ⟨o,es,ep,e,d,r⟩=>⟨o,es,ep,XU e (Km e d),d,r⟩
  have Xl:K.In (HB s₁.heap H):=fun b o e=>XU (KX b o e) (by
   cases q:H b with
   | none=>rfl
   | some u=>
    have e':b=a:=hA b (by rw [q];simp)
    subst e'
    rw [hK (by rw [q];simp)] at e;cases e)
  have hM:Mod K mg (HB s₁.heap H):=⟨Xl,NF En,⟨mb,NF hb,rE⟩,let ⟨mc,h1,h2⟩:=fu;⟨mc,NF h1,h2⟩⟩
  have e0:IG P w K mg (HB s₁.heap H) callerA [] s₁ H:=⟨rfl,hM,fun b o e=>qR e,af (nq _ _),trivial,fun b hb=>absurd (show b∈([]:List Addr) from hb) (by simp),A7,.of_eq hg⟩
  refine codeAny_mono ((F _ Xl (NF En)).run callerA [] s₁ H ⟨[.ref a],[]⟩ [.ref a] [.ref a] _ _ hr e0 (oB s₁ (.ref a)) (.cons rfl .nil) (DH H hO hS)) fun r s' h=>?_
  cases r with
  | error e=>exact (Su H e s' h).elim
  | ok fl=>
   cases fl with
   | next=>exact False.elim h
   | brk=>exact False.elim h
   | cont=>exact False.elim h
   | ret u=>
    obtain ⟨v,H',os,bare,un,gY,r',q⟩:=h
    have q':v=.bl true:=q
    subst q'
    obtain rfl:u=Value.bool true:=r'
    refine ⟨rfl,OldK.of_keep fun b o e=>?_,os,bare⟩
    cases q:H b with
    | none=>exact un.keep b o e q (by intro z;exact absurd (show b∈([]:List Addr) from z) (by simp)) (by simp)
    | some u=>
     rcases hO b with z | ⟨ob,xs,z⟩
     ·rw [q] at z;cases z
     ·have z2:=un.Ds b ob _ z
      obtain ⟨e1,_⟩:=A7 b _ z
      obtain ⟨e2,_⟩:=gY b _ z2
      rw [e] at e1;cases e1
      exact e2
 cases hk:K.lookup a with
 | some o=>
  -- FW VA is one of FW se own objects
  have e:=KX a o hk
  rw [ha] at e
  cases e
  refine core (fun _=>none) (fun _=>.inl rfl) (.inr ⟨_,vs.toArray,_,hk,rfl,rfl,rfl,by rw [Bs,k6];exact hl,by simpa using rv⟩) (fun b u z=>by have z':(none:Option HO)=some u:=z;cases z') (fun b z=>absurd rfl z) fun z=>absurd rfl z
 | none=>
  refine core (fun b=>if b=a then some (.CH { cls:=.type "list", data:=.seq vs.toArray } (.lst (ns.map V.int))) else none) (fun b=>?_) (.inl (.inr ⟨{ cls:=.type "list", data:=.seq vs.toArray },if_pos rfl⟩)) (fun b u z=>?_) (fun b z=>?_) fun _=>hk
  ·by_cases hb:b=a
   ·exact .inr ⟨_,_,if_pos hb⟩
   ·exact .inl (if_neg hb)
  ·by_cases hb:b=a
   ·have z':=(if_pos hb).symm.trans z
    cases z'
    subst hb
    exact ⟨ha,by rw [AJ];exact hl,vs,_,rv,ha⟩
   ·have z':=(if_neg hb).symm.trans z
    cases z'
  ·by_cases hb:b=a
   ·exact hb
   ·exact absurd (if_neg hb) z
def kT {l:PySem.W.OpenLaw}{n k:Nat}{q:Program}{loose:List Str}{XP:(tX)->Heap->Prop}{YP:World->Heap->Prop}{d:DefRec}{K:Params->tV}{CX:World->EM}{sp:World->Sp}{x:Str}
  (hn:l.most=some n) (Dd:n<=sizeLine) (KU:d.params.defaults=[]) (hr:Au k callerA)
  (hY:∀ (w:World) (h:Heap),YP w h->(K w.params).In h)
  (F:∀ (w:World) (mg:tX) (fa:Addr) (h:Heap),(K w.params).In h->h.Ns mainGlobals mg->mg d.name=some (.ref fa)->
   ∃ fd:FuncData,(∀ (s:Shared) (u:Value),BindsTo s fd ⟨[u],[]⟩ [(x,u)])/\
    ∀ base:Heap,(K w.params).In base->base.Ns mainGlobals mg->Ba l.prog w (K w.params) mg base (CX w) k fa fd [x] (sp w))
  (DH:∀ (w:World) (H:Hp) (a:Addr) (ns:List Int),ns.length<=n->SS H->AG (K w.params) H a (ns.map V.int)->sp w [.ref a] H (fun v _=>v=.bl true) fun _ _ _=>False)
  (Su:∀ (w:World) (H:Hp) (s:Shared) (e:Value) (s':Shared),CX w [] H s (fun _ _ _=>False) e s'->False) :
  PySem.W.WalkO q loose XP YP l.row.toRowW d [] (fun f vs=>PySem.call f vs):=by
 refine VF.lR hn KU fun w s₀ s₁ mg mb fa o pm cd doc a vs ns G Y ho hd DZ KW Ri hints hlen hg=>?_
 have KX:=hY w _ Y
 obtain ⟨fd,hb,hF⟩:=F w mg fa _ KX G.T.g KW
 exact nA KX G.T.g G.T.b G.T.builtins G.T.nolimit hg Ri hints (Bt hlen Dd) hr hF hb (fun H hO hS=>DH w H a ns hlen hO hS) fun H e s'=>Su w H s₁ e s'
def LP (s:Stmt):Arguments:=match s with
 | .FunctionDef _ a _ _ _ _ _ _ _ _=>a
 | _=>{ posonlyargs:=[],args:=[],vararg:=none,kwonlyargs:=[],kw_defaults:=[],kwarg:=none,defaults:=[] }
def HW (s:Stmt):List Stmt:=match s with
 | .FunctionDef _ _ b _ _ _ _ _ _ _=>b
 | _=>[]
def As (s:Stmt):Scope:=match s with
 | .FunctionDef _ _ _ _ _ _ sc _ _ _=>sc
 | _=>{ kind:=.function,names:=[],isGenerator:=false,isCoroutine:=false }
abbrev DQ:EM:=fun _ _ _ _ _ _=>False
abbrev E0:XK:=fun _ _ _=>False
def Q6 {X:Cx}:Passes DQ X E0:=fun _ _ _ _ _ _ _ h=>h.elim
structure Ad (K:tV) (x qual:Str) (st:Stmt) (f:Addr) (fd:FuncData):Prop where
 ex:∃ (oc:Value) (od:Option Addr) (kV doc pm:Value) (an:Option Addr) (Ab ct:Value) (GS:Array (Option Value)),
  fd=PySem.W.fnOf x qual (LP st) (HW st) (As st) .none kV doc pm an Ab ct/\K.lookup f=some ⟨oc,od,.func fd,GS⟩/\PySem.W.codeIn K Ab qual=true
 kp:PySem.W.keepIn K (.ref f)=true
section
variable {P:Program}{w:World}{K:tV}{mg:tX}{base:Heap}
def Ad.ok {x qual:Str}{st:Stmt}{f:Addr}{fd:FuncData}{N ps:List Str}{k:Nat}{sp:Sp}(F:Ad K x qual st f fd) (S:Bq N ps (As st)) (len:∀ vs H Q E,sp vs H Q E->vs.length=ps.length)
  (IQ:∀ (Ab:Value) (A:Around) (outer:List Env) (s:Shared) (H:Hp) (vs:List V) (Q:VK) (E:XK),Au k (A.deeper (envOfC qual (As st) s.heap.objs.size f Ab))->sp vs H Q E->
   ∃ t,Cd (E8 DQ P w K mg base N qual (As st) f Ab A outer s H E).Li (HW st) t/\t { nx:=fun _ H'=>Q .A4 H',rt:=Q } (start N vs) H):Ba P w K mg base DQ (k+1) f fd ps sp:=by
 obtain ⟨oc,od,kV,doc,pm,an,Ab,ct,GS,rfl,lk,DZ⟩:=F.ex
 refine Ve lk DZ S len fun A outer s H vs Q E hr DH=>?_
 obtain ⟨t,h,q⟩:=IQ Ab A outer s H vs Q E hr DH
 exact ⟨t,h.Li,q⟩
def Ad.binds {x qual:Str}{st:Stmt}{f:Addr}{fd:FuncData}{ps:List Str}(F:Ad K x qual st f fd)
  (h:∀ (kV doc pm:Value) (an:Option Addr) (Ab ct:Value) (us:List Value),us.length=ps.length->bindArgs (PySem.W.fnOf x qual (LP st) (HW st) (As st) .none kV doc pm an Ab ct) ⟨us,[]⟩=pure (ps.zip us)):Binds K fd ps []:=by
 obtain ⟨oc,od,kV,doc,pm,an,Ab,ct,GS,rfl,lk,DZ⟩:=F.ex
 exact .all (h kV doc pm an Ab ct)
def eB {x qual:Str}{st:Stmt}{f:Addr}{oc:Value}{od an:Option Addr}{GS:Array (Option Value)}{kV doc pm Ab ct:Value}(l:K.lookup f=some ⟨oc,od,.func (PySem.W.fnOf x qual (LP st) (HW st) (As st) .none kV doc pm an Ab ct),GS⟩)
  (c:PySem.W.codeIn K Ab qual=true) (k:PySem.W.keepIn K (.ref f)=true):Ad K x qual st f (PySem.W.fnOf x qual (LP st) (HW st) (As st) .none kV doc pm an Ab ct):=⟨⟨oc,od,kV,doc,pm,an,Ab,ct,GS,rfl,l,c⟩,k⟩
end
def Lh {A:Around}{k:Nat}(hr:Au k A):A.units+1 < cLine:=Oi (Nat.add_le_add_left (by decide:1<=64) _) hr.units
section
variable {X:Cx}
def pv (i:Nat){x:Str}{pos:Pos}(hN:X.N[i]?=some x:=by rfl) (hv:Oc X.env.scope x:=by first | exact Or.inl rfl | exact Or.inr (Or.inl rfl) | exact Or.inr (Or.inr rfl)) (hd:(x == ("__debug__" : Str))=false:=by decide)
  (DZ:(x == ("__classdict__" : Str))=false:=by decide):PE X (.Name x pos) (BB i):=XD hN hv hd DZ
end
def M4 {A B:Prop}(h:B):if false=true then A else B:=by
 rw [if_neg C6]
 exact h
def eM {A B:Prop}(h:A):if true=true then A else B:=by
 rw [if_pos rfl]
 exact h
def Cc {c A B:Prop} [Decidable c] (h1:c->A) (h2:¬ c->B):if c then A else B:=by
 by_cases h:c
 ·rw [if_pos h]
  exact h1 h
 ·rw [if_neg h]
  exact h2 h
def A9 (H H':Hp):Prop:=∀ b o,H b=some o->H' b=some o
def A9.refl (H:Hp):A9 H H:=fun _ _ h=>h
def A9.trans {H H1 H2:Hp}(a:A9 H H1) (b:A9 H1 H2):A9 H H2:=fun c o h=>b c o (a c o h)
end L2
set_option maxHeartbeats 4000000
namespace L2
section
variable {κ:Type} [DecidableEq κ]
def De (A3:List (κ×V)) (k:κ):Option V:=(A3.find? fun kv=>decide (kv.1=k)).map (·.2)
def putK (A3:List (κ×V)) (k:κ) (v:V):List (κ×V):=
 if (A3.any fun kv=>decide (kv.1=k))=true then A3.map (fun kv=>if kv.1=k then (kv.1,v) else kv) else A3++[(k,v)]
def OX {p:κ×V}{r:List (κ×V)}{k:κ}(e:p.1=k):De (p :: r) k=some p.2:=by simp [De,Ma,e]
def NQ {p:κ×V}{r:List (κ×V)}{k:κ}(e:¬ p.1=k):De (p :: r) k=De r k:=by simp [De,Ma,e]
theorem Mi (k:κ):∀ A3:List (κ×V),(A3.any fun kv=>decide (kv.1=k))=(De A3 k).isSome
 | []=>rfl
 | p :: r=>by
  rw [KI]
  by_cases e:p.1=k
  ·simp only [OX e,decide_eq_true e,Bool.true_or,Option.isSome_some]
  ·rw [NQ e,decide_eq_false e,Bool.false_or];exact Mi k r
def Z3 (A3:List (κ×V)) (k:κ) (v:V):(putK A3 k v).length<=A3.length+1:=by
 unfold putK
 split
 ·rw [AJ];omega
 ·rw [DL,Bm,UZ];omega
def Sh {A3:List (κ×V)}{k:κ}(v:V) (h:De A3 k=none):putK A3 k v=A3++[(k,v)]:=by
 unfold putK
 rw [Mi,h]
 exact if_neg (by decide)
def DI.RH {o:Option V}{u:Option Value}(r:DI o u):o.isSome=u.isSome:=by
 cases o with
 | none=>cases u with
  | none=>rfl
  | some _=>exact (show False from r).elim
 | some _=>cases u with
  | none=>exact (show False from r).elim
  | some _=>rfl
def KV.val {A3:List (κ×V)}{vs:List (κ×Value)}(r:KV A3 vs) (k:κ):DI (De A3 k) (valueAt vs k):=by
 unfold KV at r
 induction r with
 | nil=>exact True.intro
 | @cons p q ps qs h t ih=>
  obtain ⟨h1,h2⟩:=h
  by_cases e:p.1=k
  ·have e':q.1=k:=h1.symm.trans e
   have b:valueAt (q :: qs) k=some q.2:=by simp [valueAt,Ma,e']
   rw [OX e,b];exact h2
  ·have e':¬ q.1=k:=fun z=>e (h1.trans z)
   have b:valueAt (q :: qs) k=valueAt qs k:=by simp [valueAt,Ma,e']
   rw [NQ e,b];exact ih
theorem KV.any {A3:List (κ×V)}{vs:List (κ×Value)}(r:KV A3 vs) (k:κ):(A3.any fun kv=>decide (kv.1=k))=vs.any fun kv=>decide (kv.1=k):=by
 unfold KV at r
 induction r with
 | nil=>rfl
 | cons h t ih=>rw [KI,KI,ih,h.1]
def KV.Q1 {A3:List (κ×V)}{vs:List (κ×Value)}(r:KV A3 vs) (k:κ){y:V}{u:Value}(ry:RelV y u) :
  KV (A3.map fun kv=>if kv.1=k then (kv.1,y) else kv) (vs.map fun kv=>if kv.1=k then (kv.1,u) else kv):=by
 unfold KV at r ⊢
 induction r with
 | nil=>exact .nil
 | @cons p q ps qs h t ih=>
  rw [BV,BV]
  refine .cons ?_ ih
  obtain ⟨h1,h2⟩:=h
  by_cases e:p.1=k
  ·rw [if_pos e,if_pos (h1.symm.trans e)];exact ⟨h1,ry⟩
  ·rw [if_neg e,if_neg (fun z=>e (h1.trans z))];exact ⟨h1,h2⟩
def KV.put {A3:List (κ×V)}{vs:List (κ×Value)}(r:KV A3 vs) (k:κ){y:V}{u:Value}(ry:RelV y u):KV (putK A3 k y) (stored vs k u):=by
 unfold putK stored
 rw [r.any k]
 by_cases e:(vs.any fun kv=>decide (kv.1=k))=true
 ·rw [if_pos e,if_pos e];exact r.Q1 k ry
 ·rw [if_neg e,if_neg e];exact Paired.snoc r ⟨rfl,ry⟩
def KV.keys {A3:List (κ×V)}{vs:List (κ×Value)}(r:KV A3 vs):A3.map (·.1)=vs.map (·.1):=by
 unfold KV at r
 induction r with
 | nil=>rfl
 | cons h t ih=>rw [BV,BV,ih,h.1]
theorem KV.length {A3:List (κ×V)}{vs:List (κ×Value)}(r:KV A3 vs):A3.length=vs.length:=ao r
end
def Ml {P:Program}{w:World}{k:Key}{u:Value}(r:RelV (kV k) u):(CZ P w).is k u=true:=by
 cases k with
 | inl i=>obtain ⟨t,e⟩:=(show ∃ t,u=Value.int i t from r);subst e;exact gS P w i t
 | inr x=>obtain ⟨t,e⟩:=(show ∃ t,u=Value.str x t from r);subst e;exact n0 P w x t
theorem Vk {P:Program}{w:World}:∀ {ks:List Key}{us:List Value},Vals (ks.map kV) us->ItemsAre (CZ P w) ks us
 | [],_,r=>by rw [Hs] at r;cases r;exact .nil
 | k :: ks,_,r=>by
  rw [BV] at r
  cases r with
  | cons h t=>exact .cons (Ml h) (Vk t)
abbrev KT (H:Hp):List (List Key×V)->List (List Key×Addr×Value)->Prop:=Paired fun p q=>p.1=q.1/\H q.2.1=some (.tup (p.1.map kV))/\RelV p.2 q.2.2
def KT.val {H:Hp}{A3:List (List Key×V)}{xs:List (List Key×Addr×Value)}(r:KT H A3 xs) (k:List Key):DI (De A3 k) ((atKey xs k).map (·.2)):=by
 induction r with
 | nil=>exact True.intro
 | @cons p q ps qs h t ih=>
  obtain ⟨h1,_,h2⟩:=h
  by_cases e:p.1=k
  ·have e':q.1=k:=h1.symm.trans e
   have b:atKey (q :: qs) k=some q.2:=by simp [atKey,Ma,e']
   rw [OX e,b];exact h2
  ·have e':¬ q.1=k:=fun z=>e (h1.trans z)
   have b:atKey (q :: qs) k=atKey qs k:=by simp [atKey,Ma,e']
   rw [NQ e,b];exact ih
def KT.Q1 {H:Hp}{A3:List (List Key×V)}{xs:List (List Key×Addr×Value)}(r:KT H A3 xs) (k:List Key){y:V}{u:Value}(ry:RelV y u) :
  KT H (A3.map fun kv=>if kv.1=k then (kv.1,y) else kv) (xs.map (putAt k u)):=by
 induction r with
 | nil=>exact .nil
 | @cons p q ps qs h t ih=>
  rw [BV,BV]
  refine .cons ?_ ih
  obtain ⟨h1,h2,h3⟩:=h
  unfold putAt
  by_cases e:p.1=k
  ·rw [if_pos e,if_pos (h1.symm.trans e)];exact ⟨h1,h2,ry⟩
  ·rw [if_neg e,if_neg (fun z=>e (h1.trans z))];exact ⟨h1,h2,h3⟩
def KT.put {H:Hp}{A3:List (List Key×V)}{xs:List (List Key×Addr×Value)}(r:KT H A3 xs) (k:List Key){b:Addr}{y:V}{u:Value}(hb:H b=some (.tup (k.map kV))) (ry:RelV y u) :
  KT H (putK A3 k y) (storedH xs k b u):=by
 have e:(A3.any fun kv=>decide (kv.1=k))=(atKey xs k).isSome:=by
  rw [Mi,(r.val k).RH,ak]
 unfold putK storedH
 rw [e]
 by_cases q:(atKey xs k).isSome=true
 ·rw [if_pos q,if_pos q];exact r.Q1 k ry
 ·rw [if_neg q,if_neg q];exact Paired.snoc r ⟨rfl,hb,ry⟩
def KT.keeps {H H':Hp}{A3:List (List Key×V)}{xs:List (List Key×Addr×Value)}(r:KT H A3 xs) (ht:∀ b ys,H b=some (.tup ys)->H' b=some (.tup ys)):KT H' A3 xs:=
 Paired.T1 r fun _ _ z=>⟨z.1,ht _ _ z.2.1,z.2.2⟩
section
variable {P:Program}{w:World}{H:Hp}{h:Heap}{a:Addr}
def WI {u:HO}(ok:B8 P w H h) (e:Rd H a u):BO P w H h a u:=e.ok ok
def M0 {A3:List (Key×V)}(ok:B8 P w H h) (e:Rd H a (.dK A3)):A3.length<=sizeLine/\(a == sysModules)=false/\∃ vs,KV A3 vs/\h.DictOf (CZ P w) a vs:=
 show BO P w H h a (.dK A3) from WI ok e
def jY {A3:List (Key×V)}(ok:B8 P w H h) (e:H a=some (.dK A3)):A3.length<=sizeLine/\(a == sysModules)=false/\∃ vs,KV A3 vs/\h.DictOf (CZ P w) a vs:=M0 ok (.inl e)
def Mx {ks:List Key}(ok:B8 P w H h) (e:H a=some (.tup (ks.map kV))):(tupleKind (CZ P w)).is h ks a:=by
 obtain ⟨_,A0,r,⟨o,h1,h2,n,h3⟩,_⟩:=(show BO P w H h a (.tup (ks.map kV)) from ok a _ e)
 exact ⟨o,A0.toArray,n,h1,h2,h3,by simpa using Vk r⟩
def N7 {A3:List (List Key×V)}(ok:B8 P w H h) (e:Rd H a (.dT A3)):A3.length<=sizeLine/\(a == sysModules)=false/\
  ∃ xs,KT H A3 xs/\h.DictOfH (tupleKind (CZ P w)) a xs:=by
 obtain ⟨z,y,xs,r,o,es,ep,h1,h2,h3,h4,h5⟩:=(show BO P w H h a (.dT A3) from WI ok e)
 refine ⟨z,y,xs,r,o,es,ep,h1,h2,h3,h4,fun x hx=>?_,h5⟩
 have all:∀ {l:List (List Key×V)}{m:List (List Key×Addr×Value)},KT H l m->∀ x∈m,(tupleKind (CZ P w)).is h x.1 x.2.1:=by
  intro l m q
  induction q with
  | nil=>intro x hx;exact nomatch hx
  | @cons p q ps qs hq t ih=>
   intro x hx
   rcases List.mem_cons.mp hx with e | hx
   ·subst e
    exact Mx ok (by rw [<- hq.1];exact hq.2.1)
   ·exact ih x hx
 exact all r x hx
def dk {A3:List (List Key×V)}(ok:B8 P w H h) (e:H a=some (.dT A3)):A3.length<=sizeLine/\(a == sysModules)=false/\
  ∃ xs,KT H A3 xs/\h.DictOfH (tupleKind (CZ P w)) a xs:=N7 ok (.inl e)
end
def GU (H:Hp) (a:Addr) (y:V) (r:Option V):Prop:=
 (∃ A3 k,Rd H a (.dK A3)/\y=kV k/\r=De A3 k)∨∃ A3 k b,Rd H a (.dT A3)/\y=.ref b/\H b=some (.tup (k.map kV))/\r=De A3 k
def LV (H:Hp) (a:Addr) (y v:V) (H':Hp):Prop:=
 (∃ A3 k,H a=some (.dK A3)/\y=kV k/\A3.length < sizeLine/\H'=upd H a (.dK (putK A3 k v)))∨
 ∃ A3 k b,H a=some (.dT A3)/\y=.ref b/\H b=some (.tup (k.map kV))/\A3.length < sizeLine/\H'=upd H a (.dT (putK A3 k v))
theorem GU.k {H:Hp}{a:Addr}{A3:List (Key×V)}{k:Key}(e:H a=some (.dK A3)):GU H a (kV k) (De A3 k):=.inl ⟨A3,k,.inl e,rfl,rfl⟩
theorem LV.k {H:Hp}{a:Addr}{A3:List (Key×V)}{k:Key}{v:V}(e:H a=some (.dK A3)) (hl:A3.length < sizeLine):LV H a (kV k) v (upd H a (.dK (putK A3 k v))):=.inl ⟨A3,k,e,rfl,hl,rfl⟩
section
variable {X:Cx}{pins:tW}{σ:St} {H:Hp}{s:Shared}{a:Addr}{y v:V}{u r:Value}{o:Option V}{A:Around}{E:Value->Shared->Prop}
def Inv.big (I:Inv X pins σ H s):sysModules < s.heap.objs.size:=by
 have h:mainGlobals < s.heap.objs.size:=(I.mod.glob.keeps I.bk).lt
 exact ai (by decide) h
def bL {Q:Value->Shared->Prop}(hu:A.units+1 < cLine) (I:Inv X pins σ H s) (g:GU H a y (some v)) (ry:RelV y u) (h:∀ w' s',Inv X pins σ H s'->RelV v w'->Q w' s') :
  wpAny (model X.prog X.w) A (getItem (.ref a) u) Q E s:=by
 rcases g with ⟨A3,k,e,ey,l⟩ | ⟨A3,k,b,e,ey,eb,l⟩
 ·subst ey
  obtain ⟨z,hd,vs,rel,dd⟩:=M0 I.A7 e
  obtain ⟨w',hw,GW⟩:=DI.some_of (v:=v) (o:=valueAt vs k) (by rw [l];exact rel.val k)
  exact wpAny_getItem_of (Ml ry) dd.mapOf hw (h w' _ (I.tok _) GW)
 ·subst ey
  cases (show u=Value.ref b from ry)
  obtain ⟨z,hd,xs,rel,dd⟩:=N7 I.A7 e
  obtain ⟨w',hw,GW⟩:=DI.some_of (v:=v) (o:=(atKey xs k).map (·.2)) (by rw [l];exact rel.val k)
  obtain ⟨p,hp,Kg⟩:=Option.map_eq_some_iff.mp hw
  refine wpAny_getItem_heap (tupleKind_room_in1 hu) (Mx I.A7 eb) dd hp ?_
  rw [Kg]
  exact h w' _ (I.tok _) GW
def jD {Q:Value->Shared->Prop}(hu:A.units+1 < cLine) (I:Inv X pins σ H s) (g:GU H a y o) (ry:RelV y u) (h:∀ s',Inv X pins σ H s'->Q (.bool (!o.isSome)) s') :
  wpAny (model X.prog X.w) A (compareOp .NotIn u (.ref a)) Q E s:=by
 rcases g with ⟨A3,k,e,ey,l⟩ | ⟨A3,k,b,e,ey,eb,l⟩
 ·subst ey
  obtain ⟨z,hd,vs,rel,dd⟩:=M0 I.A7 e
  refine wpAny_notIn_of (Ml ry) hd dd.mapOf ?_
  rw [<- (rel.val k).RH,<- l]
  exact h _ (I.tok _)
 ·subst ey
  cases (show u=Value.ref b from ry)
  obtain ⟨z,hd,xs,rel,dd⟩:=N7 I.A7 e
  refine wpAny_notIn_heap (tupleKind_room_in1 hu) (Mx I.A7 eb) hd dd ?_
  have q:=(rel.val k).RH
  rw [ak] at q
  rw [<- q,<- l]
  exact h _ (I.tok _)
def Xh {h':Heap}{t':Nat}{ob:HO}(I:Inv X pins σ H s) (mu:Jf (H a)) (hs:Heap.SameBut a s.heap h') (he:∃ q,h'.get? a=some q) (new:BO X.prog X.w (upd H a ob) h' a ob) :
  Inv X pins σ (upd H a ob) { s with heap:=h',toks:=t' }:=
 I.write (x:=a) (e:=a) mu (.inl rfl) (fun b q hb z=>(hs.2 b hb).trans z) he new
def cQ {P:Program}{w:World}{H':Hp}{h':Heap}{A3:List (Key×V)}{vs:List (Key×Value)}(z:A3.length<=sizeLine) (hd:(a == sysModules)=false) (rel:KV A3 vs) (dd:h'.DictOf (CZ P w) a vs) :
  BO P w H' h' a (.dK A3):=⟨z,hd,vs,rel,dd⟩
def qQ {H':Hp}{Q:Unit->Shared->Prop}(hu:A.units+1 < cLine) (I:Inv X pins σ H s) (g:LV H a y v H') (ry:RelV y u) (rv:RelV v r) (h:∀ s',Inv X pins σ H' s'->Q () s') :
  wpAny (model X.prog X.w) A (setItem (.ref a) u r) Q E s:=by
 rcases g with ⟨A3,k,e,ey,l,eH⟩ | ⟨A3,k,b,e,ey,eb,l,eH⟩
 ·subst ey eH
  obtain ⟨z,hd,vs,rel,dd⟩:=jY I.A7 e
  have hz:vs.length<=sizeLine:=by rw [<- rel.length];exact z
  have hl:(putK A3 k v).length<=sizeLine:=by have:=Z3 A3 k v;omega
  refine wpAny_setItem_pairs (hsz:=hz) (Ml ry) dd fun h' Mt hs=>h _ ?_
  have he:∃ q,h'.get? a=some q:=let ⟨q,_,_,hq,_⟩:=Mt;⟨q,hq⟩
  exact Xh I (by rw [e];exact True.intro) hs he (cQ hl hd (rel.put k rv) Mt)
 ·subst ey eH
  cases (show u=Value.ref b from ry)
  obtain ⟨z,hd,xs,rel,dd⟩:=dk I.A7 e
  have hz:xs.length<=sizeLine:=by rw [<- ao rel];exact z
  have hl:(putK A3 k v).length<=sizeLine:=by have:=Z3 A3 k v;omega
  refine wpAny_setItem_heap (hsz:=hz) (tupleKind_room_in1 hu) (Mx I.A7 eb) dd fun h' Mt hs=>h _ ?_
  obtain ⟨q,es,ep,hq,h2,h3,h4,_,h5⟩:=Mt
  refine Xh I (by rw [e];exact True.intro) hs ⟨q,hq⟩ ⟨hl,hd,_,(rel.put k eb rv).keeps fun c ys ec=>?_,q,es,ep,hq,h2,h3,h4,h5⟩
  rw [AF (il ec e (fun z=>nomatch z))]
  exact ec
end
section
variable {X:Cx}{pins:tW}{σ:St} {H:Hp}{s:Shared}{a:Addr}{A3:List (Key×V)}{k:Key}{u:Value}{A:Around}{E:Value->Shared->Prop}
end
def PL (i:Expr):Prop:=∀ ov iv,subscripted i false ov iv=operate [ov,iv] (getItem ov iv)
def ka {prog:Program}{w:World}{A:Around}{E:Value->Shared->Prop}{s:Shared}{env:Env}{value slice:Expr}{pos:Pos}{T id:String}{Q:Value->Shared->Prop}
  (hl:typeLookup (.type T) "__getitem__" = pure (some (.builtin id))) (hs:PL slice)
  (h:wpAny (model prog w) A (eval value env) (fun o s₁=>wpAny (model prog w) A (eval slice env) (fun i s₂=>s₂.TypeIs o T/\wpAny (model prog w) A (getItem o i) Q E s₂) E s₁) E s) :
  wpAny (model prog w) A (eval (.Subscript value slice pos) env) Q E s:=by
 refine Subscript_ (wpAny_mono h (fun o s₁ h₁=>wpAny_mono h₁ (fun i s₂ h₂=>?_) fun _ _ x=>x) fun _ _ x=>x)
 obtain ⟨hT,h₂⟩:=h₂
 unfold subscriptTail
 refine wpAny_bind ?_
 rw [getitemInPython_of_ne hT.not_modules]
 refine wpAny_bind (wpAny_specialOf hT hl ?_)
 have fin:wpAny (model prog w) A (subscripted slice false o i) (fun r s₃=>wpAny (model prog w) A (letTemporaryGo value o r >>= fun _=>pure r) Q E s₃) E s₂:=by
  rw [hs o i]
  exact wpAny_operating (wpAny_mono h₂ (fun r s₃ h₃=>wpAny_bind (wpAny_letTemporaryGo (wpAny_pure h₃))) fun _ _ x=>x)
 first
  | exact wpAny_pure (wpAny_bind fin)
  | exact wpAny_bind (wpAny_pure (wpAny_bind fin))
  | exact wpAny_bind fin
def lu {X:Cx}{pins:tW}{σ:St} {H:Hp}{s:Shared}{a:Addr}{y:V}{o:Option V}(I:Inv X pins σ H s) (g:GU H a y o):s.TypeIs (.ref a) "dict" := by
 rcases g with ⟨A3,k,e,_,_⟩ | ⟨A3,k,b,e,_,_,_⟩
 ·obtain ⟨_,_,vs,_,dd⟩:=M0 I.A7 e
  exact dd.typeIs
 ·obtain ⟨_,_,xs,_,dd⟩:=N7 I.A7 e
  exact dd.typeIs
def R0 (td ty:TE):TE:=fun σ H Q=>td σ H fun x H1=>ty σ H1 fun y H2=>∃ a v,x=.ref a/\GU H2 a y (some v)/\Q v H2
def Oq (ty td:TE):TE:=fun σ H Q=>ty σ H fun y H1=>td σ H1 fun x H2=>∃ a o,x=.ref a/\GU H2 a y o/\Q (.bl (!o.isSome)) H2
def QV (td ty tv:TE):TS:=fun D σ H=>tv σ H fun v H1=>td σ H1 fun x H2=>ty σ H2 fun y H3=>∃ a H4,x=.ref a/\LV H3 a y v H4/\D.nx σ H4
section
variable {X:Cx}{o i e value:Expr}{pos pos' So:Pos}{td ty tv:TE}
def fP (hu:X.A.units+1 < cLine) (ho:PE X o td) (hi:PE X i ty) (hs:PL i):PE X (.Subscript o i pos) (R0 td ty):=by
 intro pins s σ H Q I h
 refine ka PySem.F.slot_dict_getitem.lookup hs (AE (ho pins s σ H _ I h) fun u s1 ⟨x,H1,I1,rx,q1⟩=>AE (hi pins s1 σ H1 _ I1 q1) fun iv s2 ⟨y,H2,I2,ry,a,v,ex,g,q2⟩=>?_)
 subst ex
 obtain rfl:u=Value.ref a:=rx
 exact ⟨lu I2 g,bL hu I2 g ry fun w' s3 I3 GW=>⟨v,H2,I3,GW,q2⟩⟩
def kl (hu:X.A.units+1 < cLine) (hi:PE X i ty) (ho:PE X o td):PC X .NotIn i o (Oq ty td):=by
 intro pins s σ H Q I h
 refine AE (hi pins s σ H _ I h) fun iv s1 ⟨y,H1,I1,ry,q1⟩=>AE (ho pins s1 σ H1 _ I1 q1) fun u s2 ⟨x,H2,I2,rx,a,ov,ex,g,q2⟩=>?_
 subst ex
 obtain rfl:u=Value.ref a:=rx
 exact jD hu I2 g ry fun s3 I3=>⟨.bl (!ov.isSome),H2,I3,rfl,q2⟩
def gN (hu:X.A.units+1 < cLine) (ho:PE X o td) (hi:PE X i ty) (hv:PE X value tv) (hs:swapsWith value (some (.Subscript o i pos')) pos.line X.env=pure false) :
  PS X (.Assign [.Subscript o i pos'] value pos) (QV td ty tv):=by
 intro pins s σ H D I h
 refine wpAny_Assign_Subscript (AE (hv pins s σ H _ I h) fun r s1 ⟨v,H1,I1,rv,q1⟩=>AE (ho pins s1 σ H1 _ I1 q1) fun u s2 ⟨x,H2,I2,rx,q2⟩=>AE (hi pins s2 σ H2 _ I2 q2) fun iv s3 ⟨y,H3,I3,ry,a,H4,ex,g,q3⟩=>?_) hs
 subst ex
 obtain rfl:u=Value.ref a:=rx
 exact qQ hu I3 g ry rv fun s4 I4=>⟨σ,H4,I4,q3⟩
end
def c3 {P:Program}{w:World}{H:Hp}(h:Heap) (hb:sysModules < h.objs.size):BO P w H (h.push { cls:=.type "dict", data:=.dict #[] }) h.objs.size (.dK []):=
 ⟨Cj _,beq_eq_false_iff_ne.mpr (Ah (BP hb)),[],.nil,Heap.DictOf.new h⟩
def Th:TE:=fun _ H Q=>∀ p,H p=none->Q (.ref p) (upd H p (.dK []))
section
variable {X:Cx}{pos:Pos}
def lH:PE X (.Dict [] [] pos) Th:=fun pins s σ H Q I h=>
 wpAny_Dict_empty ⟨.ref s.heap.objs.size,_,I.laid (a:=s.heap.objs.size) (o:=.dK []) (t':=s.toks) (fun _ _ q=>B9 _ q) (AV _) (c3 s.heap I.big),rfl,h _ (I.A7.fresh (AV _))⟩
end
structure M1 (X:Cx) (o:Expr) (m:Str) (apos:Pos) (e:Expr) (BJ:Pos):Prop where
 base:attributeBase o m X.env (eval o X.env)=eval o X.env
 tQ:((backTo BJ (starEach [e] X.env)).all (fun x=>!x.1) && (backToKw BJ (keywordEach [] X.env)).all (fun x=>x.1.isSome)
  && decide (([e]:List Expr).length+([]:List Keyword).length+(if ([]:List Keyword).isEmpty then 0 else 1) < 30))=true
 line:(apos.endLine == BJ.line)=true
 trees:backTo BJ (starEach [e] X.env)=[(false,eval e X.env)]
section
variable {X:Cx}{pins:tW}{σ:St} {H:Hp}{s:Shared}{a:Addr}{y d:V}{u r:Value}{o:Option V}{A:Around}{E:Value->Shared->Prop}
end
section
variable {X:Cx}{o e f:Expr}{apos BJ:Pos}{td ty tx:TE}
end
section
variable {X:Cx}{pins:tW}{σ:St} {H:Hp}{s:Shared}{a:Addr}{A3:List (Key×V)}{A:Around}{E:Value->Shared->Prop}
end
section
variable {X:Cx}{pins:tW}{σ:St} {H:Hp}{s:Shared}{a:Addr}{y:V}{u:Value}{A:Around}{E:Value->Shared->Prop}
end
def nV {α β:Type} {l:List α}{f:α->β->Sem (ForInStep β)}(g:β->α->β) (h:∀ x∈l,∀ c,f x c=pure (.yield (g c x))):∀ c,forIn l c f=pure (l.foldl g c):=by
 induction l with
 | nil=>intro c;rfl
 | cons x l ih=>
  intro c
  rw [List.forIn_cons,h x J0,pure_bind]
  exact ih (fun y hy=>h y (Fe _ hy)) (g c x)
def Io (cells:List (Str×Addr)) (cs:List (Str×Addr)) (x:Str×NameKind):List (Str×Addr):=
 if x.2=.free then (x.1,(cells.lookup x.1).getD 0) :: cs else cs
def Bb (cells:List (Str×Addr)) (names:List (Str×NameKind)):List (Str×Addr):=names.foldl (Io cells) []
def VJ {scope:Scope}{env:Env}(h:∀ x∈scope.names,x.2=.free->(env.cells.lookup x.1).isSome=true):closureFor scope env=pure (Bb env.cells scope.names):=by
 simp only [closureFor]
 rw [nV (Io env.cells) (fun x hx c=>by
  obtain ⟨n,k⟩:=x
  unfold Io
  by_cases hk:k=NameKind.free
  ·subst hk
   have q:=h _ hx rfl
   obtain ⟨a,ha⟩:=Option.isSome_iff_exists.mp q
   have ZJ:env.cells.lookup n=some a:=ha
   have hc:cellOf env n=pure a:=by unfold cellOf;rw [ZJ]
   simp [hc,ZJ]
  ·have:(k == NameKind.free)=false:=by simpa using hk
   simp [this,hk])]
 rfl
theorem SW {cells:List (Str×Addr)}:∀ (names:List (Str×NameKind)) (acc:List (Str×Addr)),(∀ y∈names,y.2=.free->(cells.lookup y.1).isSome=true)->
  (∀ x c,acc.lookup x=some c->cells.lookup x=some c)->∀ x c,(names.foldl (Io cells) acc).lookup x=some c->cells.lookup x=some c
 | [],acc,_,ha,x,c,e=>ha x c e
 | (n,k) :: r,acc,hs,ha,x,c,e=>by
  rw [aV] at e
  refine SW r _ (fun y hy=>hs y (Fe _ hy)) (fun x c e=>?_) x c e
  unfold Io at e
  by_cases hk:k=NameKind.free
  ·rw [if_pos hk] at e
   have q:=hs _ J0 hk
   obtain ⟨a,q⟩:=Option.isSome_iff_exists.mp q
   have q':cells.lookup n=some a:=q
   rw [HD] at e
   by_cases hx:x=n
   ·subst hx
    simp only [beq_self_eq_true,q',Option.getD_some] at e
    rw [q',<- e]
   ·have hb:(x == n)=false:=by simpa using hx
    rw [hb] at e
    exact ha x c e
  ·rw [if_neg hk] at e
   exact ha x c e
theorem Lg {cells:List (Str×Addr)}{x:Str}:∀ (names:List (Str×NameKind)) (acc:List (Str×Addr)),((acc.lookup x).isSome=true∨(x,NameKind.free)∈names)->
  ((names.foldl (Io cells) acc).lookup x).isSome=true
 | [],acc,h=>by
  rcases h with h | h
  ·exact h
  ·cases h
 | (n,k) :: r,acc,h=>by
  rw [aV]
  refine Lg r _ ?_
  unfold Io
  rcases h with h | h
  ·refine .inl ?_
   split
   ·rw [HD]
    split
    ·rfl
    ·exact h
   ·exact h
  ·rcases List.mem_cons.mp h with e | h
   ·cases e
    refine .inl ?_
    rw [if_pos rfl,HD]
    simp
   ·exact .inr h
theorem Lk {env:Env}:∀ (names:List (Str×NameKind)) (x:Str),
  (names.map fun (n,k)=>if (k == NameKind.free && env.scope.kind == .function && env.kindOf n == some .cell) then (n,NameKind.cell) else (n,k)).lookup x =
   (names.lookup x).map fun k=>if (k == NameKind.free && env.scope.kind == .function && env.kindOf x == some .cell) then NameKind.cell else k
 | [],x=>rfl
 | (n,k) :: r,x=>by
  have ih:=Lk (env:=env) r x
  rw [BV]
  by_cases hc:(k == NameKind.free && env.scope.kind == .function && env.kindOf n == some .cell)=true
  ·show List.lookup x ((if (k == NameKind.free && env.scope.kind == .function && env.kindOf n == some .cell)=true then (n,NameKind.cell) else (n,k)) :: _)=_
   rw [if_pos hc,HD,HD]
   by_cases hx:x=n
   ·subst hx;simp only [beq_self_eq_true,Me];rw [if_pos hc]
   ·have hb:(x == n)=false:=by simpa using hx
    rw [hb];exact ih
  ·show List.lookup x ((if (k == NameKind.free && env.scope.kind == .function && env.kindOf n == some .cell)=true then (n,NameKind.cell) else (n,k)) :: _)=_
   rw [if_neg hc,HD,HD]
   by_cases hx:x=n
   ·subst hx;simp only [beq_self_eq_true,Me];rw [if_neg hc]
   ·have hb:(x == n)=false:=by simpa using hx
    rw [hb];exact ih
abbrev Ai (X:Cx) (N:List Str) (scope:Scope) (cl:List (Str×Addr)) (C:Addr) (s:Shared) (H:Hp) (fp:List Addr):Cx:=
 { X with N:=N,s₀:=s,H₀:=H,env:=compEnvC scope cl C X.env,outer:=X.stack,ex:=fp,fn:=fun _=>false,pn:=[],xe:=fun _ _=>False }
def Ac (js:List Nat) (σ:St):St:=js.map fun j=>(σ[j]?).join
structure Dz (N:List Str) (outer scope:Scope) (x:Str) (AA:List Str) (js:List Nat):Prop where
 kind:scope.kind=.function
 Lm:∀ y∈scope.names,y.2≠.cell
 loc:∀ y∈scope.names,y.2=.local->scope.names.lookup y.1=some .local
 LD:scope.names.lookup x=some .local
 at':js.map (fun j=>N[j]?)=AA.map some
 cell:∀ y∈AA,outer.names.lookup y=some .cell
 free:∀ y∈AA,scope.names.lookup y=some .free
 all:∀ y∈scope.names,y.2=.free->outer.names.lookup y.1=some .cell
 nd:(AA++[x]).Nodup
def GY (X:Cx) (ifs:List Expr) (t:TT):Prop:=
 ∀ (pins:tW) (s:Shared) (σ:St) (H:Hp) (Q:Bool->Hp->Prop),Inv X pins σ H s->t σ H Q->
  wpAny (model X.prog X.w) X.A (forIn ifs true fun c r=>if r=true then do let ok <- isTrue c X.env (eval c X.env);pure (ForInStep.yield ok) else pure (ForInStep.yield r)) (TP X pins σ Q) X.xe s
def Ro:TT:=fun _ H Q=>Q true H
def b4 {X:Cx}:GY X [] Ro:=fun pins s σ H Q I h=>by
 rw [List.forIn_nil];exact wpAny_pure ⟨H,I,h⟩
def O7 (J:It) (js:List Nat) (tt:TT) (te:TE) (σ:St) (H1:Hp) (acc:Addr) (Q:VK):Prop:=
 ∃ W:Nat->Nat->Hp->Prop,(∃ m,W 0 m (upd H1 acc (.lst [])))/\∀ i m H2,W i m H2->
  (J.stop i H2/\Q (.ref acc) H2)∨(J.go i H2/\∀ x H3,J.E6 i H2 x H3->tt (Ac js σ++[some x]) H3 fun b H4=>
   if b=true then te (Ac js σ++[some x]) H4 fun y H5=>∃ ys,H5 acc=some (.lst ys)/\ys.length < sizeLine/\∃ m',m' < m/\W (i+1) m' (upd H5 acc (.lst (ys++[y])))
   else ∃ m',m' < m/\W (i+1) m' H4)
def Jp (wi:TI) (js:List Nat) (tt:TT) (te:TE):TE:=fun σ H Q=>wi σ H fun J H1=>∀ acc,H1 acc=none->O7 J js tt te σ H1 acc Q
def qH {α:Type} (l:List α) (a b:α):(l++[a]).set l.length b=l++[b]:=by
 induction l with
 | nil=>rfl
 | cons x l ih=>simp [ih]
section
variable {X:Cx}{pins:tW}{σ:St} {H2:Hp}{s2:Shared}{elt iter:Expr}{x:Str}{px pos:Pos}{ifs:List Expr}{scope:Scope}{AA:List Str}{js:List Nat}{tt:TT}{te:TE}{J:It}{fp:List Addr}{it:Addr}
 {tn:Nat->Heap->Prop}
def kN (S:Dz X.N X.env.scope scope x AA js) (I3:Inv X pins σ H2 s2) (f2:∀ b∈fp,Bw X pins H2 b) (Qq:∀ b∈fp,b < s2.heap.objs.size){h1:Heap}
  {m:tX}(En:h1.Ns s2.heap.objs.size m) (old:∀ b o,s2.heap.get? b=some o->h1.get? b=some o){t':Nat} :
  Inv (Ai X (AA++[x]) scope (Bb X.env.cells scope.names) s2.heap.objs.size s2 H2 fp) [] (Ac js σ++[none]) H2 { s2 with heap:=h1,toks:=t' }:=by
 have Qj:∀ y∈scope.names,y.2=.free->(X.env.cells.lookup y.1).isSome=true:=fun y hy hk=>by
  obtain ⟨c,e⟩:=I3.ok.has y.1 (.inl (S.all y hy hk))
  rw [e];rfl
 have EE:∀ y c,(Bb X.env.cells scope.names).lookup y=some c->X.env.cells.lookup y=some c:=SW scope.names [] Qj (fun _ _ e=>by cases e)
 have La:∀ y k,(relabel scope X.env).names.lookup y=some k->k=.cell∨k=.free->scope.names.lookup y=some .free:=fun y k e hk=>by
  have e':=(Lk (env:=X.env) scope.names y).symm.trans e
  cases q:scope.names.lookup y with
  | none=>rw [q] at e';cases e'
  | some k0=>
   rw [q] at e'
   have Ag:=S.Lm _ (G9 q)
   cases k0 with
   | free=>rfl
   | cell=>exact absurd rfl Ag
   | _=>simp at e';rcases hk with rfl | rfl <;> cases e'
 have hlen:js.length=AA.length:=by have:=congrArg List.length S.at';simpa using this
 have kQ:∀ y c,X.env.cells.lookup y=some c->c < s2.heap.objs.size:=fun y c e=>by
  obtain ⟨v,o,ho,_⟩:=I3.cell y c e
  exact AY ho
 have cellK:∀ c v,s2.heap.IsCell c v->h1.IsCell c v:=fun c v ⟨o,ho,hd⟩=>⟨o,old c o ho,hd⟩
 refine ⟨⟨I3.ok.mod,S.kind,I3.ok.glob,I3.ok.blt,AV _,fun y z c e1 e2=>I3.ok.inj y z c (EE y c e1) (EE z c e2),fun y hy=>?_,fun y c hf _=>(by cases hf),I3.ok.hd,I3.ok.frames,.inl rfl,fun b hb=>⟨BP (Qq b hb),fun y c e=>(f2 b hb).2.2.2.2.1 y c (EE y c e)⟩,
  fun b o e=>I3.bs b o e,Bt I3.ok.E5 I3.sz,fun b o e hb=>?_,fun b hb hs=>?_,I3.stack,I3.Kr⟩,rfl,I3.bare,Un.kept old,⟨m,En,fun i y v e1 e2 e3=>?_⟩,fun y c e=>?_,I3.A7.fresh (AV _),fun y c e=>I3.CW y c (EE y c e),fun p hp=>(by cases hp),I3.A7.kept old,?_⟩
 ·have hf:scope.names.lookup y=some .free:=by
   rcases hy with hy | hy
   ·exact La y _ hy (.inl rfl)
   ·exact La y _ hy (.inr rfl)
  exact Option.isSome_iff_exists.mp (Lg scope.names [] (.inr (G9 hf)))
 ·rcases (f2 b hb).2.2.2.1 with z | z
  ·exact I3.ok.GQ b o e z
  ·exact absurd (CU (CU (AY e) I3.ok.E5) z) (J3 _)
 ·rcases List.mem_cons.mp (I3.JX b hs) with z | z
  ·exact (f2 b hb).2.1 z
  ·exact (f2 b hb).2.2.1 z
 ·have HJ:(Ac js σ).length=AA.length:=by unfold Ac;rw [AJ,hlen]
  have hi:i < AA.length:=by
   by_cases hi:i < AA.length
   ·exact hi
   ·have Af:(Ac js σ++[none])[i]?=some (some v):=e2
    rw [EX (by rw [HJ];omega),HJ] at Af
    cases hd:i - AA.length with
    | zero=>rw [hd] at Af;cases Af
    | succ k=>rw [hd] at Af;simp at Af
  have CF:AA[i]?=some y:=by
   have CF:(AA++[x])[i]?=some y:=e1
   rwa [EW hi] at CF
  have Af:(Ac js σ)[i]?=some (some v):=by
   have Af:(Ac js σ++[none])[i]?=some (some v):=e2
   rwa [EW (by rw [HJ];exact hi)] at Af
  have Fb:y∈AA:=EZ CF
  unfold Ac at Af
  rw [Ak] at Af
  cases hj:js[i]? with
  | none=>rw [hj] at Af;cases Af
  | some j=>
   rw [hj] at Af
   have hN:X.N[j]?=some y:=by
    have q:=congrArg (fun l=>l[i]?) S.at'
    simp only [Ak,hj,CF,Me] at q
    exact BA q
   have hσ:σ[j]?=some (some v):=by
    simp only [Me,sH] at Af
    cases q:σ[j]? with
    | none=>rw [q] at Af;cases Af
    | some w=>rw [q] at Af;simp at Af;rw [Af]
   obtain ⟨m0,eV,Ph⟩:=I3.loc
   obtain ⟨u,r,l⟩:=Ph j y v hN hσ (.inr (.inl (S.cell y Fb)))
   refine ⟨u,r,?_⟩
   rcases l with ⟨k,_⟩ | ⟨_,c,e,z⟩
   ·have k':X.env.scope.names.lookup y=some .local:=k
    rw [S.cell y Fb] at k';cases k'
   ·have Qo:X.env.kindOf y=some .cell:=S.cell y Fb
    have hk:(relabel scope X.env).names.lookup y=some .cell:=by
     refine (Lk (env:=X.env) scope.names y).trans ?_
     rw [S.free y Fb]
     simp [I3.ok.kind,Qo]
    obtain ⟨c',e'⟩:=Option.isSome_iff_exists.mp (Lg (cells:=X.env.cells) scope.names [] (.inr (G9 (S.free y Fb))))
    have KZ:=EE y c' e'
    rw [e] at KZ;cases KZ
    exact .inr ⟨.inl hk,c,e',cellK c _ z⟩
 ·obtain ⟨v,z⟩:=I3.cell y c (EE y c e)
  exact ⟨v,cellK c v z⟩
 ·show (Ac js σ++[none]).length=(AA++[x]).length
  unfold Ac
  simp [hlen]
def jH {acc C:Addr}{s3:Shared}{H3:Hp}{cl:List (Str×Addr)}{s4:Shared}{w0:Option V}{H4:Hp}{R:Result->Shared->Prop}(hc:X.calm=true) (S:Dz X.N X.env.scope scope x AA js)
  (CV:GY (Ai X (AA++[x]) scope cl C s3 H3 fp) ifs tt) (Cb:PE (Ai X (AA++[x]) scope cl C s3 H3 fp) elt te)
  (T:Turn X.prog X.w X.K (.Name x px) J fp it tn) (RP:∀ b∈fp,(Ai X (AA++[x]) scope cl C s3 H3 fp).Ok->Bw (Ai X (AA++[x]) scope cl C s3 H3 fp) [] (fun _=>none) b)
  (W:Nat->Nat->Hp->Prop) (Q:VK)
  (turn:∀ i m H2,W i m H2->(J.stop i H2/\Q (.ref acc) H2)∨(J.go i H2/\∀ x H3,J.E6 i H2 x H3->tt (Ac js σ++[some x]) H3 fun b H4=>
   if b=true then te (Ac js σ++[some x]) H4 fun y H5=>∃ ys,H5 acc=some (.lst ys)/\ys.length < sizeLine/\∃ m',m' < m/\W (i+1) m' (upd H5 acc (.lst (ys++[y])))
   else ∃ m',m' < m/\W (i+1) m' H4))
  (I4:Inv (Ai X (AA++[x]) scope cl C s3 H3 fp) [] (Ac js σ++[w0]) H4 s4) (GD:tn 0 s4.heap) (SJ:∀ b∈fp,H4 b=none) (m0:Nat) (w4:W 0 m0 H4)
  (hR:∀ H' s' w,Inv (Ai X (AA++[x]) scope cl C s3 H3 fp) [] (Ac js σ++[w]) H' s'->Q (.ref acc) H'->R (.ok .next) s') :
  codeAny (model X.prog X.w) X.A (.compLoop (.ListComp elt [⟨.Name x px,iter,ifs,0⟩] scope pos) 0 (.ref it) (.ref acc) (compEnvC scope cl C X.env)) R s4:=by
 have hlen:(Ac js σ).length=AA.length:=by
  unfold Ac;rw [AJ];have:=congrArg List.length S.at';simpa using this
 have hN:(AA++[x])[(Ac js σ).length]?=some x:=by rw [hlen];simp
 have lE:Loc (relabel scope X.env) x:=.inl (lookup_relabel_local S.LD)
 have A7:=I4.ok
 have FU:∀ {H':Hp},(∀ b∈fp,H' b=none)->∀ b∈fp,Bw (Ai X (AA++[x]) scope cl C s3 H3 fp) [] H' b:=fun hn b hb=>⟨hn b hb,(RP b hb A7).2⟩
 refine codeAny_compLoop_tests (fun n s'=>∃ i w H',Inv (Ai X (AA++[x]) scope cl C s3 H3 fp) [] (Ac js σ++[w]) H' s'/\tn i s'.heap/\(∀ b∈fp,H' b=none)/\W i n H') ?_ m0 ⟨0,w0,H4,I4,GD,SJ,w4⟩
 rintro n s5 ⟨i,w,H5,I5,GZ,Ig,w5⟩
 rcases turn i n H5 w5 with ⟨stop,q⟩ | ⟨go,step⟩
 ·refine wpAny_mono (T.done (Ai X (AA++[x]) scope cl C s3 H3 fp) rfl rfl rfl hc i [] s5 _ H5 (fun _ _=>False) I5 (FU Ig) GZ stop) (fun r s6 ⟨hr,I6⟩=>?_) fun _ _ z=>z.elim
  subst hr
  exact hR H5 s6 w I6 q
 ·refine wpAny_mono (T.item (Ai X (AA++[x]) scope cl C s3 H3 fp) rfl rfl rfl hc i [] s5 _ H5 (fun _ _=>False) I5 (FU Ig) GZ go) (fun r s6 ⟨u,hr,h6⟩=>?_) fun _ _ z=>z.elim
  subst hr
  have key:∀ (Q':Unit->Shared->Prop) (E':Value->Shared->Prop) (f:Unit->Sem Unit),wpAny (model X.prog X.w) X.A (letOwnedTupleGo (.Name x px) (.ref it) u >>= f) Q' E' s6->wpAny (model X.prog X.w) X.A (f ()) Q' E' s6:=fun Q' E' f h=>h
  refine key _ _ (fun _=>assign (.Name x px) (compEnvC scope cl C X.env) u) (wpAny_bind (wpAny_mono h6 (fun _ s7 ⟨v,H7,I7,r7,y7,IL,U6⟩=>?_) fun _ _ z=>z.elim))
  have Qv:=I7.pinned (FU U6) (T.obj _ _ IL)
  refine wpAny_mono (Ru (X:=Ai X (AA++[x]) scope cl C s3 H3 fp) (pos:=px) S.nd hN lE (.inr (lookup_relabel_local S.LD)) _ s7 _ H7 v u
   (fun σ8 H8=>σ8=Ac js σ++[some v]/\H8=H7) Qv r7 ⟨qH _ _ _,rfl⟩) (fun _ s8 ⟨σ8,H8,I8,e8,SO⟩=>?_) fun _ _ z=>z.elim
  subst e8;subst SO
  refine wpAny_mono (CV _ s8 _ H8 _ I8 (step v H8 y7)) (fun b s9 ⟨H9,I9,q9⟩=>?_) fun _ _ z=>z.elim
  have again:∀ {σa:St} {Ha:Hp}{sa:Shared},Inv (Ai X (AA++[x]) scope cl C s3 H3 fp) ([]++JZ fp s7.heap) σa Ha sa->tn (i+1) sa.heap/\(∀ b∈fp,Ha b=none):=fun {σa Ha sa} Ia=>by
   refine ⟨T.keep _ _ _ IL fun b hb o e=>(Ia.pin (b,o) (E9 _ (E9 _ (Jt hb e)))).1,fun b hb=>?_⟩
   obtain ⟨o,e,d⟩:=T.obj _ _ IL b hb
   exact (Ia.pin (b,o) (E9 _ (E9 _ (Jt hb e)))).2.1
  cases b with
  | false=>
   have TN:∃ m',m' < n/\W (i+1) m' H9:=q9
   obtain ⟨m',hm,w9⟩:=TN
   rw [if_neg (by decide)]
   exact ⟨m',hm,i+1,_,H9,I9.Ic,(again I9).1,(again I9).2,w9⟩
  | true=>
   rw [if_pos rfl]
   rw [if_pos rfl] at q9
   refine wpAny_mono (Cb _ s9 _ H9 _ I9 q9) (fun yv P0 ⟨y,LC,Ow,Pg,ys,BX,hz,m',hm,UE⟩=>?_) fun _ _ z=>z.elim
   refine wpAny_mono (US (X:=Ai X (AA++[x]) scope cl C s3 H3 fp) _ P0 _ LC (.ref acc) [y] (.ref acc) [yv] (fun _ LO=>LO=upd LC acc (.lst (ys++[y]))) Ow rfl (.cons Pg .nil) ⟨acc,ys,y,rfl,rfl,BX,hz,rfl⟩)
    (fun _ dq ⟨_,LO,I0,_,RM⟩=>?_) fun _ _ z=>z.elim
   subst RM
   exact ⟨m',hm,i+1,_,_,I0.Ic,(again I0).1,(again I0).2,UE⟩
def XN {RR:Value->Addr->Result->Shared->Prop}{E:Value->Shared->Prop}(hc:X.calm=true) (S:Dz X.N X.env.scope scope x AA js)
  (CV:∀ C s H,GY (Ai X (AA++[x]) scope (Bb X.env.cells scope.names) C s H fp) ifs tt) (Cb:∀ C s H,PE (Ai X (AA++[x]) scope (Bb X.env.cells scope.names) C s H fp) elt te)
  (T:Turn X.prog X.w X.K (.Name x px) J fp it tn) (I2:Inv X pins σ H2 s2) (ER:tn 0 s2.heap) (f2:∀ b∈fp,Bw X pins H2 b) (Q:VK) (hW:∀ acc,H2 acc=none->O7 J js tt te σ H2 acc Q)
  (P4:∀ acc C H' s' m,Inv X pins σ H' s'->Bw X pins H' C->s'.heap.Ns C m->Q (.ref acc) H'->RR (.ref acc) C (.ok .next) s') :
  wpAny (model X.prog X.w) X.A (newList []) (fun acc s3=>wpAny (model X.prog X.w) X.A (newFunctionEnv scope X.env.globals (Bb X.env.cells scope.names) [] X.env.qual none .none (some X.env)) (fun Ku s4=>
   codeAny (model X.prog X.w) X.A (.compStart (.ListComp elt [⟨.Name x px,iter,ifs,0⟩] scope pos) 0 (.ref it) acc { Ku with scope:=relabel scope X.env }) (RR acc Ku.locals) s4) E s3) E s2:=by
 refine wpAny_newObj_type (wpAny_newFunctionEnv S.Lm (fun y hy=>by cases hy) (fun h1 En FY=>?_) S.kind)
 have I3:Inv X pins σ (upd H2 s2.heap.objs.size (.lst [])) { s2 with heap:=s2.heap.push { cls:=.type "list", data:=.seq ([]:List Value).toArray } }:=I2.Rl (t':=s2.toks) .nil (Cj _)
 have AM:∀ b∈fp,b < s2.heap.objs.size:=fun b hb=>by
  obtain ⟨o,e,_⟩:=T.obj _ _ ER b hb
  exact AY e
 have hsz:(s2.heap.push { cls:=.type "list", data:=.seq ([]:List Value).toArray }).objs.size=s2.heap.objs.size+1:=Ho ..
 have f3:∀ b∈fp,Bw X pins (upd H2 s2.heap.objs.size (.lst [])) b:=fun b hb=>⟨by rw [AF (BP (AM b hb))];exact (f2 b hb).1,(f2 b hb).2⟩
 generalize Jm:({ s2 with heap:=s2.heap.push { cls:=.type "list", data:=.seq ([]:List Value).toArray } }:Shared)=s3 at I3 En FY ⊢
 have Lz:s3.heap=s2.heap.push { cls:=.type "list", data:=.seq ([]:List Value).toArray }:=by rw [<- Jm]
 have Sq:∀ b∈fp,b < s3.heap.objs.size:=fun b hb=>by rw [Lz,hsz];exact sE (AM b hb)
 have old:∀ b o,s3.heap.get? b=some o->h1.get? b=some o:=fun b o e=>FY.extBut b o (BP (AY e)) (B9 _ e)
 have SK:∀ b o,s2.heap.get? b=some o->h1.get? b=some o:=fun b o e=>old b o (by rw [Lz];exact B9 _ e)
 have I4:=kN S I3 f3 Sq En old (t':=s3.toks+([]:List (Str×Value)).length)
 have GD:tn 0 h1:=T.keep _ _ _ ER fun b _ o e=>SK b o e
 obtain ⟨W,⟨m0,w0⟩,turn⟩:=hW s2.heap.objs.size (I2.A7.fresh (AV _))
 have loop:codeAny (model X.prog X.w) X.A (.compLoop (.ListComp elt [⟨.Name x px,iter,ifs,0⟩] scope pos) 0 (.ref it) (.ref s2.heap.objs.size) (compEnvC scope (Bb X.env.cells scope.names) s3.heap.objs.size X.env))
   (RR (.ref s2.heap.objs.size) s3.heap.objs.size) { s3 with heap:=h1,toks:=s3.toks+([]:List (Str×Value)).length }:=by
  refine jH (acc:=s2.heap.objs.size) (Q:=Q) hc S (CV _ _ _) (Cb _ _ _) T (fun b hb ok=>⟨rfl,(ok.GK b hb).1,ok.Gf b hb,.inl hb,(ok.GK b hb).2,fun p hp=>by cases hp⟩) W turn I4 GD (fun b hb=>(f3 b hb).1) m0 w0 fun H' s' w I' q=>?_
  obtain ⟨m,hn,_⟩:=I'.loc
  exact P4 _ _ H' s' m (I3.XQ (ch:=fp) I'.os I'.base I'.A7 I'.bare fun b hb=>⟨(f3 b hb).2.2.2.1,(f3 b hb).2.1,(f3 b hb).2.2.2.2.1,(f3 b hb).2.2.2.2.2⟩) (I3.Hy (AV _) I'.free) hn q
 exact codeAny_compStart_list loop (T.self X.A 0 _ _ _ GD loop)
def Xf {σ:St} {H:Hp}{s:Shared}(S:Dz X.N X.env.scope scope x AA js) (I:Inv X pins σ H s):closureFor scope X.env=pure (Bb X.env.cells scope.names):=VJ fun y hy hk=>by
 obtain ⟨c,e⟩:=I.ok.has y.1 (.inl (S.all y hy hk))
 rw [e];rfl
def cu {wi:TI}(hc:X.calm=true) (S:Dz X.N X.env.scope scope x AA js) (hi:PI X (.Name x px) iter wi)
  (CV:∀ fp C s H,GY (Ai X (AA++[x]) scope (Bb X.env.cells scope.names) C s H fp) ifs tt) (Cb:∀ fp C s H,PE (Ai X (AA++[x]) scope (Bb X.env.cells scope.names) C s H fp) elt te)
  (hs:∀ v,foldedSetIterable iter X.env v=pure v:=by intro _;rfl):PE X (.ListComp elt [⟨.Name x px,iter,ifs,0⟩] scope pos) (Jp wi js tt te):=by
 intro pins s σ H Q I h
 rw [eval_ListComp]
 refine wpAny_comprehension_free (use:=none) rfl hs (Xf S I) S.kind S.loc (AE (hi pins s σ H _ I h) fun v s1 h1=>AE h1 fun LI s2 h2=>?_)
 obtain ⟨it,fp,tn,J,H2,e,I2,T,ER,f2,hW⟩:=h2
 subst e
 refine XN (RR:=fun acc C=>compPost (model X.prog X.w) X.A X.xe none (EP X pins σ Q) acc C) hc S (CV fp) (Cb fp) T I2 ER f2 Q hW fun acc C H' s' m I' fC hn q=>⟨m,hn,fun h' FY=>?_⟩
 exact ⟨.ref acc,H',I'.turned (t':=s'.toks) (fun b o hb e=>(FY.2 b hb).trans e) fC.1 fC.2.1 fC.2.2.2.1 fC.2.2.2.2.1 fC.2.2.2.2.2,rfl,q⟩
def cY {wi:TI}{i:Nat}{y:Str}{py KR:Pos}(hN:X.N.Nodup) (Du:X.N[i]?=some y) (hy:Loc X.env.scope y) (hc:X.calm=true) (S:Dz X.N X.env.scope scope x AA js) (hi:PI X (.Name x px) iter wi)
  (CV:∀ fp C s H,GY (Ai X (AA++[x]) scope (Bb X.env.cells scope.names) C s H fp) ifs tt) (Cb:∀ fp C s H,PE (Ai X (AA++[x]) scope (Bb X.env.cells scope.names) C s H fp) elt te)
  (RA:swapsWith (.ListComp elt [⟨.Name x px,iter,ifs,0⟩] scope pos) (some (.Name y py)) KR.line X.env=pure true:=by rfl)
  (hf:X.fn y=true∨X.env.scope.names.lookup y=some .local:=by first | exact .inl rfl | exact .inr rfl | assumption)
  (hs:∀ v,foldedSetIterable iter X.env v=pure v:=by intro _;rfl):PS X (.Assign [.Name y py] (.ListComp elt [⟨.Name x px,iter,ifs,0⟩] scope pos) KR) (DM (Jp wi js tt te) (BU i)):=by
 intro pins s σ H D I h
 rw [exec_Assign_Name_used _ _ _ _ RA]
 refine wpAny_bind (wpAny_standAt (wpAny_bind ?_))
 show wpAny _ X.A (do let _ <- comprehension (.ListComp elt [⟨.Name x px,iter,ifs,0⟩] scope pos) scope X.env _ (newList []) false (eval iter X.env) (some (assign (.Name y py) X.env))) _ _ s
 refine wpAny_bind (wpAny_mono (wpAny_comprehension_free (use:=some (assign (.Name y py) X.env)) (Q:=fun _ s'=>SP X pins D .next s') rfl hs (Xf S I) S.kind S.loc
  (AE (hi pins s σ H _ I h) fun v s1 h1=>AE h1 fun LI s2 h2=>?_)) (fun _ s' hq=>wpAny_pure (wpAny_pure hq)) fun _ _ e=>e)
 obtain ⟨it,fp,tn,J,H2,e,I2,T,ER,f2,hW⟩:=h2
 subst e
 refine XN (RR:=fun acc C=>compPost (model X.prog X.w) X.A X.xe (some (assign (.Name y py) X.env)) (fun _ s'=>SP X pins D .next s') acc C) hc S (CV fp) (Cb fp) T I2 ER f2 _ hW fun acc C H' s' m I' fC hn q=>?_
 show wpAny _ X.A (assign (.Name y py) X.env (.ref acc)) _ _ s'
 refine wpAny_assign_Name (Pu (v:=.ref acc) I' hN Du hy rfl (fun Kx lJ ⟨a,nG,ha⟩=>?_) hf)
 have Ag:C≠a:=by
  rcases ha with z | z
  ·rw [z];exact fC.2.1
  ·exact (fC.2.2.2.2.1 y a z).symm
 refine ⟨m,hn.sameBut nG Ag,fun h' FY=>?_⟩
 exact ⟨_,H',lJ.turned (t':=Kx.toks) (fun b o hb e=>(FY.2 b hb).trans e) fC.1 fC.2.1 fC.2.2.2.1 fC.2.2.2.2.1 fC.2.2.2.2.2,q⟩
end
def Dv (K:tV) (tp:Bool) (H:Hp) (a:Addr) (xs:List V):Prop:=match tp with
 | false=>AG K H a xs
 | true=>AU K H a xs
def Dv.or {K:tV}{tp:Bool}{H:Hp}{a:Addr}{xs:List V}(h:Dv K tp H a xs):AG K H a xs∨AU K H a xs:=by
 cases tp
 ·exact .inl h
 ·exact .inr h
def Mf (K:tV) (tp:Bool) (a:Addr) (xs:List V):It:=
 ⟨fun i H=>Dv K tp H a xs/\i < xs.length,fun i H x H'=>H'=H/\xs[i]?=some x,fun i H=>Dv K tp H a xs/\xs.length<=i⟩
section
variable {X:Cx}{tg:Expr}
def dA {P:Program}{w:World}{K:tV}(a it:Addr) (xs:List V):Turn P w K tg (Mf K false a xs) [it] it (fun i h=>h.IsListIter it a i) where
 mem:=by simp
 obj:=(JN (P:=P) (w:=w) (K:=K) (tg:=tg) a it).obj
 keep:=(JN (P:=P) (w:=w) (K:=K) (tg:=tg) a it).keep
 item:=by
  intro X hP hw hK hc i pins s σ H E I hf st hg
  obtain ⟨hq,hi⟩:=hg
  refine AE ((JN (P:=P) (w:=w) (K:=K) (tg:=tg) a it).item X hP hw hK hc i pins s σ H E I hf st ⟨xs,xs[i],hq,by simp [hi]⟩) fun r s1 ⟨u,e,h⟩=>⟨u,e,AE h fun _ s2 ⟨x,H',I',rx,y,D0,f'⟩=>⟨x,H',I',rx,⟨y.1,y.2 xs hq⟩,D0,f'⟩⟩
 done:=by
  intro X hP hw hK hc i pins s σ H E I hf st hg
  exact (JN (P:=P) (w:=w) (K:=K) (tg:=tg) a it).done X hP hw hK hc i pins s σ H E I hf st ⟨xs,hg.1,hg.2⟩
 self:=(JN (P:=P) (w:=w) (K:=K) (tg:=tg) a it).self
def i3 {P:Program}{w:World}{K:tV}(a it:Addr) (xs:List V):Turn P w K tg (Mf K true a xs) [it] it (fun i h=>h.IsTupleIter it a i) where
 mem:=by simp
 obj:=(L6 (P:=P) (w:=w) (K:=K) (tg:=tg) a it).obj
 keep:=(L6 (P:=P) (w:=w) (K:=K) (tg:=tg) a it).keep
 item:=by
  intro X hP hw hK hc i pins s σ H E I hf st hg
  obtain ⟨hq,hi⟩:=hg
  refine AE ((L6 (P:=P) (w:=w) (K:=K) (tg:=tg) a it).item X hP hw hK hc i pins s σ H E I hf st ⟨xs,xs[i],hq,by simp [hi]⟩) fun r s1 ⟨u,e,h⟩=>⟨u,e,AE h fun _ s2 ⟨x,H',I',rx,y,D0,f'⟩=>⟨x,H',I',rx,⟨y.1,y.2 xs hq⟩,D0,f'⟩⟩
 done:=by
  intro X hP hw hK hc i pins s σ H E I hf st hg
  exact (L6 (P:=P) (w:=w) (K:=K) (tg:=tg) a it).done X hP hw hK hc i pins s σ H E I hf st ⟨xs,hg.1,hg.2⟩
 self:=(L6 (P:=P) (w:=w) (K:=K) (tg:=tg) a it).self
def Qe (K:tV) (tl:TE):TI:=fun σ H R=>tl σ H fun x H1=>∃ tp a xs,x=.ref a/\Dv K tp H1 a xs/\R (Mf K tp a xs) H1
def rC {l:Expr}{tl:TE}(hl:PE X l tl):PI X tg l (Qe X.K tl):=by
 intro pins s σ H R I h
 refine AE (hl pins s σ H _ I h) fun v s1 ⟨x,H1,I1,r1,q1⟩=>?_
 obtain ⟨tp,a,xs,e,hq,q⟩:=q1
 subst e
 cases r1
 have fin:∀ b∈[s1.heap.objs.size],Bw X pins H1 b:=fun b hb=>by
  have e:b=s1.heap.objs.size:=by simpa using hb
  subst e
  exact I1.Hy (AV _) (I1.A7.fresh (AV _))
 cases tp with
 | false=>
  obtain ⟨A0,rv,p,hz⟩:=I1.list hq
  refine wpAny_pyIter_list p.isList ?_
  exact ⟨s1.heap.objs.size,[s1.heap.objs.size],_,_,H1,rfl,I1.kept (t':=s1.toks) fun b o e=>B9 _ e,dA a _ xs,⟨_,Bx _ rfl,rfl,rfl⟩,fin,q⟩
 | true=>
  obtain ⟨A0,rv,p,hz⟩:=I1.tuple hq
  refine wpAny_pyIter_tuple (show s1.heap.IsTuple a A0.toArray from p) ?_
  exact ⟨s1.heap.objs.size,[s1.heap.objs.size],_,_,H1,rfl,I1.kept (t':=s1.toks) fun b o e=>B9 _ e,i3 a _ xs,⟨_,Bx _ rfl,rfl,rfl⟩,fin,q⟩
def RS (z:Str):It:=⟨fun i _=>i < z.cps.size,fun i H x H'=>H'=H/\∃ c,z.cps[i]?=some c/\x=.str ⟨#[c]⟩,fun i _=>i=z.cps.size⟩
def YX {P:Program}{w:World}{K:tV}{it:Addr}{z:Str}{t:Tok}{ty:String}
  (hn:["enumerate", "zip", "dict_itemiterator", "dict_reverseitemiterator", "odict_iterator", "itertools.zip_longest", "itertools.pairwise"].contains ty=false)
  (W:∀ A:Around,A.handled=none->Walks P w A it [it] [it] z.cps.size (SignAt z) (fun i h=>h.IsStrIter it ty z t i))
  (self:∀ (A:Around) (i:Nat) (s:Shared) (Q:Value->Shared->Prop) (E:Value->Shared->Prop),s.heap.IsStrIter it ty z t i->Q (.ref it) s->wpAny (model P w) A (pyIter (.ref it)) Q E s) :
  Turn P w K tg (RS z) [it] it (fun i h=>h.IsStrIter it ty z t i) where
 mem:=by simp
 obj:=fun i h st b hb=>by
  have e:b=it:=by simpa using hb
  subst e
  obtain ⟨o,e,c,d⟩:=st
  exact ⟨o,e,fun v z=>by rw [d] at z;cases z⟩
 keep:=fun i h h' st k=>let ⟨o,e,r⟩:=st;⟨o,k it (by simp) o e,r⟩
 item:=by
  intro X hP hw hK hc i pins s σ H E I hf st hg
  subst hP hw hK
  obtain ⟨f0,f1,f2,f3,f4,f5⟩:=hf it (by simp)
  refine (W X.A (I.ok.hd hc)).item i s _ _ hg st fun v h' tk ⟨c,u,NU,hv⟩ D0 kp=>?_
  subst hv
  have I1:Inv X pins σ H { s with heap:=h',toks:=tk }:=I.turned (t':=tk) (fun b o hb e=>kp b o (by simpa using hb) e) f0 f1 f3 f4 f5
  obtain ⟨o,e,cl,d⟩:=id D0
  exact ⟨_,rfl,Nr (s:={ s with heap:=h',toks:=tk }) e cl d hn ⟨.str ⟨#[c]⟩,H,I1,⟨u,rfl⟩,⟨rfl,c,NU,rfl⟩,D0,fun b hb=>(hf b hb).1⟩⟩
 done:=by
  intro X hP hw hK hc i pins s σ H E I hf st hg
  subst hP hw hK
  obtain ⟨f0,f1,f2,f3,f4,f5⟩:=hf it (by simp)
  have fB:i=z.cps.size:=hg
  subst fB
  exact (W X.A (I.ok.hd hc)).done s _ _ st fun h' tk kp=>⟨rfl,I.turned (t':=tk) (fun b o hb e=>kp b o (by simpa using hb) e) f0 f1 f3 f4 f5⟩
 self:=self
def W8 (tl:TE):TI:=fun σ H R=>tl σ H fun x H1=>∃ z,x=.str z/\R (RS z) H1
def h9 {l:Expr}{tl:TE}(hl:PE X l tl):PI X tg l (W8 tl):=by
 intro pins s σ H R I h
 refine AE (hl pins s σ H _ I h) fun v s1 ⟨x,H1,I1,r1,q1⟩=>?_
 obtain ⟨z,e,q⟩:=q1
 subst e
 obtain ⟨t,rfl⟩:=r1
 have fin:∀ b∈[s1.heap.objs.size],Bw X pins H1 b:=fun b hb=>by
  have e:b=s1.heap.objs.size:=by simpa using hb
  subst e
  exact I1.Hy (AV _) (I1.A7.fresh (AV _))
 have kp:∀ (ob:Obj),Inv X pins σ H1 { s1 with heap:=s1.heap.push ob }:=fun ob=>I1.kept (t':=s1.toks) fun b o e=>B9 _ e
 cases ha:z.cps.all (· < 128)
 ·refine wpAny_pyIter_wide ha ?_
  exact ⟨s1.heap.objs.size,[s1.heap.objs.size],_,_,H1,rfl,kp _,YX (t:=t) (by decide) (fun A' hA=>Walks.strWide hA _ z t) (fun _ _ _ _ _ st h=>wpAny_pyIter_striter_wide st h),⟨_,Bx _ rfl,rfl,rfl⟩,fin,q⟩
 ·refine wpAny_pyIter_ascii ha ?_
  exact ⟨s1.heap.objs.size,[s1.heap.objs.size],_,_,H1,rfl,kp _,YX (t:=t) (by decide) (fun A' hA=>Walks.strAscii hA _ z t) (fun _ _ _ _ _ st h=>wpAny_pyIter_striter_ascii st h),⟨_,Bx _ rfl,rfl,rfl⟩,fin,q⟩
end
def C8 {H:Hp}{p:Addr}(h:H p=none) (o:HO):A9 H (upd H p o):=fun b u q=>by rw [AF (Bu q h)];exact q
def A9.Po {K:tV}{H H':Hp}{a:Addr}{xs:List V}(e:A9 H H') (h:AU K H a xs):AU K H' a xs:=by
 rcases h with (h | ⟨o,h⟩) | h
 ·exact .inl (.inl (e _ _ h))
 ·exact .inl (.inr ⟨o,e _ _ h⟩)
 ·exact .inr h
def mS {J:It}{js:List Nat}{tt:TT}{te:TE}{σ:St} {H1:Hp}{acc:Addr}{Q:VK}(xs:List V) (f:V->Bool) (g:V->V) (BX:H1 acc=none) (hz:xs.length<=sizeLine)
  (eP:∀ i H,A9 H1 H->i < xs.length->J.go i H) (Bp:∀ H,A9 H1 H->J.stop xs.length H) (hy:∀ i H x H',J.E6 i H x H'->H'=H/\xs[i]?=some x)
  (ht:∀ (i:Nat) (x:V) (H':Hp) (Q':Bool->Hp->Prop),xs[i]?=some x->A9 H1 H'->(∀ FD,A9 H' FD->Q' (f x) FD)->tt (Ac js σ++[some x]) H' Q')
  (he:∀ (i:Nat) (x:V) (H':Hp) (Q':VK),xs[i]?=some x->f x=true->A9 H1 H'->(∀ FD,A9 H' FD->Q' (g x) FD)->te (Ac js σ++[some x]) H' Q')
  (hd:∀ H',A9 H1 H'->H' acc=some (.lst ((xs.filter f).map g))->Q (.ref acc) H'):O7 J js tt te σ H1 acc Q:=by
 refine ⟨fun i m H=>m=xs.length - i/\i<=xs.length/\A9 H1 H/\H acc=some (.lst (((xs.take i).filter f).map g)),⟨xs.length,by simp,Cj _,C8 BX _,AN⟩,?_⟩
 rintro i m H2 ⟨rfl,hi,sm,ha⟩
 by_cases AM:i < xs.length
 ·refine .inr ⟨eP i H2 sm AM,fun x H3 y=>?_⟩
  obtain ⟨e,hx⟩:=hy i H2 x H3 y
  subst e
  have HR:(xs.take (i+1))=xs.take i++[x]:=by
   have e2:xs[i]=x:=by
    rw [B4 AM] at hx;exact BA hx
   rw [Oh AM,e2]
  have e1:List.filter f (xs.take (i+1))=(xs.take i).filter f++(if f x=true then [x] else []):=by
   rw [HR,aU];congr 1
   by_cases hf:f x=true <;> simp [hf]
  refine ht i x _ _ hx sm fun H4 s4=>?_
  by_cases hf:f x=true
  ·rw [if_pos hf]
   refine he i x H4 _ hx hf (sm.trans s4) fun H5 s5=>?_
   have hlen:(((xs.take i).filter f).map g).length < sizeLine:=by
    rw [AJ]
    have:=aY f (xs.take i)
    rw [EY] at this
    omega
   refine ⟨_,s5 _ _ (s4 _ _ ha),hlen,xs.length - (i+1),by omega,rfl,AM,fun b o q=>?_,?_⟩
   ·have hb:b≠acc:=by rintro rfl;rw [BX] at q;cases q
    rw [AF hb];exact s5 _ _ (s4 _ _ (sm b o q))
   ·rw [AN,e1,if_pos hf,Dp];rfl
  ·have Ka:f x=false:=by simpa using hf
   rw [Ka]
   rw [if_neg (by decide)]
   refine ⟨xs.length - (i+1),by omega,rfl,AM,sm.trans s4,?_⟩
   rw [e1,if_neg hf,EV]
   exact s4 _ _ ha
 ·have e:i=xs.length:=by omega
  subst e
  refine .inl ⟨Bp H2 sm,hd H2 sm ?_⟩
  rw [J1] at ha
  exact ha
def Ep (z:Str):List V:=z.cps.toList.map fun c=>.str ⟨#[c]⟩
def Pk (z:Str):(Ep z).length=z.cps.size:=by unfold Ep;simp
def b6 {z:Str}{js:List Nat}{tt:TT}{te:TE}{σ:St} {H1:Hp}{acc:Addr}{Q:VK}(f:V->Bool) (g:V->V) (BX:H1 acc=none) (hz:z.cps.size<=sizeLine)
  (ht:∀ (i:Nat) (x:V) (H':Hp) (Q':Bool->Hp->Prop),(Ep z)[i]?=some x->A9 H1 H'->(∀ FD,A9 H' FD->Q' (f x) FD)->tt (Ac js σ++[some x]) H' Q')
  (he:∀ (i:Nat) (x:V) (H':Hp) (Q':VK),(Ep z)[i]?=some x->f x=true->A9 H1 H'->(∀ FD,A9 H' FD->Q' (g x) FD)->te (Ac js σ++[some x]) H' Q')
  (hd:∀ H',A9 H1 H'->H' acc=some (.lst (((Ep z).filter f).map g))->Q (.ref acc) H'):O7 (RS z) js tt te σ H1 acc Q:=by
 refine mS (Ep z) f g BX (by rw [Pk];exact hz) (fun i H s hi=>?_) (fun H s=>?_) (fun i H x H' y=>?_) ht he hd
 ·rw [Pk] at hi;exact hi
 ·show (Ep z).length=z.cps.size
  exact Pk z
 ·obtain ⟨e,c,hc,hx⟩:=y
  refine ⟨e,?_⟩
  subst hx
  unfold Ep
  rw [Ak,rN,hc]
  rfl
def Fp (xs ys:List V):Bool:=xs.length == ys.length && (List.range xs.length).all fun j=>C1 (xs.getD j .A4) (ys.getD j .A4)
def LX {xs:List V}{j:Nat}{x:V}(h:xs[j]?=some x):xs.getD j .A4=x:=by rw [KJ,h];rfl
section
variable {X:Cx}{pins:tW}{σ:St} {H:Hp}{s:Shared}
def YK {xs:List V}{j:Nat}{x:V}(h:xs.all Bn=true) (e:xs[j]?=some x):Bn x=true:=List.all_eq_true.mp h x (EZ e)
def ZW {A:Around}{xs ys:List V}{A0 BR:List Value}(r1:Vals xs A0) (r2:Vals ys BR) (fx:xs.all Bn=true) (fy:ys.all Bn=true) :
  ∀ j (h1:j < A0.toArray.size) (h2:j < BR.toArray.size),SeqAt.EqAt A s A0.toArray[j] BR.toArray[j] (C1 (xs.getD j .A4) (ys.getD j .A4)):=fun j h1 h2=>by
 have l1:=r1.length
 have l2:=r2.length
 have FR:j < A0.length:=by simpa using h1
 have Di:j < BR.length:=by simpa using h2
 have e1:xs[j]?=some (xs[j]'(by omega)):=B4 _
 have e2:ys[j]?=some (ys[j]'(by omega)):=B4 _
 obtain ⟨u,hu,ru⟩:=r1.get e1
 obtain ⟨v,hv,rv⟩:=r2.get e2
 rw [B4 FR] at hu
 rw [B4 Di] at hv
 have Le:A0[j]=u:=BA hu
 have Gk:BR[j]=v:=BA hv
 rw [LX e1,LX e2]
 have q:=Ms (A:=A) (s:=s) ru rv (YK fx e1) (YK fy e2)
 rw [<- Le,<- Gk] at q
 simpa using q
def NY (K:tV) (neg:Bool):R2:=fun x y H Q=>∃ p q xs ys,x=.ref p/\y=.ref q/\((AG K H p xs/\AG K H q ys)∨(AU K H p xs/\AU K H q ys))/\xs.all Bn=true/\ys.all Bn=true/\
 Q (.bl (if neg then !Fp xs ys else Fp xs ys)) H
def Mo {xs ys:List V}(h:xs.length≠ys.length):Fp xs ys=false:=by
 unfold Fp
 have:(xs.length == ys.length)=false:=by simpa using h
 rw [this,Bool.false_and]
def NS {xs ys:List V}(h:xs.length=ys.length):Fp xs ys=(List.range xs.length).all fun j=>C1 (xs.getD j .A4) (ys.getD j .A4):=by
 unfold Fp
 have:(xs.length == ys.length)=true:=by simpa using h
 rw [this,KH]
def PH (hu:X.A.units < cLine):Aw X (compareOp .NotEq) (NY X.K true):=by
 intro pins s σ H x y v u Q I rx ry h
 obtain ⟨p,q,xs,ys,rfl,rfl,hq,fx,fy,hQ⟩:=h
 cases rx;cases ry
 have Fl:Q (.bl (!Fp xs ys)) H:=hQ
 rcases hq with ⟨ha,hb⟩ | ⟨ha,hb⟩
 ·obtain ⟨A0,r1,p1,z1⟩:=I.list ha
  obtain ⟨BR,r2,p2,z2⟩:=I.list hb
  have l1:=r1.length;have l2:=r2.length
  by_cases hl:xs.length=ys.length
  ·refine SeqAt.RcNeAt.lists (e:=fun j=>C1 (xs.getD j .A4) (ys.getD j .A4)) p1.isList p2.isList (by simp;omega) hu (ZW r1 r2 fx fy) _ _ _ _ ⟨.bl _,H,I,rfl,?_⟩
   rw [NS hl] at Fl
   simp only [Bs,<- l1]
   exact Fl
  ·rw [Mo hl] at Fl
   exact SeqAt.RcNeAt.lists_lengths p1.isList p2.isList (by simp;omega) hu _ _ _ _ ⟨.bl true,H,I,rfl,Fl⟩
 ·obtain ⟨A0,r1,p1,z1⟩:=I.tuple ha
  obtain ⟨BR,r2,p2,z2⟩:=I.tuple hb
  have l1:=r1.length;have l2:=r2.length
  refine SeqAt.RcNeAt.tuples (e:=fun j=>C1 (xs.getD j .A4) (ys.getD j .A4)) p1 p2 hu (ZW r1 r2 fx fy) _ _ _ _ ⟨.bl _,H,I,rfl,?_⟩
  simp only [Bs,<- l1,<- l2]
  by_cases hl:xs.length=ys.length
  ·rw [NS hl] at Fl
   have:(xs.length == ys.length)=true:=by simpa using hl
   rw [this,Bool.and_true,<- hl,Nat.min_self]
   exact Fl
  ·rw [Mo hl] at Fl
   have:(xs.length == ys.length)=false:=by simpa using hl
   rw [this,UU]
   exact Fl
def fb:D6 X (.builtin "isinstance") (fun xs H Q=>∃ x n t b,xs=[x,.ty n]/\DP X.K H x t/\PySem.W.kitOne X.K t (.type n)=some b/\Q (.bl b) H):=by
 intro pins s σ H xs us Q I r h
 obtain ⟨x,n,t,b,rfl,ty,e,q⟩:=h
 obtain ⟨u,w',rfl,rx,rt⟩:=vals2 r
 cases rt
 exact Vw I rx ty e fun tk=>⟨.bl b,H,I.tok tk,rfl,q⟩
def cg {bs:List Bool}{A0:List Value}(r:Vals (bs.map V.bl) A0){i:Nat}{v:Value}(e:A0[i]?=some v):v=.bool (bs.getD i false):=by
 have hl:=r.length
 rw [AJ] at hl
 have hi:i < A0.length:=(List.getElem?_eq_some_iff.mp e).1
 have e1:(bs.map V.bl)[i]?=some (.bl (bs[i]'(by omega))):=by rw [Ak,B4 (by omega)];rfl
 obtain ⟨u,hu,ru⟩:=r.get e1
 rw [e] at hu;cases hu
 cases ru
 rw [KJ,B4 (by omega)];rfl
def range_all (bs:List Bool):(List.range bs.length).all (fun i=>bs.getD i false)=bs.all id:=by
 rw [MW,G7,G7]
 constructor
 ·intro h x hx
  obtain ⟨i,hi,rfl⟩:=List.mem_iff_getElem.mp hx
  have:=h i (List.mem_range.mpr hi)
  rw [KJ,B4 hi] at this
  exact this
 ·intro h i hi
  rw [KJ,B4 (List.mem_range.mp hi)]
  exact h _ (Hr _)
def U7 (hc:X.calm=true):D6 X (.builtin "all") (fun xs H Q=>∃ (p:Addr) (bs:List Bool),xs=[.ref p]/\AG X.K H p (bs.map V.bl)/\Q (.bl (bs.all id)) H):=by
 intro pins s σ H xs us Q I r h
 obtain ⟨p,bs,rfl,hq,q⟩:=h
 obtain ⟨u,rfl,rx⟩:=vals1 r
 cases rx
 obtain ⟨A0,rv,pl,hz⟩:=I.list hq
 have hl:=rv.length
 rw [AJ] at hl
 refine call_all_walk (wpAny_pyIter_list pl.isList ?_)
 obtain ⟨o,n,ho,_⟩:=id pl
 have Ag:p≠s.heap.objs.size:=BP (AY ho)
 refine ⟨s.heap.objs.size,_,_,_,_,_,fun i=>bs.getD i false,rfl,Walks.list (by rw [Around.in1_handled];exact I.ok.hd hc) _ p Ag A0.toArray,⟨⟨_,Bx _ rfl,rfl,rfl⟩,pl.isList.push _⟩,fun i v s' Q' E' hv Fl=>?_,fun h' tk kp=>?_⟩
 ·have ev:v=.bool (bs.getD i false):=cg rv (by simpa using hv)
  rw [ev]
  exact wpAny_truthy_bool Fl
 ·refine ⟨.bl _,H,I.kept (t':=tk) fun b ob e=>kp b ob (by simpa using BP (AY e)) (B9 _ e),rfl,?_⟩
  rw [Bs,<- hl,range_all]
  exact q
def RC:V->List V->Hp->VK->Prop:=fun x vs H Q=>∃ (l:Addr) (xs:List V) (j:Int) (y:V),x=.ref l/\vs=[.int j,y]/\H l=some (.lst xs)/\0<=j/\j<=xs.length/\xs.length < sizeLine/\Q .A4 (upd H l (.lst (xs.take j.toNat++y :: xs.drop j.toNat)))
def oz:QR X "list.insert" RC:=by
 intro pins s σ H x vs v us Q I rx rv h
 obtain ⟨l,xs,j,y,rfl,rfl,hH,UG,tM,hz,q⟩:=h
 cases rx
 obtain ⟨ui,uy,rfl,ri,ry⟩:=rv.two
 obtain ⟨t,rfl⟩:=ri
 obtain ⟨z,A0,n,r,hl,e⟩:=I.O8 hH
 have h2:j < 2 ^ 63:=by
  have h4:(xs.length:Int)<=(sizeLine:Int):=Int.ofNat_le.mpr z
  have h3:((sizeLine:Nat):Int) < 2 ^ 63:=by exact_mod_cast IW
  omega
 have jr:(!Builtin.List.listFitsIndex j)=true->False:=by
  have h1:Builtin.List.listFitsIndex j=true:=by
   unfold Builtin.List.listFitsIndex
   rw [DW]
   exact ⟨decide_eq_true (by omega),decide_eq_true h2⟩
  rw [h1];exact fun h=>nomatch h
 have bf:A0.toArray.size<=sizeLine:=Bt (af (List.size_toArray.trans hl.symm)) z
 refine call_meets sJ ⟨_,e,rfl⟩ PySem.F.entry_list_insert (PySem.F.args_list_insert_3 _ _ _) (PySem.AutoSeq1.list_insert_list_int_val_1 l A0.toArray n j t uy jr bf) ⟨e,?_⟩
 refine ⟨.A4,_,I.W3 (its':=A0.take j.toNat++uy :: A0.drop j.toNat) hH e ?_ ((r.take _).append (.cons ry (r.drop _))) ?_,rfl,q⟩
 ·have h0:¬ (j < 0):=by omega
  have hm:min j.toNat A0.toArray.size=j.toNat:=by simp;omega
  simp only [h0,if_false,hm]
  apply Array.toList_inj.mp
  simp
  exact Ue (by simp)
 ·rw [DL,Bm,EY,ra]
  omega
def L8 (x:V) (xs:List V):Nat:=xs.countP fun y=>C1 y x
theorem Y5 {x:V}:∀ {xs:List V}{us:List Value},Vals xs us->xs.all Bn=true->us.countP (DC x)=L8 x xs
 | _,_,.nil,_=>rfl
 | y :: xs,u :: us,.cons r t,h=>by
  have h1:Bn y=true/\xs.all Bn=true:=by simpa [MZ] using h
  unfold L8
  rw [rV,rV,UH r h1.1,Y5 t h1.2]
  rfl
def To (K:tV):V->List V->Hp->VK->Prop:=fun x vs H Q=>∃ l xs y,x=.ref l/\vs=[y]/\AG K H l xs/\Bn y=true/\xs.all Bn=true/\Q (.int (L8 y xs)) H
def iC:QR X "list.count" (To X.K):=by
 intro pins s σ H x vs v us Q I rx rv h
 obtain ⟨l,xs,y,rfl,rfl,hq,fy,fs,q⟩:=h
 cases rx
 obtain ⟨u,rfl,ru⟩:=rv.one
 obtain ⟨A0,r,pl,hz⟩:=I.list hq
 obtain ⟨⟨c,d,dt,sl⟩,n,ho,hc,hd,Mz⟩:=id pl
 simp only at hc hd Mz
 subst hc;subst hd;subst Mz
 refine call_meets F.slot_list_count ⟨_,ho,rfl⟩ F.entry_list_count (F.args_list_count_2 _ _) (SeqAt.list_countAt l A0.toArray n none sl u (DC y)) ⟨ho,fun z qE=>Jl ru fy r fs z (by simpa using qE),?_⟩
 refine ⟨.int _,H,I.tok _,⟨_,rfl⟩,?_⟩
 rw [List.toList_toArray,Y5 r fs]
 exact q
def p5:V->Option Int->Option Int->Hp->VK->Prop:=fun x lo hi H Q=>∃ z,x=.str z/\z.length<=sizeLine/\Q (.str (Txt.slice z lo hi)) H
def part_of {v:Value}{o:Option Int}(p:IsPart v o):∃ l:Option (Int×Tok),v=partValue l/\l.map (·.1)=o:=by
 cases p with
 | none=>exact ⟨none,rfl,rfl⟩
 | int i t=>exact ⟨some (i,t),rfl,rfl⟩
def VQ:NL X p5:=by
 intro pins s σ H x v vl vu lo hi sl Q I rx hs pl pu h
 obtain ⟨z,rfl,hz,q⟩:=h
 obtain ⟨t,rfl⟩:=rx
 obtain ⟨l,rfl,hl⟩:=part_of pl
 obtain ⟨u,rfl,hu⟩:=part_of pu
 subst hl;subst hu
 refine ⟨"str", _,F.slot_str_getitem.lookup,typeIs_str _ _ _,wpAny_getItem_str_slice (l:=l) (u:=u) (st:=none) hs rfl (post_val_or_str ⟨Bt (Txt.slice_le z _ _) hz,fun t' k=>?_⟩)⟩
 exact ⟨.str _,H,I.tok k,⟨t',rfl⟩,q⟩
end
end L2
set_option exponentiation.threshold 5000
namespace L2
def Am (P:Program) (w:World) (K:tV) (mg:tX) (base:Heap) (x:Str) (k:Nat) (ps:List Str) (sp:Sp):Prop:=
 ∃ f fd,Ba P w K mg base DQ k f fd ps sp/\Binds K fd ps []/\PySem.W.keepIn K (.ref f)=true/\mg x=some (.ref f)
section
variable {P:Program}{w:World}{K:tV}{mg:tX}{base:Heap}{x qual:Str}{k:Nat}{ps:List Str}{sp:Sp}{st:Stmt}{f:Addr}{fd:FuncData}
def Am.mk (F:Ad K x qual st f fd) (b:Binds K fd ps []) (m:mg x=some (.ref f)) (h:Ba P w K mg base DQ k f fd ps sp):Am P w K mg base x k ps sp:=⟨f,fd,h,b,F.kp,m⟩
end
section
variable {X:Cx}{x:Str}{j k:Nat}{ps:List Str}{sp:Sp}{p pos:Pos}{e:Expr}{es:List Expr}{t:TA}
def fA (h:Am X.prog X.w X.K X.mg X.base x k ps sp) (hr:Au j X.A) (hk:k<=j) (ha:PA X (e :: es) t) (hg:Gl X x:=by rfl) (Ax:(x == ("__debug__" : Str))=false:=by decide)
  (he:starEach (e :: es) X.env=(false,eval e X.env) :: starEach es X.env:=by rfl) (B1:(backTo pos (starEach es X.env)).any (·.1)=false:=by rfl) :
  PE X (.Call (.Name x p) (e :: es) [] pos) (CI sp [] E0 t):=by
 obtain ⟨f,fd,F,b,kp,m⟩:=h
 exact me (F.mono hk) hr hg m kp b .nil Q6 ha Ax he B1
def OZ (K:tV):List V->Hp->VK->Prop:=fun xs H Q=>∃ (p:Addr) (ys:List V),xs=[.ref p]/\(AG K H p ys∨AU K H p ys)/\Q (.int ys.length) H
def Va:D6 X (.builtin "len") (OZ X.K):=Ob
def MQ (K:tV):List V->Hp->VK->Prop:=fun xs H Q=>∃ (x:V) (n:String) (t:Value) (b:Bool),xs=[x,.ty n]/\DP K H x t/\PySem.W.kitOne K t (.type n)=some b/\Q (.bl b) H
def Kk:D6 X (.builtin "isinstance") (MQ X.K):=fb
def GV:Kf X "list.append" Lr:=US
def qd:Kf X "list.insert" RC:=oz
def p0:Kf X "list.count" (To X.K):=iC
def i8 (T:String){x:Str}{pos:Pos}(hm:X.mg x=none) (hg:Gl X x:=by rfl) (hv:bootBuiltins x=some (.type T):=by decide +kernel) (hn:x ≠ "__name__" := by decide) (hd:(x == ("__debug__" : Str))=false:=by decide) :
  PE X (.Name x pos) (tC (.ty T)):=nY hg hm hv rfl hn hd
def fN (i j:Int):Prop:=i.natAbs < 2 ^ 1000/\j.natAbs < 2 ^ 1000
def VH {n:Nat}(h:n < 2 ^ 1000):n.log2 < 1000:=by
 rcases Nat.eq_zero_or_pos n with e | e
 ·subst e;exact (show (0:Nat).log2 < 1000 by decide)
 ·exact (Nat.log2_lt (J4 e)).mpr h
def bits_le {i:Int}(h:i.natAbs < 2 ^ 1000):Builtin.Int.intBits i<=2 ^ 20:=by
 unfold Builtin.Int.intBits
 split
 ·exact Cj _
 ·have:=VH h
  have e:(2:Nat) ^ 20=1048576:=by decide
  omega
def IJ:Aw X (binaryOp .Mult) (rI fN fun i j=>.int (i * j)):=Mh fun _ _ _ _ _ _ _ hc q=>mul_int q (.of_bits (bits_le hc.1) (bits_le hc.2))
def P2:Aw X (binaryOp .FloorDiv) (rI (fun _ j=>0 < j/\j.natAbs < 2 ^ 1000) fun i j=>.int (i / j)):=Mh fun i j _ _ _ _ _ hc q=>by
 have h1:(0:Int) < j:=hc.1
 have h2:=VH hc.2
 exact floordiv_int (by omega) (by rw [Int.fdiv_eq_ediv_of_nonneg i (by omega)];exact q) (.inl (PyProof.noPylong_of_log2 (by omega)))
def bW {body rest:List Stmt}{st:Stmt}{t u:TS}(e:body=st :: rest) (h:PS X st t) (h2:Cd X rest u):Cd X body (IV t u):=by rw [e];exact Si h h2
def dv {body:List Stmt}{st:Stmt}{t:TS}(e:body=[st]) (h:PS X st t):Cd X body t:=by rw [e];exact mi h
def T6 (t:TS):TS:=fun D σ H=>∃ J:St->Hp->Prop,t { D with nx:=J } σ H/\∀ σ' H',J σ' H'->D.nx σ' H'
def mR {st:Stmt}{t:TS}(h:PS X st t):PS X st (T6 t):=by
 intro pins s σ H D I hw
 obtain ⟨J,h1,h2⟩:=hw
 refine AE (h pins s σ H _ I h1) fun f s' q=>?_
 cases f with
 | next=>obtain ⟨σ',H',I',q⟩:=q;exact ⟨σ',H',I',h2 σ' H' q⟩
 | ret v=>exact q
 | brk=>exact q
 | cont=>exact q
end
def E7 (p:Addr) (H H':Hp):Prop:=∀ b o,b≠p->H b=some o->H' b=some o
def E7.trans {p:Addr}{H H1 H2:Hp}(a:E7 p H H1) (b:E7 p H1 H2):E7 p H H2:=fun c o hc e=>b c o hc (a c o hc e)
def E7.of {p:Addr}{H H':Hp}(a:A9 H H'):E7 p H H':=fun c o _ e=>a c o e
theorem E7.upd {p:Addr}{H:Hp}{o:HO}:E7 p H (upd H p o):=fun c u hc e=>by rw [AF hc];exact e
def E7.Po {K:tV}{p:Addr}{H H':Hp}{a:Addr}{xs:List V}(e:E7 p H H') (Ag:a≠p) (h:AU K H a xs):AU K H' a xs:=by
 rcases h with (h | ⟨o,h⟩) | h
 ·exact .inl (.inl (e _ _ Ag h))
 ·exact .inl (.inr ⟨o,e _ _ Ag h⟩)
 ·exact .inr h
end L2
set_option maxHeartbeats 8000000
namespace L2
def Ly (acc:List Str) (x:Str):List Str:=if acc.any (· == x) then acc else acc++[x]
def dd (ss:List Str):List Str:=ss.foldl Ly []
def qh (acc:List Str) (x:Str):(Ly acc x).length=if acc.any (· == x) then acc.length else acc.length+1:=by
 unfold Ly;split <;> simp
def qF (ss:List Str):(dd ss).length<=ss.length:=by
 have:∀ (l acc:List Str),(l.foldl Ly acc).length<=acc.length+l.length:=by
  intro l
  induction l with
  | nil=>intro acc;simp
  | cons x r ih=>
   intro acc
   rw [aV]
   have h1:=ih (Ly acc x)
   rw [qh] at h1
   simp only [Bm]
   split at h1 <;> omega
 have q:=this ss []
 simp only [UZ,Nat.zero_add] at q
 exact q
section
variable {prog:Program}{w:World}{A:Around}{R:Result->Shared->Prop}{I:Addr}{fp wr:List Addr}{G:Array GenState->Array GenState->Prop}{n:Nat}{P:Nat->Value->Prop}{St:Nat->Shared->Prop}{ss:List Str}
end
section
variable {prog:Program}{w:World}{A:Around}{E:Value->Shared->Prop}{s:Shared}{ss:List Str}
end
def ON (P:Program) (w:World) (a:Addr) (f:Str->Bool) (n:Nat):HO:=.ext fun h=>h.SetOf (strKind P w) a f n
section
variable {X:Cx}
end
end L2
set_option maxHeartbeats 4000000
namespace L2
structure QE (X:Cx) (e:Expr) (t:TE):Prop where h:PE X e t
structure QT (X:Cx) (e:Expr) (t:TT):Prop where h:PT X e t
structure QW (X:Cx) (e:Expr) (t:TT):Prop where h:PW X e t
structure QA (X:Cx) (es:List Expr) (t:TA):Prop where h:PA X es t
structure QS (X:Cx) (st:Stmt) (t:TS):Prop where h:PS X st t
structure Eu (X:Cx) (st:List Stmt) (t:TS):Prop where h:Cd X st t
structure QG (X:Cx) (tg:Expr) (t:TG):Prop where h:PG X tg t
structure OK (X:Cx) (ts:List Expr) (t:FA):Prop where h:JJ X ts t
structure QI (X:Cx) (tg iter:Expr) (wi:TI):Prop where h:PI X tg iter wi
structure OF (X:Cx) (ifs:List Expr) (t:TT):Prop where h:GY X ifs t
structure QO (X:Cx) (e:Option Expr) (t:TO):Prop where h:PO X e t
section
variable {X:Cx}{a b c e o:Expr}{es rest:List Expr}{ta tb tc te to:TE}{tA GC:TT}{t:TA}{pos p p2 apos BJ:Pos}{x:Str}
def qv (i:Nat){x:Str}{pos:Pos}(hN:X.N[i]?=some x:=by rfl) (hv:Oc X.env.scope x:=by first | exact Or.inl rfl | exact Or.inr (Or.inl rfl) | exact Or.inr (Or.inr rfl)) (hd:(x == ("__debug__" : Str))=false:=by decide)
  (DZ:(x == ("__classdict__" : Str))=false:=by decide):QE X (.Name x pos) (BB i):=⟨XD hN hv hd DZ⟩
def AH {i j pos}:QE X (.Constant (.int i) j pos) (tC (.int i)):=⟨nt⟩
def Fm {b j pos}:QE X (.Constant (.bool b) j pos) (tC (.bl b)):=⟨gJ⟩
def md {j pos}:QE X (.Constant .none j pos) (tC .A4):=⟨m8⟩
def BZ {x j pos}:QE X (.Constant (.str x) j pos) (tC (.str x)):=⟨og⟩
def C0 {v:V}{u:Value}(hg:Gl X x) (hm:X.mg x=some u) (r:RelV v u) (hd:(x == ("__debug__" : Str))=false:=by decide):QE X (.Name x pos) (tC v):=⟨bD hg hm r hd⟩
def JT (T:String){x:Str}{pos:Pos}(hm:X.mg x=none) (hg:Gl X x:=by rfl) (hv:bootBuiltins x=some (.type T):=by decide +kernel) (hn:x ≠ "__name__" := by decide) (hd:(x == ("__debug__" : Str))=false:=by decide) :
  QE X (.Name x pos) (tC (.ty T)):=⟨i8 T hm hg hv hn hd⟩
def Ao {op:Operator}{r:R2}(ho:Aw X (binaryOp op) r) (ha:QE X a ta) (hb:QE X b tb):QE X (.BinOp a op b pos) (B0 r ta tb):=⟨cC ho ha.h hb.h⟩
def ph {op:CmpOp}{r:R2}(ho:Aw X (compareOp op) r) (ha:QE X a ta) (hb:QE X b tb) (hm:behindInMarks op b=false):QE X (.Compare a [op] [b] pos) (B0 r ta tb):=⟨jP ho ha.h hb.h hm⟩
def Z8 {op:CmpOp}{r:R2}(ho:Aw X (compareOp op) r) (ha:QE X a ta) (hb:QE X b tb) (hm:behindInMarks op b=false):QT X (.Compare a [op] [b] pos) (Jy (B0 r ta tb)):=⟨ma ho ha.h hb.h hm⟩
def ck {op Dg:CmpOp}{r r':R2}(ho:Aw X (compareOp op) r) (D3:Aw X (compareOp Dg) r') (ha:QE X a ta) (hb:QE X b tb) (hc:QE X c tc)
  (hm:lastMarks [op,Dg] [b,c]=false:=by with_unfolding_all rfl):QE X (.Compare a [op,Dg] [b,c] pos) (KQ r r' ta tb tc):=⟨eU ho D3 ha.h hb.h hc.h hm⟩
def oH {op Dg:CmpOp}{r r':R2}(ho:Aw X (compareOp op) r) (D3:Aw X (compareOp Dg) r') (ha:QE X a ta) (hb:QE X b tb) (hc:QE X c tc)
  (hm:lastMarks [op,Dg] [b,c]=false:=by with_unfolding_all rfl):QT X (.Compare a [op,Dg] [b,c] pos) (Jy (KQ r r' ta tb tc)):=⟨gX ho D3 ha.h hb.h hc.h hm⟩
def Im {op} (h:QE X a ta):QE X (.BoolOp op [a] pos) ta:=⟨ee h.h⟩
def GP (ha:QE X a ta) (hb:QE X (.BoolOp .And (b :: rest) pos) tb):QE X (.BoolOp .And (a :: b :: rest) pos) (LL ta tb):=⟨fv ha.h hb.h⟩
def Vt (ha:QT X a tA):QW X (.BoolOp .And [a] pos) tA:=⟨pw_and1 ha.h⟩
def M9 (ha:QT X a tA):QW X (.BoolOp .Or [a] pos) tA:=⟨pw_or1 ha.h⟩
def Uy (ha:QT X a tA) (hb:QW X (.BoolOp .And (b :: rest) pos) GC):QW X (.BoolOp .And (a :: b :: rest) pos) (Q2 tA GC):=⟨pw_and ha.h hb.h⟩
def Lv (ha:QT X a tA) (hb:QW X (.BoolOp .Or (b :: rest) pos) GC):QW X (.BoolOp .Or (a :: b :: rest) pos) (Rk tA GC):=⟨pw_or ha.h hb.h⟩
theorem QW.pt {e:Expr}{t:TT}(h:QW X e t):QT X e t:=⟨h.h.pt⟩
def HN (ha:QT X a tA):QT X (.UnaryOp .Not a pos) (RF tA):=⟨kb ha.h⟩
def Gg (h:QE X e te) (he:∀ whole,isTrue e X.env whole=(do let v <- whole;standAt e.pos;holding [v] (truthy v)):=by intro _;rfl):QT X e (tB te):=⟨gr h.h he⟩
def A6:QA X [] AS:=⟨ZN⟩
def A1 (ha:QE X e te) (hr:QA X es t) (hs:starEach (e :: es) X.env=(false,eval e X.env) :: starEach es X.env:=by rfl):QA X (e :: es) (AK te t):=⟨SI ha.h hr.h hs⟩
def EF {x1} (h:QA X es t):QE X (.Tuple es x1 pos) (JQ t):=⟨bG h.h⟩
def FO (h:QA X es t):QE X (.List es pos) (P6 t):=⟨mD h.h⟩
def Sf:QO X none Tf:=⟨hV⟩
def Rm (h:QE X e te):QO X (some e) (UR te):=⟨cL h.h⟩
def Ta {r:V->Option Int->Option Int->Hp->VK->Prop}{lo hi:Option Expr}{tl th:TO}(hr:NL X r) (he:QE X e te) (hl:QO X lo tl) (hu:QO X hi th):QE X (.Subscript e (.Slice lo hi none p2) pos) (Js r te tl th):=⟨ly hr he.h hl.h hu.h⟩
def j6 {r:R2}(hr:G5 X r) (ha:QE X a ta) (hb:QE X b tb) (hs:Ry b):QE X (.Subscript a b pos) (B0 r ta tb):=⟨d4 hr ha.h hb.h hs⟩
def fm {j k:Nat}{ps:List Str}{sp:Sp}(h:Am X.prog X.w X.K X.mg X.base x k ps sp) (hr:Au j X.A) (hk:k<=j) (ha:QA X (e :: es) t) (hg:Gl X x:=by rfl) (Ax:(x == ("__debug__" : Str))=false:=by decide)
  (he:starEach (e :: es) X.env=(false,eval e X.env) :: starEach es X.env:=by rfl) (B1:(backTo pos (starEach es X.env)).any (·.1)=false:=by rfl):QE X (.Call (.Name x p) (e :: es) [] pos) (CI sp [] E0 t):=⟨fA h hr hk ha.h hg Ax he B1⟩
def rF {id:String}{r:List V->Hp->VK->Prop}(hc:D6 X (.builtin id) r) (hg:Gl X x) (hm:X.mg x=none) (hv:bootBuiltins x=some (.builtin id)) (ha:QA X (e :: es) t) (hn:x ≠ "__name__" := by decide) (Ax:(x == ("__debug__" : Str))=false:=by decide)
  (he:starEach (e :: es) X.env=(false,eval e X.env) :: starEach es X.env:=by rfl) (B1:(backTo pos (starEach es X.env)).any (·.1)=false:=by rfl):QE X (.Call (.Name x p) (e :: es) [] pos) (BY r t):=⟨rD hc hg hm hv ha.h hn Ax he B1⟩
def iz {T:String}{r:List V->Hp->VK->Prop}(hc:D6 X (.type T) r) (hg:Gl X x) (hm:X.mg x=none) (hv:bootBuiltins x=some (.type T)) (ha:QA X (e :: es) t) (hn:x ≠ "__name__" := by decide) (Ax:(x == ("__debug__" : Str))=false:=by decide)
  (he:starEach (e :: es) X.env=(false,eval e X.env) :: starEach es X.env:=by rfl) (B1:(backTo pos (starEach es X.env)).any (·.1)=false:=by rfl):QE X (.Call (.Name x p) (e :: es) [] pos) (BY r t):=⟨mf hc hg hm hv ha.h hn Ax he B1⟩
def FN {name:Str}{T id:String}{r:V->List V->Hp->VK->Prop}(pa:PlainAttrs T) (slot:Slot T name id) (SX:typeOf (.builtin id)=pure (.type "method_descriptor")) (hm:Kf X id r) (ho:QE X o to) (ha:QA X (e :: es) t)
  (Ot:attributeBase o name X.env (eval o X.env)=eval o X.env:=by rfl)
  (Rn:((backTo BJ (starEach (e :: es) X.env)).all (fun x=>!x.1) && (backToKw BJ (keywordEach [] X.env)).all (fun x=>x.1.isSome)
   && decide ((e :: es).length+([]:List Keyword).length+(if ([]:List Keyword).isEmpty then 0 else 1) < 30))=true:=by rfl)
  (Oy:(apos.endLine == BJ.line)=true:=by rfl) (hs:starEach (e :: es) X.env=(false,eval e X.env) :: starEach es X.env:=by rfl) (Pl:(backTo BJ (starEach es X.env)).any (·.1)=false:=by rfl) :
  QE X (.Call (.Attribute o name apos) (e :: es) [] BJ) (GN X.K T r to t):=⟨o9 pa slot SX hm ho.h ha.h Ot Rn Oy hs Pl⟩
end
section
variable {X:Cx}{elt iter:Expr}{x:Str}{px pos:Pos}{ifs:List Expr}{scope:Scope}{AA:List Str}{js:List Nat}{tt:TT}{te:TE}{wi:TI}{tg:Expr}
def Ek {l:Expr}{tl:TE}(hl:QE X l tl):QI X tg l (Qe X.K tl):=⟨rC hl.h⟩
def d7 {l:Expr}{tl:TE}(hl:QE X l tl):QI X tg l (W8 tl):=⟨h9 hl.h⟩
def Pm {a:Expr}{ta:TA}{p pos:Pos}(hg:Gl X "range") (hm:X.mg "range" = none) (ha:QA X [a] ta) (hs:starEach [a] X.env=[(false,eval a X.env)]:=by rfl):QI X tg (.Call (.Name "range" p) [a] [] pos) (R3 ta):=⟨jU hg hm ha.h hs⟩
def ID:OF X [] Ro:=⟨b4⟩
def Np (hc:X.calm=true) (S:Dz X.N X.env.scope scope x AA js) (hi:QI X (.Name x px) iter wi)
  (CV:∀ fp C s H,OF (Ai X (AA++[x]) scope (Bb X.env.cells scope.names) C s H fp) ifs tt) (Cb:∀ fp C s H,QE (Ai X (AA++[x]) scope (Bb X.env.cells scope.names) C s H fp) elt te)
  (hs:∀ v,foldedSetIterable iter X.env v=pure v:=by intro _;rfl):QE X (.ListComp elt [⟨.Name x px,iter,ifs,0⟩] scope pos) (Jp wi js tt te):=⟨cu hc S hi.h (fun fp C s H=>(CV fp C s H).h) (fun fp C s H=>(Cb fp C s H).h) hs⟩
def Zd {i:Nat}{y:Str}{py KR:Pos}(hN:X.N.Nodup) (Du:X.N[i]?=some y) (hy:Loc X.env.scope y) (hc:X.calm=true) (S:Dz X.N X.env.scope scope x AA js) (hi:QI X (.Name x px) iter wi)
  (CV:∀ fp C s H,OF (Ai X (AA++[x]) scope (Bb X.env.cells scope.names) C s H fp) ifs tt) (Cb:∀ fp C s H,QE (Ai X (AA++[x]) scope (Bb X.env.cells scope.names) C s H fp) elt te)
  (RA:swapsWith (.ListComp elt [⟨.Name x px,iter,ifs,0⟩] scope pos) (some (.Name y py)) KR.line X.env=pure true:=by rfl)
  (hf:X.fn y=true∨X.env.scope.names.lookup y=some .local:=by first | exact .inl rfl | exact .inr rfl | assumption)
  (hs:∀ v,foldedSetIterable iter X.env v=pure v:=by intro _;rfl):QS X (.Assign [.Name y py] (.ListComp elt [⟨.Name x px,iter,ifs,0⟩] scope pos) KR) (DM (Jp wi js tt te) (BU i)):=
 ⟨cY hN Du hy hc S hi.h (fun fp C s H=>(CV fp C s H).h) (fun fp C s H=>(Cb fp C s H).h) RA hf hs⟩
def cW {i:Nat}{x:Str}(hN:X.N.Nodup) (hi:X.N[i]?=some x) (hx:Loc X.env.scope x) (hf:X.fn x=true∨X.env.scope.names.lookup x=some .local:=by first | exact .inl rfl | exact .inr rfl | assumption):QG X (.Name x pos) (BU i):=⟨Ru hN hi hx hf⟩
def OQ:OK X [] IK:=⟨V1⟩
def Fc {e:Expr}{es:List Expr}{t:TG}{u:FA}(h1:QG X e t) (h2:OK X es u)
  (hs:(assignEach (e :: es) X.env).map (·.2)=assign e X.env :: (assignEach es X.env).map (·.2):=by rfl):OK X (e :: es) (Dq t u):=⟨Vi h1.h h2.h hs⟩
def Nu {es:List Expr}{k:Nat}{t:FA}{n:Nat}(hc:X.calm=true) (h:OK X es t) (hn:(assignEach es X.env).length=n:=by rfl) (Bp:(assignEach es X.env).findIdx? (·.1)=none:=by rfl):QG X (.Tuple es k pos) (JC X.K n t):=⟨Xm hc h.h hn Bp⟩
def VD {o i:Expr}{to ti:TE}{t:Mp}(ho:QE X o to) (hi:QE X i ti) (hs:Pt X t)
  (ha:∀ v,assign (.Subscript o i pos) X.env v=(do
   let ov <- holding [v] (eval o X.env)
   let iv <- holding [v,ov] (eval i X.env)
   standAt pos
   holding [v,ov,iv] (setItem ov iv v)
   release [v,ov,iv] []):=by intro _;rfl):QG X (.Subscript o i pos) (aQ to ti t):=⟨iW ho.h hi.h hs ha⟩
end
section
variable {X:Cx}{st:Stmt}{rest:List Stmt}{t u:TS}{e:Expr}{te:TE}{pos:Pos}
def CA:Eu X [] NZ:=⟨YT⟩
def AL {body rest:List Stmt}{st:Stmt}{t u:TS}(e:body=st :: rest) (h:QS X st t) (h2:Eu X rest u):Eu X body (IV t u):=⟨bW e h.h h2.h⟩
def AW {body:List Stmt}{st:Stmt}{t:TS}(e:body=[st]) (h:QS X st t):Eu X body t:=⟨dv e h.h⟩
def LH:QS X st ZA:=⟨dS⟩
def DE (he:QE X e te) (hs:swapsWith e none pos.line X.env=pure false:=by rfl):QS X (.Expr e pos) (Gu te):=⟨XM he.h hs⟩
def CM (he:QE X e te):QS X (.Return (some e) pos) (Jd te):=⟨pS he.h⟩
def Bv {c:Expr}{a b:List Stmt}{tc:TT}(hc:QT X c tc) (ha:Eu X a t) (hb:Eu X b u):QS X (.If c a b pos) (Tu tc t u):=⟨p4 hc.h ha.h hb.h⟩
def ZY {tg e:Expr}{te:TE}{g:TG}(he:QE X e te) (hg:QG X tg g) (hs:swapsWithSole [tg] e pos.line X.env=pure false:=by rfl) (hw:swappedStores [tg] e X.env=pure none:=by rfl)
  (h1:(assignEach [tg] X.env).map (·.2)=[assign tg X.env]:=by rfl):QS X (.Assign [tg] e pos) (DM te g):=⟨bu he.h hg.h hs hw h1⟩
def mM {i:Nat}{x:Str}{pos':Pos}(hN:X.N.Nodup) (hi:X.N[i]?=some x) (hx:Loc X.env.scope x) (he:QE X e te) (hs:swapsWith e (some (.Name x pos')) pos.line X.env=pure false:=by rfl) (hf:X.fn x=true∨X.env.scope.names.lookup x=some .local:=by first | exact .inl rfl | exact .inr rfl | assumption) :
  QS X (.Assign [.Name x pos'] e pos) (DM te (BU i)):=⟨fH hN hi hx he.h hs hf⟩
def Uz {c:Expr}{body:List Stmt}{tc:TT}{tb:TS}(hp:PassesOwn (model X.prog X.w) X.A X.env X.xe) (hc:QT X c tc) (hb:Eu X body tb):QS X (.While c body [] pos) (ZI tc tb):=⟨dD hp hc.h hb.h⟩
def FT {tg iter:Expr}{body:List Stmt}{wi:TI}{g:TG}{tb:TS}(hp:PassesOwn (model X.prog X.w) X.A X.env X.xe) (hc:X.calm=true) (hi:QI X tg iter wi) (hg:QG X tg g) (hb:Eu X body tb)
  (hs:∀ x,foldedSetIterable iter X.env x=pure x:=by intro _;rfl):QS X (.For tg iter body [] pos) (Nz wi g tb):=⟨qD hp hc hi.h hg.h hb.h hs⟩
def DD (h:QS X st t):QS X st (T6 t):=⟨mR h.h⟩
end
def Ad.DX {P:Program}{w:World}{K:tV}{mg:tX}{base:Heap}{x qual:Str}{st:Stmt}{f:Addr}{fd:FuncData}{N ps:List Str}{k:Nat}{sp:Sp}(F:Ad K x qual st f fd) (S:Bq N ps (As st)) (len:∀ vs H Q E,sp vs H Q E->vs.length=ps.length)
  (IQ:∀ (Ab:Value) (A:Around) (outer:List Env) (s:Shared) (H:Hp) (vs:List V) (Q:VK) (E:XK),Au k (A.deeper (envOfC qual (As st) s.heap.objs.size f Ab))->sp vs H Q E->
   ∃ t,Eu (E8 DQ P w K mg base N qual (As st) f Ab A outer s H E).Li (HW st) t/\t { nx:=fun _ H'=>Q .A4 H',rt:=Q } (start N vs) H):Ba P w K mg base DQ (k+1) f fd ps sp:=
 F.ok S len fun Ab A outer s H vs Q E hr h=>let ⟨t,q,r⟩:=IQ Ab A outer s H vs Q E hr h;⟨t,q.h,r⟩
section
variable {X:Cx}{a b e o:Expr}{es:List Expr}{ta tb te:TE}{t:TA}{pos p:Pos}{x:Str}
def BF {id:String}{r:List V->Hp->VK->Prop}(hc:D6 X (.builtin id) r) (hm:X.mg x=none) (ha:QA X (e :: es) t) (hg:Gl X x:=by rfl) (hv:bootBuiltins x=some (.builtin id):=by decide +kernel) (hn:x ≠ "__name__" := by decide) (Ax:(x == ("__debug__" : Str))=false:=by decide)
  (he:starEach (e :: es) X.env=(false,eval e X.env) :: starEach es X.env:=by rfl) (B1:(backTo pos (starEach es X.env)).any (·.1)=false:=by rfl):QE X (.Call (.Name x p) (e :: es) [] pos) (BY r t):=rF hc hg hm hv ha hn Ax he B1
def HX {T:String}{r:List V->Hp->VK->Prop}(hc:D6 X (.type T) r) (hm:X.mg x=none) (ha:QA X (e :: es) t) (hg:Gl X x:=by rfl) (hv:bootBuiltins x=some (.type T):=by decide +kernel) (hn:x ≠ "__name__" := by decide) (Ax:(x == ("__debug__" : Str))=false:=by decide)
  (he:starEach (e :: es) X.env=(false,eval e X.env) :: starEach es X.env:=by rfl) (B1:(backTo pos (starEach es X.env)).any (·.1)=false:=by rfl):QE X (.Call (.Name x p) (e :: es) [] pos) (BY r t):=iz hc hg hm hv ha hn Ax he B1
def BH {r:R2}(hr:G5 X r) (ha:QE X a ta) (hb:QE X b tb) (hs:Ry b:=by exact fun _ _=>rfl):QE X (.Subscript a b pos) (B0 r ta tb):=j6 hr ha hb hs
def B7 {j k:Nat}{ps:List Str}{sp:Sp}(h:Am X.prog X.w X.K X.mg X.base x k ps sp) (hr:Au j X.A) (ha:QA X (e :: es) t) (hk:k<=j:=by decide) (hg:Gl X x:=by rfl) (Ax:(x == ("__debug__" : Str))=false:=by decide)
  (he:starEach (e :: es) X.env=(false,eval e X.env) :: starEach es X.env:=by rfl) (B1:(backTo pos (starEach es X.env)).any (·.1)=false:=by rfl):QE X (.Call (.Name x p) (e :: es) [] pos) (CI sp [] E0 t):=fm h hr hk ha hg Ax he B1
def LJ {op:CmpOp}{r:R2}(ho:Aw X (compareOp op) r) (ha:QE X a ta) (hb:QE X b tb) (hm:behindInMarks op b=false:=by first | exact XA _ | with_unfolding_all rfl):QE X (.Compare a [op] [b] pos) (B0 r ta tb):=ph ho ha hb hm
def CD {op:CmpOp}{r:R2}(ho:Aw X (compareOp op) r) (ha:QE X a ta) (hb:QE X b tb) (hm:behindInMarks op b=false:=by first | exact XA _ | with_unfolding_all rfl):QT X (.Compare a [op] [b] pos) (Jy (B0 r ta tb)):=Z8 ho ha hb hm
def Aj (i:Nat){x:Str}{pos':Pos}(hN:X.N.Nodup) (he:QE X e te) (hi:X.N[i]?=some x:=by rfl) (hx:Loc X.env.scope x:=by first | exact Or.inl rfl | exact Or.inr rfl) (hs:swapsWith e (some (.Name x pos')) pos.line X.env=pure false:=by rfl) (hf:X.fn x=true∨X.env.scope.names.lookup x=some .local:=by first | exact .inl rfl | exact .inr rfl | assumption) :
  QS X (.Assign [.Name x pos'] e pos) (DM te (BU i)):=mM hN hi hx he hs hf
def DA (i:Nat){x:Str}(hN:X.N.Nodup) (hi:X.N[i]?=some x:=by rfl) (hx:Loc X.env.scope x:=by first | exact Or.inl rfl | exact Or.inr rfl) (hf:X.fn x=true∨X.env.scope.names.lookup x=some .local:=by first | exact .inl rfl | exact .inr rfl | assumption):QG X (.Name x pos) (BU i):=cW hN hi hx hf
end
section
variable {X:Cx}{pins:tW}{σ:St} {H:Hp}{s:Shared}{a:Addr}{A3:List (Str×Addr)}
end
section
variable {X:Cx}
theorem X8 (x:Str):∀ (ss:List Str) (m:Nat) (hm:m < ss.length),m < ss.idxOf x->ss[m]≠x
 | [],_,hm,_=>absurd hm (Nat.not_lt_zero _)
 | a :: r,m,hm,h=>by
  rw [List.idxOf_cons] at h
  by_cases e:a=x
  ·have:(a == x)=true:=by simpa using e
   rw [this] at h
   exact absurd h (Nat.not_lt_zero _)
  ·have e':(a == x)=false:=by simpa using e
   rw [e'] at h
   cases m with
   | zero=>exact e
   | succ k=>
    have h':k+1 < r.idxOf x+1:=h
    exact X8 x r k (by simpa using hm) (by omega)
def Yv {ss:List Str}{x:Str}(h:x∈ss):∃ hj:ss.idxOf x < ss.length,ss[ss.idxOf x]=x/\∀ m (hm:m < ss.length),m < ss.idxOf x->ss[m]≠x:=by
 have hj:ss.idxOf x < ss.length:=List.idxOf_lt_length_iff.mpr h
 exact ⟨hj,aX hj,fun m hm AM=>X8 x ss m hm AM⟩
def iV (K:tV):V->List V->Hp->VK->Prop:=fun x vs H Q=>∃ (l:Addr) (ss:List Str) (y:Str),x=.ref l/\vs=[.str y]/\AG K H l (ss.map V.str)/\y∈ss/\Q (.int (ss.idxOf y:Nat)) H
end
section
variable {prog:Program}{w:World}{A:Around}{s:Shared}{R:Result->Shared->Prop}
variable {I:Addr}{fp wr:List Addr}{G:Array GenState->Array GenState->Prop}{n:Nat}{P:Nat->Value->Prop}{St:Nat->Shared->Prop}
end
section
variable {prog:Program}{w:World}{A:Around}{E:Value->Shared->Prop}{s:Shared}
variable {I:Addr}{fp wr:List Addr}{G:Array GenState->Array GenState->Prop}{n:Nat}{P:Nat->Value->Prop}{St:Nat->Shared->Prop}
end
section
variable {prog:Program}{w:World}{A:Around}{E:Value->Shared->Prop}{s:Shared}
end
section
variable {prog:Program}{w:World}{A:Around}{s:Shared}{R:Result->Shared->Prop}
variable {I:Addr}{l:Addr}{items:Array Value}
end
section
variable {prog:Program}{w:World}{A:Around}{E:Value->Shared->Prop}{s:Shared}
end
end L2
namespace HT
section
variable {prog:Program}{w:World}{A:Around}{E:Value->Shared->Prop}{s:Shared}
end
end HT
namespace L2
section
variable {X:Cx}
def c6 (K:tV):V->Option Int->Option Int->Hp->VK->Prop:=fun x lo hi H Q=>∃ a xs,x=.ref a/\AU K H a xs/\
 ((HT.Bh xs.length 0 lo=0/\HT.Bh xs.length xs.length hi=xs.length)->Q (.ref a) H)/\(¬ (HT.Bh xs.length 0 lo=0/\HT.Bh xs.length xs.length hi=xs.length)->∀ p,H p=none->Q (.ref p) (upd H p (.tup (Et xs lo hi))))
def lY (K:tV) (t:TA):TE:=fun σ H Q=>t σ H fun vs H1=>∃ a tp ys,vs=[.ref a]/\Dv K tp H1 a ys/\∀ l,H1 l=none->Q (.ref l) (upd H1 l (.lst ys.reverse))
def Inv.Vn {pins:tW}{σ:St} {H:Hp}{s:Shared}{h':Heap}{t':Nat}{fp:List Addr}(I:Inv X pins σ H s) (hf:∀ b∈fp,Bw X pins H b) (k:∀ b o,b∉fp->s.heap.get? b=some o->h'.get? b=some o) :
  Inv X pins σ H { s with heap:=h',toks:=t' }:=by
 have HL:∀ b u,H b=some u->b∉fp:=fun b u e z=>by rw [(hf b z).1] at e;cases e
 refine I.step (g':=s.gens) (d':=s.drawn) (ch:=fp) (fun b hb=>?_) (fun b o _ _ hc e _=>k b o hc e) (fun b o _ _ hc e _=>⟨o.slots,k b o hc e⟩) (fun _ _ _ _ n=>n)
  (fun b o hc e=>⟨o,k b o hc e⟩) (fun _ _ e=>e) (fun _ _ _ e=>e) (fun b ps e=>⟨#[],by rw [e];simp⟩) (fun m hm=>?_) (fun b u e=>?_) I.bare
 ·obtain ⟨_,h1,_,h3,h4,h5⟩:=hf b hb
  exact ⟨h3,h1,h4,h5⟩
 ·obtain ⟨o,es,ep,ho,r⟩:=hm
  exact ⟨o,es,ep,k _ o (fun z=>(hf _ z).2.1 rfl) ho,r⟩
 ·refine (I.A7 b u e).Ea (fun c v hc q=>k c v ?_ q) (fun _ q=>q) fun _ _ q=>q
  rcases hc with z | z
  ·rw [z];exact HL b u e
  ·exact HL c _ z
def Inv.Wr {pins:tW}{σ:St} {H:Hp}{s:Shared}{h':Heap}{t':Nat}{fp:List Addr}{a:Addr}{o:HO}(I:Inv X pins σ H s) (hf:∀ b∈fp,Bw X pins H b) (k:∀ b o,b∉fp->s.heap.get? b=some o->h'.get? b=some o)
  (ha:s.heap.objs.size<=a) (new:BO X.prog X.w (upd H a o) h' a o):Inv X pins σ (upd H a o) { s with heap:=h',toks:=t' }:=by
 have hn:H a=none:=I.A7.fresh ha
 have HL:∀ b u,H b=some u->b∉fp:=fun b u e z=>by rw [(hf b z).1] at e;cases e
 have ne:∀ b u,H b=some u->b≠a:=fun b u e=>Bu e hn
 have ne2:∀ b u,s.heap.get? b=some u->b≠a:=fun b u e=>BP (CU (AY e) ha)
 refine I.step (g':=s.gens) (d':=s.drawn) (ch:=fp) (fun b hb=>?_) (fun b o _ _ hc e _=>k b o hc e) (fun b o _ _ hc e _=>⟨o.slots,k b o hc e⟩) (fun b o _ e n=>by rw [AF (ne2 b o e)];exact n)
  (fun b o hc e=>⟨o,k b o hc e⟩) (fun b _ e=>by rw [AF (ne b _ e)];exact e) (fun b _ _ e=>by rw [AF (ne b _ e)];exact e) (fun b ps e=>⟨#[],by rw [AF (ne b _ e),e];simp⟩) (fun m hm=>?_) (fun b u e=>?_) I.bare
 ·obtain ⟨_,h1,_,h3,h4,h5⟩:=hf b hb
  exact ⟨h3,h1,h4,h5⟩
 ·obtain ⟨o,es,ep,ho,r⟩:=hm
  exact ⟨o,es,ep,k _ o (fun z=>(hf _ z).2.1 rfl) ho,r⟩
 ·by_cases hb:b=a
  ·subst hb
   rw [AN] at e;cases e
   exact new
  ·rw [AF hb] at e
   refine (I.A7 b u e).Ea (fun c v hc q=>k c v ?_ q) (fun c q=>by rw [AF (ne c _ q)];exact q) fun c _ q=>by rw [AF (ne c _ q)];exact q
   rcases hc with z | z
   ·rw [z];exact HL b u e
   ·exact HL c _ z
def dy (K:tV) (a:Addr) (xs:List V):It:=
 ⟨fun i H=>AG K H a xs/\i < xs.length,fun i H x H'=>∃ p y,xs[i]?=some y/\x=.ref p/\H p=none/\H'=upd H p (.tup [.int i,y]),fun i H=>AG K H a xs/\xs.length<=i⟩
def kF {P:Program}{w:World}{K:tV}{es:List Expr}{k1:Nat}{p1:Pos}(a e it:Addr) (xs:List V) (JH:e≠it) :
  Turn P w K (.Tuple es k1 p1) (dy K a xs) [e,it] e (fun i h=>(∃ old,IsEnum h e it i old)/\h.IsListIter it a i) where
 mem:=by simp
 obj:=fun i h st b hb=>by
  obtain ⟨⟨old,h1⟩,o,h2,_,d⟩:=st
  rcases List.mem_cons.mp hb with z | z
  ·subst z;exact ⟨_,h1,fun v z=>by cases z⟩
  ·have:b=it:=by simpa using z
   subst this
   exact ⟨o,h2,fun v z=>by rw [d] at z;cases z⟩
 keep:=fun i h h' st k=>⟨let ⟨old,h1⟩:=st.1;⟨old,k e (by simp) _ h1⟩,st.2.at fun o q=>k it (by simp) o q⟩
 item:=by
  intro X hP hw hK hc i pins s σ H E I hf st hg
  subst hP hw hK
  obtain ⟨hq,hi⟩:=hg
  obtain ⟨⟨old,he⟩,hit⟩:=st
  obtain ⟨A0,rv,p,hz⟩:=I.list hq
  obtain ⟨u,hu,ru⟩:=rv.get (B4 hi)
  refine wpAny_pyNext_enum_item he hit p.isList (x:=u) (by simpa using hu) JH fun h1 Ft nC Q3 Uu U5=>⟨_,rfl,?_⟩
  refine wpAny_letOwnedTupleGo_enum Ft fun h2 TF BD=>?_
  have AM:e < s.heap.objs.size:=AY he
  have ML:h2.get? s.heap.objs.size=some { cls:=.type "tuple", data:=.seq #[.int i s.toks,u] }:=(BD.2 _ (J4 AM)).trans Q3
  have kp:∀ b o,b∉[e,it]->s.heap.get? b=some o->h2.get? b=some o:=fun b o hb q=>by
   have DK:b≠e/\b≠it:=by simpa using hb
   exact (BD.2 b DK.1).trans (U5 b o DK.1 DK.2 q)
  refine ⟨.ref s.heap.objs.size,_,I.Wr (t':=s.toks+1) (a:=s.heap.objs.size) (o:=.tup [.int i,xs[i]]) hf kp (AV _) ?_,rfl,⟨_,_,B4 hi,rfl,I.A7.fresh (AV _),rfl⟩,⟨⟨_,TF⟩,nC.at fun o q=>(BD.2 it (Ah JH)).trans q⟩,fun b hb=>?_⟩
  ·exact ⟨(by show 2<=sizeLine;decide),[.int i s.toks,u],.cons ⟨_,rfl⟩ (.cons ru .nil),⟨_,ML,rfl,_,rfl⟩,fun ob q=>by rw [ML] at q;cases q;rfl⟩
  ·have eG:b < s.heap.objs.size:=by
    rcases List.mem_cons.mp hb with z | z
    ·rw [z];exact AM
    ·have:b=it:=by simpa using z
     obtain ⟨o,q,_⟩:=hit
     rw [this];exact AY q
   rw [AF (BP eG)]
   exact (hf b hb).1
 done:=by
  intro X hP hw hK hc i pins s σ H E I hf st hg
  subst hP hw hK
  obtain ⟨hq,hx⟩:=hg
  obtain ⟨⟨old,he⟩,hit⟩:=st
  obtain ⟨A0,rv,p,hz⟩:=I.list hq
  have hl:=rv.length
  exact wpAny_pyNext_enum_end (I.ok.hd hc) he hit p.isList (by simp;omega) fun h' eb=>⟨rfl,I.Vn (t':=s.toks) hf fun b o hb q=>eb b o (fun z=>hb (by simp [z])) q⟩
 self:=fun _ _ _ _ _ st h=>let ⟨⟨_,he⟩,_⟩:=st;wpAny_pyIter_enum he h
end
open AutoSeq1 (wpAny_loadPart')
section
variable {prog:Program}{w:World}{A:Around}{E:Value->Shared->Prop}{s:Shared}
end
section
variable {X:Cx}
end
section
variable {M:Model}{A:Around}{E:Value->Shared->Prop}{s:Shared}{env:Env}
end
section
variable {X:Cx}
end
section
variable {prog:Program}{w:World}{A:Around}{E:Value->Shared->Prop}{s:Shared}
end
section
variable {X:Cx}{o:Expr}{lo hi:Option Expr}{to:TE}{tl th:TO}{pos p2:Pos}
end
section
variable {X:Cx}{e:Expr}{te:TE}{pos p2:Pos}
end
def q8 (w:World):Bool:=w.params.followText "set-order"
def r6 (prog:Program) (w:World) (h:Heap) (a:Addr) (S:Str->Bool) (n:Nat):Prop:=
 ∃ o es ep t,h.get? a=some o/\o.ExactSet/\o.data=.set es ep t/\ElemsOf (PySem.strKind prog w) es.toList/\(∀ k,S k=true↔∃ e∈es.toList,(PySem.strKind prog w).is k e.2=true)/\
  es.size < scanBound/\t.fits es.size=true/\es.size=n/\(t.led=!q8 w)/\(0 < es.size->t.plain=false)
section
variable {prog:Program}{w:World}{A:Around}{E:Value->Shared->Prop}{s:Shared}
end
section
variable {prog:Program}{w:World}{A:Around}
end
section
variable {prog:Program}{w:World}{A:Around}{E:Value->Shared->Prop}{s:Shared}
end
section
variable {prog:Program}{w:World}{A:Around}{R:Result->Shared->Prop}{I:Addr}{fp wr:List Addr}{G:Array GenState->Array GenState->Prop}{n:Nat}{P:Nat->Value->Prop}{St:Nat->Shared->Prop}{ss:List Str}
end
section
variable {prog:Program}{w:World}{A:Around}{E:Value->Shared->Prop}{s:Shared}{ss:List Str}
end
def Tn (P:Program) (w:World) (a:Addr) (f:Str->Bool) (n:Nat):HO:=.ext fun h=>r6 P w h a f n
section
variable {X:Cx}
def Inv.drew {pins:tW}{σ:St} {H:Hp}{s:Shared}(I:Inv X pins σ H s) (d:Drawn):Inv X pins σ H { s with drawn:=d }:=
 I.step (h':=s.heap) (g':=s.gens) (t':=s.toks) (d':=d) (ch:=[]) (fun _ z=>nomatch z) (fun b o _ _ _ e _=>e) (fun b o _ _ _ e _=>⟨o.slots,e⟩) (fun _ _ _ _ n=>n) (fun b o _ e=>⟨o,e⟩) (fun _ _ e=>e) (fun _ _ _ e=>e) (fun b ps e=>⟨#[],by rw [e];simp⟩) (fun m hm=>hm) I.A7 I.bare
end
section
variable {prog:Program}{w:World}{A:Around}{E:Value->Shared->Prop}{s:Shared}
end
section
variable {X:Cx}
def oX (K:tV):List V->Hp->VK->Prop:=fun xs H Q=>∃ (p:Addr) (tp:Bool) (ss:List Str),xs=[.ref p]/\Dv K tp H p (ss.map V.str)/\ss.length < 64/\∀ l A8,H l=none->A8.Perm ss->sortedS A8=true->Q (.ref l) (upd H l (.lst (A8.map V.str)))
def je (P:Program) (w:World):List V->Hp->VK->Prop:=fun xs H Q=>∃ (p:Addr) (f:Str->Bool) (n:Nat),xs=[.ref p]/\H p=some (Tn P w p f n)/\n < 64/\∀ l ts,H l=none->ts.length=n->(∀ k,f k=true↔k∈ts)->sortedS ts=true->Q (.ref l) (upd H l (.lst (ts.map V.str)))
end
inductive JK (K:tV) (H:Hp):Nat->V->V->Prop where
 | flat {d:Nat}{x y:V}:Bn x=true->Bn y=true->C1 x y=true->JK K H d x y
 | same {d:Nat}{p:Addr}:JK K H d (.ref p) (.ref p)
 | tup {d:Nat}{p q:Addr}{xs ys:List V}:AU K H p xs->AU K H q ys->xs.length=ys.length->(∀ (j:Nat) (x y:V),xs[j]?=some x->ys[j]?=some y->JK K H d x y)->JK K H (d+1) (.ref p) (.ref q)
section
variable {X:Cx}{pins:tW}{σ:St} {H:Hp}{s:Shared}
end
section
variable {prog:Program}{w:World}{A:Around}{E:Value->Shared->Prop}{s:Shared}
end
section
variable {X:Cx}
end
end L2
namespace HT
open AutoSeq1 (wpAny_loadPart')
def pW (tu:Addr) (vals:Array Value) (k:Nat) (dc:Option Addr) (TV:Array (Option Value)) :
  Meets (Builtin.«enumerate.__new__» ⟨[.type "enumerate", .ref tu],[]⟩) (fun _ R s=>s.heap.get? tu=some { cls:=.type "tuple", dict:=dc,data:=.seq vals k,slots:=TV }/\R (.ok (.ret (.ref (s.heap.push { cls:=.type "tuple_iterator", data:=.fields #[.ref tu,.int 0 0] }).objs.size)))
    { s with heap:=(s.heap.push { cls:=.type "tuple_iterator", data:=.fields #[.ref tu,.int 0 0] }).push { cls:=.type "enumerate", data:=.fields #[.none,.bool false,.ref s.heap.objs.size,rawInt 0,.none,.none] } }):=.of_wp fun prog w A R s h=>by
 obtain ⟨hp,g,d,tk,os⟩:=s;obtain ⟨ho,h⟩:=h;have sb:=sub_enumerate
 have hT:Heap.IsTuple (Shared.heap ⟨hp,g,d,tk,os⟩) tu vals:=⟨_,ho,rfl,k,rfl⟩
 wp_walk using wpAny_loadPart' ho
 refine wpAny_stack_any fun fr=>wpAny_pure ?_
 split
 ·rename_i c _ _ _ _ _
  cases (c == Value.type "enumerate") <;> (wp_walk using wpAny_loadPart' ho,wpAny_pyIter_tuple hT;exact ⟨_,rfl,h⟩)
 ·wp_walk using wpAny_loadPart' ho,wpAny_pyIter_tuple hT
  exact ⟨_,rfl,h⟩
section
variable {prog:Program}{w:World}{A:Around}{E:Value->Shared->Prop}{s:Shared}
def lO {tu:Addr}{vals:Array Value}{Q:Value->Shared->Prop}(hT:s.heap.IsTuple tu vals)
  (q:∀ h',IsEnum h' (s.heap.objs.size+1) s.heap.objs.size 0 .none->h'.IsTupleIter s.heap.objs.size tu 0->h'.objs.size=s.heap.objs.size+2->(∀ b o,s.heap.get? b=some o->h'.get? b=some o)->Q (.ref (s.heap.objs.size+1)) { s with heap:=h' }) :
  wpAny (model prog w) A (call (.type "enumerate") [.ref tu]) Q E s:=by
 obtain ⟨⟨c,dc,dt,TV⟩,ho,hc,k,hd⟩:=hT
 replace hc:c=.type "tuple" := hc;replace hd:dt=.seq vals k:=hd;subst hc hd
 refine callType_new F.called_enumerate (by decide) (F.typeCall_enumerate_1 _) (F.newCall_enumerate_1 _) (fun ob=>F.args_object_init_2 ob _) F.entry_enumerate_new (pW tu vals k dc TV) ⟨ho,?_⟩
 have z:(s.heap.push { cls:=.type "tuple_iterator", data:=.fields #[.ref tu,.int 0 0] }).objs.size=s.heap.objs.size+1:=Ho ..
 show _/\_
 rw [z]
 have he:IsEnum ((s.heap.push { cls:=.type "tuple_iterator", data:=.fields #[.ref tu,.int 0 0] }).push { cls:=.type "enumerate", data:=.fields #[.none,.bool false,.ref s.heap.objs.size,rawInt 0,.none,.none] }) (s.heap.objs.size+1) s.heap.objs.size 0 .none:=by
  have y:=Bx (s.heap.push { cls:=.type "tuple_iterator", data:=.fields #[.ref tu,.int 0 0] }) (o:={ cls:=.type "enumerate", data:=.fields #[.none,.bool false,.ref s.heap.objs.size,rawInt 0,.none,.none] }) rfl
  rw [z] at y;exact y
 exact ⟨⟨_,he,rfl⟩,q _ he ⟨_,B9 _ (Bx _ rfl),rfl,rfl⟩ (by rw [Ho,z]) fun b o y=>B9 _ (B9 _ y)⟩
def jG {it tu:Addr}{i:Nat}{vals:Array Value}{v:Value}{Q:Value->Shared->Prop}(hi:s.heap.IsTupleIter it tu i) (ht:s.heap.IsTuple tu vals) (hv:vals[i]?=some v)
  (q:∀ h',h'.IsTupleIter it tu (i+1)->Heap.SameBut it s.heap h'->Q v { s with heap:=h' }):wpAny (model prog w) A (Builtin.SmallTypes.nextOf (.ref it)) Q E s:=by
 obtain ⟨o,ho,hc,hd⟩:=id hi;obtain ⟨o2,Gs,_,k,hd2⟩:=ht;unfold Builtin.SmallTypes.nextOf
 refine wpAny_bind (wpAny_callSpecial?_slot (name:=Str.ofString "__next__") hi.typeIs UW (wpAny_call_entry UW hi.typeIs rR ?_ (rQ _)))
 show wpAny _ _ (field (.ref it) 0 >>= _) _ _ s;refine wpAny_bind (wpAny_field ho hd (x:=.ref tu) rfl ?_)
 show wpAny _ _ (if (Value.ref tu == Value.none)=true then _ else _) _ _ s;rw [if_neg (show ¬ ((Value.ref tu == Value.none)=true) from C6)]
 show wpAny _ _ (field (.ref it) 1 >>= _) _ _ s;refine wpAny_bind (wpAny_field ho hd (x:=.int i 0) rfl ?_)
 show wpAny _ _ (seqItems? (.ref tu) >>= _) _ _ s;refine wpAny_bind (wpAny_seqItems Gs hd2 ?_);simp only [Iz,hv]
 refine wpAny_bind (wpAny_setField ho hd (by simp) (wpAny_pure ⟨v,rfl,wpAny_pure (q _ ?_ (Heap.SameBut.update ..))⟩))
 exact ⟨_,G6 _ ho (Ol (J5 hd _)),(Obj.cls_mapFields ..).trans hc,by rw [J5 hd];simp [rawInt]⟩
def YI {it tu:Addr}{i:Nat}{vals:Array Value}{Q:Value->Shared->Prop}(hh:A.handled=none) (hi:s.heap.IsTupleIter it tu i) (ht:s.heap.IsTuple tu vals) (hv:vals[i]?=none)
  (q:∀ h' e,Heap.ExtBut it s.heap h'->(∃ o,h'.get? e=some o/\o.cls=.type "StopIteration")->E (.ref e) { s with heap:=h' }):wpAny (model prog w) A (Builtin.SmallTypes.nextOf (.ref it)) Q E s:=by
 obtain ⟨o,ho,hc,hd⟩:=id hi;obtain ⟨o2,Gs,_,k,hd2⟩:=ht;unfold Builtin.SmallTypes.nextOf
 refine wpAny_bind (wpAny_callSpecial?_slot (name:=Str.ofString "__next__") hi.typeIs UW (wpAny_call_entry UW hi.typeIs rR ?_ (rQ _)))
 show wpAny _ _ (field (.ref it) 0 >>= _) _ _ s;refine wpAny_bind (wpAny_field ho hd (x:=.ref tu) rfl ?_)
 show wpAny _ _ (if (Value.ref tu == Value.none)=true then _ else _) _ _ s;rw [if_neg (show ¬ ((Value.ref tu == Value.none)=true) from C6)]
 show wpAny _ _ (field (.ref it) 1 >>= _) _ _ s;refine wpAny_bind (wpAny_field ho hd (x:=.int i 0) rfl ?_)
 show wpAny _ _ (seqItems? (.ref tu) >>= _) _ _ s;refine wpAny_bind (wpAny_seqItems Gs hd2 ?_);simp only [Iz,hv]
 refine wpAny_bind (wpAny_rule (wpAny_bind (wpAny_setField ho hd (by simp) ?_)));show wpAny _ _ (newExc (.type "StopIteration") [] >>= _) _ _ _
 refine wpAny_bind ?_;simp only [newExc,newTuple];refine wpAny_bind (wpAny_newObj_type ?_ (by size_fits))
 refine wpAny_bind (m:=firstArgMember _ _) (wpAny_of_eq (a:=Value.none) (by first | rfl | (simp only [firstArgMember];rfl)) ?_);refine wpAny_newObj_type ?_ (by size_fits)
 simp only [raiseNew];refine wpAny_bind (wpAny_handled ?_);first | rw [show A.in1.handled=none from hh] | rw [hh]
 refine wpAny_bind (wpAny_pure (wpAny_throw ?_));exact q _ _ (((Heap.SameBut.update ..).extBut.push _).push _) ⟨_,Bx _ rfl,rfl⟩
def qY {e it tu:Addr}{vals:Array Value}{i:Nat}{j:Int}{old:Value}{Q:Option Value->Shared->Prop}(hh:A.handled=none) (he:IsEnum s.heap e it j old) (hi:s.heap.IsTupleIter it tu i) (ht:s.heap.IsTuple tu vals) (hv:vals[i]?=none)
  (q:∀ h',Heap.ExtBut it s.heap h'->Q none { s with heap:=h' }):wpAny (model prog w) A (pyNext (.ref e)) Q E s:=by
 have ty:s.TypeIs (.ref e) "enumerate" := ⟨_,he,rfl⟩
 unfold pyNext;refine wpAny_bind (wpAny_attempt (wpAny_callSpecial?_slot (name:=Str.ofString "__next__") ty F.slot_enumerate_next (wpAny_call_entry F.slot_enumerate_next ty F.entry_enumerate_next ?_ (F.args_enumerate_next_1 _))))
 show wpAny _ _ (field (.ref e) 2 >>= _) _ _ _;refine wpAny_bind (wpAny_field he rfl (x:=.ref it) rfl ?_);refine wpAny_bind (YI (show A.in1.handled=none from hh) hi ht hv fun h' x eb hx=>?_)
 obtain ⟨o,ho,hc⟩:=hx
 exact wpAny_bind (wpAny_isInstance (T := "StopIteration") (b:=true) ⟨o,ho,hc⟩ isSubtype_stop (wpAny_pure (q _ eb)))
end
def nE {prog:Program}{w:World}{A:Around}(hh:A.handled=none) (it tu:Addr) (Ag:tu≠it) (vals:Array Value) :
  Draws prog w A it [it,tu] vals.size (fun i v=>vals[i]?=some v) (fun i h=>h.IsTupleIter it tu i/\h.IsTuple tu vals) where
 live:=fun _ _ st=>by obtain ⟨o,ho,_⟩:=st.1;exact ⟨o,ho⟩
 frame:=fun _ _ _ st hk=>by
  obtain ⟨⟨o,ho,r⟩,o2,Gs,r2⟩:=st
  exact ⟨⟨o,hk it (by simp) o ho,r⟩,o2,hk tu (by simp) o2 Gs,r2⟩
 item:=fun i s Q E hi st hQ=>jG st.1 st.2 (v:=vals[i]) (by simp [hi]) fun h' a b=>hQ _ h' s.toks (by simp [hi]) ⟨a,st.2.extBut b.extBut Ag⟩ b
 done:=fun s Q E st hE=>YI hh st.1 st.2 (by simp) hE
end HT
namespace L2
section
variable {X:Cx}
def YG (K:tV) (tp:Bool) (a:Addr) (xs:List V):It:=
 ⟨fun i H=>Dv K tp H a xs/\i < xs.length,fun i H x H'=>∃ p y,xs[i]?=some y/\x=.ref p/\H p=none/\H'=upd H p (.tup [.int i,y]),fun i H=>Dv K tp H a xs/\xs.length<=i⟩
def iH {P:Program}{w:World}{K:tV}{es:List Expr}{k1:Nat}{p1:Pos}(a e it:Addr) (xs:List V) (JH:e≠it) :
  Turn P w K (.Tuple es k1 p1) (YG K true a xs) [e,it] e (fun i h=>(∃ old,IsEnum h e it i old)/\h.IsTupleIter it a i) where
 mem:=by simp
 obj:=fun i h st b hb=>by
  obtain ⟨⟨old,h1⟩,o,h2,_,d⟩:=st
  rcases List.mem_cons.mp hb with z | z
  ·subst z;exact ⟨_,h1,fun v z=>by cases z⟩
  ·have y:b=it:=by simpa using z
   subst y;exact ⟨o,h2,fun v z=>by rw [d] at z;cases z⟩
 keep:=fun i h h' st k=>⟨let ⟨old,h1⟩:=st.1;⟨old,k e (by simp) _ h1⟩,let ⟨o,h2,r⟩:=st.2;⟨o,k it (by simp) o h2,r⟩⟩
 item:=by
  intro X hP hw hK hc i pins s σ H E I hf st hg
  subst hP hw hK
  obtain ⟨hq,hi⟩:=hg;obtain ⟨⟨old,he⟩,hit⟩:=st
  obtain ⟨A0,rv,ht,hz⟩:=I.tuple hq
  obtain ⟨u,hu,ru⟩:=rv.get (B4 hi)
  have Le:A0.toArray[i]?=some u:=by simpa using hu
  have su:a < s.heap.objs.size:=ht.lt
  have ha:a≠it:=by
   rintro rfl
   obtain ⟨o,q1,q2,_⟩:=hit;obtain ⟨o2,q3,q4,_⟩:=ht
   rw [q1] at q3;cases q3;rw [q2] at q4;exact absurd q4 (by decide)
  have Hl:e≠a:=by
   rintro rfl
   obtain ⟨o2,q3,q4,_⟩:=ht
   have q1:=he
   unfold IsEnum at q1
   rw [q1] at q3;cases q3;exact absurd (show Value.type "enumerate" = Value.type "tuple" from q4) (by decide)
  have AM:e < s.heap.objs.size:=AY he
  refine wpAny_pyNext_enum_itemD (n:=A0.toArray.size) (HT.nE (show X.A.in1.handled=none from I.ok.hd hc) it a ha A0.toArray) he ⟨hit,ht⟩ (by rw [Bs,<- rv.length];exact hi) JH (by simp [JH,Hl]) fun v h1 SM pv Ft ke Q3 Uu U5=>⟨_,rfl,?_⟩
  have ev:v=u:=by rw [Le] at pv;exact (BA pv).symm
  subst ev
  refine wpAny_letOwnedTupleGo_enum Ft fun h2 TF BD=>?_
  have ML:h2.get? s.heap.objs.size=some { cls:=.type "tuple", data:=.seq #[.int i SM,v] }:=(BD.2 _ (J4 AM)).trans Q3
  have kp:∀ b o,b∉[e,it]->s.heap.get? b=some o->h2.get? b=some o:=fun b o hb q=>by
   have y:b≠e/\b≠it:=by simpa using hb
   exact (BD.2 b y.1).trans (U5 b o y.1 y.2 q)
  refine ⟨.ref s.heap.objs.size,_,I.Wr (t':=SM+1) (a:=s.heap.objs.size) (o:=.tup [.int i,xs[i]]) hf kp (AV _) ?_,rfl,⟨_,_,B4 hi,rfl,I.A7.fresh (AV _),rfl⟩,⟨⟨_,TF⟩,?_⟩,fun b hb=>?_⟩
  ·exact ⟨(by show 2<=sizeLine;decide),[.int i SM,v],.cons ⟨_,rfl⟩ (.cons ru .nil),⟨_,ML,rfl,_,rfl⟩,fun ob q=>by rw [ML] at q;cases q;rfl⟩
  ·obtain ⟨o,q,r⟩:=ke.1
   exact ⟨o,(BD.2 it (Ah JH)).trans q,r⟩
  ·have y:b < s.heap.objs.size:=by
    rcases List.mem_cons.mp hb with z | z
    ·rw [z];exact AM
    ·have z':b=it:=by simpa using z
     obtain ⟨o,q,_⟩:=hit
     rw [z'];exact AY q
   rw [AF (BP y)]
   exact (hf b hb).1
 done:=by
  intro X hP hw hK hc i pins s σ H E I hf st hg
  subst hP hw hK
  obtain ⟨hq,hx⟩:=hg;obtain ⟨⟨old,he⟩,hit⟩:=st
  obtain ⟨A0,rv,ht,hz⟩:=I.tuple hq
  have hl:=rv.length
  exact HT.qY (I.ok.hd hc) he hit ht (by simp;omega) fun h' eb=>⟨rfl,I.Vn (t':=s.toks) hf fun b o hb q=>eb b o (fun z=>hb (by simp [z])) q⟩
 self:=fun _ _ _ _ _ st h=>let ⟨⟨_,he⟩,_⟩:=st;wpAny_pyIter_enum he h
def QK (K:tV) (t:TA):TI:=fun σ H R=>t σ H fun vs H1=>∃ a tp xs,vs=[.ref a]/\Dv K tp H1 a xs/\R (YG K tp a xs) H1
def jh {es:List Expr}{k1:Nat}{p1 p pos:Pos}{l:Expr}{t:TA}(hg:Gl X "enumerate") (hm:X.mg "enumerate" = none) (ha:PA X [l] t) (hs:starEach [l] X.env=[(false,eval l X.env)]:=by rfl) :
  PI X (.Tuple es k1 p1) (.Call (.Name "enumerate" p) [l] [] pos) (QK X.K t):=by
 intro pins s σ H R I h
 refine wpAny_Call_Name_kw (Lx I hg hm (show bootBuiltins "enumerate" = some (.type "enumerate") by decide +kernel) ?_ (by decide) (by decide))
 refine aq (AE (ha pos pins s σ H _ I h) fun us s1 ⟨vs,H1,I1,r1,q1⟩=>?_) hs rfl
 obtain ⟨a,tp,xs,rfl,hq,q⟩:=q1
 obtain ⟨u,rfl,rx⟩:=vals1 r1
 cases rx
 have Ag:s1.heap.objs.size+1≠s1.heap.objs.size:=Nat.succ_ne_self _
 have fp:∀ b∈[s1.heap.objs.size+1,s1.heap.objs.size],Bw X pins H1 b:=fun b hb=>by
  have y:s1.heap.objs.size<=b:=by
   rcases List.mem_cons.mp hb with z | z
   ·rw [z];exact Md _
   ·have z':b=s1.heap.objs.size:=by simpa using z
    rw [z'];exact AV _
  exact I1.Hy y (I1.A7.fresh y)
 cases tp with
 | false=>
  obtain ⟨A0,rv,p,hz⟩:=I1.list hq
  refine call_enumerate_list p.isList fun h' he hit hsz kp=>wpAny_pyIter_enum he ?_
  exact ⟨s1.heap.objs.size+1,[s1.heap.objs.size+1,s1.heap.objs.size],_,_,H1,rfl,I1.kept (t':=s1.toks) kp,kF a _ _ xs Ag,⟨⟨_,he⟩,hit⟩,fp,q⟩
 | true=>
  obtain ⟨A0,rv,ht,hz⟩:=I1.tuple hq
  refine HT.lO ht fun h' he hit hsz kp=>wpAny_pyIter_enum he ?_
  exact ⟨s1.heap.objs.size+1,[s1.heap.objs.size+1,s1.heap.objs.size],_,_,H1,rfl,I1.kept (t':=s1.toks) kp,iH a _ _ xs Ag,⟨⟨_,he⟩,hit⟩,fp,q⟩
def ik {es:List Expr}{k1:Nat}{p1 p pos:Pos}{l:Expr}{t:TA}(hg:Gl X "enumerate") (hm:X.mg "enumerate" = none) (ha:QA X [l] t) (hs:starEach [l] X.env=[(false,eval l X.env)]:=by rfl) :
  QI X (.Tuple es k1 p1) (.Call (.Name "enumerate" p) [l] [] pos) (QK X.K t):=⟨jh hg hm ha.h hs⟩
end
end L2
namespace MA
def lets (n:Nat):List Nat:=if h:n < 26 then [97+n] else (97+n % 26) :: lets (n / 26)
termination_by n
decreasing_by omega
def vals:List Nat->Nat
 | []=>0
 | c :: r=>(c - 97)+26 * vals r
def JI {n:Nat}(h:n < 26):lets n=[97+n]:=by unfold lets;simp [h]
def MK {n:Nat}(h:¬ n < 26):lets n=(97+n % 26) :: lets (n / 26):=by rw [lets];simp [h]
def ZF:∀ n,vals (lets n)=n:=by
 intro n
 induction n using Nat.strongRecOn with
 | _ n ih=>
  by_cases h:n < 26
  ·rw [JI h];simp [vals]
  ·rw [MK h]
   have:=ih (n / 26) (by omega)
   simp only [vals,this]
   omega
def oV {a b:Nat}(h:lets a=lets b):a=b:=by rw [<- ZF a,h,ZF]
def U1 (n:Nat):1<=(lets n).length:=by
 by_cases h:n < 26
 ·rw [JI h];simp
 ·rw [MK h];simp
theorem Mq:∀ (k n:Nat),n < 26 ^ (k+1)->(lets n).length<=k+1
 | 0,n,h=>by rw [JI (by simpa using h)];simp
 | k+1,n,h=>by
  by_cases h1:n < 26
  ·rw [JI h1];simp
  ·rw [MK h1]
   have:=Mq k (n / 26) (by rw [Nat.pow_succ] at h;exact Nat.div_lt_of_lt_mul (by rw [Nat.mul_comm];exact h))
   simp only [Bm];omega
def jk:∀ n,∀ c∈lets n,97<=c/\c<=122:=by
 intro n
 induction n using Nat.strongRecOn with
 | _ n ih=>
  by_cases h:n < 26
  ·rw [JI h];intro c hc;simp at hc;omega
  ·rw [MK h]
   intro c hc
   rcases List.mem_cons.mp hc with e | e
   ·omega
   ·exact ih (n / 26) (by omega) c e
theorem Vp {α:Type} [DecidableEq α]:∀ (k:Nat) (f:Nat->α) (l:List α),(∀ i j,i < k->j < k->f i=f j->i=j)->(∀ i,i < k->f i∈l)->k<=l.length
 | 0,_,_,_,_=>Cj _
 | k+1,f,l,hi,hm=>by
  have h1:=hm k (ah k)
  have:=Vp k f (l.erase (f k)) (fun i j a b e=>hi i j (by omega) (by omega) e) (fun i a=>by
   have Ag:f i≠f k:=fun e=>by have:=hi i k (by omega) (by omega) e;omega
   exact (rl Ag).mpr (hm i (by omega)))
  rw [rb h1] at this
  have hp:=rf h1
  omega
end MA
namespace Lw
open L2
def Aq (H:Hp) (p:Addr):Prop:=∃ a b:Int,H p=some (.lst [.int a,.int b])/\0<=a/\a < 10 ^ 256/\0<=b/\b < 2147483647
structure BS (p:Addr) (H H':Hp):Prop where
 AI:Aq H' p
 same:E7 p H H'
theorem BS.trans {p:Addr}{H H1 H2:Hp}(a:BS p H H1) (b:BS p H1 H2):BS p H H2:=⟨b.AI,a.same.trans b.same⟩
theorem BS.of {p:Addr}{H H':Hp}(h:Aq H p) (s:A9 H H'):BS p H H':=by
 obtain ⟨a,b,e,r⟩:=h
 exact ⟨⟨a,b,s _ _ e,r⟩,E7.of s⟩
def Aq.same {p:Addr}{H H':Hp}(h:Aq H p) (s:A9 H H'):Aq H' p:=(BS.of h s).AI
def BS.LN {K:tV}{p a:Addr}{H H':Hp}{xs:List V}(s:BS p H H') (h:AG K H a xs) (Ag:a≠p):AG K H' a xs:=by
 rcases h with (h | ⟨o,h⟩) | h
 ·exact .inl (.inl (s.same _ _ Ag h))
 ·exact .inl (.inr ⟨o,s.same _ _ Ag h⟩)
 ·exact .inr h
def BS.at' {p a:Addr}{H H':Hp}{o:HO}(s:BS p H H') (h:H a=some o) (Ag:a≠p):H' a=some o:=s.same _ _ Ag h
def Jg {a:Int}(h0:-(10 ^ 20) < a) (h1:a < 10 ^ 20):a.natAbs < 2 ^ 1000:=by
 have h4:a.natAbs < 10 ^ 20:=by omega
 exact ai h4 (by decide +kernel)
def MH (K:tV):Sp:=fun vs H Q _=>∃ (a:Addr) (ns:List Int) (k:Int),vs=[.ref a,.int k]/\AG K H a (ns.map V.int)/\0<=k/\k<=1000/\∀ p H',H p=none->A9 H H'->Aq H' p->Q (.ref p) H'
def Lc:Sp:=fun vs H Q _=>∃ (p:Addr) (m:Int),vs=[.ref p,.int m]/\Aq H p/\0 < m/\m < 10 ^ 18/\∀ r H',0<=r->r < m->BS p H H'->Q (.int r) H'
def C2 (l:List Nat):Str:=⟨l.toArray⟩
def XG:Sp:=fun vs H Q _=>∃ r:Int,vs=[.int r]/\0<=r/\r < 26 ^ 8/\Q (.str (C2 (MA.lets r.toNat))) H
def Jn {α:Type} {xs:List α}{k:Int}{v:α}(h0:0<=k) (h:xs[k.toNat]?=some v):BK xs k=some v:=by
 have ek:k=((k.toNat:Nat):Int):=by omega
 have q:=Qm h
 rw [<- ek] at q
 exact q
abbrev Jz:Str := "abcdefghijklmnopqrstuvwxyz"
def gq:∀ j,j < 26->Jz.cps.toList[j]?=some (97+j):=by decide +kernel
def XZ {k:Int}(h0:0<=k) (h1:k < 26):BK Jz.cps.toList k=some (97+k.toNat):=Jn h0 (gq _ (by omega))
def Xj (l:List Nat) (c:Nat):C2 l++(⟨#[c]⟩:Str)=C2 (l++[c]):=by
 show (⟨l.toArray++#[c]⟩:Str)=⟨(l++[c]).toArray⟩
 simp
def OJ (l:List Nat):(C2 l).length=l.length:=by simp [C2,Str.length]
def Ye {l:List Nat}:(V.str (C2 l)=V.str (Str.ofString ""))↔l=[]:=by
 constructor
 ·intro h
  injection h with h
  have h2:=congrArg (fun x=>x.cps.toList) h
  have e:(Str.ofString "").cps.toList=[]:=by decide +kernel
  rw [e] at h2
  simpa [C2] using h2
 ·rintro rfl;rfl
def small {n:Nat}(h:n<=100000):n<=sizeLine:=Bt h (by decide +kernel)
def ZX {n k:Nat}{pre:List Nat}(h:pre++MA.lets k=MA.lets n):(0 < k / 26->(pre++[97+k % 26])++MA.lets (k / 26)=MA.lets n)/\(k / 26=0->pre++[97+k % 26]=MA.lets n):=by
 constructor
 ·intro h1
  rw [MA.MK (by omega)] at h
  rw [<- h,CT];rfl
 ·intro h1
  have h2:k < 26:=by omega
  rw [MA.JI h2] at h
  rw [<- h,Nat.mod_eq_of_lt h2]
def Nm (x:Str):Prop:=1<=x.length/\x.length<=8/\∀ c∈x.cps.toList,97<=c/\c<=122
instance (x:Str):Decidable (Nm x):=by unfold Nm;exact inferInstance
def G4 (x:Str):x.length=x.cps.toList.length:=by simp [Str.length]
def Tp {n:Nat}(h:n < 26 ^ 8):Nm (C2 (MA.lets n)):=by
 refine ⟨by rw [OJ];exact MA.U1 n,by rw [OJ];exact MA.Mq 7 n h,fun c hc=>MA.jk n c (by simpa [C2] using hc)⟩
def menu:List Str:=["put", "take", "none", "ahead", "all", "over", "next", "a", "ab", "abc", "abcdefgh", "b", "step"]
def lL:∀ x∈menu,Nm x:=by decide +kernel
def OR:List V:=[.str "put", .str "take", .str "none", .str "ahead", .str "all", .str "over", .str "next", .str "a", .str "ab", .str "abc", .str "abcdefgh", .str "b", .str "step"]
def qo {i:Int}(h0:0<=i) (h1:i < 13):∃ x,BK OR i=some (.str x)/\Nm x:=by
 have hl:menu.length=13:=rfl
 have hi:i.toNat < menu.length:=by omega
 have e:OR=menu.map V.str:=rfl
 refine ⟨menu[i.toNat],Jn h0 ?_,lL _ (Hr hi)⟩
 rw [e,Ak,B4 hi];rfl
def Z1 {ns:List Str}{i:Int}(h0:0<=i) (h1:i < ns.length):∃ x,BK (ns.map V.str) i=some (.str x)/\x∈ns/\ns[i.toNat]?=some x:=by
 have hi:i.toNat < ns.length:=by omega
 exact ⟨ns[i.toNat],Jn h0 (by rw [Ak,B4 hi];rfl),Hr hi,B4 hi⟩
def IH (ns:List Str):(ns.map V.str).all Bn=true:=by
 rw [G7];intro x hx
 obtain ⟨y,_,rfl⟩:=List.mem_map.mp hx;rfl
def QD (x:Str) (ns:List Str):OW (.str x) (ns.map V.str)=decide (x∈ns):=by
 unfold OW
 rw [MW,List.any_eq_true,decide_eq_true_iff]
 constructor
 ·rintro ⟨v,hv,h⟩
  obtain ⟨y,hy,rfl⟩:=List.mem_map.mp hv
  have h':(y == x)=true:=h
  have:y=x:=by simpa using h'
  rw [<- this];exact hy
 ·intro h
  exact ⟨.str x,List.mem_map.mpr ⟨x,h,rfl⟩,by show (x == x)=true;simp⟩
def Yd (xs:List V):Fp xs []=decide (xs=[]):=by
 cases xs with
 | nil=>rfl
 | cons x r=>rw [Mo (by simp)];simp
def jB (z:Str){a b:Nat}{lo hi:Option Int}(FC:a<=b) (hb:b<=z.length) (e:Builtin.Str.strSliceIndices lo hi 1 z.length=Builtin.Str.strSliceIndices (some (a:Int)) (some (b:Int)) 1 z.length) :
  (Txt.slice z lo hi).cps.toList=(z.cps.toList.drop a).take (b - a):=by
 have q:=StrLaws.sliced_plain z FC hb
 rw [<- e] at q
 unfold Txt.slice
 split
 ·rename_i h
  have hl:(Builtin.Str.strSliceIndices lo hi 1 z.length).length=z.length:=by simpa using h
  rw [e,StrLaws.strSliceIndices_plain FC hb,AJ,List.length_range] at hl
  have h1:a=0:=by omega
  have h2:b=z.length:=by omega
  subst h1;subst h2
  rw [UX,Uh,G4,J1]
 ·rw [<- q]
def mU (z:Str){j:Int}(h:0<=j):(Txt.slice z none (some j)).cps.toList=z.cps.toList.take j.toNat:=by
 have e:=jB z (a:=0) (b:=min j.toNat z.length) (lo:=none) (hi:=some j) (Cj _) (Nat.min_le_right _ _) (by
  have h1:¬ j < 0:=by omega
  have h2:¬ (((min j.toNat z.length:Nat):Int) < 0):=by omega
  have h3:max (0:Int) (min j (z.length:Int))=max 0 (min ((min j.toNat z.length:Nat):Int) (z.length:Int)):=by omega
  simp only [Builtin.Str.strSliceIndices,h1,h2,if_false,h3]
  rfl)
 rw [e,UX,Uh]
 rcases Nat.le_total j.toNat z.length with h1 | h1
 ·rw [Nat.min_eq_left h1]
 ·rw [sF h1,G4,J1,Ue (by rw [<- G4];exact h1)]
def Vo {z:Str}{j:Int}(h:1<=j) (hj:j<=8) (hz:1<=z.length) (hc:∀ c∈z.cps.toList,97<=c/\c<=122):Nm (Txt.slice z none (some j)):=by
 have e:=mU z (j:=j) (by omega)
 refine ⟨?_,?_,fun c L9=>hc c ?_⟩
 ·rw [G4,e,EY,<- G4];omega
 ·rw [G4,e,EY];omega
 ·rw [e] at L9;exact rm L9
def aM (x y:Str):(x++y).cps.toList=x.cps.toList++y.cps.toList:=by
 show (x.cps++y.cps).toList=_
 simp
def YJ (x y:Str):(x++y).length=x.length+y.length:=by rw [G4,aM,DL,<- G4,<- G4]
def QY (K:tV):Sp:=fun vs H Q _=>∃ (p q:Addr) (ns:List Str),vs=[.ref p,.ref q]/\Aq H p/\AG K H q (ns.map V.str)/\q≠p/\(∀ x∈ns,Nm x)/\ns.length<=1000/\∀ x H',Nm x->x∉ns->BS p H H'->Q (.str x) H'
def dG {ns:List Str}{k:Nat}(h:∀ j,j < k->C2 (MA.lets j)∈ns):k<=ns.length:=
 MA.Vp k (fun j=>C2 (MA.lets j)) ns (fun i j _ _ e=>MA.oV (by
  have:=congrArg (fun x=>x.cps.toList) e
  simpa [C2] using this)) h
def nJ:1000 < 26 ^ 8:=by decide +kernel
def qX:(1000:Int) < 26 ^ 8:=by decide +kernel
def dY:(26:Int) ^ (8:Int).toNat - 26 < 26 ^ 8:=by decide +kernel
def kM:(26:Int) < 26 ^ 8:=by decide +kernel
def nU:(0:Int) < 26 ^ (8:Int).toNat - 26:=by decide +kernel
def bR:(26:Int) ^ (8:Int).toNat - 26 < 10 ^ 18:=by decide +kernel
def ZV {r:Int}(h0:0<=r) (h:r < 26 ^ 8):r.toNat < 26 ^ 8:=by omega
theorem BS.upd {p l:Addr}{H H2:Hp}{o:HO}(s:BS p H H2) (h:H l=none) (Ag:l≠p):BS p H (upd H2 l o):=by
 obtain ⟨a,b,e,r⟩:=s.AI
 refine ⟨⟨a,b,by rw [AF (Ah Ag)];exact e,r⟩,fun c u hc q=>?_⟩
 rw [AF (Bu q h)]
 exact s.same c u hc q
def Aq.ne {p l:Addr}{H:Hp}(h:Aq H p) (hl:H l=none):l≠p:=by
 obtain ⟨_,_,e,_⟩:=h
 exact (Bu e hl).symm
theorem A9.none {l:Addr}{H H2:Hp}(s:A9 H H2) (h:H2 l=none):H l=none:=by
 cases q:H l with
 | none=>rfl
 | some o=>rw [s l o q] at h;cases h
def Pq:Sp:=fun vs H Q _=>∃ (p:Addr) (m:Int),vs=[.ref p,.int m]/\Aq H p/\0<=m/\m<=100/\
 ∀ l H' (ns:List Str),H l=none->BS p H H'->H' l=some (.lst (ns.map V.str))->(ns.length:Int)=m->(∀ x∈ns,Nm x)->ns.Nodup->Q (.ref l) H'
def Yx:Sp:=fun vs H Q _=>∃ (p:Addr) (m:Int),vs=[.ref p,.int m]/\Aq H p/\1<=m/\m<=100/\
 ∀ l H' (ns:List Str),H l=none->BS p H H'->H' l=some (.lst (ns.map V.str))->(ns.length:Int)<=m->(∀ x∈ns,Nm x)->ns.Nodup->Q (.ref l) H'
def fW {α:Type} {l:List α}{x:α}(h:l.Nodup) (hx:x∉l):(l++[x]).Nodup:=by
 rw [Be]
 exact ⟨h,by simp,fun a ha b hb=>by
  have:b=x:=by simpa using hb
  subst this
  rintro rfl
  exact hx ha⟩
def OE (c:Nat):Bool:=!(Builtin.Str.occurrences Jz ⟨#[c]⟩ 0 Jz.length 1).isEmpty
def isNm (x:Str):Bool:=decide ((1:Int)<=x.length) && (decide ((x.length:Int)<=8) && x.cps.toList.all OE)
def Sw:Sp:=fun vs H Q _=>∃ x:Str,vs=[.str x]/\x.length<=1000/\∀ H',A9 H H'->Q (.bl (isNm x)) H'
def cx {α:Type} (l:List α):l.filter (fun _=>true)=l:=List.filter_eq_self.mpr fun _ _=>rfl
def Wf:V->V
 | .str y=>.bl (!(Builtin.Str.occurrences Jz y 0 Jz.length 1).isEmpty)
 | _=>.bl false
def n9 (x:Str):((Ep x).filter (fun _=>true)).map Wf=(x.cps.toList.map OE).map V.bl:=by
 unfold Ep
 rw [cx,Ci,Ci]
 rfl
def signs_get {x:Str}{i:Nat}{v:V}(h:(Ep x)[i]?=some v):∃ c,v=.str ⟨#[c]⟩:=by
 unfold Ep at h
 rw [Ak] at h
 cases q:x.cps.toList[i]? with
 | none=>rw [q] at h;cases h
 | some c=>rw [q] at h;simp at h;exact ⟨c,h.symm⟩
theorem all_map {α:Type} (f:α->Bool) (l:List α):(l.map f).all id=l.all f:=by rw [List.all_map];rfl
def j5 (xs:List Str):Fp (xs.map V.str) (xs.map V.str)=true:=by
 rw [NS rfl,G7]
 intro j hj
 have P5:j < xs.length:=by simpa using hj
 have e:(xs.map V.str)[j]?=some (.str xs[j]):=by rw [Ak,B4 P5];rfl
 rw [LX e];show (xs[j] == xs[j])=true;simp
def MS (K:tV) (t:String):PySem.W.kitOne K (.type t) (.type t)=some true:=by
 unfold PySem.W.kitOne;rw [if_pos (by simp)]
def LW (K:tV):Sp:=fun vs H Q _=>∃ (a:Addr) (ns:List Int),vs=[.ref a]/\AG K H a (ns.map V.int)/\ns.length<=63/\∀ H',Q (.bl true) H'
inductive CB where
 | put (x:Str) (i:Nat) | take (x:Str) | move (x:Str) (i:Nat) | turn (lo hi:Nat)
def CB.vals:CB->List V
 | .put x i=>[.str "put", .str x,.int i]
 | .take x=>[.str "take", .str x]
 | .move x i=>[.str "move", .str x,.int i]
 | .turn lo hi=>[.str "turn", .int lo,.int hi]
def CB.Ok (m:Nat) (ns:List Str):CB->Prop
 | .put x i=>Nm x/\x∉ns/\i<=ns.length/\ns.length < m
 | .take x=>x∈ns
 | .move x i=>x∈ns/\i < ns.length
 | .turn lo hi=>lo<=hi/\hi<=ns.length
def ins (ns:List Str) (x:Str) (i:Nat):List Str:=ns.take i++x :: ns.drop i
def wo (ns:List Str) (x:Str):List Str:=ns.filter fun y=>!decide (y=x)
def dz (ns:List Str) (lo hi:Nat):List Str:=ns.take lo++((ns.drop lo).take (hi - lo)).reverse++ns.drop hi
def CB.done (ns:List Str):CB->List Str
 | .put x i=>ins ns x i
 | .take x=>wo ns x
 | .move x i=>ins (wo ns x) x i
 | .turn lo hi=>dz ns lo hi
def Zt (xs:List V) (i:Nat):Et xs none (some (i:Int))=xs.take i:=by
 unfold Et
 rw [HT.dF,HT.fS,UX,Uh]
 rcases Nat.le_total i xs.length with h | h
 ·rw [Nat.min_eq_left h]
 ·rw [sF h,J1,Ue h]
def CP (tp:Bool) (xs:List V):HO:=match tp with
 | false=>.lst xs
 | true=>.tup xs
def CP.sq {K:tV}{tp:Bool}{H:Hp}{a:Addr}{xs:List V}(h:H a=some (CP tp xs)):Dv K tp H a xs:=by
 cases tp
 ·exact AG.of h
 ·exact AU.of h
def di:Sp:=fun vs H Q _=>∃ (a:Addr) (tp:Bool) (ns:List Str) (x:Str),vs=[.ref a,.str x]/\H a=some (CP tp (ns.map V.str))/\x∈ns/\Q (.int (ns.idxOf x:Nat)) H
def iN (H:Hp) (Q:VK) (ns:List Str):Prop:=∀ l H',H l=none->A9 H H'->H' l=some (.lst (ns.map V.str))->Q (.ref l) H'
def bU:Sp:=fun vs H Q _=>∃ (a t:Addr) (ns:List Str) (d:CB),vs=[.ref a,.ref t]/\H a=some (.lst (ns.map V.str))/\H t=some (.tup d.vals)/\d.Ok 40 ns/\ns.length<=40/\ns.Nodup/\iN H Q (d.done ns)
def kO:Sp:=fun vs H Q _=>∃ (p a:Addr) (m:Nat) (ns:List Str),vs=[.ref p,.ref a,.int m]/\Aq H p/\H a=some (.lst (ns.map V.str))/\a≠p/\(∀ x∈ns,Nm x)/\ns.length<=m/\1<=m/\m<=100/\
 ∀ (d:CB) t H',H t=none->BS p H H'->H' t=some (.tup d.vals)->d.Ok m ns->Q (.ref t) H'
def Dt {c A B:Prop} [Decidable c] (h:¬ c) (b:B):if c then A else B:=by rw [if_neg h];exact b
def eN:∀ j,j < 26->OE (97+j)=true:=by decide +kernel
def kX {x:Str}(h:Nm x):isNm x=true:=by
 obtain ⟨h1,h2,h3⟩:=h
 unfold isNm
 rw [decide_eq_true (by omega),decide_eq_true (by omega),KH,KH,G7]
 intro c hc
 obtain ⟨a,b⟩:=h3 c hc
 have:=eN (c - 97) (by omega)
 have e:97+(c - 97)=c:=by omega
 rw [e] at this
 exact this
end Lw
namespace Fz
open L2 Lw
inductive PV where
 | A4 | bl (b:Bool) | int (i:Int) | str (x:Str) | lst (xs:List PV) | tup (xs:List PV)
 | Ae (ks:List Key) (xs:List PV) | obj (C:Addr) (ns:List Str) (xs:List PV) | exc (C:Addr) (ns:List Str) (xs:List PV) | con (a:Addr) (xs:List PV)
def GB (a C:Addr) (dx:Option Addr):HO:=.ext fun h=>∃ ob vs,h.get? a=some ob/\ob.cls=.ref C/\ob.dict=dx/\ob.data=.fields vs
mutual
inductive Rep (F:Hp):V->PV->Prop where
 | A4:Rep F .A4 .A4
 | bl (b:Bool):Rep F (.bl b) (.bl b)
 | int (i:Int):Rep F (.int i) (.int i)
 | str (x:Str):Rep F (.str x) (.str x)
 | lst {a:Addr}{vs:List V}{xs:List PV}:F a=some (.lst vs)->AD F vs xs->Rep F (.ref a) (.lst xs)
 | tup {a:Addr}{vs:List V}{xs:List PV}:F a=some (.tup vs)->AD F vs xs->Rep F (.ref a) (.tup xs)
 | Ae {a:Addr}{ks:List Key}{vs:List V}{xs:List PV}:F a=some (.dK (ks.zip vs))->ks.length=vs.length->AD F vs xs->Rep F (.ref a) (.Ae ks xs)
 | obj {a C dx:Addr}{ns:List Str}{vs:List V}{xs:List PV}:F a=some (.ins C dx (ns.zip vs))->F dx=some (.own a)->ns.length=vs.length->AD F vs xs->Rep F (.ref a) (.obj C ns xs)
 | con {a:Addr}{xs:List PV}:Rep F (.ref a) (.con a xs)
 | K9 {a C:Addr}:F a=some (GB a C none)->Rep F (.ref a) (.exc C [] [])
 | exc {a C dx:Addr}{ns:List Str}{vs:List V}{xs:List PV}:F a=some (GB a C (some dx))->F dx=some (.xd (ns.zip vs))->ns.length=vs.length->AD F vs xs->Rep F (.ref a) (.exc C ns xs)
inductive AD (F:Hp):List V->List PV->Prop where
 | nil:AD F [] []
 | cons {v:V}{p:PV}{vs:List V}{ps:List PV}:Rep F v p->AD F vs ps->AD F (v :: vs) (p :: ps)
end
mutual
theorem Rep.mono {F F':Hp}(s:A9 F F'):∀ {v:V}{p:PV},Rep F v p->Rep F' v p
 | _,_,.A4=>.A4
 | _,_,.bl b=>.bl b
 | _,_,.int i=>.int i
 | _,_,.str x=>.str x
 | _,_,.lst h r=>.lst (s _ _ h) (AD.mono s r)
 | _,_,.tup h r=>.tup (s _ _ h) (AD.mono s r)
 | _,_,.Ae h e r=>.Ae (s _ _ h) e (AD.mono s r)
 | _,_,.obj h h2 e r=>.obj (s _ _ h) (s _ _ h2) e (AD.mono s r)
 | _,_,.con=>.con
 | _,_,.K9 h=>.K9 (s _ _ h)
 | _,_,.exc h h2 e r=>.exc (s _ _ h) (s _ _ h2) e (AD.mono s r)
theorem AD.mono {F F':Hp}(s:A9 F F'):∀ {vs:List V}{ps:List PV},AD F vs ps->AD F' vs ps
 | _,_,.nil=>.nil
 | _,_,.cons r t=>.cons (Rep.mono s r) (AD.mono s t)
end
theorem AD.length {F:Hp}:∀ {vs:List V}{ps:List PV},AD F vs ps->vs.length=ps.length
 | [],_,.nil=>rfl
 | _ :: _,_,.cons _ t=>by rw [Bm,Bm,AD.length t]
theorem AD.get {F:Hp}:∀ {vs:List V}{ps:List PV}{i:Nat}{p:PV},AD F vs ps->ps[i]?=some p->∃ v,vs[i]?=some v/\Rep F v p
 | _,_,_,_,.nil,e=>by simp at e
 | _,_,0,_,.cons r _,e=>by simp at e;subst e;exact ⟨_,rfl,r⟩
 | _,_,i+1,p,.cons _ t,e=>by
  obtain ⟨u,h1,h2⟩:=AD.get (i:=i) (p:=p) t (by simpa using e)
  exact ⟨u,by simpa using h1,h2⟩
theorem AD.get' {F:Hp}:∀ {vs:List V}{ps:List PV}{i:Nat}{v:V},AD F vs ps->vs[i]?=some v->∃ p,ps[i]?=some p/\Rep F v p
 | _,_,_,_,.nil,e=>by simp at e
 | _,_,0,_,.cons r _,e=>by simp at e;subst e;exact ⟨_,rfl,r⟩
 | _,_,i+1,p,.cons _ t,e=>by
  obtain ⟨u,h1,h2⟩:=AD.get' (i:=i) (v:=p) t (by simpa using e)
  exact ⟨u,by simpa using h1,h2⟩
theorem AD.append {F:Hp}:∀ {vs ws:List V}{ps qs:List PV},AD F vs ps->AD F ws qs->AD F (vs++ws) (ps++qs)
 | _,_,_,_,.nil,s=>s
 | _,_,_,_,.cons r t,s=>.cons r (AD.append t s)
theorem AD.take {F:Hp}:∀ {vs:List V}{ps:List PV}(n:Nat),AD F vs ps->AD F (vs.take n) (ps.take n)
 | _,_,0,_=>by simp only [List.take_zero];exact .nil
 | _,_,_+1,.nil=>.nil
 | _,_,n+1,.cons r t=>.cons r (AD.take n t)
theorem AD.drop {F:Hp}:∀ {vs:List V}{ps:List PV}(n:Nat),AD F vs ps->AD F (vs.drop n) (ps.drop n)
 | _,_,0,r=>r
 | _,_,_+1,.nil=>.nil
 | _,_,n+1,.cons _ t=>AD.drop n t
def AD.one {F:Hp}{v:V}{p:PV}(r:Rep F v p):AD F [v] [p]:=.cons r .nil
theorem AD.reverse {F:Hp}:∀ {vs:List V}{ps:List PV},AD F vs ps->AD F vs.reverse ps.reverse
 | _,_,.nil=>.nil
 | _,_,.cons r t=>by rw [rq,rq];exact (AD.reverse t).append (.one r)
def flat:PV->Bool
 | .lst _=>false
 | .tup _=>false
 | .Ae _ _=>false
 | .obj _ _ _=>false
 | .exc _ _ _=>false
 | .con _ _=>false
 | _=>true
def enc:PV->V
 | .bl b=>.bl b
 | .int i=>.int i
 | .str x=>.str x
 | _=>.A4
theorem Rep.enc {F:Hp}{v:V}{p:PV}(h:flat p=true) (r:Rep F v p):v=enc p:=by
 cases r <;> first | rfl | cases h
def cD {F:Hp}{p:PV}(h:flat p=true):Rep F (enc p) p:=by
 cases p with
 | A4=>exact .A4
 | bl b=>exact .bl b
 | int i=>exact .int i
 | str x=>exact .str x
 | lst xs=>cases h
 | tup xs=>cases h
 | Ae ks xs=>cases h
 | obj C ns xs=>cases h
 | exc C ns xs=>cases h
 | con a xs=>cases h
theorem AD.enc {F:Hp}:∀ {vs:List V}{ps:List PV},ps.all flat=true->AD F vs ps->vs=ps.map enc
 | _,_,_,.nil=>rfl
 | _,_,h,.cons r t=>by
  rw [MZ,DW] at h
  rw [BV,<- Rep.enc h.1 r,<- AD.enc h.2 t]
theorem OB {F:Hp}:∀ {ps:List PV},ps.all flat=true->AD F (ps.map enc) ps
 | [],_=>.nil
 | p :: r,h=>by
  rw [MZ,DW] at h
  exact .cons (cD h.1) (OB h.2)
def OS {p:PV}(h:flat p=true):Bn (Fz.enc p)=true:=by cases p <;> first | rfl | cases h
def Zy (ns:List Str):(ns.map PV.str).all flat=true:=by
 rw [G7];intro x hx
 obtain ⟨y,_,rfl⟩:=List.mem_map.mp hx;rfl
def ju (ns:List Int):(ns.map PV.int).all flat=true:=by
 rw [G7];intro x hx
 obtain ⟨y,_,rfl⟩:=List.mem_map.mp hx;rfl
def jK (ns:List Bool):(ns.map PV.bl).all flat=true:=by
 rw [G7];intro x hx
 obtain ⟨y,_,rfl⟩:=List.mem_map.mp hx;rfl
def Qp (ns:List Str):(ns.map PV.str).map Fz.enc=ns.map V.str:=by rw [Ci];rfl
def gp (ns:List Bool):(ns.map PV.bl).map Fz.enc=ns.map V.bl:=by rw [Ci];rfl
def cM (ns:List Int):(ns.map PV.int).map Fz.enc=ns.map V.int:=by rw [Ci];rfl
def AD.strs {F:Hp}{vs:List V}{ns:List Str}(r:AD F vs (ns.map PV.str)):vs=ns.map V.str:=(r.enc (Zy ns)).trans (Qp ns)
def Ij {F:Hp}(ns:List Str):AD F (ns.map V.str) (ns.map PV.str):=by rw [<- Qp];exact OB (Zy ns)
def AD.R1 {F:Hp}{vs:List V}{ns:List Bool}(r:AD F vs (ns.map PV.bl)):vs=ns.map V.bl:=(r.enc (jK ns)).trans (gp ns)
inductive NK where
 | lst | Ae (ks:List Key) | obj (C dx:Addr) (ns:List Str)
def NK.ho:NK->List V->HO
 | .lst,vs=>.lst vs
 | .Ae ks,vs=>.dK (ks.zip vs)
 | .obj C dx ns,vs=>.ins C dx (ns.zip vs)
def NK.more:NK->List Addr
 | .obj _ dx _=>[dx]
 | _=>[]
def NK.side (k:NK) (a:Addr) (H:Hp):Prop:=match k with
 | .obj _ dx _=>H dx=some (.own a)
 | _=>True
def NK.fit (k:NK) (n:Nat):Prop:=match k with
 | .Ae ks=>ks.length=n
 | .obj _ _ ns=>ns.length=n
 | _=>True
inductive OV where
 | fz (p:PV)
 | tp (xs:List OV)
 | nd (k:NK) (a:Addr) (xs:List OV)
mutual
def OV.addrs:OV->List Addr
 | .fz _=>[]
 | .tp xs=>OV.AO xs
 | .nd k a xs=>a :: (k.more++OV.AO xs)
def OV.AO:List OV->List Addr
 | []=>[]
 | x :: r=>x.addrs++OV.AO r
end
mutual
def OV.pv:OV->PV
 | .fz p=>p
 | .tp xs=>.tup (OV.BM xs)
 | .nd .lst _ xs=>.lst (OV.BM xs)
 | .nd (.Ae ks) _ xs=>.Ae ks (OV.BM xs)
 | .nd (.obj C _ ns) _ xs=>.obj C ns (OV.BM xs)
def OV.BM:List OV->List PV
 | []=>[]
 | x :: r=>x.pv :: OV.BM r
end
mutual
inductive Aa (F H:Hp):V->OV->Prop where
 | fz {v:V}{p:PV}:Rep F v p->Aa F H v (.fz p)
 | tp {a:Addr}{vs:List V}{xs:List OV}:F a=some (.tup vs)->AZ F H vs xs->Aa F H (.ref a) (.tp xs)
 | nd {k:NK}{a:Addr}{vs:List V}{xs:List OV}:H a=some (k.ho vs)->k.side a H->k.fit vs.length->AZ F H vs xs->Aa F H (.ref a) (.nd k a xs)
inductive AZ (F H:Hp):List V->List OV->Prop where
 | nil:AZ F H [] []
 | cons {v:V}{t:OV}{vs:List V}{ts:List OV}:Aa F H v t->AZ F H vs ts->AZ F H (v :: vs) (t :: ts)
end
def OV.Cm {k:NK}{a:Addr}{xs:List OV}:(OV.nd k a xs).addrs=a :: (k.more++OV.AO xs):=by rw [OV.addrs]
def OV.Dy {xs:List OV}:(OV.tp xs).addrs=OV.AO xs:=by rw [OV.addrs]
def OV.My {p:PV}:(OV.fz p).addrs=[]:=by rw [OV.addrs]
def OV.CS {x:OV}{r:List OV}:OV.AO (x :: r)=x.addrs++OV.AO r:=by rw [OV.AO]
def OV.Gp:OV.AO []=[]:=by rw [OV.AO]
def NK.WA {k:NK}{a:Addr}{H H':Hp}(h:k.side a H) (s:∀ b∈k.more,∀ o,H b=some o->H' b=some o):k.side a H':=by
 cases k with
 | obj C dx ns=>exact s dx (by simp [NK.more]) _ h
 | _=>trivial
mutual
theorem Aa.mono {F F' H H':Hp}(f:A9 F F'):∀ {v:V}{t:OV},Aa F H v t->(∀ a∈t.addrs,∀ o,H a=some o->H' a=some o)->Aa F' H' v t
 | _,_,.fz r,_=>.fz (r.mono f)
 | _,_,.tp h r,s=>by
  rw [OV.Dy] at s
  exact .tp (f _ _ h) (AZ.mono f r s)
 | _,_,.nd h sd ft r,s=>by
  rw [OV.Cm] at s
  exact .nd (s _ (by simp) _ h) (NK.WA sd fun b hb=>s b (by simp [hb])) ft (AZ.mono f r fun a ha=>s a (by simp [ha]))
theorem AZ.mono {F F' H H':Hp}(f:A9 F F'):∀ {vs:List V}{ts:List OV},AZ F H vs ts->(∀ a∈OV.AO ts,∀ o,H a=some o->H' a=some o)->AZ F' H' vs ts
 | _,_,.nil,_=>.nil
 | _,_,.cons r t,s=>by
  rw [OV.CS] at s
  exact .cons (Aa.mono f r fun a ha=>s a (by simp [ha])) (AZ.mono f t fun a ha=>s a (by simp [ha]))
end
mutual
theorem Aa.there {F H:Hp}:∀ {v:V}{t:OV},Aa F H v t->∀ a∈t.addrs,H a≠none
 | _,_,.fz _,a,ha=>by rw [OV.addrs] at ha;cases ha
 | _,_,.tp _ r,a,ha=>by rw [OV.Dy] at ha;exact AZ.there r a ha
 | _,_,@Aa.nd _ _ k b vs xs h sd ft r,a,ha=>by
  rw [OV.Cm,KL,Ub] at ha
  rcases ha with rfl | ha | ha
  ·rw [h];simp
  ·cases k with
   | obj C dx ns=>
    have e:a=dx:=by simpa [NK.more] using ha
    subst e
    have Qg:H a=some (.own b):=sd
    rw [Qg];simp
   | _=>simp [NK.more] at ha
  ·exact AZ.there r a ha
theorem AZ.there {F H:Hp}:∀ {vs:List V}{ts:List OV},AZ F H vs ts->∀ a∈OV.AO ts,H a≠none
 | _,_,.nil,a,ha=>by rw [OV.Gp] at ha;cases ha
 | _,_,.cons r t,a,ha=>by
  rw [OV.CS,Ub] at ha
  rcases ha with ha | ha
  ·exact Aa.there r a ha
  ·exact AZ.there t a ha
end
theorem AZ.length {F H:Hp}:∀ {vs:List V}{ts:List OV},AZ F H vs ts->vs.length=ts.length
 | [],_,.nil=>rfl
 | _ :: _,_,.cons _ t=>by rw [Bm,Bm,AZ.length t]
inductive Slot where
 | any | is (p:PV) | own (xs:List PV) | AI | sq (tp:Bool) (xs:List PV) | raw (P:Hp->V->Prop) | ow (lt:Bool) (t:OV)
structure Ent0 where
 A:List Addr
 F0:Hp
 H0:Hp
 B:List Addr
abbrev E3 (A:List Addr) (F H:Hp):Ent0:=⟨A,F,H,[]⟩
def Ok (E:Ent0) (F H:Hp):Slot->Option (Option V)->Prop
 | .any,_=>True
 | .is p,o=>∃ v,o=some (some v)/\Rep F v p
 | .own xs,o=>∃ l vs,o=some (some (.ref l))/\F l=none/\E.H0 l=none/\H l=some (.lst vs)/\AD F vs xs
 | .AI,o=>∃ l,o=some (some (.ref l))/\F l=none/\(E.H0 l=none∨l∈E.A)/\Aq H l
 | .sq true xs,o=>∃ v,o=some (some v)/\Rep F v (.tup xs)
 | .sq false xs,o=>∃ l vs,o=some (some (.ref l))/\(l∉E.A/\l∉E.B)/\E.H0 l=some (.lst vs)/\AD F vs xs
 | .raw P,o=>∃ v,o=some (some v)/\P F v/\∀ F F',A9 F F'->P F v->P F' v
 | .ow lt t,o=>∃ v,o=some (some v)/\Aa F H v t/\t.addrs.Nodup/\∀ a∈t.addrs,F a=none/\(E.H0 a=none∨(lt=true/\a∈E.B))
def An:Slot->Option (Option V)->Addr->Prop
 | .own _,o,l=>o=some (some (.ref l))
 | .AI,o,l=>o=some (some (.ref l))
 | .ow _ t,_,l=>l∈t.addrs
 | _,_,_=>False
structure Fin (E:Ent0) (F H:Hp):Prop where
 fh:A9 F H
 f0:A9 E.F0 F
 keep:∀ a o,(a∉E.A/\a∉E.B)->E.H0 a=some o->H a=some o
 fresh:∀ a o,F a=some o->E.F0 a=some o∨E.H0 a=none
 Es:∀ a,a∈E.A->Aq H a
 IS:∀ a,a∈E.A->F a=none
 a0:∀ a,a∈E.A->E.H0 a≠none
 bF:∀ a,a∈E.B->F a=none
 bH:∀ a,a∈E.B->H a≠none
 b0:∀ a,a∈E.B->E.H0 a≠none/\a∉E.A
structure Sg (E:Ent0) (ss:List Slot) (σ:L2.St) (F H:Hp):Prop extends Fin E F H where
 len:ss.length=σ.length
 ok:∀ (i:Nat) s,ss[i]?=some s->Ok E F H s σ[i]?
 BG:∀ (i j:Nat) s u l,i≠j->ss[i]?=some s->ss[j]?=some u->An s σ[i]? l->¬ An u σ[j]? l
structure Ex where
 C:Addr
 ns:List Str
 xs:List PV
def Ex.at (x:Ex) (F:Hp) (C:Value) (dx:Option Addr):Prop:=
 C=.ref x.C/\((x.ns=[]/\x.xs=[]/\dx=none)∨∃ a vs,dx=some a/\F a=some (.xd (x.ns.zip vs))/\x.ns.length=vs.length/\AD F vs x.xs)
class Xw where
 e:L2.St->XK
 J:List Slot->Prop
 D:Ex->Prop
structure Ent [Xw] extends Ent0 where
 hx:∀ (ss:List Slot) (σ:L2.St) (F H:Hp) (x:Ex) (C:Value) (dx:Option Addr),Xw.J ss->Sg toEnt0 ss σ F H->Xw.D x->x.at F C dx->Xw.e σ C dx H
instance [Xw]:CoeOut Ent Ent0:=⟨Ent.toEnt0⟩
instance X0:Xw:=⟨fun _=>E0,fun _=>True,fun _=>False⟩
def Bf (ss:List Slot) (σ:L2.St) (a:Addr):Prop:=∀ i:Nat,ss[i]?=some .AI->σ[i]?≠some (some (.ref a))
structure Mv (E:Ent0) (ss:List Slot) (σ:L2.St) (F H F' H':Hp):Prop where
 st:Sg E ss σ F' H'
 ff:A9 F F'
 hh:∀ a o,Bf ss σ a->H a=some o->H' a=some o
 nn:∀ a o,F' a=some o->F a=some o∨H a=none
def Sg.LF {E:Ent0}{ss:List Slot}{σ:L2.St} {F H:Hp}(S:Sg E ss σ F H){l:Addr}(h:H l=none):Bf ss σ l:=fun i hi e=>by
 obtain ⟨l',e1,_,_,_,_,e2,_⟩:=S.ok i _ hi
 rw [e] at e1
 cases e1
 rw [h] at e2;cases e2
theorem Mv.none {E:Ent0}{ss:List Slot}{σ:L2.St} {F H F' H':Hp}(m:Mv E ss σ F H F' H'){a:Addr}(h:H' a=none):H a=none:=by
 cases e:H a with
 | none=>rfl
 | some o=>rw [m.hh a o (m.st.LF h) e] at h;cases h
theorem Mv.refl {E:Ent0}{ss:List Slot}{σ:L2.St} {F H:Hp}(S:Sg E ss σ F H):Mv E ss σ F H F H:=⟨S,A9.refl _,fun _ _ _ e=>e,fun _ _ e=>.inl e⟩
theorem Mv.trans {E:Ent0}{ss:List Slot}{σ:L2.St} {F H F1 H1 F2 H2:Hp}(a:Mv E ss σ F H F1 H1) (b:Mv E ss σ F1 H1 F2 H2):Mv E ss σ F H F2 H2:=
 ⟨b.st,a.ff.trans b.ff,fun c o n e=>b.hh c o n (a.hh c o n e),fun c o e=>(b.nn c o e).elim (fun e=>a.nn c o e) fun e=>.inr (a.none e)⟩
section
variable {E:Ent0}{ss:List Slot}{σ:L2.St} {F H F' H':Hp}
def Sg.Cz (S:Sg E ss σ F H){p:Addr}(h:H p=none):E.H0 p=none:=by
 cases e:E.H0 p with
 | none=>rfl
 | some o=>
  by_cases q:p∈E.A
  ·obtain ⟨_,_,e1,_⟩:=S.Es p q
   rw [h] at e1;cases e1
  ·by_cases qb:p∈E.B
   ·exact absurd h (S.bH p qb)
   ·rw [S.keep p o ⟨q,qb⟩ e] at h;cases h
def Sg.BC (S:Sg E ss σ F H){p:Addr}(h:H p=none):F p=none:=A9.none S.fh h
def Aq.keep {H H':Hp}{l:Addr}(h:Aq H l) (k:∀ o,H l=some o->H' l=some o):Aq H' l:=by
 obtain ⟨a,b,e,r⟩:=h
 exact ⟨a,b,k _ e,r⟩
def Sg.Wu (S:Sg E ss σ F H){l:Addr}{o:HO}(h:F l=some o):Bf ss σ l:=fun i hi e=>by
 obtain ⟨l',e1,e2,_⟩:=S.ok i _ hi
 rw [e] at e1
 cases e1
 rw [h] at e2;cases e2
def Sg.Xq (S:Sg E ss σ F H){l:Addr}{o:HO}(hA:l∉E.A) (h:E.H0 l=some o):Bf ss σ l:=fun i hi e=>by
 obtain ⟨l',e1,_,q,_⟩:=S.ok i _ hi
 rw [e] at e1
 cases e1
 rcases q with q | q
 ·rw [h] at q;cases q
 ·exact hA q
def Sg.jT (S:Sg E ss σ F H){l:Addr}(h:l∈E.B):Bf ss σ l:=fun i hi e=>by
 obtain ⟨l',e1,_,q,_⟩:=S.ok i _ hi
 rw [e] at e1
 cases e1
 obtain ⟨h0,hA⟩:=S.b0 l h
 rcases q with q | q
 ·exact h0 q
 ·exact hA q
def Sg.DJ (S:Sg E ss σ F H){i:Nat}{s:Slot}{l:Addr}(h:ss[i]?=some s) (m:An s σ[i]? l):H l≠none:=by
 have k:=S.ok i s h
 cases s with
 | own xs=>obtain ⟨l',vs,e1,_,_,e2,_⟩:=k;rw [show σ[i]?=some (some (.ref l)) from m] at e1;cases e1;rw [e2];simp
 | AI=>obtain ⟨l',e1,_,_,_,_,e2,_⟩:=k;rw [show σ[i]?=some (some (.ref l)) from m] at e1;cases e1;rw [e2];simp
 | ow lt t=>obtain ⟨v,_,r,_⟩:=k;exact r.there l m
 | _=>cases m
def Sg.oa (S:Sg E ss σ F H){i:Nat}{s:Slot}{l:Addr}(h:ss[i]?=some s) (m:An s σ[i]? l):F l=none:=by
 have k:=S.ok i s h
 cases s with
 | own xs=>obtain ⟨l',vs,e1,e2,_⟩:=k;rw [show σ[i]?=some (some (.ref l)) from m] at e1;cases e1;exact e2
 | AI=>obtain ⟨l',e1,e2,_⟩:=k;rw [show σ[i]?=some (some (.ref l)) from m] at e1;cases e1;exact e2
 | ow lt t=>obtain ⟨v,_,r,_,q⟩:=k;exact (q l m).1
 | _=>cases m
def Sg.Ir (S:Sg E ss σ F H){i:Nat}{s:Slot}{l:Addr}(h:ss[i]?=some s) (hl:H l=none):¬ An s σ[i]? l:=fun m=>S.DJ h m hl
def Sg.JU (S:Sg E ss σ F H){i:Nat}{s:Slot}{l:Addr}(h:ss[i]?=some s) (m:An s σ[i]? l) (np:s≠.AI):Bf ss σ l:=fun j hj ej=>
 S.BG i j s _ l (by rintro rfl;rw [h] at hj;exact np (BA hj)) h hj m ej
def Ok.go (S:Sg E ss σ F H){i:Nat}{s:Slot}(hi:ss[i]?=some s) (ff:A9 F F') (hk:∀ a o,An s σ[i]? a->H a=some o->H' a=some o) (BC:∀ a,H a≠none->F a=none->F' a=none) (np:s≠.AI):Ok E F' H' s σ[i]?:=by
 have k:=S.ok i s hi
 cases s with
 | any=>trivial
 | is p=>obtain ⟨v,e,r⟩:=k;exact ⟨v,e,r.mono ff⟩
 | own xs=>
  obtain ⟨l,vs,e,e1,e2,e3,r⟩:=k
  exact ⟨l,vs,e,BC l (by rw [e3];simp) e1,e2,hk l _ e e3,r.mono ff⟩
 | AI=>exact absurd rfl np
 | sq tp xs=>
  cases tp with
  | true=>obtain ⟨v,e,r⟩:=k;exact ⟨v,e,r.mono ff⟩
  | false=>obtain ⟨l,vs,e,e1,e2,r⟩:=k;exact ⟨l,vs,e,e1,e2,r.mono ff⟩
 | raw P=>obtain ⟨v,e,r,st⟩:=k;exact ⟨v,e,st _ _ ff r,st⟩
 | ow lt t=>
  obtain ⟨v,e,r,nd,q⟩:=k
  exact ⟨v,e,r.mono ff fun a ha o=>hk a o ha,nd,fun a ha=>⟨BC a (r.there a ha) (q a ha).1,(q a ha).2⟩⟩
def Sg.step (S:Sg E ss σ F H) (ff:A9 F F') (fh:A9 F' H') (hk:∀ a o,Bf ss σ a->H a=some o->H' a=some o) (hn:∀ a o,F' a=some o->F a=some o∨H a=none)
  (hp:∀ (i:Nat) l,ss[i]?=some .AI->σ[i]?=some (some (.ref l))->Aq H' l):Mv E ss σ F H F' H':=by
 have BC:∀ a,H a≠none->F a=none->F' a=none:=fun a h1 h2=>by
  cases e:F' a with
  | none=>rfl
  | some o=>
   rcases hn a o e with q | q
   ·rw [h2] at q;cases q
   ·exact absurd q h1
 have ki:∀ a,Aq H a->Bf ss σ a->Aq H' a:=fun a p n=>Aq.keep p fun o e=>hk a o n e
 refine ⟨⟨⟨fh,S.f0.trans ff,fun a o hA e=>?_,fun a o e=>?_,fun a hA=>?_,fun a hA=>?_,S.a0,fun a hB=>BC a (S.bH a hB) (S.bF a hB),fun a hB=>?_,S.b0⟩,S.len,fun i s hi=>?_,S.BG⟩,ff,hk,hn⟩
 ·exact hk a o (S.Xq hA.1 e) (S.keep a o hA e)
 ·rcases hn a o e with q | q
  ·exact S.fresh a o q
  ·exact .inr (S.Cz q)
 ·by_cases q:∃ i:Nat,ss[i]?=some .AI/\σ[i]?=some (some (.ref a))
  ·obtain ⟨i,q1,q2⟩:=q
   exact hp i a q1 q2
  ·exact ki a (S.Es a hA) fun i h1 h2=>q ⟨i,h1,h2⟩
 ·refine BC a ?_ (S.IS a hA)
  obtain ⟨_,_,e1,_⟩:=S.Es a hA
  rw [e1];simp
 ·obtain ⟨o,e⟩:=Option.ne_none_iff_exists'.mp (S.bH a hB)
  rw [hk a o (S.jT hB) e];simp
 ·by_cases np:s=.AI
  ·subst np
   obtain ⟨l,e,e1,e2,e3⟩:=S.ok i _ hi
   have ME:=e3
   obtain ⟨_,_,e4,_⟩:=ME
   exact ⟨l,e,BC l (by rw [e4];simp) e1,e2,hp i l hi e⟩
  ·exact Ok.go S hi ff (fun a o m=>hk a o (S.JU hi m np)) BC np
def Sg.DG (S:Sg E ss σ F H){i:Nat}{l:Addr}(hi:ss[i]?=some .AI) (e:σ[i]?=some (some (.ref l))):Aq H l:=by
 obtain ⟨l',e1,_,_,p⟩:=S.ok i _ hi
 rw [e] at e1;cases e1;exact p
def Sg.alloc (S:Sg E ss σ F H){p:Addr}(h:H p=none) (o:HO):Mv E ss σ F H (upd F p o) (upd H p o):=by
 refine S.step (C8 (S.BC h) _) (fun a u e=>?_) (fun a u _ e=>C8 h o a u e) (fun a u e=>?_) fun i l hi e=>Aq.keep (S.DG hi e) fun u e=>C8 h o l u e
 ·by_cases q:a=p
  ·subst q;rw [AN] at e ⊢;exact e
  ·rw [AF q] at e ⊢;exact S.fh a u e
 ·by_cases q:a=p
  ·subst q;exact .inr h
  ·rw [AF q] at e;exact .inl e
def Sg.make (S:Sg E ss σ F H){p:Addr}(h:H p=none) (o:HO):Mv E ss σ F H F (upd H p o):=
 S.step (A9.refl _) (S.fh.trans (C8 h o)) (fun a u _ e=>C8 h o a u e) (fun a u e=>.inl e) fun i l hi e=>Aq.keep (S.DG hi e) fun u e=>C8 h o l u e
def Sg.grow (S:Sg E ss σ F H) (s:A9 H H'):Mv E ss σ F H F H':=
 S.step (A9.refl _) (S.fh.trans s) (fun a u _ e=>s a u e) (fun a u e=>.inl e) fun i l hi e=>Aq.keep (S.DG hi e) fun u e=>s l u e
def Sg.setG (S:Sg E ss σ F H){j:Nat}{s:Slot}{v:V}(A7:Ok E F H s (some (some v))) (Zj:∀ l,An s (some (some v)) l->∀ (i:Nat) u,i≠j->ss[i]?=some u->¬ An u σ[i]? l):Sg E (ss.set j s) (σ.set j (some v)) F H:=by
 refine ⟨S.toFin,by rw [HC,HC];exact S.len,fun i u hi=>?_,fun i k u w l JA hi hk mu mw=>?_⟩
 ·by_cases q:i=j
  ·subst q
   have AM:i < ss.length:=by have:=(List.getElem?_eq_some_iff.mp hi).1;simpa using this
   rw [C7 AM] at hi
   cases hi
   rw [C7 (by rw [<- S.len];exact AM)]
   exact A7
  ·rw [Bd (Ah q)] at hi ⊢
   exact S.ok i u hi
 ·by_cases q:i=j
  ·subst q
   have AM:i < ss.length:=by have:=(List.getElem?_eq_some_iff.mp hi).1;simpa using this
   rw [C7 AM] at hi
   rw [C7 (by rw [<- S.len];exact AM)] at mu
   cases hi
   rw [Bd JA] at hk mw
   exact Zj l mu k w (Ah JA) hk mw
  ·rw [Bd (Ah q)] at hi mu
   by_cases q2:k=j
   ·subst q2
    have AM:k < ss.length:=by have:=(List.getElem?_eq_some_iff.mp hk).1;simpa using this
    rw [C7 AM] at hk
    cases hk
    rw [C7 (by rw [<- S.len];exact AM)] at mw
    exact Zj l mw i u JA hi mu
   ·rw [Bd (Ah q2)] at hk mw
    exact S.BG i k u w l JA hi hk mu mw
def Sg.D9 (S:Sg E ss σ F H){j:Nat}{v:V}{p:PV}(r:Rep F v p):Sg E (ss.set j (.is p)) (σ.set j (some v)) F H:=S.setG ⟨v,rfl,r⟩ fun _ h=>by cases h
end
def Sv (ss:List Slot) (σ:L2.St) (F H:Hp) (v:V):Bool->List PV->Prop
 | true,xs=>Rep F v (.tup xs)
 | false,xs=>∃ l vs,v=.ref l/\Bf ss σ l/\H l=some (.lst vs)/\AD F vs xs
def Fv (E:Ent0) (F:Hp) (v:V):Bool->List PV->Prop
 | true,xs=>Rep F v (.tup xs)
 | false,xs=>∃ l vs,v=.ref l/\(F l=some (.lst vs)∨((l∉E.A/\l∉E.B)/\E.H0 l=some (.lst vs)))/\AD F vs xs
structure Wp [Xw] (ss:List Slot) (t:TE) (k:PV->Prop):Prop where
 go:∀ (E:Ent) (σ:L2.St) (F H:Hp) (Q:VK),Sg E ss σ F H->(∀ v p F' H',Mv E ss σ F H F' H'->Rep F' v p->k p->Q v H')->t σ H Q
structure Wn [Xw] (ss:List Slot) (t:TE) (k:List PV->Prop):Prop where
 go:∀ (E:Ent) (σ:L2.St) (F H:Hp) (Q:VK),Sg E ss σ F H->(∀ l vs xs F' H',Mv E ss σ F H F' H'->F' l=none->H l=none->H' l=some (.lst vs)->AD F' vs xs->k xs->Q (.ref l) H')->t σ H Q
structure Wq [Xw] (ss:List Slot) (t:TE) (k:Bool->List PV->Prop):Prop where
 go:∀ (E:Ent) (σ:L2.St) (F H:Hp) (Q:VK),Sg E ss σ F H->(∀ v tp xs F' H',Mv E ss σ F H F' H'->Sv ss σ F' H' v tp xs->k tp xs->Q v H')->t σ H Q
structure Wz [Xw] (ss:List Slot) (t:TE) (k:Bool->List PV->Prop):Prop where
 go:∀ (E:Ent) (σ:L2.St) (F H:Hp) (Q:VK),Sg E ss σ F H->(∀ v tp xs F' H',Mv E ss σ F H F' H'->Fv E F' v tp xs->k tp xs->Q v H')->t σ H Q
structure Wt [Xw] (ss:List Slot) (t:TT) (k:Bool->Prop):Prop where
 go:∀ (E:Ent) (σ:L2.St) (F H:Hp) (Q:Bool->Hp->Prop),Sg E ss σ F H->(∀ b F' H',Mv E ss σ F H F' H'->k b->Q b H')->t σ H Q
def Av (ss:List Slot) (σ:L2.St) (F H:Hp) (v:V):Slot->Prop
 | .is p=>Rep F v p
 | .sq tp xs=>Sv ss σ F H v tp xs
 | .raw P=>P F v/\∀ F F',A9 F F'->P F v->P F' v
 | _=>False
inductive EK (ss:List Slot) (σ:L2.St) (F H:Hp):List V->List Slot->Prop where
 | nil:EK ss σ F H [] []
 | cons {v:V}{s:Slot}{vs:List V}{l:List Slot}:Av ss σ F H v s->EK ss σ F H vs l->EK ss σ F H (v :: vs) (s :: l)
structure Wa [Xw] (ss:List Slot) (t:TA) (k:List Slot->Prop):Prop where
 go:∀ (E:Ent) (σ:L2.St) (F H:Hp) (Q:List V->Hp->Prop),Sg E ss σ F H->(∀ vs l F' H',Mv E ss σ F H F' H'->EK ss σ F' H' vs l->k l->Q vs H')->t σ H Q
inductive AR where
 | is (k:PV->Prop) | new (k:List PV->Prop) | AI | ow (k:OV->Prop) | mt (k:PV->OV->Prop)
def OV.val:OV->V
 | .nd _ a _=>.ref a
 | _=>.A4
def AR.ok (R:AR) (E:Ent0) (F' H':Hp) (v:V):Prop:=match R with
 | .is k=>∃ p,Rep F' v p/\k p
 | .new k=>∃ l vs xs,v=.ref l/\F' l=none/\E.H0 l=none/\H' l=some (.lst vs)/\AD F' vs xs/\k xs
 | .AI=>∃ l,v=.ref l/\F' l=none/\E.H0 l=none/\Aq H' l
 | .ow k=>∃ t,Aa F' H' v t/\t.addrs.Nodup/\(∀ a∈t.addrs,F' a=none/\E.H0 a=none)/\k t
 | .mt k=>∃ p t,Rep F' v p/\Aa F' H' t.val t/\t.addrs.Nodup/\(∀ a∈t.addrs,F' a=none/\(E.H0 a=none∨a∈E.B))/\k p t
structure Ws [Xw] (ss:List Slot) (t:TS) (nx:List Slot->Prop) (R:AR):Prop where
 go:∀ (E:Ent) (D:Ends) (σ:L2.St) (F H:Hp),Sg E ss σ F H->(∀ A8 σ' F' H',nx A8->Sg E A8 σ' F' H'->A9 F F'->D.nx σ' H')->(∀ v F' H',Fin E F' H'->R.ok E F' H' v->D.rt v H')->t D σ H
section
variable [Xw]
variable {E:Ent0}{ss:List Slot}{σ:L2.St} {F H F' H':Hp}{K:tV}{ta tb tc te:TE}{k:PV->Prop}{v:V}{tp:Bool}{xs:List PV}{nx:List Slot->Prop}{R:AR}
def Sv.mv (h:Sv ss σ F H v tp xs) (m:Mv E ss σ F H F' H'):Sv ss σ F' H' v tp xs:=by
 cases tp with
 | true=>exact Rep.mono m.ff h
 | false=>
  obtain ⟨l,vs,e,n,r,q⟩:=h
  exact ⟨l,vs,e,n,m.hh l _ n r,q.mono m.ff⟩
def Sv.seq (S:Sg E ss σ F H) (h:Sv ss σ F H v tp xs):∃ l vs,v=.ref l/\H l=some (CP tp vs)/\AD F vs xs:=by
 cases tp with
 | true=>cases h with | tup e r=>exact ⟨_,_,rfl,S.fh _ _ e,r⟩
 | false=>obtain ⟨l,vs,e,_,r,q⟩:=h;exact ⟨l,vs,e,r,q⟩
def Fv.sv (S:Sg E ss σ F H) (h:Fv E F v tp xs):Sv ss σ F H v tp xs:=by
 cases tp with
 | true=>exact h
 | false=>
  obtain ⟨l,vs,e,h1 | ⟨hA,h1⟩,r⟩:=h
  ·exact ⟨l,vs,e,S.Wu h1,S.fh _ _ h1,r⟩
  ·exact ⟨l,vs,e,S.Xq hA.1 h1,S.keep _ _ hA h1,r⟩
def Wp.mono {k':PV->Prop}(h:Wp ss te k) (i:∀ p,k p->k' p):Wp ss te k':=⟨fun E σ F H Q S q=>h.go E σ F H Q S fun v p F' H' m r kk=>q v p F' H' m r (i p kk)⟩
def AB {i:Nat}{p:PV}(h:ss[i]?=some (.is p)) (hk:k p):Wp ss (BB i) k:=⟨fun E σ F H Q S q=>by
 obtain ⟨v,hv,r⟩:=S.ok i _ h
 exact ⟨v,hv,q v p F H (.refl S) r hk⟩⟩
def Bg {i:Int}(hk:k (.int i)):Wp ss (tC (.int i)) k:=⟨fun E σ F H Q S q=>q _ _ F H (.refl S) (.int i) hk⟩
def Gh {x:Str}(hk:k (.str x)):Wp ss (tC (.str x)) k:=⟨fun E σ F H Q S q=>q _ _ F H (.refl S) (.str x) hk⟩
def Jx {b:Bool}(hk:k (.bl b)):Wp ss (tC (.bl b)) k:=⟨fun E σ F H Q S q=>q _ _ F H (.refl S) (.bl b) hk⟩
def Xv (hk:k .A4):Wp ss (tC .A4) k:=⟨fun E σ F H Q S q=>q _ _ F H (.refl S) .A4 hk⟩
def E4 (h:Wn ss te (fun xs=>k (.lst xs))):Wp ss te k:=⟨fun E σ F H Q S q=>h.go E σ F H Q S fun l vs xs F' H' m fl hl Er r kk=>by
 have S':=m.st
 have fr:Mv E ss σ F H (upd F' l (.lst vs)) H':=by
  have nF:∀ a,H' a≠none->a≠l->F' a=none->upd F' l (.lst vs) a=none:=fun a _ h1 h2=>by rw [AF h1];exact h2
  refine ⟨⟨⟨fun a u e=>?_,S'.f0.trans (C8 fl _),S'.keep,fun a u e=>?_,S'.Es,fun a hA=>?_,S'.a0,fun a hB=>?_,S'.bH,S'.b0⟩,S'.len,fun i s hi=>?_,S'.BG⟩,m.ff.trans (C8 fl _),m.hh,fun a u e=>?_⟩
  ·by_cases q:a=l
   ·subst q;rw [AN] at e;rw [<- e];exact Er
   ·rw [AF q] at e;exact S'.fh a u e
  ·by_cases q:a=l
   ·subst q;exact .inr (S.Cz hl)
   ·rw [AF q] at e;exact S'.fresh a u e
  ·by_cases q:a=l
   ·subst q
    obtain ⟨_,_,e,_⟩:=S.Es _ hA
    rw [hl] at e;cases e
   ·rw [AF q];exact S'.IS a hA
  ·by_cases q:a=l
   ·subst q;exact absurd hl (S.bH _ hB)
   ·rw [AF q];exact S'.bF a hB
  ·have TM:∀ a,An s σ[i]? a->a≠l:=by
    rintro a m rfl;exact S.Ir hi hl m
   have kk:=S'.ok i s hi
   cases s with
   | any=>trivial
   | is p=>obtain ⟨v,e,r⟩:=kk;exact ⟨v,e,r.mono (C8 fl _)⟩
   | own ys=>
    obtain ⟨l',ws,e,e1,e2,e3,r⟩:=kk
    exact ⟨l',ws,e,by rw [AF (TM l' e)];exact e1,e2,e3,r.mono (C8 fl _)⟩
   | AI=>
    obtain ⟨l',e,e1,e2,e3⟩:=kk
    exact ⟨l',e,by rw [AF (TM l' e)];exact e1,e2,e3⟩
   | sq tp ys=>
    cases tp with
    | true=>obtain ⟨v,e,r⟩:=kk;exact ⟨v,e,r.mono (C8 fl _)⟩
    | false=>obtain ⟨l',ws,e,e1,e2,r⟩:=kk;exact ⟨l',ws,e,e1,e2,r.mono (C8 fl _)⟩
   | raw P=>obtain ⟨v,e,r,st⟩:=kk;exact ⟨v,e,st _ _ (C8 fl _) r,st⟩
   | ow lt t=>
    obtain ⟨v,e,r,nd,q⟩:=kk
    exact ⟨v,e,r.mono (C8 fl _) fun a _ o h=>h,nd,fun a ha=>⟨by rw [AF (TM a ha)];exact (q a ha).1,(q a ha).2⟩⟩
  ·by_cases q:a=l
   ·subst q;exact .inr hl
   ·rw [AF q] at e;exact m.nn a u e
 exact q _ _ _ _ fr (.lst AN (r.mono (C8 fl _))) kk⟩
def Dw {k:Bool->List PV->Prop}(h:Wp ss te (fun p=>∃ xs,(p=.lst xs/\k false xs)∨(p=.tup xs/\k true xs))):Wq ss te k:=⟨fun E σ F H Q S q=>h.go E σ F H Q S fun v p F' H' m r ⟨xs,h⟩=>by
 rcases h with ⟨rfl,kk⟩ | ⟨rfl,kk⟩
 ·cases r with | lst h r=>exact q _ false xs F' H' m ⟨_,_,rfl,m.st.Wu h,m.st.fh _ _ h,r⟩ kk
 ·exact q v true xs F' H' m r kk⟩
def Kn {i:Nat}{k:Bool->List PV->Prop}(h:ss[i]?=some (.is (.lst xs))) (hk:k false xs):Wq ss (BB i) k:=Dw (AB h ⟨xs,.inl ⟨rfl,hk⟩⟩)
def Ct {i:Nat}{k:Bool->List PV->Prop}(h:ss[i]?=some (.is (.tup xs))) (hk:k true xs):Wq ss (BB i) k:=Dw (AB h ⟨xs,.inr ⟨rfl,hk⟩⟩)
def LY {i:Nat}{k:Bool->List PV->Prop}(h:ss[i]?=some (.own xs)) (hk:k false xs):Wq ss (BB i) k:=⟨fun E σ F H Q S q=>by
 obtain ⟨l,vs,e,e1,e2,e3,r⟩:=S.ok i _ h
 exact ⟨_,e,q _ false xs F H (.refl S) ⟨l,vs,rfl,S.JU h e (by simp),e3,r⟩ hk⟩⟩
def XI {i:Nat}{k:Bool->List PV->Prop}(h:ss[i]?=some (.sq tp xs)) (hk:k tp xs):Wz ss (BB i) k:=⟨fun E σ F H Q S q=>by
 have kk:=S.ok i _ h
 cases tp with
 | true=>obtain ⟨v,e,r⟩:=kk;exact ⟨_,e,q _ true xs F H (.refl S) r hk⟩
 | false=>
  obtain ⟨l,vs,e,hA,h0,r⟩:=kk
  exact ⟨_,e,q _ false xs F H (.refl S) ⟨l,vs,rfl,.inr ⟨hA,h0⟩,r⟩ hk⟩⟩
def EC {k:Bool->List PV->Prop}(h:Wp ss te (fun p=>∃ xs,(p=.lst xs/\k false xs)∨(p=.tup xs/\k true xs))):Wz ss te k:=⟨fun E σ F H Q S q=>h.go E σ F H Q S fun v p F' H' m r ⟨xs,h⟩=>by
 rcases h with ⟨rfl,kk⟩ | ⟨rfl,kk⟩
 ·cases r with | lst h r=>exact q _ false xs F' H' m ⟨_,_,rfl,.inl h,r⟩ kk
 ·exact q _ true xs F' H' m r kk⟩
def Zr {k:Bool->List PV->Prop}(h:Wz ss te k):Wq ss te k:=⟨fun E σ F H Q S q=>h.go E σ F H Q S fun v tp xs F' H' m f kk=>q v tp xs F' H' m (f.sv m.st) kk⟩
def bV {i:Nat}{k:Bool->List PV->Prop}(h:ss[i]?=some (.sq tp xs)) (hk:k tp xs):Wq ss (BB i) k:=Zr (XI h hk)
def fK {C:Int->Int->Prop}{f:Int->Int->Int}(h:Wp ss ta fun x=>∃ i,x=.int i/\Wp ss tb fun y=>∃ j,y=.int j/\C i j/\k (.int (f i j))):Wp ss (B0 (rI C fun i j=>.int (f i j)) ta tb) k:=⟨fun E σ F H Q S q=>
 h.go E σ F H _ S fun v p F1 H1 m1 r1 ⟨i,e1,h2⟩=>by
  subst e1;cases r1
  exact h2.go E σ F1 H1 _ m1.st fun v2 p2 F2 H2 m2 r2 ⟨j,e2,c,kk⟩=>by
   subst e2;cases r2
   exact ⟨i,j,rfl,rfl,c,q _ _ F2 H2 (m1.trans m2) (.int _) kk⟩⟩
def fU {f:Int->Int->Int}(h:Wp ss ta fun x=>∃ i,x=.int i/\Wp ss tb fun y=>∃ j,y=.int j/\k (.int (f i j))):Wp ss (B0 (Eg fun i j=>.int (f i j)) ta tb) k:=⟨fun E σ F H Q S q=>
 h.go E σ F H _ S fun v p F1 H1 m1 r1 ⟨i,e1,h2⟩=>by
  subst e1;cases r1
  exact h2.go E σ F1 H1 _ m1.st fun v2 p2 F2 H2 m2 r2 ⟨j,e2,kk⟩=>by
   subst e2;cases r2
   exact ⟨i,j,rfl,rfl,q _ _ F2 H2 (m1.trans m2) (.int _) kk⟩⟩
def Xi {f:Int->Int->Bool}(h:Wp ss ta fun x=>∃ i,x=.int i/\Wp ss tb fun y=>∃ j,y=.int j/\k (.bl (f i j))):Wp ss (B0 (Eg fun i j=>.bl (f i j)) ta tb) k:=⟨fun E σ F H Q S q=>
 h.go E σ F H _ S fun v p F1 H1 m1 r1 ⟨i,e1,h2⟩=>by
  subst e1;cases r1
  exact h2.go E σ F1 H1 _ m1.st fun v2 p2 F2 H2 m2 r2 ⟨j,e2,kk⟩=>by
   subst e2;cases r2
   exact ⟨i,j,rfl,rfl,q _ _ F2 H2 (m1.trans m2) (.bl _) kk⟩⟩
def mZ {f:Int->Int}(h:Wp ss ta fun x=>∃ i,x=.int i/\k (.int (f i))):Wp ss (mP (rU fun i=>.int (f i)) ta) k:=⟨fun E σ F H Q S q=>
 h.go E σ F H _ S fun v p F1 H1 m1 r1 ⟨i,e1,kk⟩=>by
  subst e1;cases r1
  exact ⟨i,rfl,q _ _ F1 H1 m1 (.int _) kk⟩⟩
def alike:PV->PV->Bool
 | .int i,.int j=>decide (i=j)
 | .str i,.str j=>decide (i=j)
 | .bl i,.bl j=>decide (i=j)
 | .A4,.A4=>true
 | _,_=>false
def Jw (p q:PV):Bool:=flat p && flat q && Mg (Fz.enc p) (Fz.enc q)
def aE {p q:PV}(h:Jw p q=true):decide (Fz.enc p=Fz.enc q)=alike p q:=by
 unfold Jw at h
 rw [DW,DW] at h
 obtain ⟨⟨h1,h2⟩,h3⟩:=h
 cases p <;> cases q <;> first | (simp [Fz.enc,alike];done) | (simp [flat] at h1;done) | (simp [flat] at h2;done) | (simp [Fz.enc,Mg] at h3;done)
def NH (h:Wp ss ta fun x=>Wp ss tb fun y=>Jw x y=true/\k (.bl (alike x y))):Wp ss (B0 YZ ta tb) k:=⟨fun E σ F H Q S q=>
 h.go E σ F H _ S fun v p F1 H1 m1 r1 h2=>h2.go E σ F1 H1 _ m1.st fun v2 p2 F2 H2 m2 r2 ⟨sc,kk⟩=>by
  have U4:=sc
  unfold Jw at sc
  rw [DW,DW] at sc
  rw [r1.enc sc.1.1,r2.enc sc.1.2]
  refine ⟨sc.2,?_⟩
  rw [aE U4]
  exact q _ _ F2 H2 (m1.trans m2) (.bl _) kk⟩
def Uw (h:Wp ss ta fun x=>Wp ss tb fun y=>Jw x y=true/\k (.bl (!alike x y))):Wp ss (B0 Zk ta tb) k:=⟨fun E σ F H Q S q=>
 h.go E σ F H _ S fun v p F1 H1 m1 r1 h2=>h2.go E σ F1 H1 _ m1.st fun v2 p2 F2 H2 m2 r2 ⟨sc,kk⟩=>by
  have U4:=sc
  unfold Jw at sc
  rw [DW,DW] at sc
  rw [r1.enc sc.1.1,r2.enc sc.1.2]
  refine ⟨sc.2,?_⟩
  rw [aE U4]
  exact q _ _ F2 H2 (m1.trans m2) (.bl _) kk⟩
def Jh (h:Wp ss ta fun x=>∃ c,x=.bl c/\if c=true then Wp ss tb k else k (.bl false)):Wp ss (LL ta tb) k:=⟨fun E σ F H Q S q=>
 h.go E σ F H _ S fun v p F1 H1 m1 r1 ⟨c,e,h2⟩=>by
  subst e;cases r1
  refine ⟨c,rfl,?_⟩
  cases c with
  | true=>rw [if_pos rfl] at h2 ⊢;exact h2.go E σ F1 H1 _ m1.st fun v2 p2 F2 H2 m2 r2 kk=>q _ _ F2 H2 (m1.trans m2) r2 kk
  | false=>rw [if_neg (by decide)] at h2 ⊢;exact q _ _ F1 H1 m1 (.bl _) h2⟩
def fX (h:Wp ss ta fun x=>∃ c,x=.bl c/\if c=true then k (.bl true) else Wp ss tb k):Wp ss (cz ta tb) k:=⟨fun E σ F H Q S q=>
 h.go E σ F H _ S fun v p F1 H1 m1 r1 ⟨c,e,h2⟩=>by
  subst e;cases r1
  refine ⟨c,rfl,?_⟩
  cases c with
  | true=>rw [if_pos rfl] at h2 ⊢;exact q _ _ F1 H1 m1 (.bl _) h2
  | false=>rw [if_neg (by decide)] at h2 ⊢;exact h2.go E σ F1 H1 _ m1.st fun v2 p2 F2 H2 m2 r2 kk=>q _ _ F2 H2 (m1.trans m2) r2 kk⟩
def o5 (h:Wp ss ta fun x=>∃ c,x=.bl c/\k (.bl (!c))):Wp ss (gK ta) k:=⟨fun E σ F H Q S q=>
 h.go E σ F H _ S fun v p F1 H1 m1 r1 ⟨c,e,kk⟩=>by subst e;cases r1;exact ⟨c,rfl,q _ _ F1 H1 m1 (.bl _) kk⟩⟩
def Yf {f g:Int->Int->Bool}(h:Wp ss ta fun x=>∃ i,x=.int i/\Wp ss tb fun y=>∃ j,y=.int j/\if f i j=true then Wp ss tc (fun z=>∃ l,z=.int l/\k (.bl (g j l))) else k (.bl false)) :
  Wp ss (KQ (Eg fun i j=>.bl (f i j)) (Eg fun i j=>.bl (g i j)) ta tb tc) k:=⟨fun E σ F H Q S q=>
 h.go E σ F H _ S fun v p F1 H1 m1 r1 ⟨i,e1,h2⟩=>by
  subst e1;cases r1
  exact h2.go E σ F1 H1 _ m1.st fun v2 p2 F2 H2 m2 r2 ⟨j,e2,h3⟩=>by
   subst e2;cases r2
   refine ⟨i,j,rfl,rfl,f i j,rfl,?_⟩
   cases c:f i j with
   | true=>
    rw [c,if_pos rfl] at h3
    rw [if_pos rfl]
    exact h3.go E σ F2 H2 _ m2.st fun v3 p3 F3 H3 m3 r3 ⟨l,e3,kk⟩=>by
     subst e3;cases r3
     exact ⟨j,l,rfl,rfl,q _ _ F3 H3 (m1.trans (m2.trans m3)) (.bl _) kk⟩
   | false=>
    rw [c,if_neg (by decide)] at h3
    rw [if_neg (by decide)]
    exact q _ _ F2 H2 (m1.trans m2) (.bl _) h3⟩
def Fg {k:Bool->Prop}(h:Wp ss te fun x=>∃ c,x=.bl c/\k c):Wt ss (Jy te) k:=⟨fun E σ F H Q S q=>
 h.go E σ F H _ S fun v p F1 H1 m1 r1 ⟨c,e,kk⟩=>by subst e;cases r1;exact ⟨c,rfl,q _ F1 H1 m1 kk⟩⟩
def FX {k:Bool->Prop}(h:Wp ss te fun x=>∃ c,x=.bl c/\k c):Wt ss (tB te) k:=⟨fun E σ F H Q S q=>
 h.go E σ F H _ S fun v p F1 H1 m1 r1 ⟨c,e,kk⟩=>by subst e;cases r1;exact ⟨c,rfl,q _ F1 H1 m1 kk⟩⟩
def II {k:Bool->Prop}(h:k true):Wt ss Ro k:=⟨fun E σ F H Q S q=>q _ F H (.refl S) h⟩
def Hf {t:TT}{k:Bool->Prop}(h:Wt ss t fun c=>k (!c)):Wt ss (RF t) k:=⟨fun E σ F H Q S q=>h.go E σ F H _ S fun c F1 H1 m1 kk=>q _ F1 H1 m1 kk⟩
def iB {t u:TT}{k:Bool->Prop}(h:Wt ss t fun c=>if c=true then Wt ss u k else k false):Wt ss (Q2 t u) k:=⟨fun E σ F H Q S q=>
 h.go E σ F H _ S fun c F1 H1 m1 h2=>by
  show if c=true then _ else _
  cases c with
  | true=>rw [if_pos rfl] at h2 ⊢;exact h2.go E σ F1 H1 _ m1.st fun c2 F2 H2 m2 kk=>q _ F2 H2 (m1.trans m2) kk
  | false=>rw [if_neg (by decide)] at h2 ⊢;exact q _ F1 H1 m1 h2⟩
def MC {t u:TT}{k:Bool->Prop}(h:Wt ss t fun c=>if c=true then k true else Wt ss u k):Wt ss (Rk t u) k:=⟨fun E σ F H Q S q=>
 h.go E σ F H _ S fun c F1 H1 m1 h2=>by
  show if c=true then _ else _
  cases c with
  | true=>rw [if_pos rfl] at h2 ⊢;exact q _ F1 H1 m1 h2
  | false=>rw [if_neg (by decide)] at h2 ⊢;exact h2.go E σ F1 H1 _ m1.st fun c2 F2 H2 m2 kk=>q _ F2 H2 (m1.trans m2) kk⟩
end
structure We [Xw] (ss:List Slot) (t:TA) (k:List PV->Prop):Prop where
 go:∀ (E:Ent) (σ:L2.St) (F H:Hp) (Q:List V->Hp->Prop),Sg E ss σ F H->(∀ vs ps F' H',Mv E ss σ F H F' H'->AD F' vs ps->k ps->Q vs H')->t σ H Q
structure Wo [Xw] (ss:List Slot) (t:TO) (k:Option Int->Prop):Prop where
 go:∀ (E:Ent) (σ:L2.St) (F H:Hp) (Q:Option Int->Hp->Prop),Sg E ss σ F H->(∀ o F' H',Mv E ss σ F H F' H'->k o->Q o H')->t σ H Q
section
variable [Xw]
variable {E:Ent0}{ss:List Slot}{σ:L2.St} {F H F' H':Hp}{K:tV}{ta tb tc te:TE}{k:PV->Prop}{v:V}{tp:Bool}{xs:List PV}{nx:List Slot->Prop}{R:AR}
def GH {k:List PV->Prop}(h:k []):We ss AS k:=⟨fun E σ F H Q S q=>q _ _ F H (.refl S) .nil h⟩
def ED {k:List PV->Prop}{t:TA}(h:Wp ss te fun p=>We ss t fun ps=>k (p :: ps)):We ss (AK te t) k:=⟨fun E σ F H Q S q=>
 h.go E σ F H _ S fun v p F1 H1 m1 r1 h2=>h2.go E σ F1 H1 _ m1.st fun vs ps F2 H2 m2 r2 kk=>q _ _ F2 H2 (m1.trans m2) (.cons (r1.mono m2.ff) r2) kk⟩
def DY {k:List Slot->Prop}(h:k []):Wa ss AS k:=⟨fun E σ F H Q S q=>q _ _ F H (.refl S) .nil h⟩
def CG {k:List Slot->Prop}{t:TA}(h:Wp ss te fun p=>Wa ss t fun l=>k (.is p :: l)):Wa ss (AK te t) k:=⟨fun E σ F H Q S q=>
 h.go E σ F H _ S fun v p F1 H1 m1 r1 h2=>h2.go E σ F1 H1 _ m1.st fun vs l F2 H2 m2 r2 kk=>q _ _ F2 H2 (m1.trans m2) (.cons (s:=.is p) (r1.mono m2.ff) r2) kk⟩
def qV {k:Option Int->Prop}(h:k none):Wo ss Tf k:=⟨fun E σ F H Q S q=>q _ F H (.refl S) h⟩
def fw {k:Option Int->Prop}(h:Wp ss te fun p=>∃ i,p=.int i/\k (some i)):Wo ss (UR te) k:=⟨fun E σ F H Q S q=>
 h.go E σ F H _ S fun v p F1 H1 m1 r1 ⟨i,e,kk⟩=>by subst e;cases r1;exact ⟨i,rfl,q _ F1 H1 m1 kk⟩⟩
def Ii {n:Nat}(h:n<=99999):n < sizeLine:=CU (Nat.lt_succ_of_le h) (small (AV 100000))
def Iw {t:TA}(h:We ss t fun ps=>ps.length<=100000/\k (.tup ps)):Wp ss (JQ t) k:=⟨fun E σ F H Q S q=>
 h.go E σ F H _ S fun vs ps F1 H1 m1 r1 ⟨hz,kk⟩=>⟨small (by rw [r1.length];exact hz),fun a ha=>by
  have m2:=m1.st.alloc ha (.tup vs)
  exact q _ _ _ _ (m1.trans m2) (.tup AN (r1.mono m2.ff)) kk⟩⟩
def L7 {t:TA}{k:List PV->Prop}(h:We ss t fun ps=>ps.length<=100000/\k ps):Wn ss (P6 t) k:=⟨fun E σ F H Q S q=>
 h.go E σ F H _ S fun vs ps F1 H1 m1 r1 ⟨hz,kk⟩=>⟨small (by rw [r1.length];exact hz),fun a ha=>by
  have m2:=m1.st.make ha (.lst vs)
  refine q a vs ps F1 _ (m1.trans m2) (m1.st.BC ha) ?_ AN r1 kk
  cases e:H a with
  | none=>rfl
  | some o=>rw [m1.hh a o (m1.st.LF ha) e] at ha;cases ha⟩⟩
def S8 (h:Wq ss te fun _ xs=>k (.int xs.length)):Wp ss (BY (OZ K) (AK te AS)) k:=⟨fun E σ F H Q S q=>
 h.go E σ F H _ S fun v tp xs F1 H1 m1 sv kk=>by
  obtain ⟨l,vs,rfl,hl,r⟩:=sv.seq m1.st
  refine ⟨l,vs,rfl,(CP.sq (K:=K) hl).or,?_⟩
  rw [r.length]
  exact q _ _ F1 H1 m1 (.int _) kk⟩
theorem AD.BK {vs:List V}{i:Int}{p:PV}(r:AD F vs xs) (h:L2.BK xs i=some p):∃ u,L2.BK vs i=some u/\Rep F u p:=by
 unfold L2.BK at h ⊢
 rw [r.length]
 cases e:G1 xs.length i with
 | none=>rw [e] at h;cases h
 | some j=>
  rw [e] at h
  exact r.get h
def Tb (h:Wq ss ta fun tp xs=>tp=false/\Wp ss tb fun y=>∃ i p,y=.int i/\L2.BK xs i=some p/\k p):Wp ss (B0 (Nj K) ta tb) k:=⟨fun E σ F H Q S q=>
 h.go E σ F H _ S fun v tp xs F1 H1 m1 sv ⟨et,h2⟩=>h2.go E σ F1 H1 _ m1.st fun v2 p2 F2 H2 m2 r2 ⟨i,p,e,ha,kk⟩=>by
  subst e;cases r2;subst et
  obtain ⟨l,vs,rfl,hl,r⟩:=(sv.mv m2).seq m2.st
  obtain ⟨u,hu,ru⟩:=r.BK ha
  exact ⟨l,vs,i,u,rfl,rfl,AG.of hl,hu,q _ _ F2 H2 (m1.trans m2) ru kk⟩⟩
def Dc (h:Wq ss ta fun tp xs=>tp=true/\Wp ss tb fun y=>∃ i p,y=.int i/\L2.BK xs i=some p/\k p):Wp ss (B0 (GF K) ta tb) k:=⟨fun E σ F H Q S q=>
 h.go E σ F H _ S fun v tp xs F1 H1 m1 sv ⟨et,h2⟩=>h2.go E σ F1 H1 _ m1.st fun v2 p2 F2 H2 m2 r2 ⟨i,p,e,ha,kk⟩=>by
  subst e;cases r2;subst et
  obtain ⟨l,vs,rfl,hl,r⟩:=(sv.mv m2).seq m2.st
  obtain ⟨u,hu,ru⟩:=r.BK ha
  exact ⟨l,vs,i,u,rfl,rfl,AU.of hl,hu,q _ _ F2 H2 (m1.trans m2) ru kk⟩⟩
def oF (h:Wq ss ta fun tp xs=>Wp ss tb fun y=>∃ i p,y=.int i/\L2.BK xs i=some p/\k p):Wp ss (B0 (fun x y H Q=>Nj K x y H Q∨GF K x y H Q) ta tb) k:=⟨fun E σ F H Q S q=>
 h.go E σ F H _ S fun v tp xs F1 H1 m1 sv h2=>h2.go E σ F1 H1 _ m1.st fun v2 p2 F2 H2 m2 r2 ⟨i,p,e,ha,kk⟩=>by
  subst e;cases r2
  obtain ⟨l,vs,rfl,hl,r⟩:=(sv.mv m2).seq m2.st
  obtain ⟨u,hu,ru⟩:=r.BK ha
  cases tp with
  | false=>exact .inl ⟨l,vs,i,u,rfl,rfl,AG.of hl,hu,q _ _ F2 H2 (m1.trans m2) ru kk⟩
  | true=>exact .inr ⟨l,vs,i,u,rfl,rfl,AU.of hl,hu,q _ _ F2 H2 (m1.trans m2) ru kk⟩⟩
def VO {neg:Bool}(h:Wp ss ta fun p=>∃ x,p=.str x/\Wq ss tb fun _ ys=>∃ ns:List Str,ys=ns.map PV.str/\k (.bl (if neg then !decide (x∈ns) else decide (x∈ns)))):Wp ss (B0 (K8 K neg) ta tb) k:=⟨fun E σ F H Q S q=>
 h.go E σ F H _ S fun v p F1 H1 m1 r1 ⟨x,e,h2⟩=>by
  subst e;cases r1
  exact h2.go E σ F1 H1 _ m1.st fun v2 tp ys F2 H2 m2 sv ⟨ns,e2,kk⟩=>by
   subst e2
   obtain ⟨l,vs,rfl,hl,r⟩:=sv.seq m2.st
   rw [r.strs] at hl
   refine ⟨l,_,rfl,(CP.sq (K:=K) hl).or,rfl,IH ns,?_⟩
   rw [QD]
   exact q _ _ F2 H2 (m1.trans m2) (.bl _) kk⟩
def MV {k:List PV->Prop}{r:List V->Hp->VK->Prop}(hr:r=fun xs H Q=>∃ p ys,xs=[.ref p]/\(AG K H p ys∨AU K H p ys)/\∀ l,H l=none->Q (.ref l) (upd H l (.lst ys))) (h:Wq ss te fun _ xs=>k xs):Wn ss (BY r (AK te AS)) k:=⟨fun E σ F H Q S q=>
 h.go E σ F H _ S fun v tp xs F1 H1 m1 sv kk=>by
  subst hr
  obtain ⟨l,vs,rfl,hl,r⟩:=sv.seq m1.st
  refine ⟨l,vs,rfl,(CP.sq (K:=K) hl).or,fun a ha=>?_⟩
  have m2:=m1.st.make ha (.lst vs)
  exact q a vs xs F1 _ (m1.trans m2) (m1.st.BC ha) (m1.none ha) AN r kk⟩
def Ts {r:List V->Hp->VK->Prop}(hr:r=fun xs H Q=>∃ p ys,xs=[.ref p]/\((AG K H p ys/\∀ l,H l=none->Q (.ref l) (upd H l (.tup ys)))∨(AU K H p ys/\Q (.ref p) H))) (h:Wq ss te fun _ xs=>k (.tup xs)):Wp ss (BY r (AK te AS)) k:=⟨fun E σ F H Q S q=>
 h.go E σ F H _ S fun v tp xs F1 H1 m1 sv kk=>by
  subst hr
  cases tp with
  | false=>
   obtain ⟨l,vs,rfl,hl,r⟩:=sv.seq m1.st
   refine ⟨l,vs,rfl,.inl ⟨AG.of hl,fun a ha=>?_⟩⟩
   have m2:=m1.st.alloc ha (.tup vs)
   exact q _ _ _ _ (m1.trans m2) (.tup AN (r.mono m2.ff)) kk
  | true=>
   have MR:Rep F1 v (.tup xs):=sv
   cases MR with
   | tup e r=>exact ⟨_,_,rfl,.inr ⟨AU.of (m1.st.fh _ _ e),q _ _ F1 H1 m1 (.tup e r) kk⟩⟩⟩
def QL {k:List PV->Prop}(h:Wq ss ta fun tp xs=>tp=false/\Wq ss tb fun B5 ys=>B5=false/\xs.length+ys.length<=100000/\k (xs++ys)):Wn ss (B0 Zu ta tb) k:=⟨fun E σ F H Q S q=>
 h.go E σ F H _ S fun v tp xs F1 H1 m1 sv ⟨et,h2⟩=>h2.go E σ F1 H1 _ m1.st fun v2 B5 ys F2 H2 m2 Ge ⟨Ik,hz,kk⟩=>by
  subst et;subst Ik
  obtain ⟨l,vs,rfl,hl,r⟩:=(sv.mv m2).seq m2.st
  obtain ⟨l2,IM,rfl,Bl,r2⟩:=Ge.seq m2.st
  refine ⟨l,l2,vs,IM,rfl,rfl,hl,Bl,small (by rw [r.length,r2.length];exact hz),fun a ha=>?_⟩
  have m3:=m2.st.make ha (.lst (vs++IM))
  exact q a _ _ F2 _ (m1.trans (m2.trans m3)) (m2.st.BC ha) ((m1.trans m2).none ha) AN (r.append r2) kk⟩
def E2 {α:Type} (xs:List α) (lo hi:Option Int):List α:=(xs.drop (HT.Bh xs.length 0 lo)).take (HT.Bh xs.length xs.length hi - HT.Bh xs.length 0 lo)
def AD.cut {vs:List V}(r:AD F vs xs) (lo hi:Option Int):AD F (Et vs lo hi) (E2 xs lo hi):=by
 unfold Et E2
 rw [r.length]
 exact (r.drop _).take _
def rG {k:List PV->Prop}{tl th:TO}(h:Wq ss te fun tp xs=>tp=false/\Wo ss tl fun lo=>Wo ss th fun hi=>k (E2 xs lo hi)):Wn ss (Js (QF K) te tl th) k:=⟨fun E σ F H Q S q=>
 h.go E σ F H _ S fun v tp xs F1 H1 m1 sv ⟨et,h2⟩=>h2.go E σ F1 H1 _ m1.st fun lo F2 H2 m2 h3=>h3.go E σ F2 H2 _ m2.st fun hi F3 H3 m3 kk=>by
  subst et
  obtain ⟨l,vs,rfl,hl,r⟩:=(sv.mv (m2.trans m3)).seq m3.st
  refine ⟨l,vs,rfl,AG.of hl,fun a ha=>?_⟩
  have m4:=m3.st.make ha (.lst (Et vs lo hi))
  exact q a _ _ F3 _ (m1.trans (m2.trans (m3.trans m4))) (m3.st.BC ha) ((m1.trans (m2.trans m3)).none ha) AN (r.cut lo hi) kk⟩
def C9 (tp:Bool) (xs:List PV):PV:=if tp then .tup xs else .lst xs
def SR (K:tV):V->Option Int->Option Int->Hp->VK->Prop:=fun x lo hi H Q=>QF K x lo hi H Q∨c6 K x lo hi H Q
def Y0 {tl th:TO}(h:Wq ss te fun tp xs=>Wo ss tl fun lo=>Wo ss th fun hi=>k (C9 tp (E2 xs lo hi))):Wp ss (Js (SR K) te tl th) k:=⟨fun E σ F H Q S q=>
 h.go E σ F H _ S fun v tp xs F1 H1 m1 sv h2=>h2.go E σ F1 H1 _ m1.st fun lo F2 H2 m2 h3=>h3.go E σ F2 H2 _ m2.st fun hi F3 H3 m3 kk=>by
  have ZZ:=sv.mv (m2.trans m3)
  have FP:=m1.trans (m2.trans m3)
  cases tp with
  | false=>
   obtain ⟨l,vs,rfl,hl,r⟩:=ZZ.seq m3.st
   refine .inl ⟨l,vs,rfl,AG.of hl,fun a ha=>?_⟩
   have m4:=m3.st.alloc ha (.lst (Et vs lo hi))
   exact q _ _ _ _ (FP.trans m4) (.lst AN ((r.cut lo hi).mono m4.ff)) kk
  | true=>
   have MR:Rep F3 v (.tup xs):=ZZ
   cases MR with
   | @tup _ vs _ e r=>
    refine .inr ⟨_,vs,rfl,AU.of (m3.st.fh _ _ e),fun hw=>?_,fun hw a ha=>?_⟩
    ·have ew:E2 xs lo hi=xs:=by
      rw [r.length] at hw
      unfold E2;rw [hw.1,hw.2];simp
     refine q _ _ F3 H3 FP (.tup e r) ?_
     have Vj:=kk
     rw [ew] at Vj
     exact Vj
    ·have m4:=m3.st.alloc ha (.tup (Et vs lo hi))
     exact q _ _ _ _ (FP.trans m4) (.tup AN ((r.cut lo hi).mono m4.ff)) kk⟩
def ji {k:List PV->Prop}(h:Wq ss te fun _ xs=>∃ ns:List Str,xs=ns.map PV.str/\ns.length < 64/\∀ Dm:List Str,Dm.Perm ns->sortedS Dm=true->k (Dm.map PV.str)):Wn ss (BY (oX K) (AK te AS)) k:=⟨fun E σ F H Q S q=>
 h.go E σ F H _ S fun v tp xs F1 H1 m1 sv ⟨ns,e,hz,kk⟩=>by
  subst e
  obtain ⟨l,vs,rfl,hl,r⟩:=sv.seq m1.st
  rw [r.strs] at hl
  refine ⟨l,tp,ns,rfl,CP.sq hl,hz,fun a Dm ha hp hs=>?_⟩
  have m2:=m1.st.make ha (.lst (Dm.map V.str))
  exact q a _ _ F1 _ (m1.trans m2) (m1.st.BC ha) (m1.none ha) AN (Ij Dm) (kk Dm hp hs)⟩
def lN (xs ys:List Str):Fp (xs.map V.str) (ys.map V.str)=decide (xs=ys):=by
 by_cases h:xs=ys
 ·subst h;rw [j5,decide_eq_true rfl]
 ·rw [decide_eq_false h]
  by_cases hl:xs.length=ys.length
  ·rw [NS (by simpa using hl)]
   cases c:(List.range (xs.map V.str).length).all fun j=>C1 ((xs.map V.str).getD j .A4) ((ys.map V.str).getD j .A4) with
   | false=>rfl
   | true=>
    exfalso
    apply h
    apply List.ext_getElem hl
    intro j h1 h2
    have q:=List.all_eq_true.mp c j (List.mem_range.mpr (by simpa using h1))
    have e1:(xs.map V.str)[j]?=some (.str xs[j]):=by rw [Ak,B4 h1];rfl
    have e2:(ys.map V.str)[j]?=some (.str ys[j]):=by rw [Ak,B4 h2];rfl
    rw [LX e1,LX e2] at q
    have q':(xs[j] == ys[j])=true:=q
    simpa using q'
  ·rw [Mo (by simpa using hl)]
def ZM {neg:Bool}(h:Wq ss ta fun tp xs=>∃ ns:List Str,xs=ns.map PV.str/\Wq ss tb fun B5 ys=>B5=tp/\∃ ms:List Str,ys=ms.map PV.str/\k (.bl (if neg then !decide (ns=ms) else decide (ns=ms)))):Wp ss (B0 (NY K neg) ta tb) k:=⟨fun E σ F H Q S q=>
 h.go E σ F H _ S fun v tp xs F1 H1 m1 sv ⟨ns,e1,h2⟩=>h2.go E σ F1 H1 _ m1.st fun v2 B5 ys F2 H2 m2 Ge ⟨et,ms,e2,kk⟩=>by
  subst e1;subst e2;subst et
  obtain ⟨l,vs,rfl,hl,r⟩:=(sv.mv m2).seq m2.st
  obtain ⟨l2,IM,rfl,Bl,r2⟩:=Ge.seq m2.st
  rw [r.strs] at hl
  rw [r2.strs] at Bl
  refine ⟨l,l2,ns.map V.str,ms.map V.str,rfl,rfl,?_,IH _,IH _,?_⟩
  ·cases B5
   ·exact .inl ⟨AG.of hl,AG.of Bl⟩
   ·exact .inr ⟨AU.of hl,AU.of Bl⟩
  ·rw [lN]
   cases neg
   ·exact q _ _ F2 H2 (m1.trans m2) (.bl _) kk
   ·exact q _ _ F2 H2 (m1.trans m2) (.bl _) kk⟩
def TL {r:List V->Hp->VK->Prop}(hr:r=fun xs H Q=>∃ (p:Addr) (bs:List Bool),xs=[.ref p]/\AG K H p (bs.map V.bl)/\Q (.bl (bs.all id)) H) (h:Wq ss te fun tp xs=>tp=false/\∃ bs:List Bool,xs=bs.map PV.bl/\k (.bl (bs.all id))):Wp ss (BY r (AK te AS)) k:=⟨fun E σ F H Q S q=>
 h.go E σ F H _ S fun v tp xs F1 H1 m1 sv ⟨et,bs,e,kk⟩=>by
  subst hr;subst e;subst et
  obtain ⟨l,vs,rfl,hl,r⟩:=sv.seq m1.st
  rw [r.R1] at hl
  exact ⟨l,bs,rfl,AG.of hl,q _ _ F1 H1 m1 (.bl _) kk⟩⟩
def eX {r:List V->Hp->VK->Prop}(hr:r=fun xs H Q=>∃ (p:Addr) (bs:List Bool),xs=[.ref p]/\AG K H p (bs.map V.bl)/\Q (.bl (bs.any id)) H) (h:Wq ss te fun tp xs=>tp=false/\∃ bs:List Bool,xs=bs.map PV.bl/\k (.bl (bs.any id))):Wp ss (BY r (AK te AS)) k:=⟨fun E σ F H Q S q=>
 h.go E σ F H _ S fun v tp xs F1 H1 m1 sv ⟨et,bs,e,kk⟩=>by
  subst hr;subst e;subst et
  obtain ⟨l,vs,rfl,hl,r⟩:=sv.seq m1.st
  rw [r.R1] at hl
  exact ⟨l,bs,rfl,AG.of hl,q _ _ F1 H1 m1 (.bl _) kk⟩⟩
def tyP:PV->String
 | .A4 => "NoneType"
 | .bl _ => "bool"
 | .int _ => "int"
 | .str _ => "str"
 | .lst _ => "list"
 | .tup _ => "tuple"
 | .Ae _ _ => "dict"
 | _ => ""
def HV:PV->Value
 | .obj _ _ _=>.none
 | .exc _ _ _=>.none
 | .con _ _=>.none
 | p=>.type (tyP p)
def Mm {n:String}{b:Bool}(h:PySem.W.kitOne K .none (.type n)=some b):False:=by
 unfold PySem.W.kitOne PySem.W.kitCls PySem.W.subIn at h
 simp at h
def Rep.jL {p:PV}{n:String}{b:Bool}(s:A9 F H) (r:Rep F v p) (hb:PySem.W.kitOne K (HV p) (.type n)=some b):DP K H v (HV p):=by
 cases r with
 | A4=>exact .A4
 | bl b=>exact .bl b
 | int i=>exact .int i
 | str x=>exact .str x
 | lst h _=>exact .lst (s _ _ h)
 | tup h _=>exact .tup (s _ _ h)
 | Ae h _ _=>exact .dK (s _ _ h)
 | obj _ _ _ _=>exact (Mm hb).elim
 | K9 _=>exact (Mm hb).elim
 | con=>exact (Mm hb).elim
 | exc _ _ _ _=>exact (Mm hb).elim
def Mj {n:String}(h:Wp ss te fun p=>∃ b,PySem.W.kitOne K (HV p) (.type n)=some b/\k (.bl b)):Wp ss (BY (MQ K) (AK te (AK (tC (.ty n)) AS))) k:=⟨fun E σ F H Q S q=>
 h.go E σ F H _ S fun v p F1 H1 m1 r ⟨b,hb,kk⟩=>⟨v,n,_,b,rfl,r.jL m1.st.fh hb,hb,q _ _ F1 H1 m1 (.bl _) kk⟩⟩
def rK {n:String}(h:Wq ss te fun tp xs=>∃ b,PySem.W.kitOne K (.type (tyP (C9 tp xs))) (.type n)=some b/\k (.bl b)):Wp ss (BY (MQ K) (AK te (AK (tC (.ty n)) AS))) k:=⟨fun E σ F H Q S q=>
 h.go E σ F H _ S fun v tp xs F1 H1 m1 sv ⟨b,hb,kk⟩=>by
  obtain ⟨l,vs,rfl,hl,r⟩:=sv.seq m1.st
  refine ⟨_,n,_,b,rfl,?_,hb,q _ _ F1 H1 m1 (.bl _) kk⟩
  cases tp
  ·exact .lst hl
  ·exact .tup hl⟩
def i9 {r:List V->Hp->VK->Prop}(hr:r=fun xs H Q=>∃ i j,xs=[.int i,.int j]/\Q (.int (if j > i then j else i)) H) (h:Wp ss ta fun x=>∃ i,x=.int i/\Wp ss tb fun y=>∃ j,y=.int j/\k (.int (if j > i then j else i))):Wp ss (BY r (AK ta (AK tb AS))) k:=⟨fun E σ F H Q S q=>
 h.go E σ F H _ S fun v p F1 H1 m1 r1 ⟨i,e1,h2⟩=>by
  subst hr;subst e1;cases r1
  exact h2.go E σ F1 H1 _ m1.st fun v2 p2 F2 H2 m2 r2 ⟨j,e2,kk⟩=>by
   subst e2;cases r2
   exact ⟨i,j,rfl,q _ _ F2 H2 (m1.trans m2) (.int _) kk⟩⟩
def gh {r:List V->Hp->VK->Prop}(hr:r=fun xs H Q=>∃ i j,xs=[.int i,.int j]/\Q (.int (if j < i then j else i)) H) (h:Wp ss ta fun x=>∃ i,x=.int i/\Wp ss tb fun y=>∃ j,y=.int j/\k (.int (if j < i then j else i))):Wp ss (BY r (AK ta (AK tb AS))) k:=⟨fun E σ F H Q S q=>
 h.go E σ F H _ S fun v p F1 H1 m1 r1 ⟨i,e1,h2⟩=>by
  subst hr;subst e1;cases r1
  exact h2.go E σ F1 H1 _ m1.st fun v2 p2 F2 H2 m2 r2 ⟨j,e2,kk⟩=>by
   subst e2;cases r2
   exact ⟨i,j,rfl,q _ _ F2 H2 (m1.trans m2) (.int _) kk⟩⟩
end
structure Src (E:Ent0) (F1:Hp) (J:It) (xs:List PV):Prop where
 go:∀ (ss:List Slot) (σ:L2.St) (F H:Hp) (i:Nat),A9 F1 F->Sg E ss σ F H->i < xs.length->J.go i H
 stop:∀ (ss:List Slot) (σ:L2.St) (F H:Hp),A9 F1 F->Sg E ss σ F H->J.stop xs.length H
 E6:∀ (ss:List Slot) (σ:L2.St) (F H:Hp) (i:Nat) (x:V) (H':Hp),A9 F1 F->Sg E ss σ F H->i < xs.length->J.E6 i H x H'->∃ p F',xs[i]?=some p/\Mv E ss σ F H F' H'/\Rep F' x p
structure Wi [Xw] (ss:List Slot) (wi:TI) (k:List PV->Prop):Prop where
 go:∀ (E:Ent) (σ:L2.St) (F H:Hp) (R:It->Hp->Prop),Sg E ss σ F H->(∀ J xs F' H',Mv E ss σ F H F' H'->Src E F' J xs->k xs->R J H')->wi σ H R
structure Wg [Xw] (ss:List Slot) (g:TG) (p:PV) (k:List Slot->Prop):Prop where
 go:∀ (E:Ent) (σ:L2.St) (F H:Hp) (v:V) (Q:L2.St->Hp->Prop),Sg E ss σ F H->Rep F v p->(∀ A8 σ',k A8->Sg E A8 σ' F H->Q σ' H)->g v σ H Q
section
variable [Xw]
variable {E:Ent0}{ss:List Slot}{σ:L2.St} {F H F' H':Hp}{K:tV}{ta tb tc te:TE}{k:PV->Prop}{v:V}{tp:Bool}{xs:List PV}{nx:List Slot->Prop}{R:AR}
def Xb {l:Addr}{vs:List V}(h:∀ (ss:List Slot) (σ:L2.St) (F H:Hp),A9 F' F->Sg E ss σ F H->H l=some (CP tp vs)) (r:AD F' vs xs):Src E F' (Mf K tp l vs) xs where
 go:=fun ss σ F H i s S hi=>⟨CP.sq (h ss σ F H s S),by rw [r.length];exact hi⟩
 stop:=fun ss σ F H s S=>⟨CP.sq (h ss σ F H s S),by rw [r.length];exact AV _⟩
 E6:=fun ss σ F H i x H' s S hi y=>by
  obtain ⟨e,hx⟩:=y
  subst e
  obtain ⟨p,hp,rp⟩:=r.get' hx
  exact ⟨p,F,hp,.refl S,rp.mono s⟩
def EI {k:List PV->Prop}(h:Wz ss te fun _ xs=>k xs):Wi ss (Qe K te) k:=⟨fun E σ F H R S q=>
 h.go E σ F H _ S fun v tp xs F1 H1 m1 f kk=>by
  cases tp with
  | true=>
   have f':Rep F1 v (.tup xs):=f
   cases f' with
   | tup e r=>exact ⟨true,_,_,rfl,AU.of (m1.st.fh _ _ e),q _ _ F1 H1 m1 (Xb (tp:=true) (fun ss σ F H s S=>S.fh _ _ (s _ _ e)) r) kk⟩
  | false=>
   obtain ⟨l,vs,rfl,h1,r⟩:=f
   have hl:∀ (ss:List Slot) (σ:L2.St) (F H:Hp),A9 F1 F->Sg E ss σ F H->H l=some (.lst vs):=fun ss σ F H s S=>by
    rcases h1 with h1 | ⟨hA,h1⟩
    ·exact S.fh _ _ (s _ _ h1)
    ·exact S.keep _ _ hA h1
   exact ⟨false,l,vs,rfl,AG.of (hl ss σ F1 H1 (A9.refl _) m1.st),q _ _ F1 H1 m1 (Xb (tp:=false) hl r) kk⟩⟩
def Ef (n:Nat):List PV:=(List.range n).map fun i:Nat=>PV.int (i:Int)
def JS (n:Nat):(Ef n).length=n:=by simp [Ef]
def VX {n i:Nat}{p:PV}(h:(Ef n)[i]?=some p):i < n/\p=.int (i:Int):=by
 have hi:i < n:=by have:=(List.getElem?_eq_some_iff.mp h).1;rwa [JS] at this
 unfold Ef at h
 rw [Ak,UY hi] at h
 exact ⟨hi,(BA h).symm⟩
def jz {k:List PV->Prop}(h:Wp ss te fun p=>∃ j:Int,p=.int j/\j<=1000000/\-1000000<=j/\k (Ef j.toNat)):Wi ss (R3 (AK te AS)) k:=⟨fun E σ F H R S q=>
 h.go E σ F H _ S fun v p F1 H1 m1 r ⟨j,e,h1,h2,kk⟩=>by
  subst e;cases r
  refine ⟨j,rfl,by omega,by omega,q _ (Ef j.toNat) F1 H1 m1 ⟨fun ss σ F H i s S hi=>?_,fun ss σ F H s S=>?_,fun ss σ F H i x H' s S hi y=>?_⟩ kk⟩
  ·rw [JS] at hi;exact hi
  ·show _<=_
   rw [JS];exact AV _
  ·obtain ⟨e,hx⟩:=y
   subst e;subst hx
   rw [JS] at hi
   refine ⟨.int (i:Int),F,?_,.refl S,?_⟩
   ·unfold Ef;rw [Ak,UY hi];rfl
   ·rw [Int.zero_add];exact .int _⟩
def K0 {j:Nat}{p:PV}{k:List Slot->Prop}(h:k (ss.set j (.is p))):Wg ss (BU j) p k:=⟨fun E σ F H v Q S r q=>q _ _ h (S.D9 r)⟩
def oh {i j:Nat}{p:PV}{k:List Slot->Prop}(h:∃ a b,p=.tup [a,b]/\k ((ss.set i (.is a)).set j (.is b))):Wg ss (JC K 2 (Dq (BU i) (Dq (BU j) IK))) p k:=⟨fun E σ F H v Q S r q=>by
 obtain ⟨a,b,rfl,kk⟩:=h
 cases r with
 | tup e r=>
  cases r with
  | cons r1 r=>cases r with
   | cons r2 r=>cases r with
    | nil=>exact ⟨_,_,rfl,AU.of (S.fh _ _ e),rfl,_,_,rfl,_,_,rfl,rfl,q _ _ kk ((S.D9 r1).D9 r2)⟩⟩
def Zl {i j l:Nat}{p:PV}{k:List Slot->Prop}(h:∃ a b c,p=.tup [a,b,c]/\k (((ss.set i (.is a)).set j (.is b)).set l (.is c))):Wg ss (JC K 3 (Dq (BU i) (Dq (BU j) (Dq (BU l) IK)))) p k:=⟨fun E σ F H v Q S r q=>by
 obtain ⟨a,b,c,rfl,kk⟩:=h
 cases r with
 | tup e r=>
  cases r with
  | cons r1 r=>cases r with
   | cons r2 r=>cases r with
    | cons r3 r=>cases r with
     | nil=>exact ⟨_,_,rfl,AU.of (S.fh _ _ e),rfl,_,_,rfl,_,_,rfl,_,_,rfl,rfl,q _ _ kk (((S.D9 r1).D9 r2).D9 r3)⟩⟩
def Ar {t u:TS}(h:Ws ss t (fun A8=>Ws A8 u nx R) R):Ws ss (IV t u) nx R:=⟨fun E D σ F H S hn hr=>
 h.go E { D with nx:=u D } σ F H S (fun A8 σ' F' H' w S' s=>w.go E D σ' F' H' S' (fun Bi σ2 F2 H2 n2 S2 s2=>hn Bi σ2 F2 H2 n2 S2 (s.trans s2)) hr) hr⟩
def GR {t:TS}(h:Ws ss t nx R):Ws ss (T6 t) nx R:=⟨fun E D σ F H S hn hr=>⟨D.nx,h.go E { D with nx:=D.nx } σ F H S hn hr,fun _ _ q=>q⟩⟩
def Ws.mono {t:TS}{O4:List Slot->Prop}(h:Ws ss t nx R) (i:∀ s,nx s->O4 s):Ws ss t O4 R:=⟨fun E D σ F H S hn hr=>h.go E D σ F H S (fun A8 σ' F' H' n=>hn A8 σ' F' H' (i _ n)) hr⟩
def ZL {t u:TS}(J:List Slot->Prop) (h:Ws ss t J R) (h2:∀ A8,J A8->Ws A8 u nx R):Ws ss (IV t u) nx R:=Ar (h.mono h2)
def JF {i:Nat}(h:Wp ss te fun p=>nx (ss.set i (.is p))):Ws ss (DM te (BU i)) nx R:=⟨fun E D σ F H S hn hr=>
 h.go E σ F H _ S fun v p F1 H1 m1 r kk=>hn _ _ F1 H1 kk (m1.st.D9 r) m1.ff⟩
def JW {i:Nat}(h:Wn ss te fun xs=>nx (ss.set i (.own xs))):Ws ss (DM te (BU i)) nx R:=⟨fun E D σ F H S hn hr=>
 h.go E σ F H _ S fun l vs xs F1 H1 m1 fl hl MM r kk=>hn _ _ F1 H1 kk (m1.st.setG ⟨l,vs,rfl,fl,S.Cz hl,MM,r⟩ fun l' e j u _ hu mu=>by cases e;exact S.Ir hu hl mu) m1.ff⟩
def K2 {k:PV->Prop}(h:Wp ss te k):Ws ss (Jd te) nx (.is k):=⟨fun E D σ F H S hn hr=>
 h.go E σ F H _ S fun v p F1 H1 m1 r kk=>hr v F1 H1 m1.st.toFin ⟨p,r,kk⟩⟩
def SV {k:List PV->Prop}(h:Wn ss te k):Ws ss (Jd te) nx (.new k):=⟨fun E D σ F H S hn hr=>
 h.go E σ F H _ S fun l vs xs F1 H1 m1 fl hl MM r kk=>hr _ F1 H1 m1.st.toFin ⟨l,vs,xs,rfl,fl,S.Cz hl,MM,r,kk⟩⟩
def kA {i:Nat}{k:List PV->Prop}(h:ss[i]?=some (.own xs)) (kk:k xs):Ws ss (Jd (BB i)) nx (.new k):=⟨fun E D σ F H S hn hr=>by
 obtain ⟨l,vs,e,e1,e2,e3,r⟩:=S.ok i _ h
 exact ⟨_,e,hr _ F H S.toFin ⟨l,vs,xs,rfl,e1,e2,e3,r,kk⟩⟩⟩
def Dl {c:TT}{t u:TS}(h:Wt ss c fun b=>if b=true then Ws ss t nx R else Ws ss u nx R):Ws ss (Tu c t u) nx R:=⟨fun E D σ F H S hn hr=>
 h.go E σ F H _ S fun b F1 H1 m1 w=>by
  show if b=true then _ else _
  cases b with
  | true=>rw [if_pos rfl] at w ⊢;exact w.go E D σ F1 H1 m1.st (fun Bi σ2 F2 H2 n S2 s2=>hn Bi σ2 F2 H2 n S2 (m1.ff.trans s2)) hr
  | false=>rw [if_neg (by decide)] at w ⊢;exact w.go E D σ F1 H1 m1.st (fun Bi σ2 F2 H2 n S2 s2=>hn Bi σ2 F2 H2 n S2 (m1.ff.trans s2)) hr⟩
def DF (h:nx ss):Ws ss NZ nx R:=⟨fun E D σ F H S hn hr=>hn ss σ F H h S (A9.refl _)⟩
def Iv (h:Wp ss te fun _=>nx ss):Ws ss (Gu te) nx R:=⟨fun E D σ F H S hn hr=>
 h.go E σ F H _ S fun v p F1 H1 m1 r kk=>hn ss σ F1 H1 kk m1.st m1.ff⟩
def Sg.drop (S:Sg E ss σ F H) (i:Nat):Sg E (ss.set i .any) σ F H:=by
 have DT:∀ (j:Nat) u,(ss.set i .any)[j]?=some u->u=.any∨ss[j]?=some u:=fun j u hj=>by
  by_cases q:j=i
  ·subst q
   have AM:j < ss.length:=by have:=(List.getElem?_eq_some_iff.mp hj).1;simpa using this
   rw [C7 AM] at hj
   exact .inl (BA hj).symm
  ·rw [Bd (Ah q)] at hj;exact .inr hj
 refine ⟨S.toFin,by rw [HC];exact S.len,fun j u hj=>?_,fun j k u w l O2 hj hk mu mw=>?_⟩
 ·rcases DT j u hj with rfl | h
  ·trivial
  ·exact S.ok j u h
 ·rcases DT j u hj with rfl | h
  ·cases mu
  ·rcases DT k w hk with rfl | h2
   ·cases mw
   ·exact S.BG j k u w l O2 h h2 mu mw
def Jk {i:Nat}{v:V}(e:σ[i]?=some (some v)):σ.set i (some v)=σ:=by
 apply List.ext_getElem?
 intro j
 by_cases q:j=i
 ·subst q
  rw [C7 (List.getElem?_eq_some_iff.mp e).1,e]
 ·rw [Bd (Ah q)]
def Sg.NW (S:Sg E ss σ F H){a:Addr}{o:HO}(fa:F a=none) (h0:E.H0 a=none∨a∈E.B) (hn:∀ (i:Nat) s,ss[i]?=some s->¬ An s σ[i]? a):Sg E ss σ F (upd H a o):=by
 have hb:∀ b u,b≠a->H b=some u->upd H a o b=some u:=fun b u h e=>by rw [AF h];exact e
 refine ⟨⟨fun b u e=>?_,S.f0,fun b u hA e=>?_,S.fresh,fun b hA=>?_,S.IS,S.a0,S.bF,fun b hB=>?_,S.b0⟩,S.len,fun i s hi=>?_,S.BG⟩
 ·exact hb b u (Bu e fa) (S.fh b u e)
 ·refine hb b u ?_ (S.keep b u hA e)
  rintro rfl
  rcases h0 with h0 | h0
  ·rw [h0] at e;cases e
  ·exact hA.2 h0
 ·refine Aq.keep (S.Es b hA) fun u e=>hb b u ?_ e
  rintro rfl
  rcases h0 with h0 | h0
  ·exact S.a0 _ hA h0
  ·exact (S.b0 _ h0).2 hA
 ·by_cases q:b=a
  ·subst q;rw [AN];simp
  ·rw [AF q];exact S.bH b hB
 ·by_cases np:s=.AI
  ·subst np
   obtain ⟨l,e,e1,e2,e3⟩:=S.ok i _ hi
   exact ⟨l,e,e1,e2,Aq.keep e3 fun u h=>hb l u (by rintro rfl;exact hn i _ hi e) h⟩
  ·exact Ok.go S hi (A9.refl _) (fun b u m h=>hb b u (by rintro rfl;exact hn i _ hi m) h) (fun _ _ h=>h) np
def Sg.put (S:Sg E ss σ F H){i:Nat}{l:Addr}{BQ:List V}{xs ys:List PV}(hi:ss[i]?=some (.own xs)) (e:σ[i]?=some (some (.ref l))) (fl:F l=none) (h0:E.H0 l=none) (r:AD F BQ ys):Sg E (ss.set i (.own ys)) σ F (upd H l (.lst BQ)):=by
 have ne1:∀ (j:Nat) s,(ss.set i .any)[j]?=some s->¬ An s σ[j]? l:=fun j s hj mj=>by
  by_cases q:j=i
  ·subst q
   have AM:j < ss.length:=(List.getElem?_eq_some_iff.mp hi).1
   rw [C7 AM] at hj
   cases hj;cases mj
  ·rw [Bd (Ah q)] at hj
   exact S.BG j i s _ l q hj hi mj e
 have S2:=(S.drop i).NW (o:=.lst BQ) fl (.inl h0) ne1
 have S3:=S2.setG (j:=i) (s:=.own ys) (v:=.ref l) ⟨l,BQ,rfl,fl,h0,AN,r⟩ fun l' e' j u hj hu mu=>by cases e';exact ne1 j u hu mu
 rw [Jk e,Og] at S3
 exact S3
def Vs {i:Nat}(hi:ss[i]?=some (.own xs)) (h:Wp ss te fun p=>xs.length<=99999/\nx (ss.set i (.own (xs++[p])))):Ws ss (Gu (GN K "list" Lr (BB i) (AK te AS))) nx R:=⟨fun E D σ F H S hn hr=>by
 obtain ⟨l,vs,e,e1,e2,e3,r⟩:=S.ok i _ hi
 refine ⟨_,e,.inl ⟨rfl,_,AG.of e3⟩,h.go E σ F H _ S fun v p F1 H1 m1 rv ⟨hz,kk⟩=>?_⟩
 obtain ⟨l',BQ,e',CF,Af,ME,r'⟩:=m1.st.ok i _ hi
 rw [e] at e'
 cases e'
 refine ⟨l,BQ,v,rfl,rfl,ME,Ii (by rw [r'.length];exact hz),?_⟩
 exact hn _ σ F1 _ kk (m1.st.put hi e CF Af (r'.append (.one rv))) m1.ff⟩
def Xc {i:Nat}(hi:ss[i]?=some (.own xs)) (h:Wp ss ta fun a=>∃ j:Int,a=.int j/\0<=j/\j<=xs.length/\Wp ss te fun p=>xs.length<=99999/\nx (ss.set i (.own (xs.take j.toNat++p :: xs.drop j.toNat)))) :
  Ws ss (Gu (GN K "list" RC (BB i) (AK ta (AK te AS)))) nx R:=⟨fun E D σ F H S hn hr=>by
 obtain ⟨l,vs,e,e1,e2,e3,r⟩:=S.ok i _ hi
 refine ⟨_,e,.inl ⟨rfl,_,AG.of e3⟩,h.go E σ F H _ S fun v1 p1 F1 H1 m1 iF ⟨j,ej,j0,j1,h2⟩=>?_⟩
 subst ej;cases iF
 refine h2.go E σ F1 H1 _ m1.st fun v p F2 H2 m2 rv ⟨hz,kk⟩=>?_
 obtain ⟨l',BQ,e',CF,Af,ME,r'⟩:=m2.st.ok i _ hi
 rw [e] at e'
 cases e'
 refine ⟨l,BQ,j,v,rfl,rfl,ME,j0,by rw [r'.length];exact j1,Ii (by rw [r'.length];exact hz),?_⟩
 exact hn _ σ F2 _ kk (m2.st.put hi e CF Af ((r'.take _).append (.cons rv (r'.drop _)))) (m1.ff.trans m2.ff)⟩
def gG {i:Nat}(hi:ss[i]?=some (.own xs)) (h:nx (ss.set i (.own xs.reverse))):Ws ss (Gu (cG K "list" rJ (BB i))) nx R:=⟨fun E D σ F H S hn hr=>by
 obtain ⟨l,vs,e,e1,e2,e3,r⟩:=S.ok i _ hi
 exact ⟨_,e,.inl ⟨rfl,_,AG.of e3⟩,l,vs,rfl,rfl,e3,hn _ σ F _ h (S.put hi e e1 e2 r.reverse) (A9.refl _)⟩⟩
def C3 (F H:Hp) (as:List Addr):Hp:=fun a=>if a∈as then H a else F a
def Sg.lay (S:Sg E ss σ F H) (as:List Addr) (h0:∀ a∈as,F a=none/\E.H0 a=none/\H a≠none) (hn:∀ a∈as,∀ (i:Nat) s,ss[i]?=some s->¬ An s σ[i]? a):Sg E ss σ (C3 F H as) H/\A9 F (C3 F H as):=by
 have Ks:∀ a,a∈as->C3 F H as a=H a:=fun a h=>if_pos h
 have NG:∀ a,a∉as->C3 F H as a=F a:=fun a h=>if_neg h
 have ff:A9 F (C3 F H as):=fun a o e=>by
  by_cases q:a∈as
  ·rw [(h0 a q).1] at e;cases e
  ·rw [NG a q];exact e
 have nF:∀ a,a∉as->F a=none->C3 F H as a=none:=fun a q h=>by rw [NG a q];exact h
 refine ⟨⟨⟨fun a o e=>?_,S.f0.trans ff,S.keep,fun a o e=>?_,S.Es,fun a hA=>?_,S.a0,fun a hB=>?_,S.bH,S.b0⟩,S.len,fun i s hi=>?_,S.BG⟩,ff⟩
 ·by_cases q:a∈as
  ·rw [Ks a q] at e;exact e
  ·rw [NG a q] at e;exact S.fh a o e
 ·by_cases q:a∈as
  ·exact .inr (h0 a q).2.1
  ·rw [NG a q] at e;exact S.fresh a o e
 ·exact nF a (fun q=>S.a0 a hA (h0 a q).2.1) (S.IS a hA)
 ·exact nF a (fun q=>(S.b0 a hB).1 (h0 a q).2.1) (S.bF a hB)
 ·have no:∀ a,An s σ[i]? a->a∉as:=fun a m q=>hn a q i s hi m
  have kk:=S.ok i s hi
  cases s with
  | any=>trivial
  | is p=>obtain ⟨v,e,r⟩:=kk;exact ⟨v,e,r.mono ff⟩
  | own ys=>
   obtain ⟨l',ws,q,q1,q2,q3,r⟩:=kk
   exact ⟨l',ws,q,nF l' (no l' q) q1,q2,q3,r.mono ff⟩
  | AI=>
   obtain ⟨l',q,q1,q2,q3⟩:=kk
   exact ⟨l',q,nF l' (no l' q) q1,q2,q3⟩
  | sq tp ys=>
   cases tp with
   | true=>obtain ⟨v,e,r⟩:=kk;exact ⟨v,e,r.mono ff⟩
   | false=>obtain ⟨l',ws,q,q1,q2,r⟩:=kk;exact ⟨l',ws,q,q1,q2,r.mono ff⟩
  | raw P=>obtain ⟨v,e,r,st⟩:=kk;exact ⟨v,e,st _ _ ff r,st⟩
  | ow lt t=>
   obtain ⟨v,e,r,nd,q⟩:=kk
   exact ⟨v,e,r.mono ff fun a _ o h=>h,nd,fun a ha=>⟨nF a (no a ha) (q a ha).1,(q a ha).2⟩⟩
def NT {t:TS}(i:Nat) (hi:ss[i]?=some (.own xs)) (h:Ws (ss.set i (.is (.lst xs))) t nx R):Ws ss t nx R:=⟨fun E D σ F H S hn hr=>by
 obtain ⟨l,vs,e,e1,e2,e3,r⟩:=S.ok i _ hi
 have one:∀ a,a∈[l]->a=l:=fun a h=>by simpa using h
 obtain ⟨S1,nf⟩:=(S.drop i).lay [l] (fun a h=>by rw [one a h,e3];exact ⟨e1,e2,by simp⟩) fun a h j s hj m=>by
  rw [one a h] at m
  by_cases q:j=i
  ·subst q
   rw [C7 (List.getElem?_eq_some_iff.mp hi).1] at hj
   cases hj;cases m
  ·rw [Bd (Ah q)] at hj
   exact S.BG j i s _ l q hj hi m e
 have S2:=S1.D9 (j:=i) (v:=.ref l) (p:=.lst xs) (.lst (by unfold C3;rw [if_pos (by simp)];exact e3) (r.mono nf))
 rw [Jk e,Og] at S2
 exact h.go E D σ _ H S2 (fun Bi σ2 F2 H2 n S2 s2=>hn Bi σ2 F2 H2 n S2 (nf.trans s2)) hr⟩
def HA {wi:TI}{g:TG}{tb:TS}(I:List PV->Nat->List Slot->Prop) (h:Wi ss wi fun xs=>I xs 0 ss/\(∀ (i:Nat) p A8,xs[i]?=some p->I xs i A8->Wg A8 g p fun Bi=>Ws Bi tb (I xs (i+1)) R)/\∀ A8,I xs xs.length A8->nx A8):Ws ss (Nz wi g tb) nx R:=⟨fun E D σ F H S hn hr=>
 h.go E σ F H _ S fun J xs F1 H1 m1 sr ⟨i0,hs,hd⟩=>by
  refine ⟨fun i m σ' H'=>m=xs.length - i/\i<=xs.length/\∃ A8 F',I xs i A8/\Sg E A8 σ' F' H'/\A9 F1 F',⟨_,rfl,Cj _,ss,F1,i0,m1.st,A9.refl _⟩,?_⟩
  rintro i m σ' H' ⟨rfl,hi,A8,F',hI,S',s'⟩
  by_cases AM:i < xs.length
  ·refine .inr ⟨sr.go A8 σ' F' H' i s' S' AM,fun σ2 H2=>∃ Bi F2,I xs (i+1) Bi/\Sg E Bi σ2 F2 H2/\A9 F1 F2,fun σ2 H2 ⟨Bi,F2,a,b,c⟩=>⟨_,by omega,rfl,AM,Bi,F2,a,b,c⟩,fun x H3 y=>?_⟩
   obtain ⟨p,F3,hp,m3,rp⟩:=sr.E6 A8 σ' F' H' i x H3 s' S' AM y
   refine (hs i p A8 hp hI).go E σ' F3 H3 x _ m3.st rp fun r9 σ4 w S4=>?_
   exact w.go E _ σ4 F3 H3 S4 (fun UB σ5 F5 H5 n5 S5 s5=>⟨UB,F5,n5,S5,(s'.trans m3.ff).trans s5⟩) hr
  ·have e:i=xs.length:=by omega
   subst e
   exact .inl ⟨sr.stop A8 σ' F' H' s' S',hn A8 σ' F' H' (hd A8 hI) S' (m1.ff.trans s')⟩⟩
end
def CL (js:List Nat) (ss:List Slot):List Slot:=js.map fun j=>(ss[j]?).getD .any
def NC (js:List Nat) (ss:List Slot):Bool:=js.all fun j=>match ss[j]? with
 | some .AI=>false
 | _=>true
section
variable [Xw]
variable {E:Ent0}{ss:List Slot}{σ:L2.St} {F H F' H':Hp}{K:tV}{js:List Nat}
def gZ {i:Nat}{s:Slot}{j:Nat}(h:js[i]?=some j) (e:(CL js ss)[i]?=some s):s=(ss[j]?).getD .any:=by
 unfold CL at e
 rw [Ak,h] at e
 exact (BA e).symm
def Sg.AA (S:Sg E ss σ F H) (nd:js.Nodup){vs:List V}{ps:List PV}(r:AD F vs ps):Sg E (CL js ss++ps.map .is) (Ac js σ++vs.map some) F H:=by
 have hl:(CL js ss).length=js.length:=by simp [CL]
 have Bl:(Ac js σ).length=js.length:=by simp [Ac]
 have DT:∀ (i:Nat) (hi:i < js.length),(CL js ss++ps.map .is)[i]?=some ((ss[js[i]]?).getD .any)/\(Ac js σ++vs.map some)[i]?=some ((σ[js[i]]?).join):=fun i hi=>by
  rw [EW (by rw [hl];exact hi),EW (by rw [Bl];exact hi)]
  unfold CL Ac
  rw [Ak,Ak,B4 hi]
  exact ⟨rfl,rfl⟩
 have at2:∀ (i:Nat) s,js.length<=i->(CL js ss++ps.map .is)[i]?=some s->∃ p v,s=.is p/\(Ac js σ++vs.map some)[i]?=some (some v)/\Rep F v p:=fun i s hi e=>by
  rw [EX (by rw [hl];exact hi),hl,Ak] at e
  rw [EX (by rw [Bl];exact hi),Bl,Ak]
  cases q:ps[i - js.length]? with
  | none=>rw [q] at e;cases e
  | some p=>
   rw [q] at e
   obtain ⟨v,hv,rv⟩:=r.get q
   rw [hv]
   exact ⟨p,v,(BA e).symm,rfl,rv⟩
 have fx:∀ (s:Slot) (m:Nat) (l:Addr),An s (some (σ[m]?).join) l->An s σ[m]? l:=fun s m l o=>by
  have fy:∀ l,some (σ[m]?).join=some (some (V.ref l))->σ[m]?=some (some (.ref l)):=fun l e=>by
   cases q:σ[m]? with
   | none=>rw [q] at e;cases e
   | some o=>rw [q] at e;cases o with
    | none=>cases e
    | some v=>simpa using e
  cases s with
  | own xs=>exact fy l o
  | AI=>exact fy l o
  | ow lt t=>exact o
  | _=>exact o
 have sm:∀ (i:Nat) s l,(CL js ss++ps.map .is)[i]?=some s->An s (Ac js σ++vs.map some)[i]? l->∃ hi:i < js.length,ss[js[i]]?=some s/\An s σ[js[i]]? l:=fun i s l e m=>by
  by_cases hi:i < js.length
  ·rw [(DT i hi).2] at m
   refine ⟨hi,?_,fx s _ l m⟩
   rw [(DT i hi).1] at e
   cases q:ss[js[i]]? with
   | none=>rw [q] at e;cases e;cases m
   | some u=>rw [q] at e;exact e
  ·obtain ⟨p,v,rfl,_⟩:=at2 i s (by omega) e
   cases m
 refine ⟨S.toFin,?_,fun i s e=>?_,fun i j s u l EH hi hj ms mu=>?_⟩
 ·rw [DL,DL,hl,Bl,AJ,AJ,r.length]
 ·by_cases hi:i < js.length
  ·obtain ⟨a,b⟩:=DT i hi
   rw [a] at e
   rw [b]
   cases q:ss[js[i]]? with
   | none=>rw [q] at e;cases e;trivial
   | some u=>
    rw [q] at e
    have eu:u=s:=BA e
    subst eu
    have kk:=S.ok _ _ q
    cases u with
    | any=>trivial
    | is p=>obtain ⟨v,e,r⟩:=kk;rw [e];exact ⟨v,rfl,r⟩
    | own xs=>obtain ⟨l,vs,e,r⟩:=kk;rw [e];exact ⟨l,vs,rfl,r⟩
    | AI=>obtain ⟨l,e,r⟩:=kk;rw [e];exact ⟨l,rfl,r⟩
    | sq tp xs=>
     cases tp with
     | true=>obtain ⟨v,e,r⟩:=kk;rw [e];exact ⟨v,rfl,r⟩
     | false=>obtain ⟨l,vs,e,r⟩:=kk;rw [e];exact ⟨l,vs,rfl,r⟩
    | raw P=>obtain ⟨v,e,r⟩:=kk;rw [e];exact ⟨v,rfl,r⟩
    | ow lt t=>obtain ⟨v,e,r⟩:=kk;rw [e];exact ⟨v,rfl,r⟩
  ·obtain ⟨p,v,rfl,hv,rv⟩:=at2 i s (by omega) e
   rw [hv];exact ⟨v,rfl,rv⟩
 ·obtain ⟨li,qi,oi⟩:=sm i s l hi ms
  obtain ⟨lj,qj,oj⟩:=sm j u l hj mu
  refine S.BG js[i] js[j] s u l (fun e=>EH ?_) qi qj oi oj
  exact (rX nd).mp e
def Mv.out {ps:List PV}{τ:L2.St} (S:Sg E ss σ F H) (np:NC js ss=true) (m:Mv E (CL js ss++ps.map .is) τ F H F' H'):Mv E ss σ F H F' H':=by
 have nn:∀ a,Bf (CL js ss++ps.map .is) τ a:=fun a i hi _=>by
  by_cases h:i < (CL js ss).length
  ·rw [EW h] at hi
   have hj:i < js.length:=by simpa [CL] using h
   have q:=gZ (B4 hj) hi
   have z:=List.all_eq_true.mp np js[i] (Hr hj)
   cases w:ss[js[i]]? with
   | none=>rw [w] at q;cases q
   | some u=>rw [w] at q z;cases q;cases z
  ·rw [EX (by omega),Ak] at hi
   cases w:ps[i - (CL js ss).length]? with
   | none=>rw [w] at hi;cases hi
   | some p=>rw [w] at hi;cases hi
 have hk:∀ a o,H a=some o->H' a=some o:=fun a o e=>m.hh a o (nn a) e
 exact S.step m.ff m.st.fh (fun a o _ e=>hk a o e) m.nn fun i l hi e=>Aq.keep (S.DG hi e) fun o e=>hk l o e
def aL {wi:TI}{tt:TT}{te:TE}{k:List PV->Prop}(f:PV->Bool) (g:PV->PV)
  (h:Wi ss wi fun xs=>xs.length<=100000/\(∀ x∈xs,Wt (CL js ss++[.is x]) tt fun b=>b=f x)/\(∀ x∈xs,f x=true->Wp (CL js ss++[.is x]) te fun p=>p=g x)/\k ((xs.filter f).map g))
  (nd:js.Nodup:=by decide) (np:NC js ss=true:=by rfl):Wn ss (Jp wi js tt te) k:=⟨fun E σ F H Q S q=>
 h.go E σ F H _ S fun J xs F1 H1 m1 sr ⟨hz,ht,he,kk⟩ acc BX=>by
  have KP:Bf ss σ acc:=m1.st.LF BX
  have Qk:=m1.st.Cz BX
  have SG:∀ (i:Nat) s,ss[i]?=some s->¬ An s σ[i]? acc:=fun i s hi=>m1.st.Ir hi BX
  refine ⟨fun i m H2=>m=xs.length - i/\i<=xs.length/\∃ F2 vs,Mv E ss σ F1 H1 F2 H2/\F2 acc=none/\H2 acc=some (.lst vs)/\AD F2 vs (((xs.take i).filter f).map g),⟨_,rfl,Cj _,F1,[],m1.st.make BX _,m1.st.BC BX,AN,.nil⟩,?_⟩
  rintro i m H2 ⟨rfl,hi,F2,vs,m2,fa,ha,rv⟩
  by_cases AM:i < xs.length
  ·refine .inr ⟨sr.go ss σ F2 H2 i m2.ff m2.st AM,fun x H3 y=>?_⟩
   obtain ⟨p,F3,hp,m3,rp⟩:=sr.E6 ss σ F2 H2 i x H3 m2.ff m2.st AM y
   have Oa:p∈xs:=EZ hp
   have HR:(xs.take (i+1))=xs.take i++[p]:=by
    have e2:xs[i]=p:=by rw [B4 AM] at hp;exact BA hp
    rw [Oh AM,e2]
   have e1:List.filter f (xs.take (i+1))=(xs.take i).filter f++(if f p=true then [p] else []):=by
    rw [HR,aU];congr 1
    by_cases hf:f p=true <;> simp [hf]
   have M6:∀ {F4:Hp},(∀ a o,F4 a=some o->F2 a=some o∨H2 a=none)->F4 acc=none:=fun {F4} n=>by
    cases e:F4 acc with
    | none=>rfl
    | some o=>
     rcases n acc o e with w | w
     ·rw [fa] at w;cases w
     ·rw [ha] at w;cases w
   have S3:=m3.st.AA (js:=js) nd (.one rp)
   refine (ht p Oa).go E _ F3 H3 _ S3 fun b F4 H4 m4 hb=>?_
   have Dk:=m3.trans (m4.out (ps:=[p]) m3.st np)
   show if b=true then _ else _
   rw [hb]
   by_cases hf:f p=true
   ·rw [if_pos hf]
    have S4:=Dk.st.AA (js:=js) nd (.one (rp.mono (m4.out (ps:=[p]) m3.st np).ff))
    refine (he p Oa hf).go E _ F4 H4 _ S4 fun w pw F5 H5 m5 Kh ew=>?_
    have tN:=m4.out (ps:=[p]) m3.st np
    have Px:=m5.out (ps:=[p]) Dk.st np
    have Gn:=Dk.trans Px
    have Sj:=Gn.hh acc _ KP ha
    have L4:=M6 Gn.nn
    have hlen:vs.length<=99999:=by
     rw [rv.length,AJ]
     have:=aY f (xs.take i)
     rw [EY] at this
     omega
    refine ⟨vs,Sj,Ii hlen,xs.length - (i+1),by omega,rfl,AM,F5,vs++[w],?_,L4,AN,?_⟩
    ·have Gr:=m2.trans Gn
     refine ⟨Gr.st.NW L4 (.inl Qk) SG,Gr.ff,fun a o n e=>?_,Gr.nn⟩
     rw [AF (Bu e BX)];exact Gr.hh a o n e
    ·rw [e1,if_pos hf,Dp]
     rw [ew] at Kh
     exact (rv.mono Gn.ff).append (.one Kh)
   ·have Ka:f p=false:=by simpa using hf
    rw [Ka,if_neg (by decide)]
    refine ⟨xs.length - (i+1),by omega,rfl,AM,F4,vs,m2.trans Dk,M6 Dk.nn,Dk.hh acc _ KP ha,?_⟩
    rw [e1,if_neg hf,EV]
    exact rv.mono Dk.ff
  ·have e:i=xs.length:=by omega
   subst e
   refine .inl ⟨sr.stop ss σ F2 H2 m2.ff m2.st,q acc vs _ F2 H2 (m1.trans m2) fa (m1.none BX) ha ?_ kk⟩
   rw [J1] at rv
   exact rv⟩
end
abbrev Pre:=List Slot->AR->Prop
def Cu (pre:Pre):Sp:=fun vs H Q _=>∃ (ss:List Slot) (R:AR) (F:Hp) (A:List Addr),pre ss R/\Sg (E3 A F H) ss (vs.map some) F H/\∀ v F' H',Fin (E3 A F H) F' H'->R.ok (E3 A F H) F' H' v->Q v H'
section
variable [Xw]
variable {E:Ent0}{ss:List Slot}{σ:L2.St} {F H F' H':Hp}{pre:Pre}{t:TA}{k:PV->Prop}
theorem EK.at {vs:List V}{l:List Slot}(h:EK ss σ F H vs l):∀ {i:Nat}{s:Slot},l[i]?=some s->∃ v,vs[i]?=some v/\Av ss σ F H v s:=by
 induction h with
 | nil=>intro i s e;simp at e
 | cons a _ ih=>
  intro i s e
  cases i with
  | zero=>simp at e;subst e;exact ⟨_,rfl,a⟩
  | succ i=>exact ih (by simpa using e)
def EK.len {vs:List V}{l:List Slot}(h:EK ss σ F H vs l):l.length=vs.length:=by
 induction h with
 | nil=>rfl
 | cons a _ ih=>rw [Bm,Bm,ih]
def Av.ok {A:List Addr}{v:V}{s:Slot}(S:Sg E ss σ F H) (a:Av ss σ F H v s) (hA:∀ l,Bf ss σ l->l∉A):Ok (E3 A F H) F H s (some (some v))/\∀ o l,¬ An s o l:=by
 cases s with
 | is p=>exact ⟨⟨v,rfl,a⟩,fun _ _ z=>z⟩
 | sq tp xs=>
  cases tp with
  | true=>exact ⟨⟨v,rfl,a⟩,fun _ _ z=>z⟩
  | false=>obtain ⟨l,vs,rfl,n,h,r⟩:=a;exact ⟨⟨l,vs,rfl,⟨hA l n,Ay⟩,h,r⟩,fun _ _ z=>z⟩
 | raw P=>exact ⟨⟨v,rfl,a⟩,fun _ _ z=>z⟩
 | any=>exact a.elim
 | own xs=>exact a.elim
 | AI=>exact a.elim
 | ow lt t=>exact a.elim
def Sg.KS (S:Sg E ss σ F H){vs:List V}{l:List Slot}(a:EK ss σ F H vs l):Sg (E3 [] F H) l (vs.map some) F H:=by
 have nn:∀ {p:Prop}(a:Addr),a∈([]:List Addr)->p:=fun a h=>absurd h Ay
 refine ⟨⟨S.fh,A9.refl _,fun _ _ _ e=>e,fun _ _ e=>.inl e,fun a h=>nn a h,fun a h=>nn a h,fun a h=>nn a h,fun a h=>nn a h,fun a h=>nn a h,fun a h=>nn a h⟩,by rw [AJ];exact a.len,fun i s hi=>?_,fun i j s u l EH hi hj ms mu=>?_⟩
 ·obtain ⟨v,hv,q⟩:=a.at hi
  rw [Ak,hv]
  exact (q.ok S fun _ _ h=>absurd h Ay).1
 ·obtain ⟨v,hv,q⟩:=a.at hi
  exact (q.ok S (A:=[]) fun _ _ h=>absurd h Ay).2 _ _ ms
def Sg.my (S:Sg E ss σ F H){i0:Nat}{p:Addr}(hi:ss[i0]?=some .AI) (e:σ[i0]?=some (some (.ref p))){vs:List V}{l:List Slot}(a:EK ss σ F H vs l):Sg (E3 [p] F H) (.AI :: l) ((V.ref p :: vs).map some) F H:=by
 obtain ⟨p',e',fp,_,pp⟩:=S.ok i0 _ hi
 rw [e] at e'
 cases e'
 have hA:∀ l,Bf ss σ l->l∉[p]:=fun l n h=>by
  have:l=p:=by simpa using h
  subst this
  exact n i0 hi e
 have one:∀ a,a∈[p]->a=p:=fun a h=>by simpa using h
 have nn:∀ {p:Prop}(a:Addr),a∈([]:List Addr)->p:=fun a h=>absurd h Ay
 refine ⟨⟨S.fh,A9.refl _,fun _ _ _ e=>e,fun _ _ e=>.inl e,fun a h=>(one a h)▸pp,fun a h=>(one a h)▸fp,fun a h=>?_,fun a h=>nn a h,fun a h=>nn a h,fun a h=>nn a h⟩,by rw [AJ,Bm,Bm];rw [a.len],fun i s hi=>?_,fun i j s u l' EH hi hj ms mu=>?_⟩
 ·rw [one a h]
  obtain ⟨_,_,q,_⟩:=pp
  show H p≠none
  rw [q];simp
 ·cases i with
  | zero=>simp at hi;subst hi;exact ⟨p,rfl,fp,.inr (by simp),pp⟩
  | succ i=>
   obtain ⟨v,hv,q⟩:=a.at (i:=i) (s:=s) (by simpa using hi)
   have:((V.ref p :: vs).map some)[i+1]?=some (some v):=by rw [BV,List.getElem?_cons_succ,Ak,hv];rfl
   rw [this]
   exact (q.ok S hA).1
 ·have z:∀ (i:Nat) s o l',(Slot.AI :: l)[i]?=some s->An s o l'->i=0:=fun i s o l' h m=>by
   cases i with
   | zero=>rfl
   | succ i=>
    obtain ⟨v,hv,q⟩:=a.at (i:=i) (s:=s) (by simpa using h)
    exact ((q.ok S hA).2 _ _ m).elim
  exact absurd ((z i s _ _ hi ms).trans (z j u _ _ hj mu).symm) EH
def Sg.back (S:Sg E ss σ F H){A:List Addr}(hA:∀ a,a∈A->∃ i:Nat,ss[i]?=some .AI/\σ[i]?=some (some (.ref a))) (f:Fin (E3 A F H) F' H'):Mv E ss σ F H F' H':=by
 refine S.step f.f0 f.fh (fun a o n e=>f.keep a o ⟨fun h=>?_,Ay⟩ e) f.fresh fun i l hi e=>?_
 ·obtain ⟨i,q1,q2⟩:=hA a h
  exact n i q1 q2
 ·by_cases q:l∈A
  ·exact f.Es l q
  ·exact Aq.keep (S.DG hi e) fun o e=>f.keep l o ⟨q,Ay⟩ e
def wp_call (h:Wa ss t fun l=>∃ k',pre l (.is k')/\∀ p,k' p->k p):Wp ss (CI (Cu pre) [] E0 t) k:=⟨fun E σ F H Q S q=>
 h.go E σ F H _ S fun vs l F1 H1 m1 a ⟨k',hp,kk⟩=>by
  rw [EV]
  refine ⟨l,.is k',F1,[],hp,m1.st.KS a,fun v F' H' f ⟨p,r,kp⟩=>?_⟩
  exact q v p F' H' (m1.trans (m1.st.back (fun _ h=>absurd h Ay) f)) r (kk p kp)⟩
def Sg.grown (S:Sg E ss σ F H) (n:Nat):Sg E (ss++List.replicate n .any) (σ++List.replicate n none) F H:=by
 have DT:∀ (i:Nat) s,(ss++List.replicate n .any)[i]?=some s->s≠.any->ss[i]?=some s/\(σ++List.replicate n none)[i]?=σ[i]?:=fun i s e hs=>by
  by_cases h:i < ss.length
  ·rw [EW h] at e
   rw [EW (by rw [<- S.len];exact h)]
   exact ⟨e,rfl⟩
  ·rw [EX (by omega),aW] at e
   split at e
   ·exact absurd (BA e).symm hs
   ·cases e
 refine ⟨S.toFin,by simp [S.len],fun i s e=>?_,fun i j s u l EH hi hj ms mu=>?_⟩
 ·cases s with
  | any=>trivial
  | _=>obtain ⟨a,b⟩:=DT i _ e (by simp);rw [b];exact S.ok i _ a
 ·have ns:s≠.any:=by rintro rfl;cases ms
  have nu:u≠.any:=by rintro rfl;cases mu
  obtain ⟨a,b⟩:=DT i s hi ns
  obtain ⟨c,d⟩:=DT j u hj nu
  rw [b] at ms
  rw [d] at mu
  exact S.BG i j s u l EH a c ms mu
end
section
variable {E:Ent0}{ss:List Slot}{σ:L2.St} {F H F' H':Hp}{pre:Pre}{t:TA}{k:PV->Prop}
def N6 (E:Ent0):Ent:=⟨E,fun _ _ _ _ _ _ _ _ _ d=>d.elim⟩
def Jj {N:List Str}{n:Nat}{vs:List V}{Q:VK}{X:XK}{t:TS}(h:Cu pre vs H Q X) (hl:∀ ss R,pre ss R->ss.length=n)
  (hw:∀ ss R,pre ss R->Ws (ss++List.replicate (N.length - n) .any) t (fun _=>∃ k,R=.is k/\k .A4) R):t { nx:=fun _ H'=>Q .A4 H',rt:=Q } (L2.start N vs) H:=by
 obtain ⟨ss,R,F,A,hp,S,q⟩:=h
 have e:vs.length=n:=by have:=S.len;rw [AJ] at this;rw [<- this];exact hl ss R hp
 unfold L2.start
 rw [e]
 refine (hw ss R hp).go (N6 (E3 A F H)) _ _ F H (S.grown _) (fun A8 σ' F' H' ⟨k,e,kn⟩ S' _=>?_) fun v F' H' f ok=>q v F' H' f ok
 subst e
 exact q .A4 F' H' S'.toFin ⟨.A4,.A4,kn⟩
def J8 {n:Nat}{vs:List V}{Q:VK}{X:XK}(hl:∀ ss R,pre ss R->ss.length=n) (h:Cu pre vs H Q X):vs.length=n:=by
 obtain ⟨ss,R,F,A,hp,S,q⟩:=h
 have:=S.len
 rw [AJ] at this
 rw [<- this];exact hl ss R hp
end
end Fz
namespace L2
section
variable {X:Cx}
def iq (K:tV):R2:=fun x y H Q=>∃ p q xs,x=.ref p/\y=.ref q/\AG K H p xs/\AG K H q []/\Q (.bl (!decide (xs=[]))) H
def jg (K:tV):R2:=fun x y H Q=>∃ p q xs,x=.ref p/\y=.ref q/\AG K H p xs/\AG K H q []/\Q (.bl (decide (xs=[]))) H
end
end L2
namespace Lw
open L2
theorem Zh:∀ l:List Nat,¬ l < l
 | [],h=>by simp at h
 | a :: r,h=>by
  rw [List.cons_lt_cons_iff] at h
  rcases h with h | ⟨_,h⟩
  ·omega
  ·exact Zh r h
abbrev RO (a b:Str):Prop:=a.cps.toList < b.cps.toList
abbrev Up (ss:List Str):Prop:=ss.Pairwise RO
def cF {ss:List Str}(h:Up ss):ss.Nodup:=by
 refine List.Pairwise.imp (fun {a b} (FC:RO a b) (e:a=b)=>?_) h
 subst e
 exact Zh _ FC
theorem Xr:∀ {as bs:List Str},as.Nodup->(∀ x∈as,x∈bs)->as.length<=bs.length
 | [],_,_,_=>Cj _
 | a :: as,bs,nd,h=>by
  obtain ⟨h1,h2⟩:=List.nodup_cons.mp nd
  have ha:=h a J0
  have q:=Xr (bs:=bs.erase a) h2 fun x hx=>(rl (fun e:x=a=>h1 (by rw [<- e];exact hx))).mpr (h x (Fe _ hx))
  have e:=rb ha
  have p:=rf ha
  simp only [Bm]
  omega
def XO:List Str:=["none", "ahead", "all"]
def Uv (ss:List Str):Bool:=decide (Up ss)
def VM (ns ss:List Str):Bool:=ss.all fun x=>decide (x∈ns)
def Wb (n:Nat) (g:Int):Bool:=decide (0<=g) && decide (g<=(n:Int))
def MI (ns:List Str) (r:Str) (g:Int) (ss:List Str):Bool:=decide (r∈XO) && (Wb ns.length g && (Uv ss && VM ns ss))
def LoopAt (K:tV) (H:Hp) (t:Addr) (r:Str) (g:Int) (ss:List Str):Prop:=∃ c,AU K H t [.str r,.int g,.ref c]/\AU K H c (ss.map V.str)
def LoopAt.same {K:tV}{H H':Hp}{t:Addr}{r:Str}{g:Int}{ss:List Str}(s:A9 H H') (h:LoopAt K H t r g ss):LoopAt K H' t r g ss:=by
 obtain ⟨c,h1,h2⟩:=h
 exact ⟨c,s.Po h1,s.Po h2⟩
def Yq (ss:List Str) (x:Str):Bool:=decide (x∈ss)
def Nt (ns:List Str) (g:Nat) (ss:List Str):List Str:=(ns.drop g).filter (Yq ss)++(ns.take g).filter (Yq ss)
def Hz (H:Hp) (t:Addr) (r:Str) (g:Int) (ss:List Str):Prop:=∃ c,H t=some (.tup [.str r,.int g,.ref c])/\H c=some (.tup (ss.map V.str))
def Hz.same {H H':Hp}{t:Addr}{r:Str}{g:Int}{ss:List Str}(s:A9 H H') (h:Hz H t r g ss):Hz H' t r g ss:=by
 obtain ⟨c,a,b⟩:=h
 exact ⟨c,s _ _ a,s _ _ b⟩
structure Jo (ns:List Str) (r:Str) (g:Int) (ss:List Str):Prop where
 rule:r∈XO
 g0:0<=g
 g1:g<=(ns.length:Int)
 up:Up ss
 sub:∀ x∈ss,x∈ns
theorem Jo.MI {ns:List Str}{r:Str}{g:Int}{ss:List Str}(h:Jo ns r g ss):MI ns r g ss=true:=by
 unfold Lw.MI Wb Uv VM
 rw [decide_eq_true h.rule,decide_eq_true h.g0,decide_eq_true h.g1,decide_eq_true h.up,KH,KH,KH,KH,G7]
 intro x hx
 exact decide_eq_true (h.sub x hx)
def SD (ns:List Str) (g:Nat) (ss:List Str):Option Str:=(Nt ns g ss).head?
def iR (ns:List Str) (g:Nat) (ss:List Str):Nat:=match SD ns g ss with
 | none=>g
 | some x=>ns.idxOf x+1
def ij (ns:List Str) (g:Nat) (ss:List Str):List Str:=match SD ns g ss with
 | none=>ss
 | some x=>wo ss x
def lW:Option Str->V
 | none=>.A4
 | some x=>.str x
def RT (H:Hp) (t':Addr) (ns:List Str) (r:Str) (g:Nat) (ss:List Str):Prop:=∃ td,H t'=some (.tup [lW (SD ns g ss),.ref td])/\Hz H td r (iR ns g ss:Nat) (ij ns g ss)
theorem RT.same {H H':Hp}{t':Addr}{ns:List Str}{r:Str}{g:Nat}{ss:List Str}(s:A9 H H') (h:RT H t' ns r g ss):RT H' t' ns r g ss:=by
 obtain ⟨td,a,b⟩:=h
 exact ⟨td,s _ _ a,b.same s⟩
structure Ent where
 a:Addr
 ns:List Str
 t:Addr
 r:Str
 g:Nat
 ss:List Str
structure Ent.Ok (H:Hp) (lr lp:Addr) (e:Ent):Prop where
 ar:e.a≠lr
 ap:e.a≠lp
 ha:H e.a=some (.lst (e.ns.map V.str))
 hl:Hz H e.t e.r e.g e.ss
 good:Jo e.ns e.r e.g e.ss
 len:e.ns.length<=40
theorem Ent.Ok.same {H H':Hp}{lr lp:Addr}{e:Ent}(h:e.Ok H lr lp) (s:A9 H H'):e.Ok H' lr lp:=⟨h.ar,h.ap,s _ _ h.ha,h.hl.same s,h.good,h.len⟩
end Lw
namespace L2
section
variable {X:Cx}
end
end L2
namespace Lw
open L2
def VY (i g:Nat):Nat:=if i < g then g+1 else g
def Ww (p g:Nat):Nat:=if p < g then g - 1 else g
def CB.gap (ns:List Str) (g:Nat):CB->Nat
 | .put _ i=>VY i g
 | .take x=>Ww (ns.idxOf x) g
 | .move x i=>VY i (Ww (ns.idxOf x) g)
 | .turn _ _=>g
def Qx:List Str->Str->List Str
 | [],x=>[x]
 | y :: r,x=>if RO x y then x :: y :: r else y :: Qx r x
def fJ (r:Str) (g i:Nat):Bool:=if decide (V.str r=V.str "all")=true then true else if decide (V.str r=V.str "ahead")=true then decide ((g:Int)<=(i:Int)) else false
def CB.cj (r:Str) (g:Nat) (ss:List Str):CB->List Str
 | .put x i=>if fJ r g i=true then Qx ss x else ss
 | .take x=>wo ss x
 | .move _ _=>ss
 | .turn _ _=>ss
def Jo.len {ns:List Str}{r:Str}{g:Int}{ss:List Str}(h:Jo ns r g ss):ss.length<=ns.length:=Xr (cF h.up) h.sub
def Yv {rs:List Str}(nd:rs.Nodup){g:Nat}{x:Str}(h:rs[g]?=some x):rs.idxOf x=g:=by
 obtain ⟨hg,e⟩:=List.getElem?_eq_some_iff.mp h
 have hx:x∈rs:=EZ h
 have hj:rs.idxOf x < rs.length:=List.idxOf_lt_length_iff.mpr hx
 have e2:rs[rs.idxOf x]=x:=aX hj
 have pw:=List.pairwise_iff_getElem.mp nd
 rcases Nat.lt_trichotomy (rs.idxOf x) g with c | c | c
 ·exact absurd (e2.trans e.symm) (pw _ _ hj hg c)
 ·exact c
 ·exact absurd (e.trans e2.symm) (pw _ _ hg hj c)
end Lw
namespace L2
section
variable {X:Cx}{pins:tW}{σ:St} {H2:Hp}{s2:Shared}{elt iter:Expr}{x z:Str}{px pz tp pos:Pos}{tk:Nat}{scope:Scope}{AA:List Str}{js:List Nat}{te:TE}{J:It}{fp:List Addr}{it:Addr}
 {tn:Nat->Heap->Prop}
end
end L2
namespace Fz
open L2 Lw
section
variable [Xw]
variable {E:Ent0}{ss:List Slot}{σ:L2.St} {F H F' H':Hp}{K:tV}{js:List Nat}{ta tb te:TE}{k:PV->Prop}{nx:List Slot->Prop}{R:AR}
def Sg.MU (S:Sg E ss σ F H){i:Nat}{p:Addr}(hi:ss[i]?=some .AI) (e:σ[i]?=some (some (.ref p))) (s:BS p H H'):Mv E ss σ F H F H':=by
 obtain ⟨p',e',fp,_,pp⟩:=S.ok i _ hi
 rw [e] at e'
 cases e'
 refine S.step (A9.refl _) (fun a o q=>s.same a o (Bu q fp) (S.fh a o q)) (fun a o n q=>s.same a o (fun z=>?_) q) (fun a o q=>.inl q) fun j l hj ej=>?_
 ·rw [z] at n;exact n i hi e
 ·by_cases z:l=p
  ·rw [z];exact s.AI
  ·exact Aq.keep (S.DG hj ej) fun o q=>s.same l o z q
def QJ {i:Nat}(hi:ss[i]?=some .AI) (h:Wp ss te fun x=>∃ m,x=.int m/\0 < m/\m < 10 ^ 18/\∀ r:Int,0<=r->r < m->k (.int r)):Wp ss (CI Lc [] E0 (AK (BB i) (AK te AS))) k:=⟨fun E σ F H Q S q=>by
 obtain ⟨p,e,_⟩:=S.ok i _ hi
 refine ⟨_,e,h.go E σ F H _ S fun v x F1 H1 m1 r ⟨m,em,m0,FF,kk⟩=>?_⟩
 subst em;cases r
 exact ⟨p,m,rfl,m1.st.DG hi e,m0,FF,fun r H2 r0 r1 s=>q _ _ F1 H2 (m1.trans (m1.st.MU hi e s)) (.int r) (kk r r0 r1)⟩⟩
def hU {sp:Sp}{i:Nat}{k:List PV->Prop}(DH:sp=Yx) (hi:ss[i]?=some .AI) (h:Wp ss te fun x=>∃ m,x=.int m/\1<=m/\m<=100/\∀ ns:List Str,(ns.length:Int)<=m->(∀ x∈ns,Nm x)->ns.Nodup->k (ns.map PV.str)):Wn ss (CI sp [] E0 (AK (BB i) (AK te AS))) k:=⟨fun E σ F H Q S q=>by
 subst DH
 obtain ⟨p,e,_⟩:=S.ok i _ hi
 refine ⟨_,e,h.go E σ F H _ S fun v x F1 H1 m1 r ⟨m,em,m0,FF,kk⟩=>?_⟩
 subst em;cases r
 refine ⟨p,m,rfl,m1.st.DG hi e,m0,FF,fun l H2 ns hl s Bl hz hN nd=>?_⟩
 have m2:=m1.st.MU hi e s
 exact q l _ _ F1 H2 (m1.trans m2) (m1.st.BC hl) (m1.none hl) Bl (Ij ns) (kk ns hz hN nd)⟩
def Br (K:tV) (ns:List Int):Hp->V->Prop:=fun F v=>∃ a,v=.ref a/\AG K F a (ns.map V.int)
def Lb (K:tV) (ns:List Int):∀ (v:V) (F F':Hp),A9 F F'->Br K ns F v->Br K ns F' v:=fun v F F' s ⟨a,e,h⟩=>⟨a,e,by
 rcases h with (h | ⟨o,h⟩) | h
 ·exact .inl (.inl (s _ _ h))
 ·exact .inl (.inr ⟨o,s _ _ h⟩)
 ·exact .inr h⟩
def k8 {i:Nat}{ns:List Int}(hi:ss[i]?=some (.raw (Br K ns))) (h:k (.int ns.length)):Wp ss (BY (OZ K) (AK (BB i) AS)) k:=⟨fun E σ F H Q S q=>by
 obtain ⟨v,e,⟨a,ev,hq⟩,st⟩:=S.ok i _ hi
 subst ev
 obtain ⟨a',ea,EO⟩:=Lb K ns _ F H S.fh ⟨a,rfl,hq⟩
 cases ea
 refine ⟨_,e,a,_,rfl,.inl EO,?_⟩
 rw [AJ]
 exact q _ _ F H (.refl S) (.int _) h⟩
def Xk {i j:Nat}{ns:List Int}(hi:ss[i]?=some (.raw (Br K ns))) (h:Wp ss te fun x=>∃ m,x=.int m/\0<=m/\m<=1000/\nx (ss.set j .AI)):Ws ss (DM (CI (MH K) [] E0 (AK (BB i) (AK te AS))) (BU j)) nx R:=⟨fun E D σ F H S hn hr=>by
 obtain ⟨v,e,⟨a,ev,hq⟩,st⟩:=S.ok i _ hi
 subst ev
 refine ⟨_,e,h.go E σ F H _ S fun v x F1 H1 m1 r ⟨m,em,m0,FF,kk⟩=>?_⟩
 subst em;cases r
 obtain ⟨v',e',Lq,_⟩:=m1.st.ok i _ hi
 rw [e] at e';cases e'
 obtain ⟨a',ea,EO⟩:=Lb K ns _ F1 H1 m1.st.fh Lq
 cases ea
 refine ⟨a,ns,m,rfl,EO,m0,FF,fun p H2 hp s pp=>?_⟩
 have m2:=m1.st.grow s
 exact hn _ _ F1 H2 kk (m2.st.setG ⟨p,rfl,m1.st.BC hp,.inl (m1.st.Cz hp),pp⟩ fun l e b u _ hu mu=>by cases e;exact m1.st.Ir hu hp mu) m1.ff⟩
end
section
variable {E:Ent0}{ss:List Slot}{σ:L2.St} {F H F' H':Hp}{K:tV}
def iS {N:List Str}{vs:List V}{Q:VK}{X:XK}{t:TS}(h:LW K vs H Q X) (hw:∀ ns:List Int,ns.length<=63->Ws (.raw (Br K ns) :: List.replicate (N.length - 1) .any) t (fun _=>False) (.is fun p=>p=.bl true)):t { nx:=fun _ H'=>Q .A4 H',rt:=Q } (L2.start N vs) H:=by
 obtain ⟨a,ns,rfl,hS,Yn,q⟩:=h
 have S:Sg (E3 [] H H) [.raw (Br K ns)] [some (.ref a)] H H:=by
  have nn:∀ {p:Prop}(a:Addr),a∈([]:List Addr)->p:=fun a h=>absurd h Ay
  refine ⟨⟨A9.refl _,A9.refl _,fun _ _ _ e=>e,fun _ _ e=>.inl e,fun a h=>nn a h,fun a h=>nn a h,fun a h=>nn a h,fun a h=>nn a h,fun a h=>nn a h,fun a h=>nn a h⟩,rfl,fun i s hi=>?_,fun i j s u l EH hi hj ms=>?_⟩
  ·cases i with
   | zero=>cases hi;exact ⟨_,rfl,⟨a,rfl,hS⟩,Lb K ns _⟩
   | succ i=>simp at hi
  ·cases i with
   | zero=>cases hi;cases ms
   | succ i=>simp at hi
 refine (hw ns Yn).go (N6 (E3 [] H H)) _ _ H H (S.grown _) (fun _ _ _ _ h=>h.elim) fun v F' H' f ok=>?_
 obtain ⟨p,r,rfl⟩:=ok
 cases r
 exact q H'
end
section
variable [Xw]
variable {E:Ent0}{ss:List Slot}{σ:L2.St} {F H F' H':Hp}{K:tV}{js:List Nat}{ta tb te:TE}{k:PV->Prop}{nx:List Slot->Prop}{R:AR}
def Wi.mono {wi:TI}{k k':List PV->Prop}(h:Wi ss wi k) (i:∀ xs,k xs->k' xs):Wi ss wi k':=⟨fun E σ F H R S q=>h.go E σ F H R S fun J xs F' H' m s kk=>q J xs F' H' m s (i xs kk)⟩
def M5 {α:Type} {wi:TI}{tt:TT}{te:TE}{k:List PV->Prop}(c:α->PV) (f:α->Bool) (g:α->PV)
  (h:Wi ss wi fun xs=>∃ ns:List α,xs=ns.map c/\ns.length<=100000/\(∀ x∈ns,Wt (CL js ss++[.is (c x)]) tt fun b=>b=f x)/\(∀ x∈ns,f x=true->Wp (CL js ss++[.is (c x)]) te fun p=>p=g x)/\k ((ns.filter f).map g))
  (inj:∀ x y,c x=c y->x=y) (nd:js.Nodup:=by decide) (np:NC js ss=true:=by rfl):Wn ss (Jp wi js tt te) k:=by
 by_cases hα:Nonempty α
 ·obtain ⟨x0⟩:=hα
  have inv:∀ p:PV,∃ x:α,∀ y,c y=p->y=x:=fun p=>by
   by_cases q:∃ y,c y=p
   ·obtain ⟨y,hy⟩:=q
    exact ⟨y,fun z hz=>inj _ _ (hz.trans hy.symm)⟩
   ·exact ⟨x0,fun y hy=>absurd ⟨y,hy⟩ q⟩
  let d:PV->α:=fun p=>Classical.choose (inv p)
  have hd:∀ x,d (c x)=x:=fun x=>(Classical.choose_spec (inv (c x)) x rfl).symm
  refine aL (fun p=>f (d p)) (fun p=>g (d p)) (h.mono fun xs ⟨ns,e,hz,h1,h2,kk⟩=>?_) nd np
  subst e
  refine ⟨by rw [AJ];exact hz,fun x hx=>?_,fun x hx hf=>?_,?_⟩
  ·obtain ⟨y,hy,rfl⟩:=List.mem_map.mp hx
   rw [hd];exact h1 y hy
  ·obtain ⟨y,hy,rfl⟩:=List.mem_map.mp hx
   rw [hd] at hf ⊢;exact h2 y hy hf
  ·have e:((ns.map c).filter fun p=>f (d p)).map (fun p=>g (d p))=(ns.filter f).map g:=by
    rw [List.filter_map,Ci]
    congr 1
    ·funext x;show g (d (c x))=g x;rw [hd]
    ·congr 1;funext x;show f (d (c x))=f x;rw [hd]
   rw [e];exact kk
 ·refine aL (fun _=>true) (fun p=>p) (h.mono fun xs ⟨ns,e,hz,h1,h2,kk⟩=>?_) nd np
  have en:ns=[]:=by
   cases ns with
   | nil=>rfl
   | cons x r=>exact absurd ⟨x⟩ hα
  subst en;subst e
  exact ⟨by simp,fun x hx=>absurd hx (by simp),fun x hx=>absurd hx (by simp),kk⟩
def bM (h:Wp ss ta fun p=>∃ x,p=.str x/\Wq ss tb fun _ ys=>∃ ns:List Str,ys=ns.map PV.str/\k (.bl (decide (x∈ns)))):Wp ss (B0 (K8 K false) ta tb) k:=VO h
def Pp (h:Wp ss ta fun p=>∃ x,p=.str x/\Wq ss tb fun _ ys=>∃ ns:List Str,ys=ns.map PV.str/\k (.bl (!decide (x∈ns)))):Wp ss (B0 (K8 K true) ta tb) k:=VO h
def pj (h:Wq ss ta fun tp xs=>∃ ns:List Str,xs=ns.map PV.str/\Wq ss tb fun B5 ys=>B5=tp/\∃ ms:List Str,ys=ms.map PV.str/\k (.bl (decide (ns=ms)))):Wp ss (B0 (NY K false) ta tb) k:=ZM h
def Y1 (h:Wq ss ta fun tp xs=>∃ ns:List Str,xs=ns.map PV.str/\Wq ss tb fun B5 ys=>B5=tp/\∃ ms:List Str,ys=ms.map PV.str/\k (.bl (!decide (ns=ms)))):Wp ss (B0 (NY K true) ta tb) k:=ZM h
def Wq.mono {k k':Bool->List PV->Prop}(h:Wq ss te k) (i:∀ b xs,k b xs->k' b xs):Wq ss te k':=⟨fun E σ F H Q S q=>h.go E σ F H Q S fun v tp xs F' H' m s kk=>q v tp xs F' H' m s (i tp xs kk)⟩
def Wo.mono {t:TO}{k k':Option Int->Prop}(h:Wo ss t k) (i:∀ o,k o->k' o):Wo ss t k':=⟨fun E σ F H Q S q=>h.go E σ F H Q S fun o F' H' m kk=>q o F' H' m (i o kk)⟩
def Xo {tl th:TO}{k:Bool->List PV->Prop}(h:Wq ss te fun tp xs=>Wo ss tl fun lo=>Wo ss th fun hi=>k tp (E2 xs lo hi)):Wz ss (Js (SR K) te tl th) k:=
 EC (Y0 (h.mono fun tp xs h=>h.mono fun lo h=>h.mono fun hi h=>by
  cases tp
  ·exact ⟨_,.inl ⟨rfl,h⟩⟩
  ·exact ⟨_,.inr ⟨rfl,h⟩⟩))
def jb {tl th:TO}{k:Bool->List PV->Prop}(h:Wq ss te fun tp xs=>Wo ss tl fun lo=>Wo ss th fun hi=>k tp (E2 xs lo hi)):Wq ss (Js (SR K) te tl th) k:=Zr (Xo h)
def qM {α β:Type} (c:α->β) (xs:List α) (lo hi:Option Int):E2 (xs.map c) lo hi=(E2 xs lo hi).map c:=by
 unfold E2;rw [AJ,Ua,aa]
def gv {α β:Type} (c:α->β) (xs ys:List α):xs.map c++ys.map c=(xs++ys).map c:=by rw [Dp]
def dU {α:Type} (g:α->Bool) (xs:List α):xs.map (fun x=>PV.bl (g x))=(xs.map g).map PV.bl:=by rw [Ci];rfl
end
section
variable [Xw]
variable {E:Ent0}{ss:List Slot}{σ:L2.St} {F H F' H':Hp}{K:tV}{js:List Nat}{ta tb te:TE}{k:PV->Prop}{nx:List Slot->Prop}{R:AR}{xs ys:List PV}
def c7 (h:Wq ss ta fun _ xs=>∃ ns:List Str,xs=ns.map PV.str/\Wp ss tb fun p=>∃ x,p=.str x/\x∈ns/\k (.int (ns.idxOf x:Nat))):Wp ss (CI di [] E0 (AK ta (AK tb AS))) k:=⟨fun E σ F H Q S q=>
 h.go E σ F H _ S fun v tp xs F1 H1 m1 sv ⟨ns,e,h2⟩=>h2.go E σ F1 H1 _ m1.st fun v2 p2 F2 H2 m2 r2 ⟨x,e2,hx,kk⟩=>by
  subst e;subst e2;cases r2
  obtain ⟨l,vs,rfl,hl,r⟩:=(sv.mv m2).seq m2.st
  rw [r.strs] at hl
  exact ⟨l,tp,ns,x,rfl,hl,hx,q _ _ F2 H2 (m1.trans m2) (.int _) kk⟩⟩
def dE (h:Wq ss ta fun tp xs=>tp=false/\∃ ns:List Str,xs=ns.map PV.str/\Wp ss tb fun p=>∃ x,p=.str x/\x∈ns/\k (.int (ns.idxOf x:Nat))):Wp ss (GN K "list" (iV K) ta (AK tb AS)) k:=⟨fun E σ F H Q S q=>
 h.go E σ F H _ S fun v tp xs F1 H1 m1 sv ⟨et,ns,e,h2⟩=>by
  subst e;subst et
  obtain ⟨l,vs,rfl,hl,r⟩:=sv.seq m1.st
  refine ⟨.inl ⟨rfl,_,AG.of hl⟩,h2.go E σ F1 H1 _ m1.st fun v2 p2 F2 H2 m2 r2 ⟨x,e2,hx,kk⟩=>?_⟩
  subst e2;cases r2
  obtain ⟨l',BQ,e',Er,r'⟩:=(sv.mv m2).seq m2.st
  cases e'
  rw [r'.strs] at Er
  exact ⟨l,ns,x,rfl,rfl,AG.of Er,hx,q _ _ F2 H2 (m1.trans m2) (.int _) kk⟩⟩
def IE (xs:List PV):List PV:=(List.range xs.length).map fun i:Nat=>.tup [.int (i:Int),xs.getD i .A4]
def UJ (xs:List PV):(IE xs).length=xs.length:=by simp [IE]
def Vg {xs:List PV}{i:Nat}{x:PV}(h:xs[i]?=some x):(IE xs)[i]?=some (.tup [.int (i:Int),x]):=by
 have hi:i < xs.length:=(List.getElem?_eq_some_iff.mp h).1
 unfold IE
 rw [Ak,UY hi]
 show some (PV.tup [PV.int (i:Int),xs.getD i PV.A4])=_
 rw [KJ,h];rfl
def dO {xs:List PV}{i:Nat}{p:PV}(h:(IE xs)[i]?=some p):∃ x,xs[i]?=some x/\p=.tup [.int (i:Int),x]:=by
 have hi:i < xs.length:=by have:=(List.getElem?_eq_some_iff.mp h).1;rwa [UJ] at this
 have e:=B4 hi
 refine ⟨xs[i],e,?_⟩
 rw [Vg e] at h
 exact (BA h).symm
def VE {k:List PV->Prop}(h:Wz ss te fun _ xs=>k (IE xs)):Wi ss (QK K (AK te AS)) k:=⟨fun E σ F H R S q=>
 h.go E σ F H _ S fun v tp xs F1 H1 m1 f kk=>by
  obtain ⟨l,vs,ev,hl,r⟩:∃ l vs,v=.ref l/\(∀ (ss:List Slot) (σ:L2.St) (F H:Hp),A9 F1 F->Sg E ss σ F H->H l=some (CP tp vs))/\AD F1 vs xs:=by
   cases tp with
   | true=>
    have f':Rep F1 v (.tup xs):=f
    cases f' with
    | tup e r=>exact ⟨_,_,rfl,fun ss σ F H s S=>S.fh _ _ (s _ _ e),r⟩
   | false=>
    obtain ⟨l,vs,e,h1,r⟩:=f
    refine ⟨l,vs,e,fun ss σ F H s S=>?_,r⟩
    rcases h1 with h1 | ⟨hA,h1⟩
    ·exact S.fh _ _ (s _ _ h1)
    ·exact S.keep _ _ hA h1
  subst ev
  refine ⟨l,tp,vs,rfl,CP.sq (hl ss σ F1 H1 (A9.refl _) m1.st),q _ (IE xs) F1 H1 m1 ⟨fun ss σ F H i s S hi=>?_,fun ss σ F H s S=>?_,fun ss σ F H i x H' s S hi y=>?_⟩ kk⟩
  ·rw [UJ] at hi;exact ⟨CP.sq (hl ss σ F H s S),by rw [r.length];exact hi⟩
  ·refine ⟨CP.sq (hl ss σ F H s S),?_⟩
   rw [UJ,r.length];exact AV _
  ·obtain ⟨p,y,hy,ex,hp,eH⟩:=y
   subst ex;subst eH
   obtain ⟨z,hz,rz⟩:=r.get' hy
   have m:=S.alloc hp (.tup [.int i,y])
   exact ⟨_,_,Vg hz,m,.tup AN (.cons (.int _) (.one (rz.mono (s.trans m.ff))))⟩⟩
def OD (a:Str×Str):PV:=.tup [.str a.1,.str a.2]
def mx {k:List PV->Prop}(h:Wq ss te fun _ xs=>k xs.reverse):Wn ss (lY K (AK te AS)) k:=⟨fun E σ F H Q S q=>
 h.go E σ F H _ S fun v tp xs F1 H1 m1 sv kk=>by
  obtain ⟨l,vs,rfl,hl,r⟩:=sv.seq m1.st
  refine ⟨l,tp,vs,rfl,CP.sq hl,fun a ha=>?_⟩
  have m2:=m1.st.make ha (.lst vs.reverse)
  exact q a _ _ F1 _ (m1.trans m2) (m1.st.BC ha) (m1.none ha) AN r.reverse kk⟩
def dI (h:Wq ss ta fun tp xs=>tp=false/\Wq ss tb fun B5 ys=>B5=false/\ys=[]/\k (.bl (decide (xs.length=0)))):Wp ss (B0 (jg K) ta tb) k:=⟨fun E σ F H Q S q=>
 h.go E σ F H _ S fun v tp xs F1 H1 m1 sv ⟨et,h2⟩=>h2.go E σ F1 H1 _ m1.st fun v2 B5 ys F2 H2 m2 Ge ⟨Ik,ey,kk⟩=>by
  subst et;subst Ik;subst ey
  obtain ⟨l,vs,rfl,hl,r⟩:=(sv.mv m2).seq m2.st
  obtain ⟨l2,IM,rfl,Bl,r2⟩:=Ge.seq m2.st
  cases r2
  refine ⟨l,l2,vs,rfl,rfl,AG.of hl,AG.of Bl,?_⟩
  have e:decide (vs=[])=decide (xs.length=0):=by
   rw [<- r.length]
   cases vs <;> simp
  rw [e]
  exact q _ _ F2 H2 (m1.trans m2) (.bl _) kk⟩
def jW {r:List V->Hp->VK->Prop}(hr:r=fun xs H Q=>(∃ i,xs=[.int i]/\Q (.int i) H)∨∃ k,xs=[.bl k]/\Q (.int (if k then 1 else 0)) H) (h:Wp ss te fun p=>∃ b,p=.bl b/\k (.int (if b then 1 else 0))):Wp ss (BY r (AK te AS)) k:=⟨fun E σ F H Q S q=>
 h.go E σ F H _ S fun v p F1 H1 m1 r ⟨b,e,kk⟩=>by
  subst hr;subst e;cases r
  exact .inr ⟨b,rfl,q _ _ F1 H1 m1 (.int _) kk⟩⟩
end
def FE {c A B:Prop} [Decidable c] (h:c) (a:A):if c then A else B:=by rw [if_pos h];exact a
end Fz
namespace L2
end L2
namespace Fz
open L2 Lw
section
variable [Xw]
variable {E:Ent0}{ss:List Slot}{σ:L2.St} {F H F' H':Hp}{K:tV}{js:List Nat}{ta tb tc te:TE}{k:PV->Prop}{nx:List Slot->Prop}{R:AR}{xs ys:List PV}
def LU (i:Int) (n:Nat):List PV:=(List.range n).map fun j:Nat=>PV.int (i+(j:Int))
def Ox (i:Int) (n:Nat):(LU i n).length=n:=by simp [LU]
def mq {k:List PV->Prop}(h:Wp ss ta fun p=>∃ i:Int,p=.int i/\Wp ss tb fun p=>∃ j:Int,p=.int j/\(i<=1000000/\-1000000<=i/\j<=1000000/\-1000000<=j)/\k (LU i (j - i).toNat)):Wi ss (bx (AK ta (AK tb AS))) k:=⟨fun E σ F H R S q=>
 h.go E σ F H _ S fun v p F1 H1 m1 r ⟨i,e,h2⟩=>by
  subst e;cases r
  exact h2.go E σ F1 H1 _ m1.st fun v2 p2 F2 H2 m2 r2 ⟨j,e2,hb,kk⟩=>by
   subst e2;cases r2
   refine ⟨i,j,rfl,by omega,q _ (LU i (j - i).toNat) F2 H2 (m1.trans m2) ⟨fun ss σ F H n s S hn=>?_,fun ss σ F H s S=>?_,fun ss σ F H n x H' s S hn y=>?_⟩ kk⟩
   ·rw [Ox] at hn;exact hn
   ·show _<=_
    rw [Ox];exact AV _
   ·obtain ⟨e,hx⟩:=y
    subst e;subst hx
    rw [Ox] at hn
    refine ⟨.int (i+(n:Int)),F,?_,.refl S,.int _⟩
    unfold LU;rw [Ak,UY hn];rfl⟩
def fk {r:List V->Hp->VK->Prop}(hr:r=fun xs H Q=>∃ i,xs=[.int i]/\Q (.int (if i < 0 then -i else i)) H) (h:Wp ss te fun p=>∃ i:Int,p=.int i/\k (.int (if i < 0 then -i else i))):Wp ss (BY r (AK te AS)) k:=⟨fun E σ F H Q S q=>
 h.go E σ F H _ S fun v p F1 H1 m1 r ⟨i,e,kk⟩=>by
  subst hr;subst e;cases r
  exact ⟨i,rfl,q _ _ F1 H1 m1 (.int _) kk⟩⟩
def dP:CB->PV
 | .put x i=>.tup [.str "put", .str x,.int i]
 | .take x=>.tup [.str "take", .str x]
 | .move x i=>.tup [.str "move", .str x,.int i]
 | .turn lo hi=>.tup [.str "turn", .int lo,.int hi]
def qL {d:CB}{t:Addr}(h:F t=some (.tup d.vals)):Rep F (.ref t) (dP d):=by
 cases d with
 | put x i=>exact .tup h (.cons (.str _) (.cons (.str _) (.one (.int _))))
 | take x=>exact .tup h (.cons (.str _) (.one (.str _)))
 | move x i=>exact .tup h (.cons (.str _) (.cons (.str _) (.one (.int _))))
 | turn lo hi=>exact .tup h (.cons (.str _) (.cons (.int _) (.one (.int _))))
def pq {d:CB}{v:V}(r:Rep F v (dP d)):∃ t,v=.ref t/\F t=some (.tup d.vals):=by
 cases d with
 | put x i=>cases r with | tup h r=>cases r with | cons a r=>cases r with | cons b r=>cases r with | cons c r=>cases r;cases a;cases b;cases c;exact ⟨_,rfl,h⟩
 | take x=>cases r with | tup h r=>cases r with | cons a r=>cases r with | cons b r=>cases r;cases a;cases b;exact ⟨_,rfl,h⟩
 | move x i=>cases r with | tup h r=>cases r with | cons a r=>cases r with | cons b r=>cases r with | cons c r=>cases r;cases a;cases b;cases c;exact ⟨_,rfl,h⟩
 | turn lo hi=>cases r with | tup h r=>cases r with | cons a r=>cases r with | cons b r=>cases r with | cons c r=>cases r;cases a;cases b;cases c;exact ⟨_,rfl,h⟩
def Sg.adopt (S:Sg E ss σ F H) (m:Mv E ss σ F H F H'){t:Addr}{o:HO}(ht:H t=none) (e:H' t=some o):Mv E ss σ F H (upd F t o) H':=by
 have fn:=S.BC ht
 refine S.step (C8 fn o) (fun a u q=>?_) m.hh (fun a u q=>?_) fun i l hi ei=>m.st.DG hi ei
 ·by_cases z:a=t
  ·subst z;rw [AN] at q;rw [<- q];exact e
  ·rw [AF z] at q;exact m.st.fh a u q
 ·by_cases z:a=t
  ·subst z;exact .inr ht
  ·rw [AF z] at q;exact .inl q
def bT {i:Nat}(hi:ss[i]?=some .AI) (h:Wq ss ta fun tp xs=>tp=false/\∃ ns:List Str,xs=ns.map PV.str/\Wp ss tb fun p=>∃ m:Nat,p=.int m/\(∀ x∈ns,Nm x)/\ns.length<=m/\1<=m/\m<=100/\∀ d:CB,d.Ok m ns->k (dP d)) :
  Wp ss (CI kO [] E0 (AK (BB i) (AK ta (AK tb AS)))) k:=⟨fun E σ F H Q S q=>by
 obtain ⟨p,e,_⟩:=S.ok i _ hi
 refine ⟨_,e,h.go E σ F H _ S fun v tp xs F1 H1 m1 sv ⟨et,ns,ex,h2⟩=>h2.go E σ F1 H1 _ m1.st fun v2 p2 F2 H2 m2 r2 ⟨m,em,hN,hz,h1,h3,kk⟩=>?_⟩
 subst et;subst ex;subst em;cases r2
 obtain ⟨l,vs,ev,hn,hl,r⟩:=sv.mv m2
 subst ev
 rw [r.strs] at hl
 refine ⟨p,l,m,ns,rfl,m2.st.DG hi e,hl,fun z=>hn i hi (z▸e),hN,hz,h1,h3,fun d t H3 ht s e3 hd=>?_⟩
 have m3:=m2.st.adopt (m2.st.MU hi e s) ht e3
 exact q _ _ _ H3 (m1.trans (m2.trans m3)) (qL AN) (kk d hd)⟩
def cq {k:List PV->Prop}(h:Wq ss ta fun tp xs=>tp=false/\∃ ns:List Str,xs=ns.map PV.str/\Wp ss tb fun p=>∃ d:CB,p=dP d/\d.Ok 40 ns/\ns.length<=40/\ns.Nodup/\k ((d.done ns).map PV.str)) :
  Wn ss (CI bU [] E0 (AK ta (AK tb AS))) k:=⟨fun E σ F H Q S q=>
 h.go E σ F H _ S fun v tp xs F1 H1 m1 sv ⟨et,ns,ex,h2⟩=>h2.go E σ F1 H1 _ m1.st fun v2 p2 F2 H2 m2 r2 ⟨d,em,hd,hz,nd,kk⟩=>by
  subst et;subst ex;subst em
  obtain ⟨l,vs,ev,hl,r⟩:=(sv.mv m2).seq m2.st
  subst ev
  rw [r.strs] at hl
  obtain ⟨t,et,ht⟩:=pq r2
  subst et
  refine ⟨l,t,ns,d,rfl,hl,m2.st.fh _ _ ht,hd,hz,nd,fun a H3 ha s e3=>?_⟩
  have m3:=m2.st.grow s
  exact q a _ _ F2 H3 (m1.trans (m2.trans m3)) (m2.st.BC ha) ((m1.trans m2).none ha) e3 (Ij _) kk⟩
theorem WR:∀ (ps:List PV){vs:List V},EK ss σ F H vs (ps.map Slot.is)->AD F vs ps
 | [],_,h=>by cases h;exact .nil
 | p :: ps,_,h=>by
  rw [BV] at h
  cases h with
  | cons a t=>exact .cons a (WR ps t)
theorem Zf {ss:List Slot}{σ:L2.St}:∀ {ps:List PV}{vs:List V},AD F vs ps->EK ss σ F H vs (ps.map Slot.is)
 | _,_,.nil=>.nil
 | _,_,.cons r t=>.cons (s:=.is _) r (Zf t)
def W0 {pre:Pre}{t:TA}{i:Nat}{ns:List Int}(hi:ss[i]?=some (.raw (Br K ns))) (h:Wp ss te fun x=>∃ m,x=.int m/\0<=m/\m<=1000/\Wa ss t fun l=>∃ (ps:List PV) (k':PV->Prop),l=ps.map Slot.is/\pre (.AI :: l) (.is k')/\∀ p,k' p->k p) :
  Wp ss (CI (Cu pre) [] E0 (AK (CI (MH K) [] E0 (AK (BB i) (AK te AS))) t)) k:=⟨fun E σ F H Q S q=>by
 obtain ⟨v,e,⟨a,ev,hq⟩,st⟩:=S.ok i _ hi
 subst ev
 refine ⟨_,e,h.go E σ F H _ S fun v x F1 H1 m1 r ⟨m,em,m0,FF,hw⟩=>?_⟩
 subst em;cases r
 obtain ⟨v',e',Lq,_⟩:=m1.st.ok i _ hi
 rw [e] at e';cases e'
 obtain ⟨a',ea,EO⟩:=Lb K ns _ F1 H1 m1.st.fh Lq
 cases ea
 refine ⟨a,ns,m,rfl,EO,m0,FF,fun p H2 hp s pp=>?_⟩
 have m2:=m1.st.grow s
 refine hw.go E σ F1 H2 _ m2.st fun vs l F3 H3 m3 av ⟨ps,k',el,Hb,kk⟩=>?_
 show Cu pre ((V.ref p :: vs)++[]) H3 Q E0
 rw [EV]
 have O0:=m1.trans (m2.trans m3)
 have IB:∀ (j:Nat) s,ss[j]?=some s->¬ An s σ[j]? p:=fun j s hj=>m1.st.Ir hj hp
 have np:Bf ss σ p:=fun j hj=>IB j _ hj
 have Ss:Aq H3 p:=Aq.keep pp fun o eo=>m3.hh p o np eo
 have Rx:F3 p=none:=by
  cases z:F3 p with
  | none=>rfl
  | some o=>
   rcases m3.nn p o z with w | w
   ·rw [m1.st.BC hp] at w;cases w
   ·obtain ⟨_,_,w2,_⟩:=pp
    rw [w] at w2;cases w2
 have S':Sg E (ss++[.AI]) (σ++[some (.ref p)]) F3 H3:=by
  have S3:=m3.st
  have DT:∀ (j:Nat) s,(ss++[Slot.AI])[j]?=some s->(ss[j]?=some s/\(σ++[some (V.ref p)])[j]?=σ[j]?)∨(s=.AI/\(σ++[some (V.ref p)])[j]?=some (some (.ref p))/\j=ss.length):=fun j s hj=>by
   by_cases AM:j < ss.length
   ·rw [EW AM] at hj
    rw [EW (by rw [<- S3.len];exact AM)]
    exact .inl ⟨hj,rfl⟩
   ·rw [EX (by omega)] at hj
    have UG:j - ss.length=0:=by
     have:=(List.getElem?_eq_some_iff.mp hj).1
     simpa using this
    rw [UG] at hj
    refine .inr ⟨by simpa using hj.symm,?_,by omega⟩
    rw [EX (by rw [<- S3.len];omega),<- S3.len,UG];rfl
  refine ⟨S3.toFin,by simp [S3.len],fun j s hj=>?_,fun j j2 s u l W2 hj Nw ms mu=>?_⟩
  ·rcases DT j s hj with ⟨a1,a2⟩ | ⟨rfl,a2,_⟩
   ·rw [a2];exact S3.ok j s a1
   ·rw [a2];exact ⟨p,rfl,Rx,.inl (m1.st.Cz hp),Ss⟩
  ·rcases DT j s hj with ⟨a1,a2⟩ | ⟨rfl,a2,a3⟩
   ·rcases DT j2 u Nw with ⟨b1,b2⟩ | ⟨rfl,b2,_⟩
    ·rw [a2] at ms;rw [b2] at mu;exact S3.BG j j2 s u l W2 a1 b1 ms mu
    ·rw [a2] at ms;rw [b2] at mu;cases mu;exact IB j s a1 ms
   ·rcases DT j2 u Nw with ⟨b1,b2⟩ | ⟨rfl,b2,b3⟩
    ·rw [a2] at ms;cases ms;rw [b2] at mu;exact IB j2 u b1 mu
    ·exact absurd (a3.trans b3.symm) W2
 have mC:(ss++[Slot.AI])[ss.length]?=some .AI:=by rw [EX (AV _)];simp
 have j8:(σ++[some (V.ref p)])[ss.length]?=some (some (.ref p)):=by rw [m3.st.len,EX (AV _)];simp
 have kH:EK (ss++[Slot.AI]) (σ++[some (V.ref p)]) F3 H3 vs l:=by
  subst el
  exact Zf (WR ps av)
 refine ⟨.AI :: l,.is k',F3,[p],Hb,S'.my mC j8 kH,fun v F' H' f ⟨pv,r,kp⟩=>?_⟩
 have hA:∀ a,a≠p->a∉[p]:=fun a h z=>h (by simpa using z)
 have mV:H p=none:=m1.none hp
 have mv:Mv E ss σ F H F' H':=by
  refine S.step (O0.ff.trans f.f0) f.fh (fun a o n e=>f.keep a o ⟨hA a (Bu e mV),Ay⟩ (O0.hh a o n e)) (fun a o e=>?_) fun j l hj ej=>?_
  ·rcases f.fresh a o e with w | w
   ·exact O0.nn a o w
   ·exact .inr (O0.none w)
  ·exact Aq.keep (m3.st.DG hj ej) fun o eo=>f.keep l o ⟨hA l (by rintro rfl;exact IB j _ hj ej),Ay⟩ eo
 exact q v pv F' H' mv r (kk pv kp)⟩
end
end Fz
namespace L2
section
variable {X:Cx}
end
end L2
namespace Fz
open L2 Lw
section
variable [Xw]
variable {E:Ent0}{ss:List Slot}{σ:L2.St} {F H F' H':Hp}{K:tV}{js:List Nat}{ta tb tc te:TE}{k:PV->Prop}{nx:List Slot->Prop}{R:AR}{xs ys:List PV}{P:Program}{w:World}
def c8 (h:Wp ss ta fun p=>∃ a,p=.bl a/\Wp ss tb fun q=>∃ b,q=.bl b/\k (.bl (a == b))):Wp ss (B0 (fun x y H Q=>∃ a b,x=.bl a/\y=.bl b/\Q (.bl (a == b)) H) ta tb) k:=⟨fun E σ F H Q S q=>
 h.go E σ F H _ S fun v p F1 H1 m1 r1 ⟨a,e1,h2⟩=>by
  subst e1;cases r1
  exact h2.go E σ F1 H1 _ m1.st fun v2 p2 F2 H2 m2 r2 ⟨b,e2,kk⟩=>by
   subst e2;cases r2
   exact ⟨a,b,rfl,rfl,q _ _ F2 H2 (m1.trans m2) (.bl _) kk⟩⟩
def gH (h:Wp ss ta fun p=>∃ a,p=.bl a/\Wp ss tb fun q=>∃ b,q=.bl b/\k (.bl (!(a == b)))):Wp ss (B0 (fun x y H Q=>∃ a b,x=.bl a/\y=.bl b/\Q (.bl (!(a == b))) H) ta tb) k:=⟨fun E σ F H Q S q=>
 h.go E σ F H _ S fun v p F1 H1 m1 r1 ⟨a,e1,h2⟩=>by
  subst e1;cases r1
  exact h2.go E σ F1 H1 _ m1.st fun v2 p2 F2 H2 m2 r2 ⟨b,e2,kk⟩=>by
   subst e2;cases r2
   exact ⟨a,b,rfl,rfl,q _ _ F2 H2 (m1.trans m2) (.bl _) kk⟩⟩
def ez (h:Wq ss ta fun tp xs=>tp=false/\Wq ss tb fun B5 ys=>B5=false/\ys=[]/\k (.bl (!decide (xs.length=0)))):Wp ss (B0 (iq K) ta tb) k:=⟨fun E σ F H Q S q=>
 h.go E σ F H _ S fun v tp xs F1 H1 m1 sv ⟨et,h2⟩=>h2.go E σ F1 H1 _ m1.st fun v2 B5 ys F2 H2 m2 Ge ⟨Ik,ey,kk⟩=>by
  subst et;subst Ik;subst ey
  obtain ⟨l,vs,rfl,hl,r⟩:=(sv.mv m2).seq m2.st
  obtain ⟨l2,IM,rfl,Bl,r2⟩:=Ge.seq m2.st
  cases r2
  refine ⟨l,l2,vs,rfl,rfl,AG.of hl,AG.of Bl,?_⟩
  have e:decide (vs=[])=decide (xs.length=0):=by
   rw [<- r.length]
   cases vs <;> simp
  rw [e]
  exact q _ _ F2 H2 (m1.trans m2) (.bl _) kk⟩
def d6 {k:List PV->Prop}(h:Wq ss te fun _ xs=>∃ ns:List Str,xs=ns.map PV.str/\ns.length < 64/\∀ ts:List Str,ts.length=(dd ns).length->(∀ x,(dd ns).any (· == x)=true↔x∈ts)->sortedS ts=true->k (ts.map PV.str)) :
  Wn ss (BY (je P w) (AK (BY (fun xs H Q=>∃ (p:Addr) (tp:Bool) (ss:List Str),xs=[.ref p]/\Dv K tp H p (ss.map V.str)/\ss.length < 4000/\∀ l,H l=none->Q (.ref l) (upd H l (Tn P w l (fun k'=>(dd ss).any (· == k')) (dd ss).length))) (AK te AS)) AS)) k:=⟨fun E σ F H Q S q=>
 h.go E σ F H _ S fun v tp xs F1 H1 m1 sv ⟨ns,e,hz,kk⟩=>by
  subst e
  obtain ⟨l,vs,rfl,hl,r⟩:=sv.seq m1.st
  rw [r.strs] at hl
  refine ⟨l,tp,ns,rfl,CP.sq hl,by omega,fun a ha=>?_⟩
  have m2:=m1.st.make ha (Tn P w a (fun k'=>(dd ns).any (· == k')) (dd ns).length)
  refine ⟨a,_,_,rfl,AN,Oi (qF ns) hz,fun b ts hb Bl hm hs=>?_⟩
  have m3:=m2.st.make hb (.lst (ts.map V.str))
  exact q b _ _ F1 _ (m1.trans (m2.trans m3)) (m2.st.BC hb) ((m1.trans m2).none hb) AN (Ij ts) (kk ts Bl hm hs)⟩
def pL (h:Wq ss te fun _ xs=>∃ ns:List Str,xs=ns.map PV.str/\ns.length < 4000/\k (.int ((dd ns).length:Nat))) :
  Wp ss (BY (fun xs H Q=>∃ l f n,xs=[.ref l]/\H l=some (ON P w l f n)/\Q (.int (n:Nat)) H) (AK (BY (fun xs H Q=>∃ (p:Addr) (tp:Bool) (ss:List Str),xs=[.ref p]/\Dv K tp H p (ss.map V.str)/\ss.length < 4000/\∀ l,H l=none->Q (.ref l) (upd H l (ON P w l (fun k'=>(dd ss).any (· == k')) (dd ss).length))) (AK te AS)) AS)) k:=⟨fun E σ F H Q S q=>
 h.go E σ F H _ S fun v tp xs F1 H1 m1 sv ⟨ns,e,hz,kk⟩=>by
  subst e
  obtain ⟨l,vs,rfl,hl,r⟩:=sv.seq m1.st
  rw [r.strs] at hl
  refine ⟨l,tp,ns,rfl,CP.sq hl,hz,fun a ha=>?_⟩
  have m2:=m1.st.make ha (ON P w a (fun k'=>(dd ns).any (· == k')) (dd ns).length)
  exact ⟨a,_,_,rfl,AN,q _ _ F1 _ (m1.trans m2) (.int _) kk⟩⟩
end
end Fz
namespace L2
section
variable {X:Cx}{pins:tW}{σ:St} {H:Hp}{s:Shared}
def cK (K:tV):R2:=fun x y H Q=>∃ p q xs ys,x=.ref p/\y=.ref q/\AG K H p xs/\AG K H q ys/\xs.length=ys.length/\(∀ (j:Nat) (x y:V),xs[j]?=some x->ys[j]?=some y->JK K H 8 x y)/\Q (.bl false) H
def gj (t:TA):TE:=fun σ H Q=>t σ H fun vs H1=>∃ n:Nat,vs=[.int n]/\n<=1000/\∀ l,H1 l=none->Q (.ref l) (upd H1 l (.lst ((List.range n).map fun i:Nat=>V.int i)))
end
end L2
namespace Fz
open L2 Lw
section
variable [Xw]
variable {K:tV}{E:Ent0}{ss:List Slot}{σ:L2.St} {F H:Hp}{te ta tb:TE}{k:PV->Prop}{nx:List Slot->Prop}{R:AR}{xs ys:List PV}
def c5 {k:List PV->Prop}(h:Wp ss te fun p=>∃ j:Int,p=.int j/\0<=j/\j<=1000/\k (Ef j.toNat)):Wn ss (gj (AK te AS)) k:=⟨fun E σ F H Q S q=>
 h.go E σ F H _ S fun v p F1 H1 m1 r ⟨j,e,h0,hz,kk⟩=>by
  subst e;cases r
  generalize hn:j.toNat=n at kk
  refine ⟨n,by rw [<- hn,rS h0],by omega,fun a ha=>?_⟩
  have m2:=m1.st.make ha (.lst ((List.range n).map fun i:Nat=>V.int i))
  have rr:AD F1 ((List.range n).map fun i:Nat=>V.int i) (Ef n):=by
   have e1:Ef n=((List.range n).map fun i:Nat=>(i:Int)).map PV.int:=by unfold Ef;rw [Ci];rfl
   have e2:((List.range n).map fun i:Nat=>V.int (i:Int))=(Ef n).map Fz.enc:=by rw [e1,cM,Ci];rfl
   rw [e2]
   exact OB (by rw [e1];exact ju _)
  exact q a _ _ F1 _ (m1.trans m2) (m1.st.BC ha) (m1.none ha) AN rr kk⟩
def jF {K:tV}{F H:Hp}(fh:A9 F H){v u:V}{a:Str×Str}(r1:Rep F v (OD a)) (r2:Rep F u (OD a)):JK K H 8 v u:=by
 cases r1 with
 | tup h1 q1=>
  cases r2 with
  | tup h2 q2=>
   have e1:=q1.enc (ps:=[.str a.1,.str a.2]) rfl
   have e2:=q2.enc (ps:=[.str a.1,.str a.2]) rfl
   subst e1;subst e2
   refine .tup (d:=7) (AU.of (fh _ _ h1)) (AU.of (fh _ _ h2)) rfl fun j x y hx hy=>?_
   rw [hx] at hy;cases hy
   have hm:=EZ hx
   rcases List.mem_cons.mp hm with rfl | hm
   ·exact .flat rfl rfl (by simp [Fz.enc,C1])
   ·have:=List.mem_singleton.mp hm
    subst this
    exact .flat rfl rfl (by simp [Fz.enc,C1])
def mG (h:Wq ss ta fun tp xs=>tp=false/\Wq ss tb fun B5 ys=>B5=false/\(∃ ps:List (Str×Str),xs=ps.map OD/\ys=ps.map OD)/\k (.bl false)):Wp ss (B0 (cK K) ta tb) k:=⟨fun E σ F H Q S q=>
 h.go E σ F H _ S fun v tp xs F1 H1 m1 sv ⟨et,h2⟩=>h2.go E σ F1 H1 _ m1.st fun v2 B5 ys F2 H2 m2 Ge ⟨Ik,⟨ps,ex,ey⟩,kk⟩=>by
  subst et;subst Ik;subst ex;subst ey
  obtain ⟨l,vs,rfl,hl,r⟩:=(sv.mv m2).seq m2.st
  obtain ⟨l2,IM,rfl,Bl,r2⟩:=Ge.seq m2.st
  refine ⟨l,l2,vs,IM,rfl,rfl,AG.of hl,AG.of Bl,by rw [r.length,r2.length],fun j x y hx hy=>?_,q _ _ F2 H2 (m1.trans m2) (.bl _) kk⟩
  obtain ⟨p,hp,rp⟩:=r.get' hx
  obtain ⟨p2,Kg,e6⟩:=r2.get' hy
  rw [hp] at Kg;cases Kg
  rw [Ak] at hp
  cases ha:ps[j]? with
  | none=>rw [ha] at hp;cases hp
  | some a=>
   rw [ha] at hp;cases hp
   exact jF m2.st.fh rp e6⟩
end
end Fz
namespace L2
end L2
namespace Lw
open L2
def FL (H:Hp) (t c:Addr) (r:Str) (g:Int) (ss:List Str):Prop:=H t=some (.tup [.str r,.int g,.ref c])/\H c=some (.tup (ss.map V.str))
theorem FL.h {H:Hp}{t c:Addr}{r:Str}{g:Int}{ss:List Str}(h:FL H t c r g ss):Hz H t r g ss:=⟨c,h⟩
def FL.same {H H':Hp}{t c:Addr}{r:Str}{g:Int}{ss:List Str}(s:A9 H H') (h:FL H t c r g ss):FL H' t c r g ss:=⟨s _ _ h.1,s _ _ h.2⟩
def WS (H H':Hp) (t' t:Addr) (ns:List Str) (r:Str) (g:Nat) (ss:List Str):Prop:=
 (Nt ns g ss=[]/\H' t'=some (.tup [.A4,.ref t]))∨∃ x VT t2 c2,Nt ns g ss=x :: VT/\H t2=none/\H c2=none/\H' t'=some (.tup [.str x,.ref t2])/\FL H' t2 c2 r ((ns.idxOf x:Nat)+1) (wo ss x)
def d5 (K:tV):Sp:=fun vs H Q _=>∃ (a:Addr) (tp:Bool) (ns:List Str) (t:Addr) (r:Str) (g:Nat) (ss:List Str),vs=[.ref a,.ref t]/\H a=some (CP tp (ns.map V.str))/\Hz H t r g ss/\ss.length < 64/\MI ns r g ss=true/\ns.length<=1000/\
 ∀ t' H',H t'=none->A9 H H'->WS H H' t' t ns r g ss->Q (.ref t') H'
end Lw
namespace Fz
open L2 Lw
def Ju (r:Str) (g:Nat) (ss:List Str):PV:=.tup [.str r,.int g,.tup (ss.map .str)]
section
variable [Xw]
variable {E:Ent0}{ss:List Slot}{σ:L2.St} {F H F1 F' H':Hp}{K:tV}{js:List Nat}{ta tb tc te:TE}{nx:List Slot->Prop}{R:AR}{k:PV->Prop}
def Mv.adopt (m:Mv E ss σ F H F1 H') (S:Sg E ss σ F H){t:Addr}{o:HO}(ht:H t=Option.none) (e:H' t=some o):Mv E ss σ F H (upd F1 t o) H':=by
 have sm:A9 F1 (upd F1 t o):=fun a u q=>by
  by_cases z:a=t
  ·subst z
   have w:=m.st.fh _ _ q
   rw [e] at w
   rw [AN];exact w
  ·rw [AF z];exact q
 refine S.step (m.ff.trans sm) (fun a u q=>?_) m.hh (fun a u q=>?_) fun i l hi ei=>m.st.DG hi ei
 ·by_cases z:a=t
  ·subst z;rw [AN] at q;rw [<- q];exact e
  ·rw [AF z] at q;exact m.st.fh a u q
 ·by_cases z:a=t
  ·subst z;exact .inr ht
  ·rw [AF z] at q;exact m.nn a u q
def kJ {v:V}{r:Str}{g:Nat}{cs:List Str}(h:Rep F v (Ju r g cs)):∃ t c,v=.ref t/\FL F t c r g cs:=by
 cases h with
 | tup e q=>cases q with
  | cons a q=>cases q with
   | cons b q=>cases q with
    | cons c q=>
     cases q;cases a;cases b
     cases c with
     | tup e2 q2=>rw [q2.strs] at e2;exact ⟨_,_,rfl,e,e2⟩
def Vq {t c:Addr}{r:Str}{g:Nat}{cs:List Str}(h:FL F t c r g cs):Rep F (.ref t) (Ju r g cs):=.tup h.1 (.cons (.str _) (.cons (.int _) (.one (.tup h.2 (Ij cs)))))
def Mv.pB (m:Mv E ss σ F H F1 H') (S:Sg E ss σ F H){t c c0:Addr}{o:HO}{r:Str}{g:Nat}{cs:List Str}(ht:H t=Option.none) (hc:H c=Option.none∨c=c0) (h0:F c0=some o) (e:FL H' t c r g cs):∃ F2,Mv E ss σ F H F2 H'/\A9 F1 F2/\Rep F2 (.ref t) (Ju r g cs):=by
 have key:∃ F2,Mv E ss σ F H F2 H'/\A9 F1 F2/\F2 c=some (.tup (cs.map V.str)):=by
  rcases hc with hc | rfl
  ·refine ⟨_,m.adopt S hc e.2,fun a u q=>?_,AN⟩
   by_cases z:a=c
   ·subst z
    have w:=m.st.fh _ _ q
    rw [e.2] at w
    rw [AN];exact w
   ·rw [AF z];exact q
  ·refine ⟨F1,m,A9.refl _,?_⟩
   have w:=m.ff _ _ h0
   have w2:=m.st.fh _ _ w
   rw [e.2] at w2
   rw [w,<- w2]
 obtain ⟨F2,m2,s2,nL⟩:=key
 have sm:A9 F2 (upd F2 t (.tup [.str r,.int g,.ref c])):=fun a u q=>by
  by_cases z:a=t
  ·subst z
   have w:=m2.st.fh _ _ q
   rw [e.1] at w
   rw [AN];exact w
  ·rw [AF z];exact q
 exact ⟨_,m2.adopt S ht e.1,s2.trans sm,Vq ⟨AN,sm _ _ nL⟩⟩
def ND (ns:List Str) (r:Str) (g:Nat) (cs:List Str):PV:=match Nt ns g cs with
 | []=>.tup [.A4,Ju r g cs]
 | x :: _=>.tup [.str x,Ju r (ns.idxOf x+1) (wo cs x)]
def Mv.fR (m:Mv E ss σ F H F1 H') (S:Sg E ss σ F H){t t' c:Addr}{ns:List Str}{r:Str}{g:Nat}{cs:List Str}(ht:H t'=Option.none) (h0:FL F t c r g cs) (e:WS H H' t' t ns r g cs):∃ F2,Mv E ss σ F H F2 H'/\Rep F2 (.ref t') (ND ns r g cs):=by
 rcases e with ⟨er,e⟩ | ⟨x,VT,t2,c2,er,h2,h3,e,lc⟩
 ·refine ⟨_,m.adopt S ht e,?_⟩
  have sm:=(m.adopt S ht e).ff
  unfold ND
  rw [er]
  exact .tup AN (.cons .A4 (.one (Vq (h0.same sm))))
 ·have gQ:FL H' t2 c2 r ((ns.idxOf x+1:Nat):Int) (wo cs x):=lc
  obtain ⟨F2,m2,_,r2⟩:=m.pB S h2 (.inl h3) h0.1 gQ
  refine ⟨_,m2.adopt S ht e,?_⟩
  have sm:A9 F2 (upd F2 t' (.tup [.str x,.ref t2])):=fun a u q=>by
   by_cases z:a=t'
   ·subst z
    have w:=m2.st.fh _ _ q
    rw [e] at w
    rw [AN];exact w
   ·rw [AF z];exact q
  unfold ND
  rw [er]
  exact .tup AN (.cons (.str _) (.one (r2.mono sm)))
def wp_step (h:Wq ss ta fun tp xs=>∃ ns:List Str,xs=ns.map PV.str/\Wp ss tb fun p=>∃ (r:Str) (g:Nat) (cs:List Str),p=Ju r g cs/\Jo ns r g cs/\ns.length<=60/\k (ND ns r g cs)) :
  Wp ss (CI (d5 K) [] E0 (AK ta (AK tb AS))) k:=⟨fun E σ F H Q S q=>
 h.go E σ F H _ S fun v tp xs F1 H1 m1 sv ⟨ns,ex,h2⟩=>h2.go E σ F1 H1 _ m1.st fun v2 p2 F2 H2 m2 r2 ⟨r,g,cs,ep,gd,hz,kk⟩=>by
  subst ex;subst ep
  obtain ⟨l,vs,rfl,hl,rr⟩:=(sv.mv m2).seq m2.st
  rw [rr.strs] at hl
  obtain ⟨tl,c0,rfl,lc⟩:=kJ r2
  have hlen:=gd.len
  refine ⟨l,tp,ns,tl,r,g,cs,rfl,hl,(lc.same m2.st.fh).h,by omega,gd.MI,by omega,fun t' H4 cN s4 e4=>?_⟩
  obtain ⟨F4,m4,r4⟩:=(m2.st.grow s4).fR m2.st cN lc e4
  exact q _ _ F4 H4 (m1.trans (m2.trans m4)) r4 kk⟩
end
section
variable [Xw]
variable {E:Ent0}{ss:List Slot}{σ:L2.St} {F H F1 F' H':Hp}{K:tV}{js:List Nat}{ta tb tc te ti:TE}{nx:List Slot->Prop}{R:AR}{k:PV->Prop}{xs:List PV}
end
mutual
def AX:PV->PV->Bool
 | .lst xs,.lst ys=>Bz xs ys
 | .tup xs,.tup ys=>Bz xs ys
 | .tup xs,.con _ ys=>Bz xs ys
 | .con _ xs,.tup ys=>Bz xs ys
 | .con _ xs,.con _ ys=>Bz xs ys
 | .A4,.A4=>true
 | .bl a,.bl b=>a == b
 | .bl a,.int b=>(if a then 1 else 0) == b
 | .int a,.bl b=>a == (if b then 1 else 0)
 | .int a,.int b=>a == b
 | .str a,.str b=>a == b
 | _,_=>false
def Bz:List PV->List PV->Bool
 | [],[]=>true
 | x :: r,y :: t=>AX x y && Bz r t
 | _,_=>false
end
def Od (x y:PV) (r t:List PV):Bz (x :: r) (y :: t)=(AX x y && Bz r t):=by rw [Bz]
theorem Tg:∀ (xs ys:List PV),xs.length≠ys.length->Bz xs ys=false
 | [],[],h=>absurd rfl h
 | [],_ :: _,_=>by rw [Bz];all_goals simp
 | _ :: _,[],_=>by rw [Bz];all_goals simp
 | x :: r,y :: t,h=>by rw [Od,Tg r t (by simpa using h),UU]
theorem RB:∀ (xs ys:List PV),xs.length=ys.length->Bz xs ys=(List.range xs.length).all fun j=>AX (xs.getD j .A4) (ys.getD j .A4)
 | [],[],_=>by rw [Bz];rfl
 | x :: r,y :: t,h=>by
  rw [Od,RB r t (by simpa using h),Bm,List.range_succ_eq_map,MZ,List.all_map]
  rfl
def dat (K:tV):Nat->PV->Prop
 | _,.A4=>True
 | _,.bl _=>True
 | _,.int _=>True
 | _,.str _=>True
 | d+1,.lst xs=>∀ x∈xs,dat K d x
 | d+1,.tup xs=>∀ x∈xs,dat K d x
 | d+1,.con a xs=>(∀ x∈xs,dat K d x)/\xs.all flat=true/\∀ H,AU K H a (xs.map Fz.enc)
 | _,_=>False
inductive Eo (K:tV) (H:Hp):V->PV->Bool->Addr->List V->List PV->Prop where
 | lst {a:Addr}{vs:List V}{xs:List PV}:AG K H a vs->AD H vs xs->Eo K H (.ref a) (.lst xs) false a vs xs
 | tup {a:Addr}{vs:List V}{xs:List PV}:AU K H a vs->AD H vs xs->Eo K H (.ref a) (.tup xs) true a vs xs
 | con {a:Addr}{vs:List V}{xs:List PV}:AU K H a vs->AD H vs xs->Eo K H (.ref a) (.con a xs) true a vs xs
def ET {K:tV}{H:Hp}:∀ {d:Nat}{x:V}{p:PV},dat K d p->Rep H x p->(flat p=true/\x=Fz.enc p)∨∃ d' tp a vs xs,d=d'+1/\Eo K H x p tp a vs xs/\∀ y∈xs,dat K d' y:=by
 intro d x p h r
 cases r with
 | A4=>exact .inl ⟨rfl,rfl⟩
 | bl b=>exact .inl ⟨rfl,rfl⟩
 | int b=>exact .inl ⟨rfl,rfl⟩
 | str b=>exact .inl ⟨rfl,rfl⟩
 | lst e r=>cases d with
  | zero=>exact h.elim
  | succ d=>exact .inr ⟨d,_,_,_,_,rfl,.lst (AG.of e) r,h⟩
 | tup e r=>cases d with
  | zero=>exact h.elim
  | succ d=>exact .inr ⟨d,_,_,_,_,rfl,.tup (AU.of e) r,h⟩
 | con=>cases d with
  | zero=>exact h.elim
  | succ d=>obtain ⟨h1,h2,h3⟩:=h;exact .inr ⟨d,_,_,_,_,rfl,.con (h3 H) (OB h2),h1⟩
 | Ae _ _ _=>cases d <;> exact h.elim
 | obj _ _ _ _=>cases d <;> exact h.elim
 | K9 _=>cases d <;> exact h.elim
 | exc _ _ _ _=>cases d <;> exact h.elim
section
variable {X:Cx}{pins:tW}{σ:L2.St} {H:Hp}{s:Shared}
def lg {A:Around}{vs ws:List V}{A0 BR:List Value}{xs ys:List PV}(r1:Vals vs A0) (r2:Vals ws BR) (q1:AD H vs xs) (q2:AD H ws ys)
  (h:∀ (x y:V) (p q:PV) (u v:Value),p∈xs->q∈ys->Rep H x p->Rep H y q->RelV x u->RelV y v->SeqAt.EqAt A s u v (AX p q)) :
  ∀ j (h1:j < A0.toArray.size) (h2:j < BR.toArray.size),SeqAt.EqAt A s A0.toArray[j] BR.toArray[j] ((fun j=>AX (xs.getD j .A4) (ys.getD j .A4)) j):=fun j h1 h2=>by
 have l1:=r1.length
 have l2:=r2.length
 have l3:=q1.length
 have l4:=q2.length
 have FR:j < A0.length:=by simpa using h1
 have Di:j < BR.length:=by simpa using h2
 have a1:j < xs.length:=by omega
 have a2:j < ys.length:=by omega
 obtain ⟨x,hx,rx⟩:=q1.get (i:=j) (p:=xs[j]) (B4 a1)
 obtain ⟨y,hy,ry⟩:=q2.get (i:=j) (p:=ys[j]) (B4 a2)
 obtain ⟨u,hu,ru⟩:=r1.get hx
 obtain ⟨v,hv,rv⟩:=r2.get hy
 rw [B4 FR] at hu
 rw [B4 Di] at hv
 have Le:A0[j]=u:=BA hu
 have Gk:BR[j]=v:=BA hv
 have q:=h x y _ _ u v (Hr a1) (Hr a2) rx ry ru rv
 rw [<- Le,<- Gk] at q
 show SeqAt.EqAt A s _ _ (AX (xs.getD j .A4) (ys.getD j .A4))
 rw [KJ,B4 a1,KJ,B4 a2]
 simpa using q
def NO {p:PV}{x:V}{tp:Bool}{a:Addr}{vs:List V}{xs:List PV}{q:PV}(h:Eo X.K H x p tp a vs xs) (f:flat q=true):AX p q=false/\AX q p=false:=by
 cases h <;> cases q <;> first | (cases f;done) | exact ⟨by rw [AX] <;> simp,by rw [AX] <;> simp⟩
def UI {p q:PV}{x y:V}{a b:Addr}{tp B5:Bool}{vs ws:List V}{xs ys:List PV}(h:Eo X.K H x p tp a vs xs) (h2:Eo X.K H y q B5 b ws ys):AX p q=(if tp=B5 then Bz xs ys else false):=by
 cases h <;> cases h2 <;> first | (rw [if_pos rfl,AX];done) | (rw [if_neg (by decide),AX] <;> simp)
def O9 {p q:PV}(h:flat p=true) (h2:flat q=true):AX p q=C1 (Fz.enc p) (Fz.enc q):=by
 cases p <;> cases q <;> first | (cases h;done) | (cases h2;done) | (rw [AX] <;> first | rfl | simp [Fz.enc,C1];done)
def oy {A:Around}{p q:PV}{u v:Value}(h:flat p=true) (h2:flat q=true) (ru:RelV (Fz.enc p) u) (rv:RelV (Fz.enc q) v):SeqAt.RcAt A s u v (AX p q)/\SeqAt.RcNeAt A s u v (!AX p q):=by
 cases p <;> first | (cases h;done) | skip
 all_goals cases q <;> first | (cases h2;done) | skip
 all_goals simp only [Fz.enc,L2.RelV] at ru rv
 ·subst ru;subst rv;rw [AX];exact ⟨.none_none,.none_none⟩
 ·subst ru;subst rv;rw [AX] <;> first | exact ⟨.none_bool _,.none_bool _⟩ | simp
 ·subst ru;obtain ⟨t,rfl⟩:=rv;rw [AX] <;> first | exact ⟨.none_int _ _,.none_int _ _⟩ | simp
 ·subst ru;obtain ⟨t,rfl⟩:=rv;rw [AX] <;> first | exact ⟨.none_str _ _,.none_str _ _⟩ | simp
 ·subst ru;subst rv;rw [AX] <;> first | exact ⟨.bool_none _,.bool_none _⟩ | simp
 ·subst ru;subst rv;rw [AX];exact ⟨.bool_bool _ _,.bool_bool _ _⟩
 ·subst ru;obtain ⟨t,rfl⟩:=rv;rw [AX];exact ⟨.bool_int _ _ _,.bool_int _ _ _⟩
 ·subst ru;obtain ⟨t,rfl⟩:=rv;rw [AX] <;> first | exact ⟨.bool_str _ _ _,.bool_str _ _ _⟩ | simp
 ·obtain ⟨t,rfl⟩:=ru;subst rv;rw [AX] <;> first | exact ⟨.int_none _ _,.int_none _ _⟩ | simp
 ·obtain ⟨t,rfl⟩:=ru;subst rv;rw [AX];exact ⟨.int_bool _ _ _,.int_bool _ _ _⟩
 ·obtain ⟨t,rfl⟩:=ru;obtain ⟨t2,rfl⟩:=rv;rw [AX];exact ⟨.int_int _ _ _ _,.int_int _ _ _ _⟩
 ·obtain ⟨t,rfl⟩:=ru;obtain ⟨t2,rfl⟩:=rv;rw [AX] <;> first | exact ⟨.int_str _ _ _ _,.int_str _ _ _ _⟩ | simp
 ·obtain ⟨t,rfl⟩:=ru;subst rv;rw [AX] <;> first | exact ⟨.str_none _ _,.str_none _ _⟩ | simp
 ·obtain ⟨t,rfl⟩:=ru;subst rv;rw [AX] <;> first | exact ⟨.str_bool _ _ _,.str_bool _ _ _⟩ | simp
 ·obtain ⟨t,rfl⟩:=ru;obtain ⟨t2,rfl⟩:=rv;rw [AX] <;> first | exact ⟨.str_int _ _ _ _,.str_int _ _ _ _⟩ | simp
 ·obtain ⟨t,rfl⟩:=ru;obtain ⟨t2,rfl⟩:=rv;rw [AX];exact ⟨.str_str _ _ _ _,.str_str _ _ _ _⟩
def Ni (h:Heap) (tp:Bool) (a:Addr) (A0:Array Value):Prop:=if tp then IsTup h a A0 else h.IsList a A0
def Eo.Ed (I:Inv X pins σ H s){x:V}{p:PV}{tp:Bool}{a:Addr}{vs:List V}{xs:List PV}(h:Eo X.K H x p tp a vs xs):∃ A0:List Value,x=.ref a/\Vals vs A0/\Ni s.heap tp a A0.toArray/\AD H vs xs:=by
 cases h with
 | lst h r=>obtain ⟨A0,r1,p1,_⟩:=I.list h;exact ⟨A0,rfl,r1,p1.isList,r⟩
 | tup h r=>obtain ⟨A0,r1,p1,_⟩:=I.tuple h;exact ⟨A0,rfl,r1,p1,r⟩
 | con h r=>obtain ⟨A0,r1,p1,_⟩:=I.tuple h;exact ⟨A0,rfl,r1,p1,r⟩
def OU {A:Around}{tp:Bool}{a:Addr}{A0:Array Value}{q:PV}{v:Value}(h:Ni s.heap tp a A0) (f:flat q=true) (rv:RelV (Fz.enc q) v) (hu:A.units < cLine) :
  (SeqAt.EqAt A s (.ref a) v false/\SeqAt.EqAt A s v (.ref a) false)/\(SeqAt.RcAt A s (.ref a) v false/\SeqAt.RcAt A s v (.ref a) false)/\(SeqAt.RcNeAt A s (.ref a) v true/\SeqAt.RcNeAt A s v (.ref a) true):=by
 cases tp with
 | false=>
  have h':s.heap.IsList a A0:=h
  cases q <;> first | (cases f;done) | skip
  all_goals simp only [Fz.enc,L2.RelV] at rv
  ·subst rv;exact ⟨⟨.list_none h' hu,.none_list h' hu⟩,⟨.list_none h' hu,.none_list h' hu⟩,⟨.list_none h' hu,.none_list h' hu⟩⟩
  ·subst rv;exact ⟨⟨.list_bool _ h' hu,.bool_list _ h' hu⟩,⟨.list_bool _ h' hu,.bool_list _ h' hu⟩,⟨.list_bool _ h' hu,.bool_list _ h' hu⟩⟩
  ·obtain ⟨t,rfl⟩:=rv;exact ⟨⟨.list_int _ _ h' hu,.int_list _ _ h' hu⟩,⟨.list_int _ _ h' hu,.int_list _ _ h' hu⟩,⟨.list_int _ _ h' hu,.int_list _ _ h' hu⟩⟩
  ·obtain ⟨t,rfl⟩:=rv;exact ⟨⟨.list_str _ _ h' hu,.str_list _ _ h' hu⟩,⟨.list_str _ _ h' hu,.str_list _ _ h' hu⟩,⟨.list_str _ _ h' hu,.str_list _ _ h' hu⟩⟩
 | true=>
  have h':IsTup s.heap a A0:=h
  cases q <;> first | (cases f;done) | skip
  all_goals simp only [Fz.enc,L2.RelV] at rv
  ·subst rv;exact ⟨⟨.tuple_none h' hu,.none_tuple h' hu⟩,⟨.tuple_none h' hu,.none_tuple h' hu⟩,⟨.tuple_none h' hu,.none_tuple h' hu⟩⟩
  ·subst rv;exact ⟨⟨.tuple_bool _ h' hu,.bool_tuple _ h' hu⟩,⟨.tuple_bool _ h' hu,.bool_tuple _ h' hu⟩,⟨.tuple_bool _ h' hu,.bool_tuple _ h' hu⟩⟩
  ·obtain ⟨t,rfl⟩:=rv;exact ⟨⟨.tuple_int _ _ h' hu,.int_tuple _ _ h' hu⟩,⟨.tuple_int _ _ h' hu,.int_tuple _ _ h' hu⟩,⟨.tuple_int _ _ h' hu,.int_tuple _ _ h' hu⟩⟩
  ·obtain ⟨t,rfl⟩:=rv;exact ⟨⟨.tuple_str _ _ h' hu,.str_tuple _ _ h' hu⟩,⟨.tuple_str _ _ h' hu,.str_tuple _ _ h' hu⟩,⟨.tuple_str _ _ h' hu,.str_tuple _ _ h' hu⟩⟩
def Eo.inj (I:Inv X pins σ H s){x y:V}{p q:PV}{tp B5:Bool}{a:Addr}{vs ws:List V}{xs ys:List PV}(h:Eo X.K H x p tp a vs xs) (h2:Eo X.K H y q B5 a ws ys):tp=B5/\vs=ws:=by
 have no:∀ {vs ws:List V},AG X.K H a vs->AU X.K H a ws->False:=fun {vs ws} h1 h2=>by
  obtain ⟨A0,_,p1,_⟩:=I.list h1
  obtain ⟨BR,_,p2,_⟩:=I.tuple h2
  obtain ⟨o,n,e,c,_⟩:=p1
  obtain ⟨o2,e2,c2,_⟩:=p2
  rw [e] at e2;cases e2;rw [c] at c2
  exact absurd c2 (by decide)
 cases h with
 | lst h r=>cases h2 with
  | lst h2 _=>exact ⟨rfl,I.V7 h h2⟩
  | tup h2 _=>exact (no h h2).elim
  | con h2 _=>exact (no h h2).elim
 | tup h r=>cases h2 with
  | lst h2 _=>exact (no h2 h).elim
  | tup h2 _=>exact ⟨rfl,I.MD h h2⟩
  | con h2 _=>exact ⟨rfl,I.MD h h2⟩
 | con h r=>cases h2 with
  | lst h2 _=>exact (no h2 h).elim
  | tup h2 _=>exact ⟨rfl,I.MD h h2⟩
  | con h2 _=>exact ⟨rfl,I.MD h h2⟩
def Zv {p:PV}(h:flat p=true):C1 (Fz.enc p) (Fz.enc p)=true:=by cases p <;> first | (cases h;done) | simp [Fz.enc,C1]
theorem Z5 (ih:∀ (x:V) (p q:PV),Rep H x p->Rep H x q->dat X.K d p->dat X.K d q->AX p q=true):∀ {vs:List V}{xs ys:List PV},AD H vs xs->AD H vs ys->(∀ x∈xs,dat X.K d x)->(∀ y∈ys,dat X.K d y)->Bz xs ys=true
 | _,_,_,.nil,.nil,_,_=>by rw [Bz]
 | _,_,_,.cons r1 t1,.cons r2 t2,h1,h2=>by
  rw [Od,ih _ _ _ r1 r2 (h1 _ (by simp)) (h2 _ (by simp)),Z5 ih t1 t2 (fun x hx=>h1 x (by simp [hx])) (fun x hx=>h2 x (by simp [hx]))];rfl
def nM (I:Inv X pins σ H s):∀ (d:Nat) (x:V) (p q:PV),Rep H x p->Rep H x q->dat X.K d p->dat X.K d q->AX p q=true:=fun d=>by
 induction d with
 | zero=>
  intro x p q r1 r2 h1 h2
  rcases ET h1 r1 with ⟨f1,e1⟩ | ⟨d',_,_,_,_,e,_⟩
  ·rcases ET h2 r2 with ⟨f2,e2⟩ | ⟨d',_,_,_,_,e,_⟩
   ·rw [O9 f1 f2,<- e1,e2];exact Zv f2
   ·cases e
  ·cases e
 | succ d ih=>
  intro x p q r1 r2 h1 h2
  rcases ET h1 r1 with ⟨f1,e1⟩ | ⟨d1,tp,a,vs,xs,e,q1,k1⟩
  ·rcases ET h2 r2 with ⟨f2,e2⟩ | ⟨d2,B5,b,ws,ys,e,q2,k2⟩
   ·rw [O9 f1 f2,<- e1,e2];exact Zv f2
   ·obtain ⟨_,ex,_⟩:=q2.Ed I
    subst ex
    cases p <;> first | (cases f1;done) | (cases e1;done)
  ·cases e
   rcases ET h2 r2 with ⟨f2,e2⟩ | ⟨d2,B5,b,ws,ys,e,q2,k2⟩
   ·obtain ⟨_,ex,_⟩:=q1.Ed I
    subst ex
    cases q <;> first | (cases f2;done) | (cases e2;done)
   ·cases e
    obtain ⟨_,ex,_,_,r3⟩:=q1.Ed I
    obtain ⟨_,ey,_,_,r4⟩:=q2.Ed I
    rw [ex] at ey;cases ey
    obtain ⟨et,ev⟩:=q1.inj I q2
    subst ev
    rw [UI q1 q2,if_pos et]
    exact Z5 ih r3 r4 k1 k2
def oJ {vs ws:List V}{A0 BR:List Value}{xs ys:List PV}(r1:Vals vs A0) (r2:Vals ws BR) (q1:AD H vs xs) (q2:AD H ws ys):A0.toArray.size=xs.length/\BR.toArray.size=ys.length:=by
 have l1:=r1.length;have l2:=r2.length;have l3:=q1.length;have l4:=q2.length
 simp only [Bs]
 omega
def Vf {A:Around}{tp B5:Bool}{a b:Addr}{vs ws:List V}{A0 BR:List Value}{xs ys:List PV}(h1:Ni s.heap tp a A0.toArray) (h2:Ni s.heap B5 b BR.toArray) (r1:Vals vs A0) (r2:Vals ws BR) (q1:AD H vs xs) (q2:AD H ws ys) (hu:A.units < cLine)
  (h:∀ (x y:V) (p q:PV) (u v:Value),p∈xs->q∈ys->Rep H x p->Rep H y q->RelV x u->RelV y v->SeqAt.EqAt A.in1 s u v (AX p q)) :
  SeqAt.RcAt A s (.ref a) (.ref b) (if tp=B5 then Bz xs ys else false)/\SeqAt.RcNeAt A s (.ref a) (.ref b) (!(if tp=B5 then Bz xs ys else false)):=by
 obtain ⟨z1,z2⟩:=oJ r1 r2 q1 q2
 have it:=lg (A:=A.in1) r1 r2 q1 q2 h
 cases tp with
 | false=>cases B5 with
  | false=>
   rw [if_pos rfl]
   have FR:s.heap.IsList a A0.toArray:=h1
   have Di:s.heap.IsList b BR.toArray:=h2
   by_cases hl:xs.length=ys.length
   ·rw [RB xs ys hl,<- z1]
    exact ⟨.lists FR Di (by omega) hu it,.lists FR Di (by omega) hu it⟩
   ·rw [Tg xs ys hl]
    have Ag:(A0.toArray.size != BR.toArray.size)=true:=by simp only [bne_iff_ne,ne_eq];omega
    exact ⟨.lists_lengths FR Di Ag hu,.lists_lengths FR Di Ag hu⟩
  | true=>rw [if_neg (by decide)];exact ⟨.list_tuple h1 h2 hu,.list_tuple h1 h2 hu⟩
 | true=>cases B5 with
  | false=>rw [if_neg (by decide)];exact ⟨.tuple_list h1 h2 hu,.tuple_list h1 h2 hu⟩
  | true=>
   rw [if_pos rfl]
   have FR:IsTup s.heap a A0.toArray:=h1
   have Di:IsTup s.heap b BR.toArray:=h2
   have e:((List.range (min A0.toArray.size BR.toArray.size)).all (fun j=>AX (xs.getD j .A4) (ys.getD j .A4)) && A0.toArray.size == BR.toArray.size)=Bz xs ys:=by
    by_cases hl:xs.length=ys.length
    ·rw [RB xs ys hl,z1,z2,<- hl,Nat.min_self,beq_self_eq_true,Bool.and_true]
    ·rw [Tg xs ys hl,z1,z2,show (xs.length == ys.length)=false from by simpa using hl,UU]
   have k1:=SeqAt.RcAt.tuples (A:=A) (e:=fun j=>AX (xs.getD j .A4) (ys.getD j .A4)) FR Di hu it
   have k2:=SeqAt.RcNeAt.tuples (A:=A) (e:=fun j=>AX (xs.getD j .A4) (ys.getD j .A4)) FR Di hu it
   rw [e] at k1 k2
   exact ⟨k1,k2⟩
def ml (I:Inv X pins σ H s):∀ (d:Nat) (x y:V) (p q:PV),Rep H x p->Rep H y q->dat X.K d p->dat X.K d q->∀ (A:Around) (u v:Value),RelV x u->RelV y v->A.units+d < cLine->SeqAt.EqAt A s u v (AX p q):=fun d=>by
 induction d with
 | zero=>
  intro x y p q r1 r2 h1 h2 A u v ru rv hu
  rcases ET h1 r1 with ⟨f1,e1⟩ | ⟨_,_,_,_,_,e,_⟩
  ·rcases ET h2 r2 with ⟨f2,e2⟩ | ⟨_,_,_,_,_,e,_⟩
   ·subst e1;subst e2
    rw [O9 f1 f2]
    exact Ms ru rv (OS f1) (OS f2)
   ·cases e
  ·cases e
 | succ d ih=>
  intro x y p q r1 r2 h1 h2 A u v ru rv hu
  rcases ET h1 r1 with ⟨f1,e1⟩ | ⟨d1,tp,a,vs,xs,e,q1,k1⟩
  ·rcases ET h2 r2 with ⟨f2,e2⟩ | ⟨d2,B5,b,ws,ys,e,q2,k2⟩
   ·subst e1;subst e2
    rw [O9 f1 f2]
    exact Ms ru rv (OS f1) (OS f2)
   ·obtain ⟨A0,ey,_,j,_⟩:=q2.Ed I
    subst e1;subst ey
    cases (show v=Value.ref b from rv)
    rw [(NO q2 f1).2]
    exact (OU j f1 ru (by omega)).1.2
  ·cases e
   rcases ET h2 r2 with ⟨f2,e2⟩ | ⟨d2,B5,b,ws,ys,e,q2,k2⟩
   ·obtain ⟨A0,ex,_,j,_⟩:=q1.Ed I
    subst e2;subst ex
    cases (show u=Value.ref a from ru)
    rw [(NO q1 f2).1]
    exact (OU j f2 rv (by omega)).1.1
   ·cases e
    obtain ⟨A0,ex,v1,j1,w1⟩:=q1.Ed I
    obtain ⟨BR,ey,v2,j2,w2⟩:=q2.Ed I
    subst ex;subst ey
    cases (show u=Value.ref a from ru)
    cases (show v=Value.ref b from rv)
    by_cases FC:a=b
    ·subst FC
     rw [nM I (d+1) _ p q r1 r2 h1 h2]
     exact .same _
    ·rw [UI q1 q2]
     refine SeqAt.EqAt.of_refs FC (Vf j1 j2 v1 v2 w1 w2 (by omega) fun x y p q u v hp hq r1 r2 ru rv=>?_).1
     exact ih x y p q r1 r2 (k1 p hp) (k2 q hq) A.in1 u v ru rv (by show A.units+1+d < cLine;omega)
def Wj (I:Inv X pins σ H s) (d:Nat) (x y:V) (p q:PV) (r1:Rep H x p) (r2:Rep H y q) (h1:dat X.K d p) (h2:dat X.K d q) (A:Around) (u v:Value) (ru:RelV x u) (rv:RelV y v) (hu:A.units+d < cLine):SeqAt.RcAt A s u v (AX p q)/\SeqAt.RcNeAt A s u v (!AX p q):=by
 rcases ET h1 r1 with ⟨f1,e1⟩ | ⟨d1,tp,a,vs,xs,e,q1,k1⟩
 ·rcases ET h2 r2 with ⟨f2,e2⟩ | ⟨d2,B5,b,ws,ys,e,q2,k2⟩
  ·subst e1;subst e2
   exact oy f1 f2 ru rv
  ·obtain ⟨A0,ey,_,j,_⟩:=q2.Ed I
   subst e1;subst ey
   cases (show v=Value.ref b from rv)
   rw [(NO q2 f1).2]
   have z:=OU (A:=A) j f1 ru (by omega)
   exact ⟨z.2.1.2,z.2.2.2⟩
 ·rcases ET h2 r2 with ⟨f2,e2⟩ | ⟨d2,B5,b,ws,ys,e2,q2,k2⟩
  ·obtain ⟨A0,ex,_,j,_⟩:=q1.Ed I
   subst e2;subst ex
   cases (show u=Value.ref a from ru)
   rw [(NO q1 f2).1]
   have z:=OU (A:=A) j f2 rv (by omega)
   exact ⟨z.2.1.1,z.2.2.1⟩
  ·subst e;cases e2
   obtain ⟨A0,ex,v1,j1,w1⟩:=q1.Ed I
   obtain ⟨BR,ey,v2,j2,w2⟩:=q2.Ed I
   subst ex;subst ey
   cases (show u=Value.ref a from ru)
   cases (show v=Value.ref b from rv)
   rw [UI q1 q2]
   exact Vf j1 j2 v1 v2 w1 w2 (by omega) fun x y p q u v hp hq r1 r2 ru rv=>ml I d1 x y p q r1 r2 (k1 p hp) (k2 q hq) A.in1 u v ru rv (by show A.units+1+d1 < cLine;omega)
def Ld (K:tV) (neg:Bool):R2:=fun x y H Q=>∃ p q,Rep H x p/\Rep H y q/\dat K 40 p/\dat K 40 q/\Q (.bl (if neg then !AX p q else AX p q)) H
def cw (hu:X.A.units+64 < cLine):Aw X (compareOp .Eq) (Ld X.K false):=by
 intro pins s σ H x y v u Q I rx ry h
 obtain ⟨p,q,r1,r2,d1,d2,hQ⟩:=h
 exact (Wj I 40 x y p q r1 r2 d1 d2 X.A _ _ rx ry (by omega)).1 _ _ _ _ ⟨.bl (AX p q),H,I,rfl,hQ⟩
def nr (hu:X.A.units+64 < cLine):Aw X (compareOp .NotEq) (Ld X.K true):=by
 intro pins s σ H x y v u Q I rx ry h
 obtain ⟨p,q,r1,r2,d1,d2,hQ⟩:=h
 exact (Wj I 40 x y p q r1 r2 d1 d2 X.A _ _ rx ry (by omega)).2 _ _ _ _ ⟨.bl (!AX p q),H,I,rfl,hQ⟩
end
section
variable [Xw]
variable {ss:List Slot}{K:tV}{ta tb:TE}{k:PV->Prop}
def Yo (h:Wp ss ta fun p=>Wp ss tb fun q=>dat K 40 p/\dat K 40 q/\k (.bl (AX p q))):Wp ss (B0 (Ld K false) ta tb) k:=⟨fun E σ F H Q S q=>
 h.go E σ F H _ S fun v p F1 H1 m1 r1 h2=>h2.go E σ F1 H1 _ m1.st fun v2 p2 F2 H2 m2 r2 ⟨d1,d2,kk⟩=>
  ⟨p,p2,(r1.mono m2.ff).mono m2.st.fh,r2.mono m2.st.fh,d1,d2,q _ _ F2 H2 (m1.trans m2) (.bl _) kk⟩⟩
def YH (h:Wp ss ta fun p=>Wp ss tb fun q=>dat K 40 p/\dat K 40 q/\k (.bl (!AX p q))):Wp ss (B0 (Ld K true) ta tb) k:=⟨fun E σ F H Q S q=>
 h.go E σ F H _ S fun v p F1 H1 m1 r1 h2=>h2.go E σ F1 H1 _ m1.st fun v2 p2 F2 H2 m2 r2 ⟨d1,d2,kk⟩=>
  ⟨p,p2,(r1.mono m2.ff).mono m2.st.fh,r2.mono m2.st.fh,d1,d2,q _ _ F2 H2 (m1.trans m2) (.bl _) kk⟩⟩
end
def OV.at:OV->List Nat->Option OV
 | t,[]=>some t
 | .nd _ _ xs,j :: p=>(xs[j]?).bind fun x=>x.at p
 | .tp xs,j :: p=>(xs[j]?).bind fun x=>x.at p
 | .fz _,_ :: _=>none
termination_by _ p=>p.length
def OV.put:OV->List Nat->OV->OV
 | _,[],n=>n
 | .nd k a xs,j :: p,n=>match xs[j]? with
  | some x=>.nd k a (xs.set j (x.put p n))
  | none=>.nd k a xs
 | .tp xs,j :: p,n=>match xs[j]? with
  | some x=>.tp (xs.set j (x.put p n))
  | none=>.tp xs
 | .fz p,_ :: _,_=>.fz p
termination_by _ p=>p.length
def OV.FZ {t:OV}:t.at []=some t:=by rw [OV.at]
def OV.HQ {k:NK}{a:Addr}{xs:List OV}{j:Nat}{p:List Nat}:(OV.nd k a xs).at (j :: p)=(xs[j]?).bind fun x=>x.at p:=by rw [OV.at]
def OV.GG {xs:List OV}{j:Nat}{p:List Nat}:(OV.tp xs).at (j :: p)=(xs[j]?).bind fun x=>x.at p:=by rw [OV.at]
def OV.EA {t n:OV}:t.put [] n=n:=by rw [OV.put]
def OV.Hj {k:NK}{a:Addr}{xs:List OV}{j:Nat}{p:List Nat}{n x:OV}(h:xs[j]?=some x):(OV.nd k a xs).put (j :: p) n=.nd k a (xs.set j (x.put p n)):=by rw [OV.put,h]
def OV.JB {xs:List OV}{j:Nat}{p:List Nat}{n x:OV}(h:xs[j]?=some x):(OV.tp xs).put (j :: p) n=.tp (xs.set j (x.put p n)):=by rw [OV.put,h]
theorem OV.Kq {u w:OV}:∀ {p:List Nat}{t:OV}{j:Nat},t.at p=some u->u.at [j]=some w->t.at (p++[j])=some w
 | [],t,j,h,h2=>by rw [OV.FZ] at h;cases h;exact h2
 | i :: p,.nd k a xs,j,h,h2=>by
  rw [OV.HQ] at h
  rw [aT,OV.HQ]
  cases e:xs[i]? with
  | none=>rw [e] at h;cases h
  | some x=>rw [e] at h;exact OV.Kq (t:=x) h h2
 | i :: p,.tp xs,j,h,h2=>by
  rw [OV.GG] at h
  rw [aT,OV.GG]
  cases e:xs[i]? with
  | none=>rw [e] at h;cases h
  | some x=>rw [e] at h;exact OV.Kq (t:=x) h h2
 | i :: p,.fz q,j,h,h2=>by rw [OV.at] at h;cases h
theorem HS:∀ {xs:List OV}{j:Nat}{x:OV},xs[j]?=some x->∃ l r,OV.AO xs=l++x.addrs++r/\∀ y:OV,OV.AO (xs.set j y)=l++y.addrs++r
 | x :: xs,0,z,h=>by
  simp at h;subst h
  exact ⟨[],OV.AO xs,by rw [OV.CS];rfl,fun y=>by rw [Ud,OV.CS];rfl⟩
 | x :: xs,j+1,z,h=>by
  obtain ⟨l,r,e1,e2⟩:=HS (xs:=xs) (j:=j) (x:=z) (by simpa using h)
  refine ⟨x.addrs++l,r,by rw [OV.CS,e1];simp [CT],fun y=>by rw [Of,OV.CS,e2];simp [CT]⟩
theorem OV.split {u:OV}:∀ {p:List Nat}{t:OV},t.at p=some u->∃ l r,t.addrs=l++u.addrs++r/\∀ n:OV,(t.put p n).addrs=l++n.addrs++r
 | [],t,h=>by rw [OV.FZ] at h;cases h;exact ⟨[],[],by simp,fun n=>by rw [OV.EA];simp⟩
 | j :: p,.nd k a xs,h=>by
  rw [OV.HQ] at h
  cases e:xs[j]? with
  | none=>rw [e] at h;cases h
  | some x=>
   rw [e] at h
   obtain ⟨l,r,e1,e2⟩:=HS e
   obtain ⟨l2,r2,f1,f2⟩:=OV.split (t:=x) h
   refine ⟨a :: (k.more++(l++l2)),r2++r,by rw [OV.Cm,e1,f1];simp [CT],fun n=>by rw [OV.Hj e,OV.Cm,e2,f2];simp [CT]⟩
 | j :: p,.tp xs,h=>by
  rw [OV.GG] at h
  cases e:xs[j]? with
  | none=>rw [e] at h;cases h
  | some x=>
   rw [e] at h
   obtain ⟨l,r,e1,e2⟩:=HS e
   obtain ⟨l2,r2,f1,f2⟩:=OV.split (t:=x) h
   refine ⟨l++l2,r2++r,by rw [OV.Dy,e1,f1];simp [CT],fun n=>by rw [OV.JB e,OV.Dy,e2,f2];simp [CT]⟩
 | j :: p,.fz q,h=>by rw [OV.at] at h;cases h
theorem AZ.get {F H:Hp}:∀ {vs:List V}{ts:List OV}{j:Nat}{t:OV},AZ F H vs ts->ts[j]?=some t->∃ v,vs[j]?=some v/\Aa F H v t
 | _,_,_,_,.nil,e=>by simp at e
 | _,_,0,_,.cons r _,e=>by simp at e;subst e;exact ⟨_,rfl,r⟩
 | _,_,j+1,t,.cons _ q,e=>by
  obtain ⟨u,h1,h2⟩:=AZ.get (j:=j) (t:=t) q (by simpa using e)
  exact ⟨u,by simpa using h1,h2⟩
theorem AZ.append {F H:Hp}:∀ {vs ws:List V}{xs ys:List OV},AZ F H vs xs->AZ F H ws ys->AZ F H (vs++ws) (xs++ys)
 | _,_,_,_,.nil,s=>s
 | _,_,_,_,.cons r t,s=>.cons r (AZ.append t s)
def AZ.one {F H:Hp}{v:V}{t:OV}(r:Aa F H v t):AZ F H [v] [t]:=.cons r .nil
theorem SN {F H:Hp}:∀ {vs:List V}{xs:List PV},AD F vs xs->AZ F H vs (xs.map .fz)
 | _,_,.nil=>.nil
 | _,_,.cons r t=>.cons (.fz r) (SN t)
theorem AZ.ZT {F H:Hp}:∀ {vs:List V}{xs:List PV},AZ F H vs (xs.map .fz)->AD F vs xs
 | _,[],.nil=>.nil
 | _,_ :: _,.cons (.fz r) t=>.cons r (AZ.ZT t)
theorem Vb:∀ (xs:List PV),OV.AO (xs.map .fz)=[]
 | []=>by rw [Hs,OV.AO]
 | x :: r=>by rw [BV,OV.CS,OV.My,Vb r];rfl
theorem AZ.set {F H:Hp}:∀ {vs:List V}{xs:List OV}(j:Nat){v:V}{t:OV},AZ F H vs xs->Aa F H v t->AZ F H (vs.set j v) (xs.set j t)
 | _,_,_,_,_,.nil,_=>.nil
 | _,_,0,_,_,.cons _ t,r=>.cons r t
 | _,_,j+1,_,_,.cons q t,r=>.cons q (AZ.set j t r)
theorem AZ.swap {F H H':Hp}{y:OV}:∀ {vs:List V}{xs:List OV}{j:Nat}{x:OV}{v:V},AZ F H vs xs->xs[j]?=some x->vs[j]?=some v->(∀ l r,OV.AO xs=l++x.addrs++r->(∀ z:OV,OV.AO (xs.set j z)=l++z.addrs++r)->∀ b∈l++r,∀ o,H b=some o->H' b=some o)->Aa F H' v y->AZ F H' vs (xs.set j y)
 | _,x :: xs,0,z,w,.cons r t,h,hv,hk,ry=>by
  simp at h hv;subst h;subst hv
  rw [Ud]
  have e:∀ z:OV,OV.AO ((x :: xs).set 0 z)=[]++z.addrs++OV.AO xs:=fun z=>by rw [Ud,OV.CS];rfl
  exact .cons ry (t.mono (A9.refl _) fun b hb o=>hk [] (OV.AO xs) (by rw [OV.CS];rfl) e b (by simpa using hb) o)
 | _,x :: xs,j+1,z,w,.cons r t,h,hv,hk,ry=>by
  rw [Of]
  have h':xs[j]?=some z:=by simpa using h
  obtain ⟨l,q,e1,e2⟩:=HS h'
  refine .cons (r.mono (A9.refl _) fun b hb o=>hk (x.addrs++l) q (by rw [OV.CS,e1];simp [CT]) (fun z=>by rw [Of,OV.CS,e2];simp [CT]) b (by simp [hb]) o) (AZ.swap (v:=w) t h' (by simpa using hv) (fun l' r' CF Af b hb o=>hk (x.addrs++l') r' (by rw [OV.CS,CF];simp [CT]) (fun z=>by rw [Of,OV.CS,Af];simp [CT]) b (by rcases List.mem_append.mp hb with hz | hz <;> simp [hz]) o) ry)
theorem Aa.at {F H:Hp}{u:OV}:∀ {p:List Nat}{t:OV}{v:V},Aa F H v t->t.at p=some u->∃ w,Aa F H w u/\∀ (H':Hp) (n:OV),Aa F H' w n->(∀ l r,t.addrs=l++u.addrs++r->(∀ n:OV,(t.put p n).addrs=l++n.addrs++r)->∀ b∈l++r,∀ o,H b=some o->H' b=some o)->Aa F H' v (t.put p n)
 | [],t,v,h,e=>by rw [OV.FZ] at e;cases e;exact ⟨v,h,fun H' n r _=>by rw [OV.EA];exact r⟩
 | j :: p,.fz q,v,h,e=>by rw [OV.at] at e;cases e
 | j :: p,.nd k a xs,_,.nd h sd ft r,e=>by
  rw [OV.HQ] at e
  cases ex:xs[j]? with
  | none=>rw [ex] at e;cases e
  | some x=>
   rw [ex] at e
   obtain ⟨vj,Rr,rj⟩:=r.get ex
   obtain ⟨w,rw_,go⟩:=Aa.at (t:=x) rj e
   refine ⟨w,rw_,fun H' n rn hk=>?_⟩
   obtain ⟨l2,r2,f1,f2⟩:=OV.split e
   have key:∀ l r,OV.AO xs=l++x.addrs++r->(∀ z:OV,OV.AO (xs.set j z)=l++z.addrs++r)->∀ b,b∈(a :: (k.more++(l++l2)))++(r2++r)->∀ o,H b=some o->H' b=some o:=fun l r e1 e2 b hb o=>
    hk (a :: (k.more++(l++l2))) (r2++r) (by rw [OV.Cm,e1,f1];simp [CT]) (fun n=>by rw [OV.Hj ex,OV.Cm,e2,f2];simp [CT]) b hb o
   obtain ⟨l,q,e1,e2⟩:=HS ex
   rw [OV.Hj ex]
   refine .nd (key l q e1 e2 a (by simp) _ h) (NK.WA sd fun b hb=>key l q e1 e2 b (by simp [hb])) ft ?_
   refine r.swap ex Rr (fun l' r' CF Af b hb o=>key l' r' CF Af b (by rcases List.mem_append.mp hb with hz | hz <;> simp [hz]) o) ?_
   refine go H' n rn fun l' r' g1 g2 b hb o=>?_
   refine hk (a :: (k.more++(l++l'))) (r'++q) (by rw [OV.Cm,e1,g1];simp [CT]) (fun n=>by rw [OV.Hj ex,OV.Cm,e2,g2];simp [CT]) b (by rcases List.mem_append.mp hb with hz | hz <;> simp [hz]) o
 | j :: p,.tp xs,_,.tp h r,e=>by
  rw [OV.GG] at e
  cases ex:xs[j]? with
  | none=>rw [ex] at e;cases e
  | some x=>
   rw [ex] at e
   obtain ⟨vj,Rr,rj⟩:=r.get ex
   obtain ⟨w,rw_,go⟩:=Aa.at (t:=x) rj e
   refine ⟨w,rw_,fun H' n rn hk=>?_⟩
   obtain ⟨l2,r2,f1,f2⟩:=OV.split e
   obtain ⟨l,q,e1,e2⟩:=HS ex
   rw [OV.JB ex]
   refine .tp h (r.swap ex Rr (fun l' r' CF Af b hb o=>?_) (go H' n rn fun l' r' g1 g2 b hb o=>?_))
   ·exact hk (l'++l2) (r2++r') (by rw [OV.Dy,CF,f1];simp [CT]) (fun n=>by rw [OV.JB ex,OV.Dy,Af,f2];simp [CT]) b (by rcases List.mem_append.mp hb with hz | hz <;> simp [hz]) o
   ·exact hk (l++l') (r'++q) (by rw [OV.Dy,e1,g1];simp [CT]) (fun n=>by rw [OV.JB ex,OV.Dy,e2,g2];simp [CT]) b (by rcases List.mem_append.mp hb with hz | hz <;> simp [hz]) o
def Sd {l u r n:List Addr}(h:(l++u++r).Nodup) (hn:n.Nodup) (hd:∀ b∈n,b∈u∨b∉l++u++r):(l++n++r).Nodup:=by
 rw [Be] at h ⊢
 obtain ⟨h1,h2,h3⟩:=h
 rw [Be] at h1 ⊢
 obtain ⟨a1,a2,a3⟩:=h1
 refine ⟨⟨a1,hn,fun a ha b hb e=>?_⟩,h2,fun a ha b hb e=>?_⟩
 ·subst e
  rcases hd a hb with z | z
  ·exact a3 a ha a z rfl
  ·exact z (by simp [ha])
 ·subst e
  rcases List.mem_append.mp ha with ha | ha
  ·exact h3 a (by simp [ha]) a hb rfl
  ·rcases hd a ha with z | z
   ·exact h3 a (by simp [z]) a hb rfl
   ·exact z (by simp [hb])
section
variable {E:Ent0}{ss:List Slot}{σ:L2.St} {F H F' H':Hp}
def Sg.Sl (S:Sg E ss σ F H){i:Nat}{t n:OV}{p:List Nat}{k:NK}{a:Addr}{xs:List OV}{ho:HO}{lt:Bool}(hi:ss[i]?=some (.ow lt t)) (Az:t.at p=some (.nd k a xs)) (hn:Aa F (upd H a ho) (.ref a) n) (nd:n.addrs.Nodup)
  (XW:∀ b∈n.addrs,b∈(OV.nd k a xs).addrs∨(F b=none/\E.H0 b=none/\∀ (j:Nat) s,ss[j]?=some s->¬ An s σ[j]? b)):Sg E (ss.set i (.ow lt (t.put p n))) σ F (upd H a ho):=by
 obtain ⟨v,e,r,RZ,q⟩:=S.ok i _ hi
 obtain ⟨l,rr,e1,e2⟩:=OV.split Az
 have au:a∈(OV.nd k a xs).addrs:=by rw [OV.Cm];simp
 have ut:∀ b∈(OV.nd k a xs).addrs,b∈t.addrs:=fun b hb=>by rw [e1];simp [hb]
 have Mz:∀ b∈n.addrs,b∈(OV.nd k a xs).addrs∨b∉t.addrs:=fun b hb=>(XW b hb).imp id fun z m=>z.2.2 i _ hi m
 obtain ⟨w,rw_,go⟩:=r.at Az
 have ew:w=.ref a:=by cases rw_;rfl
 subst ew
 have ne1:∀ (j:Nat) s,(ss.set i .any)[j]?=some s->∀ b,b∈t.addrs->¬ An s σ[j]? b:=fun j s hj b hb m=>by
  by_cases z:j=i
  ·subst z
   rw [C7 (List.getElem?_eq_some_iff.mp hi).1] at hj
   cases hj;cases m
  ·rw [Bd (Ah z)] at hj
   exact S.BG j i s _ b z hj hi m hb
 have S2:=(S.drop i).NW (o:=ho) (q a (ut a au)).1 ((q a (ut a au)).2.imp id fun z=>z.2) fun j s hj=>ne1 j s hj a (ut a au)
 have Ur:=RZ
 rw [e1,Be,Be] at Ur
 obtain ⟨⟨_,_,d1⟩,_,d2⟩:=Ur
 have tE:∀ b,b∈l++rr->b≠a:=fun b hb z=>by
  subst z
  rcases List.mem_append.mp hb with hb | hb
  ·exact d1 b hb b au rfl
  ·exact d2 b (by simp [au]) b hb rfl
 have r2:Aa F (upd H a ho) v (t.put p n):=go _ n hn fun l' r' g1 g2 b hb o jI=>by
  rw [AF ?_];exact jI
  rintro rfl
  have Yg:=RZ
  rw [g1,Be,Be] at Yg
  obtain ⟨⟨_,_,c1⟩,_,c2⟩:=Yg
  rcases List.mem_append.mp hb with hb | hb
  ·exact c1 b hb b au rfl
  ·exact c2 b (by simp [au]) b hb rfl
 have ad:∀ b∈(t.put p n).addrs,b∈t.addrs∨(F b=none/\E.H0 b=none/\∀ (j:Nat) s,ss[j]?=some s->¬ An s σ[j]? b):=fun b hb=>by
  rw [e2] at hb
  rcases List.mem_append.mp hb with hb | hb
  ·rcases List.mem_append.mp hb with hb | hb
   ·exact .inl (by rw [e1];simp [hb])
   ·exact (XW b hb).imp (ut b) id
  ·exact .inl (by rw [e1];simp [hb])
 have S3:=S2.setG (j:=i) (s:=.ow lt (t.put p n)) (v:=v) ⟨v,rfl,r2,by rw [e2];exact Sd (e1▸RZ) nd fun b hb=>(Mz b hb).imp id (by rw [e1];exact id),fun b hb=>(ad b hb).elim (q b) fun z=>⟨z.1,.inl z.2.1⟩⟩ fun b hb j s hj hs m=>by
  rcases ad b hb with z | z
  ·exact ne1 j s hs b z m
  ·rw [Bd (Ah hj)] at hs
   exact z.2.2 j s hs m
 rw [Jk e,Og] at S3
 exact S3
end
structure Wl [Xw] (ss:List Slot) (i:Nat) (t:OV) (te:TE) (k:List Nat->OV->Prop):Prop where
 hi:∃ lt,ss[i]?=some (.ow lt t)
 go:∀ (E:Ent) (σ:L2.St) (F H:Hp) (Q:VK),Sg E ss σ F H->(∀ v p u F' H',Mv E ss σ F H F' H'->Aa F' H' v u->t.at p=some u->k p u->Q v H')->te σ H Q
def C4:List Nat->List Slot->List Slot
 | [],ss=>ss
 | i :: m,ss=>C4 m (ss.set i .any)
structure Wx [Xw] (ss:List Slot) (te:TE) (k:List Nat->OV->Prop):Prop where
 go:∀ (E:Ent) (σ:L2.St) (F H:Hp) (Q:VK),Sg E ss σ F H->(∀ v m u F' H',Mv E ss σ F H F' H'->Aa F' H' v u->u.addrs.Nodup->(∀ a∈u.addrs,F' a=none/\E.H0 a=none/\((∃ i∈m,∃ s,s≠Slot.AI/\ss[i]?=some s/\An s σ[i]? a)∨H a=none))->k m u->Q v H')->te σ H Q
structure L5 [Xw] (ss:List Slot) (te:TA) (k:List Nat->List OV->Prop):Prop where
 go:∀ (E:Ent) (σ:L2.St) (F H:Hp) (Q:List V->Hp->Prop),Sg E ss σ F H->(∀ vs m us F' H',Mv E ss σ F H F' H'->AZ F' H' vs us->(OV.AO us).Nodup->(∀ a∈OV.AO us,F' a=none/\E.H0 a=none/\((∃ i∈m,∃ s,s≠Slot.AI/\ss[i]?=some s/\An s σ[i]? a)∨H a=none))->k m us->Q vs H')->te σ H Q
section
variable [Xw]
variable {ss:List Slot}{K:tV}{ta tb tc te ti:TE}{nx:List Slot->Prop}{R:AR}{k:PV->Prop}{xs:List PV}{i:Nat}{t:OV}
def OV.Fq {u:OV}{p:List Nat}(h:t.at p=some u):∀ a∈u.addrs,a∈t.addrs:=fun a ha=>by
 obtain ⟨l,r,e,_⟩:=OV.split h
 rw [e];simp [ha]
def Aa.mv {E:Ent0}{σ:L2.St} {F H F' H':Hp}{v:V}{u:OV}{p:List Nat}(r:Aa F H v u) (S:Sg E ss σ F H) (hi:∃ lt,ss[i]?=some (.ow lt t)) (h:t.at p=some u) (m:Mv E ss σ F H F' H'):Aa F' H' v u:=
 r.mono m.ff fun a ha o e=>m.hh a o (S.JU hi.choose_spec (OV.Fq h a ha) (by simp)) e
def Cg {lt:Bool}{k:List Nat->OV->Prop}(hi:ss[i]?=some (.ow lt t)) (hk:k [] t):Wl ss i t (BB i) k:=⟨⟨lt,hi⟩,fun E σ F H Q S q=>by
 obtain ⟨v,e,r,_,_⟩:=S.ok i _ hi
 exact ⟨v,e,q v [] t F H (.refl S) r OV.FZ hk⟩⟩
def JR {k:List Nat->OV->Prop}(h:Wl ss i t ta fun p u=>∃ a xs,u=.nd .lst a xs/\Wp ss tb fun q=>∃ (j:Int) (n:Nat) (w:OV),q=.int j/\G1 xs.length j=some n/\xs[n]?=some w/\k (p++[n]) w):Wl ss i t (B0 (Nj K) ta tb) k:=⟨h.hi,fun E σ F H Q S q=>
 h.go E σ F H _ S fun v p u F1 H1 m1 r1 h1 ⟨a,xs,eu,h2⟩=>h2.go E σ F1 H1 _ m1.st fun v2 p2 F2 H2 m2 r2 ⟨j,n,w,e,hn,hw,kk⟩=>by
  subst e;cases r2
  have r3:=r1.mv m1.st h.hi h1 m2
  subst eu
  cases r3 with
  | nd ha sd ft rr=>
   obtain ⟨x,hx,rx⟩:=rr.get hw
   refine ⟨a,_,j,x,rfl,rfl,AG.of ha,?_,q x (p++[n]) w F2 H2 (m1.trans m2) rx (OV.Kq h1 (by rw [OV.HQ,hw];exact OV.FZ)) kk⟩
   unfold L2.BK
   rw [rr.length,hn]
   exact hx⟩
def Ja {k:List Nat->OV->Prop}(h:Wl ss i t ta fun p u=>∃ xs,u=.tp xs/\Wp ss tb fun q=>∃ (j:Int) (n:Nat) (w:OV),q=.int j/\G1 xs.length j=some n/\xs[n]?=some w/\k (p++[n]) w):Wl ss i t (B0 (GF K) ta tb) k:=⟨h.hi,fun E σ F H Q S q=>
 h.go E σ F H _ S fun v p u F1 H1 m1 r1 h1 ⟨xs,eu,h2⟩=>h2.go E σ F1 H1 _ m1.st fun v2 p2 F2 H2 m2 r2 ⟨j,n,w,e,hn,hw,kk⟩=>by
  subst e;cases r2
  have r3:=r1.mv m1.st h.hi h1 m2
  subst eu
  cases r3 with
  | tp ha rr=>
   obtain ⟨x,hx,rx⟩:=rr.get hw
   refine ⟨_,_,j,x,rfl,rfl,AU.of (m2.st.fh _ _ ha),?_,q x (p++[n]) w F2 H2 (m1.trans m2) rx (OV.Kq h1 (by rw [OV.GG,hw];exact OV.FZ)) kk⟩
   unfold L2.BK
   rw [rr.length,hn]
   exact hx⟩
def Kc (h:Wl ss i t te fun _ u=>∃ p,u=.fz p/\k p):Wp ss te k:=⟨fun E σ F H Q S q=>
 h.go E σ F H _ S fun v p u F1 H1 m1 r1 h1 ⟨p,eu,kk⟩=>by subst eu;cases r1 with | fz r=>exact q v p F1 H1 m1 r kk⟩
def Q8 {k:Bool->List PV->Prop}(h:Wl ss i t te fun _ u=>∃ a ps,u=.nd .lst a (ps.map .fz)/\k false ps):Wq ss te k:=⟨fun E σ F H Q S q=>
 h.go E σ F H _ S fun v p u F1 H1 m1 r1 h1 ⟨a,ps,eu,kk⟩=>by
  subst eu
  have np:Bf ss σ a:=m1.st.JU h.hi.choose_spec (OV.Fq h1 a (by rw [OV.Cm];simp)) (by simp)
  cases r1 with
  | nd ha sd ft rr=>exact q _ false ps F1 H1 m1 ⟨a,_,rfl,np,ha,rr.ZT⟩ kk⟩
def Rv (h:Wl ss i t te fun _ u=>∃ a xs,u=.nd .lst a xs/\k (.int xs.length)):Wp ss (BY (OZ K) (AK te AS)) k:=⟨fun E σ F H Q S q=>
 h.go E σ F H _ S fun v p u F1 H1 m1 r1 h1 ⟨a,xs,eu,kk⟩=>by
  subst eu
  cases r1 with
  | nd ha sd ft rr=>
   refine ⟨a,_,rfl,.inl (AG.of ha),?_⟩
   rw [rr.length]
   exact q _ _ F1 H1 m1 (.int _) kk⟩
def Ee {k:List Nat->OV->Prop}(h:Wp ss te fun p=>k [] (.fz p)):Wx ss te k:=⟨fun E σ F H Q S q=>
 h.go E σ F H _ S fun v p F1 H1 m1 r kk=>q v [] (.fz p) F1 H1 m1 (.fz r) (by rw [OV.My];exact List.nodup_nil) (fun a ha=>by rw [OV.My] at ha;cases ha) kk⟩
def Mu (a:Addr) (xs:List PV):(OV.nd .lst a (xs.map .fz)).addrs=[a]:=by rw [OV.Cm,Vb];rfl
def Tq {k:List Nat->OV->Prop}(h:Wn ss te fun xs=>∀ l,k [] (.nd .lst l (xs.map .fz))):Wx ss te k:=⟨fun E σ F H Q S q=>
 h.go E σ F H _ S fun l vs xs F1 H1 m1 fl hl MM r kk=>q _ [] _ F1 H1 m1 (.nd (k:=.lst) MM trivial trivial (SN r)) (by rw [Mu];simp) (fun a ha=>by
  rw [Mu] at ha
  have e:a=l:=by simpa using ha
  subst e
  exact ⟨fl,S.Cz hl,.inr hl⟩) (kk l)⟩
def Ko {k:List Nat->List OV->Prop}(h:k [] []):L5 ss AS k:=⟨fun E σ F H Q S q=>q _ [] [] F H (.refl S) .nil (by rw [OV.Gp];exact List.nodup_nil) (fun a ha=>by rw [OV.Gp] at ha;cases ha) h⟩
def VC {k:List Nat->OV->Prop}(hi:ss[i]?=some (.ow false t)) (h:k [i] t):Wx ss (BB i) k:=⟨fun E σ F H Q S q=>by
 obtain ⟨v,e,r,nd,qa⟩:=S.ok i _ hi
 refine ⟨_,e,q v [i] t F H (.refl S) r nd (fun a ha=>⟨(qa a ha).1,?_,.inl ⟨i,by simp,_,by simp,hi,ha⟩⟩) h⟩
 exact (qa a ha).2.elim id fun z=>by cases z.1⟩
def Wx.Y8 {E:Ent0}{σ:L2.St} {F H:Hp}(S:Sg E ss σ F H){m:List Nat}{a:Addr}(h:(∃ i∈m,∃ s,s≠Slot.AI/\ss[i]?=some s/\An s σ[i]? a)∨H a=none):Bf ss σ a:=by
 rcases h with ⟨j,_,s,hp,hs,o⟩ | z
 ·exact S.JU hs o hp
 ·exact S.LF z
def Mv.Zq {E:Ent0}{σ:L2.St} {F H F' H':Hp}(m:Mv E ss σ F H F' H'){a:Addr}(h:F a=Option.none) (h2:H a≠Option.none):F' a=Option.none:=by
 cases e:F' a with
 | none=>rfl
 | some o=>
  rcases m.nn a o e with z | z
  ·rw [h] at z;cases z
  ·exact absurd z h2
def Fi {k:List Nat->List OV->Prop}{tr:TA}(h:Wx ss te fun m u=>L5 ss tr fun m2 us=>(∀ i∈m,i∉m2)/\k (m++m2) (u :: us)):L5 ss (AK te tr) k:=⟨fun E σ F H Q S q=>
 h.go E σ F H _ S fun v m u F1 H1 m1 r1 El a1 h2=>h2.go E σ F1 H1 _ m1.st fun vs gP us F2 H2 m2 r2 Gm a2 ⟨dj,kk⟩=>by
  have np:∀ a∈u.addrs,Bf ss σ a:=fun a ha=>Wx.Y8 S (a1 a ha).2.2
  refine q (v :: vs) (m++gP) (u :: us) F2 H2 (m1.trans m2) (.cons (r1.mono m2.ff fun a ha o e=>m2.hh a o (np a ha) e) r2) ?_ (fun a ha=>?_) kk
  ·rw [OV.CS,Be]
   refine ⟨El,Gm,fun a ha b hb e=>?_⟩
   subst e
   rcases (a2 a hb).2.2 with ⟨j2,Nw,s2,Kg,BD,o2⟩ | z
   ·rcases (a1 a ha).2.2 with ⟨j,hj,s,hp,hs,o⟩ | z
    ·exact S.BG j j2 s s2 a (by rintro rfl;exact dj j hj Nw) hs BD o o2
    ·exact S.DJ BD o2 z
   ·exact r1.there a ha z
  ·rw [OV.CS] at ha
   rcases List.mem_append.mp ha with ha | ha
   ·obtain ⟨f,h0,w⟩:=a1 a ha
    exact ⟨m2.Zq f (r1.there a ha),h0,w.imp (fun ⟨j,hj,z⟩=>⟨j,by simp [hj],z⟩) id⟩
   ·obtain ⟨f,h0,w⟩:=a2 a ha
    exact ⟨f,h0,w.imp (fun ⟨j,hj,z⟩=>⟨j,by simp [hj],z⟩) m1.none⟩⟩
def SU {k:List Nat->OV->Prop}{tr:TA}(h:L5 ss tr fun m us=>us.length<=100000/\k m (.tp us)):Wx ss (JQ tr) k:=⟨fun E σ F H Q S q=>
 h.go E σ F H _ S fun vs m us F1 H1 m1 r1 El a1 ⟨hz,kk⟩=>⟨small (by rw [r1.length];exact hz),fun p hp=>by
  have m2:=m1.st.alloc hp (.tup vs)
  refine q _ m (.tp us) _ _ (m1.trans m2) (.tp AN (r1.mono m2.ff fun a ha o e=>by rw [AF (by rintro rfl;exact r1.there _ ha hp)];exact e)) (by rw [OV.Dy];exact El) (fun a ha=>?_) kk
  rw [OV.Dy] at ha
  obtain ⟨f,h0,w⟩:=a1 a ha
  exact ⟨by rw [AF (by rintro rfl;exact r1.there _ ha hp)];exact f,h0,w⟩⟩⟩
theorem MF {j:Nat}{s:Slot}:∀ {m:List Nat}{ss:List Slot},(C4 m ss)[j]?=some s->s=.any∨(ss[j]?=some s/\j∉m)
 | [],ss,h=>.inr ⟨h,by simp⟩
 | i :: m,ss,h=>by
  rcases MF (m:=m) (ss:=ss.set i .any) h with e | ⟨e,hm⟩
  ·exact .inl e
  ·by_cases q:j=i
   ·subst q
    have AM:j < ss.length:=by have:=(List.getElem?_eq_some_iff.mp e).1;simpa using this
    rw [C7 AM] at e
    exact .inl (BA e).symm
   ·rw [Bd (Ah q)] at e
    exact .inr ⟨e,by simp [q,hm]⟩
theorem Sg.C4 {E:Ent0}{σ:L2.St} {F H:Hp}:∀ (m:List Nat){ss:List Slot},Sg E ss σ F H->Sg E (Fz.C4 m ss) σ F H
 | [],_,S=>S
 | i :: m,_,S=>Sg.C4 m (S.drop i)
def Sg.Rb {E:Ent0}{σ:L2.St} {F0 F H0 H:Hp}{v:V}{m:List Nat}{u:OV}{j:Nat}(S0:Sg E ss σ F0 H0) (S:Sg E ss σ F H) (r:Aa F H v u) (nd:u.addrs.Nodup) (hu:∀ a∈u.addrs,F a=none/\E.H0 a=none/\((∃ i∈m,∃ s,s≠Slot.AI/\ss[i]?=some s/\An s σ[i]? a)∨H0 a=none)) :
  Sg E ((Fz.C4 m ss).set j (.ow false u)) (σ.set j (some v)) F H:=by
 refine (S.C4 m).setG ⟨v,rfl,r,nd,fun a ha=>⟨(hu a ha).1,.inl (hu a ha).2.1⟩⟩ fun a ha i s EH hs o=>?_
 rcases MF hs with e | ⟨BE,hm⟩
 ·subst e;cases o
 ·rcases (hu a ha).2.2 with ⟨i2,Fu,s2,_,BD,o2⟩ | z
  ·exact S.BG i i2 s s2 a (by rintro rfl;exact hm Fu) BE BD o o2
  ·exact S0.DJ BE o z
def KN {j:Nat}(h:Wx ss te fun m u=>nx ((Fz.C4 m ss).set j (.ow false u))):Ws ss (DM te (BU j)) nx R:=⟨fun E D σ F H S hn hr=>
 h.go E σ F H _ S fun v m u F1 H1 m1 r nd hu kk=>hn _ _ F1 H1 kk (Sg.Rb S m1.st r nd hu) m1.ff⟩
def V8 {t':TS}(i:Nat) (hi:ss[i]?=some (.own xs)) (h:∀ l,Ws (ss.set i (.ow false (.nd .lst l (xs.map .fz)))) t' nx R):Ws ss t' nx R:=⟨fun E D σ F H S hn hr=>by
 obtain ⟨l,vs,e,e1,e2,e3,r⟩:=S.ok i _ hi
 have S2:=Sg.Rb (j:=i) (m:=[i]) (v:=.ref l) (u:=.nd .lst l (xs.map .fz)) S S (.nd (k:=.lst) e3 trivial trivial (SN r)) (by rw [Mu];simp) fun a ha=>by
  rw [Mu] at ha
  have ea:a=l:=by simpa using ha
  subst ea
  exact ⟨e1,e2,.inl ⟨i,by simp,_,by simp,hi,e⟩⟩
 rw [Jk e] at S2
 have e5:(Fz.C4 [i] ss).set i (.ow false (.nd .lst l (xs.map .fz)))=ss.set i (.ow false (.nd .lst l (xs.map .fz))):=by show (ss.set i .any).set i _=_;rw [Og]
 rw [e5] at S2
 exact (h l).go E D σ F H S2 hn hr⟩
def Aa.rep {F H F1:Hp}(ff:A9 F F1):∀ {v:V}{t:OV},Aa F H v t->(∀ a∈t.addrs,∀ o,H a=some o->F1 a=some o)->Rep F1 v t.pv:=by
 intro v t r h
 exact Aa.rec (motive_1:=fun v t _=>(∀ a∈t.addrs,∀ o,H a=some o->F1 a=some o)->Rep F1 v t.pv) (motive_2:=fun vs ts _=>(∀ a∈OV.AO ts,∀ o,H a=some o->F1 a=some o)->AD F1 vs (OV.BM ts))
  (fun {v p} r _=>by rw [OV.pv];exact r.mono ff)
  (fun {a vs xs} e _ ih h=>by rw [OV.pv];exact .tup (ff _ _ e) (ih (by rw [OV.Dy] at h;exact h)))
  (fun {k a vs xs} e sd ft _ ih h=>by
   rw [OV.Cm] at h
   have TY:=ih fun a ha=>h a (by simp [ha])
   have e':=h a (by simp) _ e
   cases k with
   | lst=>rw [OV.pv];exact .lst e' TY
   | Ae ks=>rw [OV.pv];exact .Ae e' ft TY
   | obj C dx ns=>rw [OV.pv];exact .obj e' (h dx (by simp [NK.more]) _ sd) ft TY)
  (fun _=>by rw [OV.BM];exact .nil)
  (fun _ _ LB LR h=>by
   rw [OV.CS] at h
   rw [OV.BM]
   exact .cons (LB fun a ha=>h a (by simp [ha])) (LR fun a ha=>h a (by simp [ha])))
  r h
def Wy {t':TS}(i:Nat) (hi:ss[i]?=some (.ow false t)) (h:Ws (ss.set i (.is t.pv)) t' nx R):Ws ss t' nx R:=⟨fun E D σ F H S hn hr=>by
 obtain ⟨v,e,r,nd,qa⟩:=S.ok i _ hi
 obtain ⟨S1,nf⟩:=(S.drop i).lay t.addrs (fun a ha=>⟨(qa a ha).1,(qa a ha).2.elim id (fun z=>by cases z.1),r.there a ha⟩) fun a ha j s hj m=>by
  by_cases q:j=i
  ·subst q
   rw [C7 (List.getElem?_eq_some_iff.mp hi).1] at hj
   cases hj;cases m
  ·rw [Bd (Ah q)] at hj
   exact S.BG j i s _ a q hj hi m ha
 have S2:=S1.D9 (j:=i) (v:=v) (p:=t.pv) (r.rep nf fun a ha o ho=>by unfold C3;rw [if_pos ha];exact ho)
 rw [Jk e,Og] at S2
 exact h.go E D σ _ H S2 (fun Bi σ2 F2 H2 n S2 s2=>hn Bi σ2 F2 H2 n S2 (nf.trans s2)) hr⟩
end
section
variable [Xw]
variable {ss:List Slot}{K:tV}{ta tb tc te ti:TE}{nx:List Slot->Prop}{R:AR}{k:PV->Prop}{xs:List PV}{i:Nat}{t:OV}{lt:Bool}
def He {a:Addr}{us:List OV}:(OV.nd .lst a us).addrs=a :: OV.AO us:=by rw [OV.Cm];rfl
theorem Gd:∀ (us ws:List OV),OV.AO (us++ws)=OV.AO us++OV.AO ws
 | [],ws=>by rw [Uc,OV.Gp,Uc]
 | u :: us,ws=>by rw [aT,OV.CS,OV.CS,Gd us ws,CT]
def HI (u:OV):OV.AO [u]=u.addrs:=by rw [OV.CS,OV.Gp,EV]
def Sg.ZS {E:Ent0}{σ:L2.St} {F0 F H0 H:Hp}{p:List Nat}{a:Addr}{us Ap:List OV}{BQ:List V}{m:List Nat}{u:OV}(S0:Sg E ss σ F0 H0) (S:Sg E ss σ F H) (hi:ss[i]?=some (.ow lt t)) (Az:t.at p=some (.nd .lst a us))
  (hu:∀ a∈u.addrs,F a=none/\E.H0 a=none/\((∃ i∈m,∃ s,s≠Slot.AI/\ss[i]?=some s/\An s σ[i]? a)∨H0 a=none)) (CK:i∉m)
  (hr:AZ F H BQ Ap) (MP:(OV.AO Ap).Nodup) (Ga:∀ b∈OV.AO Ap,b∈OV.AO us∨b∈u.addrs):Sg E ((Fz.C4 m ss).set i (.ow lt (t.put p (.nd .lst a Ap)))) σ F (upd H a (.lst BQ)):=by
 have Du:(Fz.C4 m ss)[i]?=some (.ow lt t):=by
  have aux:∀ (m:List Nat) (ss:List Slot),ss[i]?=some (.ow lt t)->i∉m->(Fz.C4 m ss)[i]?=some (.ow lt t):=by
   intro m
   induction m with
   | nil=>intro ss h _;exact h
   | cons j m ih=>
    intro ss h hm
    refine ih _ ?_ fun z=>hm (by simp [z])
    rw [Bd (by rintro rfl;exact hm (by simp))];exact h
  exact aux m ss hi CK
 obtain ⟨v,e,r,nd,q⟩:=S.ok i _ hi
 have ut:∀ b,b∈a :: OV.AO us->b∈t.addrs:=fun b hb=>OV.Fq Az b (by rw [He];exact hb)
 have JL:∀ b∈u.addrs,b∉t.addrs:=fun b hb z=>by
  rcases (hu b hb).2.2 with ⟨j,hj,s,_,hs,o⟩ | w
  ·exact S.BG j i s _ b (by rintro rfl;exact CK hj) hs hi o z
  ·exact S0.DJ hi z w
 have CC:(OV.nd .lst a us).addrs.Nodup:=by
  obtain ⟨l,rr,e1,_⟩:=OV.split Az
  rw [e1,Be,Be] at nd
  exact nd.1.2.1
 rw [He] at CC
 have na:∀ b∈OV.AO Ap,b≠a:=fun b hb z=>by
  subst z
  rcases Ga b hb with w | w
  ·exact (List.nodup_cons.mp CC).1 w
  ·exact JL b w (ut b (by simp))
 refine (S.C4 m).Sl Du Az (.nd (k:=.lst) AN trivial trivial (hr.mono (A9.refl _) fun b hb o ho=>by rw [AF (na b hb)];exact ho)) (by rw [He];exact List.nodup_cons.mpr ⟨fun z=>na a z rfl,MP⟩) fun b hb=>?_
 rw [He] at hb ⊢
 rcases List.mem_cons.mp hb with w | w
 ·exact .inl (by simp [w])
 ·rcases Ga b w with z | z
  ·exact .inl (by simp [z])
  ·refine .inr ⟨(hu b z).1,(hu b z).2.1,fun j s hs o=>?_⟩
   rcases MF hs with y | ⟨BE,hm⟩
   ·subst y;cases o
   ·rcases (hu b z).2.2 with ⟨i2,Fu,s2,_,BD,o2⟩ | y
    ·exact S.BG j i2 s s2 b (by rintro rfl;exact hm Fu) BE BD o o2
    ·exact S0.DJ BE o y
def Kw (h:Wl ss i t ta fun p u=>∃ lt a us,ss[i]?=some (.ow lt t)/\u=.nd .lst a us/\us.length<=99999/\Wx ss te fun m w=>i∉m/\nx ((C4 m ss).set i (.ow lt (t.put p (.nd .lst a (us++[w])))))):Ws ss (Gu (GN K "list" Lr ta (AK te AS))) nx R:=⟨fun E D σ F H S hn hr=>
 h.go E σ F H _ S fun v p u F1 H1 m1 r1 h1 ⟨lt,a,us,hi,eu,hz,hw⟩=>by
  subst eu
  cases r1 with
  | @nd k a' vs _ ha sd ft rr=>
   refine .inl ⟨rfl,_,AG.of ha⟩ |> fun q0=>⟨q0,hw.go E σ F1 H1 _ m1.st fun v2 m w F2 H2 m2 r2 Gm a2 ⟨CK,kk⟩=>?_⟩
   have r3:=(Aa.nd (k:=.lst) ha sd ft rr).mv m1.st h.hi h1 m2
   cases r3 with
   | @nd _ _ RL _ Se d8 pP LK=>
    refine ⟨a,RL,v2,rfl,rfl,Se,Ii (by rw [LK.length];exact hz),?_⟩
    refine hn _ σ F2 _ kk (Sg.ZS (u:=w) m1.st m2.st hi h1 a2 CK (LK.append (.one r2)) ?_ fun b hb=>?_) (m1.ff.trans m2.ff)
    ·rw [Gd,HI,Be]
     obtain ⟨v0,e0,r0,CQ,q0⟩:=m2.st.ok i _ hi
     have CC:(OV.nd .lst a us).addrs.Nodup:=by
      obtain ⟨l,rr,e1,_⟩:=OV.split h1
      rw [e1,Be,Be] at CQ
      exact CQ.1.2.1
     rw [He] at CC
     refine ⟨(List.nodup_cons.mp CC).2,Gm,fun x hx y hy e=>?_⟩
     subst e
     have xt:x∈t.addrs:=OV.Fq h1 x (by rw [He];simp [hx])
     rcases (a2 x hy).2.2 with ⟨j,hj,s,_,hs,o⟩ | w
     ·exact m1.st.BG j i s _ x (by rintro rfl;exact CK hj) hs hi o xt
     ·exact m1.st.DJ hi xt w
    ·rw [Gd,HI] at hb
     exact List.mem_append.mp hb⟩
end
def ptr (a:Addr):Hp->V->Prop:=fun _ v=>v=.ref a
section
variable [Xw]
variable {ss:List Slot}{K:tV}{ta tb tc te ti:TE}{nx:List Slot->Prop}{R:AR}{k:PV->Prop}{xs ps:List PV}{i j:Nat}{t:OV}{lt:Bool}{p:List Nat}{a:Addr}
def Na {k:List Nat->OV->Prop}{nk:NK}{us:List OV}(hj:ss[j]?=some (.raw (ptr a))) (hi:ss[i]?=some (.ow lt t)) (Az:t.at p=some (.nd nk a us)) (hk:k p (.nd nk a us)):Wl ss i t (BB j) k:=⟨⟨lt,hi⟩,fun E σ F H Q S q=>by
 obtain ⟨v,e,rv,_⟩:=S.ok j _ hj
 obtain ⟨v2,e2,r2,_,_⟩:=S.ok i _ hi
 obtain ⟨w,rw_,_⟩:=r2.at Az
 have ew:w=.ref a:=by cases rw_;rfl
 subst ew
 cases (show v=.ref a from rv)
 exact ⟨_,e,q _ p _ F H (.refl S) rw_ Az hk⟩⟩
end
def BI:List Slot->L2.St->List Addr
 | .own _ :: ss,some (.ref l) :: σ=>l :: BI ss σ
 | .ow _ t :: ss,_ :: σ=>t.addrs++BI ss σ
 | _ :: ss,_ :: σ=>BI ss σ
 | _,_=>[]
theorem VR:∀ {ss:List Slot}{σ:L2.St} {a:Addr},a∈BI ss σ->∃ (i:Nat) (s:Slot),ss[i]?=some s/\s≠.AI/\An s σ[i]? a
 | [],σ,a,h=>by simp [BI] at h
 | s :: ss,[],a,h=>by cases s <;> simp [BI] at h
 | s :: ss,o :: σ,a,h=>by
  have up:a∈BI ss σ->∃ (i:Nat) (s':Slot),(s :: ss)[i]?=some s'/\s'≠.AI/\An s' (o :: σ)[i]? a:=fun h=>by
   obtain ⟨i,s',h1,h2,h3⟩:=VR h
   exact ⟨i+1,s',by simpa using h1,h2,by simpa using h3⟩
  cases s with
  | own xs=>
   cases o with
   | none=>exact up (by simpa [BI] using h)
   | some v=>
    cases v with
    | ref l=>
     rw [BI] at h
     rcases List.mem_cons.mp h with e | h
     ·subst e;exact ⟨0,_,rfl,by simp,rfl⟩
     ·exact up h
    | _=>exact up (by simpa [BI] using h)
  | ow lt t=>
   rw [BI] at h
   rcases List.mem_append.mp h with h | h
   ·exact ⟨0,_,rfl,by simp,h⟩
   ·exact up h
  | _=>exact up (by simpa [BI] using h)
theorem UP:∀ {ss:List Slot}{σ:L2.St} {i:Nat}{s:Slot}{a:Addr},ss.length=σ.length->ss[i]?=some s->s≠.AI->An s σ[i]? a->a∈BI ss σ
 | [],σ,i,s,a,_,h,_,_=>by simp at h
 | s0 :: ss,[],i,s,a,hl,_,_,_=>by simp at hl
 | s0 :: ss,o :: σ,0,s,a,hl,h,hp,ho=>by
  simp at h;subst h
  cases s0 with
  | own xs=>
   have e:o=some (.ref a):=by have:some o=some (some (V.ref a)):=ho;exact BA this
   subst e
   rw [BI];simp
  | ow lt t=>rw [BI];exact Mc _ ho
  | AI=>exact absurd rfl hp
  | _=>cases ho
 | s0 :: ss,o :: σ,i+1,s,a,hl,h,hp,ho=>by
  have q:=UP (ss:=ss) (σ:=σ) (i:=i) (a:=a) (by simpa using hl) (by simpa using h) hp (by simpa using ho)
  cases s0 with
  | own xs=>cases o with
   | none=>simpa [BI] using q
   | some v=>cases v with
    | ref l=>rw [BI];simp [q]
    | _=>simpa [BI] using q
  | ow lt t=>rw [BI];exact E9 _ q
  | _=>simpa [BI] using q
mutual
theorem Aa.K3 {F H:Hp}:∀ {v:V}{t:OV},Aa F H v t->∀ a∈t.addrs,∀ vs,H a≠some (.tup vs)
 | _,_,.fz _,a,ha,_=>by rw [OV.My] at ha;cases ha
 | _,_,.tp _ r,a,ha,vs=>by rw [OV.Dy] at ha;exact AZ.K3 r a ha vs
 | _,_,@Aa.nd _ _ k b ws xs h sd ft r,a,ha,vs=>by
  rw [OV.Cm,KL,Ub] at ha
  rcases ha with rfl | ha | ha
  ·rw [h];cases k <;> simp [NK.ho]
  ·cases k with
   | obj C dx ns=>
    have e:a=dx:=by simpa [NK.more] using ha
    subst e
    have Qg:H a=some (.own b):=sd
    rw [Qg];simp
   | _=>simp [NK.more] at ha
  ·exact AZ.K3 r a ha vs
theorem AZ.K3 {F H:Hp}:∀ {vs:List V}{ts:List OV},AZ F H vs ts->∀ a∈OV.AO ts,∀ ws,H a≠some (.tup ws)
 | _,_,.nil,a,ha,_=>by rw [OV.Gp] at ha;cases ha
 | _,_,.cons r t,a,ha,ws=>by
  rw [OV.CS,Ub] at ha
  rcases ha with ha | ha
  ·exact Aa.K3 r a ha ws
  ·exact AZ.K3 t a ha ws
end
mutual
def DR:PV->Bool
 | .lst _=>false
 | .Ae _ _=>false
 | .obj _ _ _=>false
 | .exc _ _ _=>false
 | .tup xs=>HF xs
 | _=>true
def HF:List PV->Bool
 | []=>true
 | x :: r=>DR x && HF r
end
def EU (F:Hp) (as:List Addr):Hp:=fun a=>if a∈as then none else F a
def Rep.sub {F:Hp}{as:List Addr}(h:∀ a∈as,∀ vs,F a≠some (.tup vs)):∀ {v:V}{p:PV},Rep F v p->DR p=true->Rep (EU F as) v p:=by
 intro v p r hn
 exact Rep.rec (motive_1:=fun v p _=>DR p=true->Rep (EU F as) v p) (motive_2:=fun vs ps _=>HF ps=true->AD (EU F as) vs ps)
  (fun _=>.A4) (fun b _=>.bl b) (fun i _=>.int i) (fun x _=>.str x)
  (fun _ _ _ z=>by simp [DR] at z)
  (fun {a vs xs} e _ ih z=>.tup (by unfold EU;rw [if_neg (fun q=>h a q vs e)];exact e) (ih (by simpa [DR] using z)))
  (fun _ _ _ _ z=>by simp [DR] at z)
  (fun _ _ _ _ _ z=>by simp [DR] at z)
  (fun _=>.con)
  (fun _ z=>by simp [DR] at z)
  (fun _ _ _ _ _ z=>by simp [DR] at z)
  (fun _=>.nil)
  (fun _ _ LB LR z=>by
   rw [HF,DW] at z
   exact .cons (LB z.1) (LR z.2))
  r hn
section
variable {E:Ent0}{ss:List Slot}{σ:L2.St} {F H F' H':Hp}
def Sg.as (S:Sg E ss σ F H){a:Addr}(h:a∈BI ss σ):F a=none/\H a≠none/\(∀ vs,H a≠some (.tup vs))/\Bf ss σ a:=by
 obtain ⟨i,s,hs,hp,ho⟩:=VR h
 refine ⟨S.oa hs ho,S.DJ hs ho,?_,S.JU hs ho hp⟩
 have k:=S.ok i s hs
 cases s with
 | own xs=>obtain ⟨l,vs,e,_,_,e3,_⟩:=k;rw [show σ[i]?=some (some (.ref a)) from ho] at e;cases e;rw [e3];simp
 | ow lt t=>obtain ⟨v,_,r,_⟩:=k;exact r.K3 a ho
 | AI=>exact absurd rfl hp
 | _=>cases ho
def Sg.Hk (S:Sg E ss σ F H):A9 F (C3 F H (BI ss σ))/\A9 (C3 F H (BI ss σ)) H:=by
 refine ⟨fun a o e=>?_,fun a o e=>?_⟩
 ·unfold C3
  rw [if_neg (fun q=>by rw [(S.as q).1] at e;cases e)];exact e
 ·unfold C3 at e
  split at e
  ·exact e
  ·exact S.fh a o e
def Sg.R9 (S:Sg E ss σ F H) (f:Fin (E3 [] (C3 F H (BI ss σ)) H) F' H'):Mv E ss σ F H (EU F' (BI ss σ)) H'/\∀ a∈BI ss σ,∀ vs,F' a≠some (.tup vs):=by
 have kp:∀ a o,H a=some o->H' a=some o:=fun a o e=>f.keep a o ⟨Ay,Ay⟩ e
 refine ⟨S.step (fun a o e=>?_) (fun a o e=>?_) (fun a o _ e=>kp a o e) (fun a o e=>?_) (fun i l hi e=>Aq.keep (S.DG hi e) fun o e=>kp l o e),fun a ha vs e=>?_⟩
 ·unfold EU
  rw [if_neg (fun q=>by rw [(S.as q).1] at e;cases e)]
  exact f.f0 a o (S.Hk.1 a o e)
 ·unfold EU at e
  split at e
  ·cases e
  ·exact f.fh a o e
 ·unfold EU at e
  split at e
  ·cases e
  ·rename_i q
   rcases f.fresh a o e with z | z
   ·left
    have z':C3 F H (BI ss σ) a=some o:=z
    unfold C3 at z'
    rw [if_neg q] at z';exact z'
   ·exact .inr z
 ·obtain ⟨o,ho⟩:=Option.ne_none_iff_exists'.mp (S.as ha).2.1
  have z:F' a=some o:=f.f0 a o (by show C3 F H (BI ss σ) a=some o;unfold C3;rw [if_pos ha];exact ho)
  rw [z] at e
  cases e
  exact (S.as ha).2.2.1 vs ho
end
section
variable [Xw]
variable {ss:List Slot}{K:tV}{ta tb tc te ti:TE}{tr:TA}{nx:List Slot->Prop}{R:AR}{k:PV->Prop}{xs ps:List PV}{i j:Nat}{t:OV}{lt:Bool}{pre:Pre}
end
theorem NM:∀ {xs:List PV},(∀ x∈xs,AX x x=true)->Bz xs xs=true
 | [],_=>by rw [Bz]
 | x :: r,h=>by rw [Od,h x (by simp),NM (xs:=r) fun y hy=>h y (by simp [hy])];rfl
def Zi {K:tV}:∀ (d:Nat){p:PV},dat K d p->AX p p=true:=by
 intro d
 induction d with
 | zero=>intro p h;cases p <;> first | exact h.elim | (rw [AX] <;> simp)
 | succ d ih=>
  intro p h
  cases p with
  | lst xs=>rw [AX];exact NM fun x hx=>ih (h x hx)
  | tup xs=>rw [AX];exact NM fun x hx=>ih (h x hx)
  | con a xs=>rw [AX];exact NM fun x hx=>ih (h.1 x hx)
  | _=>first | exact h.elim | (rw [AX] <;> simp)
end Fz
namespace L2
structure Ey (h:Heap) (ea:Addr) (C:Value) (dx tb:Option Addr):Prop where
 obj:∃ oe vs,h.get? ea=some oe/\oe.cls=C/\oe.dict=dx/\oe.data=.fields vs/\1 < vs.size/\vs[1]?=some (tb.elim Value.none Value.ref)
 ent:∀ T,tb=some T->T≠ea/\∃ oT ts,h.get? T=some oT/\oT.data=.fields ts/\3 < ts.size/\ts[3]?=some Value.none
section
variable {M:Model}{A:Around}{E:Value->Shared->Prop}{s:Shared}{base:Heap}{env:Env}{outer:List Env}{L ea:Addr}{C:Value}{dx tb:Option Addr}{Q:Unit->Shared->Prop}
def mQ (o:Obj) (g:Array Value->Array Value):(o.mapFields g).dict=o.dict:=by
 obtain ⟨c,d,dt,sl⟩:=o
 cases dt <;> rfl
structure Kp (l:List Env) (ea:Addr) (tb:Option Addr) (h h':Heap):Prop where
 keep:∀ b o,h.get? b=some o->b∉Bj l->b≠ea->tb≠some b->h'.get? b=some o
 slot:∀ b o,h.get? b=some o->b∈Bj l->∃ sl,h'.get? b=some { o with slots:=sl }
 size:h.objs.size<=h'.objs.size
def Z7 (hl:s.heap.FunFrames base (env :: outer)){b:Addr}{o:Obj}{vs:Array Value}(ho:s.heap.get? b=some o) (hd:o.data=.fields vs):b∉Bj (env :: outer):=fun hm=>by
 obtain ⟨_,u,hu,hn⟩:=hl.mem hm
 rw [ho] at hu
 cases hu
 exact hn vs hd
def Uq {head:Value}{more:Bool}{oe:Obj}{vs:Array Value}(K6:A.frames=some (env :: outer)) (hl:s.heap.FunFrames base (env :: outer)) (hf:env.frame=some L)
  (he:s.heap.get? ea=some oe) (hc:oe.cls=C) (Ib:oe.dict=dx) (hd:oe.data=.fields vs) (hz:1 < vs.size)
  (h:∀ h' T,Kp (env :: outer) ea none s.heap h'->s.heap.objs.size<=T->Ey h' ea C dx (some T)->Q () { s with heap:=h' }) :
  wpAny M A (do
   let fr <- frameOf env
   let pl <- entryPlaceOf L more
   let b <- EntryCells.newEntry head fr Value.none (rawInt L) Value.none pl
   setField (.ref ea) 1 b) (fun _ s'=>wpAny M A (setFlight (.ref ea) none) Q E s') E s:=by
 have Yu:=Z7 hl he hd
 refine wpAny_bind (wpAny_frameOf_fun K6 hl hf fun g so=>?_)
 refine wpAny_bind (wpAny_entryPlaceOf fun pl ip=>?_)
 unfold EntryCells.newEntry newFields
 refine wpAny_bind (wpAny_newObj_type ?_ (ip.sizeOk5 _ _ _ _ _))
 generalize hT:([head,Value.ref L,Value.none,rawInt L,Value.none]++(if pl.isEmpty then List.replicate 6 Value.none else pl)).toArray=ts
 have tz:3 < ts.size:=by
  rw [<- hT]
  simp only [Bs,DL,Bm,UZ]
  omega
 have eg:g.get? ea=some oe:=(so.2.1 ea Yu).trans he
 have gT:(g.push { cls:=.type "traceback", dict:=none,data:=.fields ts }).get? g.objs.size=some { cls:=.type "traceback", dict:=none,data:=.fields ts }:=Bx g rfl
 have ge:=B9 (h:=g) { cls:=.type "traceback", dict:=none,data:=.fields ts } eg
 refine wpAny_setField ge hd hz ?_
 have Hc:g.objs.size≠ea:=J4 (AY eg)
 have d3:=J5 hd (·.setIfInBounds 1 (Value.ref g.objs.size))
 have e3:=G6 (Obj.mapFields (·.setIfInBounds 1 (Value.ref g.objs.size))) ge (Ol d3)
 have T3:=(Dn (g.push { cls:=.type "traceback", dict:=none,data:=.fields ts }) (Obj.mapFields (·.setIfInBounds 1 (Value.ref g.objs.size))) (Ah Hc)).trans gT
 unfold setFlight
 refine wpAny_bind (wpAny_field e3 d3 (x:=.ref g.objs.size) (by simp [hz]) ?_)
 rw [if_pos (show (Value.ref g.objs.size != Value.none)=true from by simp)]
 refine wpAny_setField T3 rfl tz (h _ g.objs.size ⟨fun b o hb T9 FH _=>?_,fun b o hb JE=>?_,?_⟩ ?_ ⟨⟨_,_,?_,?_,?_,d3,?_,?_⟩,fun T eT=>?_⟩)
 ·have gb:g.get? b=some o:=(so.2.1 b T9).trans hb
  rw [Dn _ _ (J4 (AY gb)),Dn _ _ (Ah FH)]
  exact B9 _ gb
 ·obtain ⟨sl,gb⟩:=so.2.2 b o hb
  refine ⟨sl,?_⟩
  rw [Dn _ _ (J4 (AY gb)),Dn _ _ (by rintro rfl;exact Yu JE)]
  exact B9 _ gb
 ·rw [MY,MY,Ho,so.1]
  exact Md _
 ·rw [so.1];exact AV _
 ·rw [Dn _ _ Hc];exact e3
 ·rw [Obj.cls_mapFields];exact hc
 ·rw [mQ];exact Ib
 ·simpa using hz
 ·simp [hz]
 ·cases eT
  refine ⟨Hc,_,_,G6 _ T3 (Ol (J5 rfl _)),J5 rfl _,by simpa using tz,?_⟩
  simp [tz]
def Vv (K6:A.frames=some (env :: outer)) (hl:s.heap.FunFrames base (env :: outer)) (hf:env.frame=some L) (hx:Ey s.heap ea C dx tb)
  (h:∀ h' T,Kp (env :: outer) ea tb s.heap h'->s.heap.objs.size<=T->Ey h' ea C dx (some T)->Q () { s with heap:=h' }) :
  wpAny M A (noteFrame (.ref ea) env) (fun _ s'=>wpAny M A (setFlight (.ref ea) none) Q E s') E s:=by
 obtain ⟨oe,vs,he,hc,hd,FJ,hz,h1⟩:=hx.obj
 unfold noteFrame
 simp only [hf]
 refine wpAny_bind (wpAny_field he FJ h1 ?_)
 cases tb with
 | none=>
  rw [if_neg (by decide)]
  exact Uq K6 hl hf he hc hd FJ hz h
 | some T=>
  obtain ⟨Hc,oT,ts,hT,Ew,tz,h3⟩:=hx.ent T rfl
  show wpAny M A (do if (Value.ref T != Value.none)=true then _ else _) _ _ _
  rw [if_pos (show (Value.ref T != Value.none)=true from by simp)]
  refine wpAny_bind (wpAny_field hT Ew h3 ?_)
  rw [if_neg (show ¬ ((Value.none == rawInt L)=true) from by simp [rawInt])]
  refine wpAny_bind (wpAny_setField hT Ew tz ?_)
  have FV:∀ b,b≠T->(s.heap.update T (Obj.mapFields (·.setIfInBounds 3 Value.none))).get? b=s.heap.get? b:=fun b hb=>Dn _ _ (Ah hb)
  have nT:=Z7 hl hT Ew
  refine Uq (s:={ s with heap:=s.heap.update T (Obj.mapFields (·.setIfInBounds 3 Value.none)) }) K6 (hl.of_keeps fun b o hb hn=>⟨o,(FV b (by rintro rfl;rw [hT] at hb;cases hb;exact hn ts Ew)).trans hb,rfl⟩) hf ((FV ea (Ah Hc)).trans he) hc hd FJ hz fun h' T' k hn x=>?_
  have Jr:=G6 (Obj.mapFields (·.setIfInBounds 3 Value.none)) hT (Ol (J5 Ew _))
  refine h h' T' ⟨fun b o hb T9 FH SH=>k.keep b o ((FV b (by rintro rfl;exact SH rfl)).trans hb) T9 FH (by simp),fun b o hb JE=>k.slot b o ((FV b (by rintro rfl;exact nT JE)).trans hb) JE,?_⟩ ?_ x
  ·have z:=k.size
   rw [show (s.heap.update T (Obj.mapFields (·.setIfInBounds 3 Value.none))).objs.size=s.heap.objs.size from MY ..] at z
   exact z
  ·have z:=hn
   rw [show (s.heap.update T (Obj.mapFields (·.setIfInBounds 3 Value.none))).objs.size=s.heap.objs.size from MY ..] at z
   exact z
def qc (K6:A.frames=some (env :: outer)) (hl:s.heap.FunFrames base (env :: outer)) (hf:env.frame=some L) (hx:Ey s.heap ea C dx tb)
  (h:∀ h' T,Kp (env :: outer) ea tb s.heap h'->s.heap.objs.size<=T->Ey h' ea C dx (some T)->Q () { s with heap:=h' }):wpAny M A (leaving env (.ref ea)) Q E s:=by
 unfold leaving
 exact wpAny_bind (Vv K6 hl hf hx h)
end
def Fo (P:Program) (w:World):EM:=fun outer H s E e s'=>∃ (ea C:Addr) (dx tb:Option Addr) (H':Hp),e=.ref ea/\s'.os=s.os/\AllBare s'.gens/\Un (Bj outer) [] H H' s.heap s'.heap/\B8 P w H' s'.heap/\
 Ey s'.heap ea (.ref C) dx tb/\(H' ea=none/\s.heap.get? ea=none)/\(∀ T,tb=some T->H' T=none/\s.heap.get? T=none)/\E (.ref C) dx H'
def Tz (X:Cx) (E:XK) (e:Value) (s':Shared):Prop:=∃ (pins:tW) (σ:St) (H':Hp) (ea C:Addr) (dx tb:Option Addr),e=.ref ea/\Inv X pins σ H' s'/\
 Ey s'.heap ea (.ref C) dx tb/\(H' ea=none/\X.s₀.heap.get? ea=none)/\(∀ T,tb=some T->H' T=none/\X.s₀.heap.get? T=none)/\E (.ref C) dx H'
section
variable {P:Program}{w:World}{K:tV}{mg:tX}{base:Heap}{N:List Str}{qual:Str}{scope:Scope}{f:Addr}{cd:Value}{A:Around}{outer:List Env}{s:Shared}{H:Hp}{E:XK}
def B8.Zc {H':Hp}{h h':Heap}(ok:B8 P w H' h) (k:∀ b u,H' b≠none->h.get? b=some u->h'.get? b=some u):B8 P w H' h':=fun a o e=>
 (ok a o e).Ea (fun b u hb hu=>k b u (by rcases hb with rfl | hb;(rw [e];simp);(rw [hb];simp)) hu) (fun _ z=>z) fun _ _ z=>z
def Tz.leave {e:Value}{s':Shared}(r:Tz (E8 (Fo P w) P w K mg base N qual scope f cd A outer s H E) E e s'):(E8 (Fo P w) P w K mg base N qual scope f cd A outer s H E).xe e s':=by
 obtain ⟨pins,σ,H',ea,C,dx,tb,rfl,I,x,⟨u1,u2⟩,ut,hE⟩:=r
 have fr:=I.ok.frames
 change s.heap.get? ea=none at u2
 have ut:∀ T,tb=some T->H' T=none/\s.heap.get? T=none:=ut
 refine qc (outer:=outer) (L:=s.heap.objs.size) fr I.stack rfl x fun h' T kp hT x'=>?_
 have pe:∀ b o,s.heap.get? b=some o->b≠s.heap.objs.size:=fun b o hb=>BP (AY hb)
 have mem:∀ b,b∈Bj (envOfC qual scope s.heap.objs.size f cd :: outer)->b=s.heap.objs.size∨b∈Bj outer:=fun b hb=>by
  rcases List.mem_cons.mp (I.JX b hb) with z | z
  ·exact .inl z
  ·exact .inr z
 have old:∀ b o,s'.heap.get? b=some o->H' b≠none->h'.get? b=some o:=fun b o hb hn=>kp.keep b o hb (fun z=>hn (I.Kr b z)) (fun z=>hn (z▸u1)) fun z=>hn (ut b z).1
 refine ⟨ea,C,dx,some T,H',rfl,I.os,I.bare,⟨fun b o hb hn hf _=>?_,fun b o hb hn hf _=>?_,fun b o hb hn hx=>I.base.free b o hb hn hx,fun b o hb hx=>?_,I.base.EJ,I.base.Ds,I.base.ES⟩,I.A7.Zc fun b u hn hb=>old b u hb hn,x',⟨u1,u2⟩,fun T' eT=>?_,hE⟩
 ·refine kp.keep b o (I.base.keep b o hb hn hf (by simp [E8])) (fun z=>(mem b z).elim (pe b o hb) hf) (by rintro rfl;rw [u2] at hb;cases hb) fun z=>?_
  rw [(ut b z).2] at hb;cases hb
 ·obtain ⟨sl,h1⟩:=I.base.slot b o hb hn hf (by simp [E8])
  have Ks:b∈Bj (envOfC qual scope s.heap.objs.size f cd :: outer):=by
   show b∈List.filterMap _ (_ :: _)
   rw [Oe]
   exact Fe _ hf
  obtain ⟨M7,h2⟩:=kp.slot b _ h1 Ks
  exact ⟨M7,h2⟩
 ·obtain ⟨o1,h1⟩:=I.base.there b o hb (by simp [E8])
  by_cases hf:b∈Bj (envOfC qual scope s.heap.objs.size f cd :: outer)
  ·obtain ⟨M7,h2⟩:=kp.slot b _ h1 hf
   exact ⟨_,h2⟩
  ·exact ⟨o1,kp.keep b o1 h1 hf (by rintro rfl;rw [u2] at hb;cases hb) fun z=>by rw [(ut b z).2] at hb;cases hb⟩
 ·cases eT
  exact ⟨I.A7.fresh hT,MX (Bt I.sz hT)⟩
end
section
variable {X:Cx}{P:Program}{w:World}
end
abbrev XR:List Value:=[.type "ValueError", .type "Exception", .type "BaseException", .type "object"]
structure fE (h:Heap) (C:Addr) (G2:Option Value):Prop where
 obj:∃ bm N nm q bs hdct sn sub ab col dd k0 k1 k2 k3 k5 mN,h.get? C=some (excClassObj nm q C N bs bm hdct sn sub ab col dd k0 k1 k2 k3 k5 "ValueError.__new__")/\h.Ns N mN/\mN "__init__" = G2/\OwnTail h XR bm
def J9 (K:tV) (C:Addr) (G2:Option Value):Bool:=match K.lookup C with
 | some ⟨.type "type", _,.cls cd,sl⟩=>(match cd.mro,sl.toList with
  | .ref C' :: bm,[_,_,_,_,some (.builtin n),_]=>C' == C && n == "ValueError.__new__" && !cd.hasDel && PySem.W.tailIn K XR bm && PySem.W.nsOkIn K cd.ns && PySem.W.nsIn K cd.ns "__init__" == some G2
  | _,_=>false)
 | _=>false
def PX {K:tV}{h:Heap}{C:Addr}{G2:Option Value}(X:K.In h) (q:J9 K C G2=true):fE h C G2:=by
 unfold J9 at q
 split at q
 ·rename_i dd cd sl ho
  split at q
  ·rename_i C' bm k0 k1 k2 k3 n k5 hm hs
   simp only [DW,beq_iff_eq,Bool.not_eq_true'] at q
   obtain ⟨⟨⟨⟨⟨rfl,rfl⟩,YW⟩,ht⟩,A7⟩,Ec⟩:=q
   obtain ⟨nm,bs,mro,ns,qn,hd,sn,sub,ab,col,del⟩:=cd
   dsimp only at hm YW A7 Ec
   subst hm YW
   obtain ⟨l⟩:=sl
   simp only at hs
   subst hs
   have G:h.Ns ns (h.nsMap ns):=.of_isNs (PySem.W.isNs_of_in X A7)
   refine ⟨bm,ns,nm,qn,bs,hd,sn,sub,ab,col,dd,k0,k1,k2,k3,k5,_,X _ _ ho,G,?_,PySem.W.tail_of_in X ht⟩
   cases G2 with
   | none=>exact PySem.W.ns_none_of X G Ec
   | some v=>
    obtain ⟨o,es,ep,oM,hd2,_,hf⟩:=G
    unfold PySem.W.nsIn at Ec
    split at Ec
    ·rename_i c d Nx n' sl q2
     have z:=X _ _ q2
     rw [oM] at z
     cases z
     cases hd2
     split at Ec
     ·rename_i e he
      rw [<- hf]
      unfold nsFind findBy
      rw [<- rM,he]
      simpa using Ec
     ·split at Ec <;> cases Ec
    ·cases Ec
  ·cases q
 ·cases q
def BO.there {P:Program}{w:World}{H:Hp}{h:Heap}{a:Addr}{o:HO}(x:BO P w H h a o):∃ u,h.get? a=some u:=by
 induction o with
 | lst xs=>obtain ⟨_,_,_,_,e⟩:=x;exact ⟨_,e⟩
 | tup xs=>obtain ⟨_,_,_,⟨_,e,_⟩,_⟩:=x;exact ⟨_,e⟩
 | dK A3=>obtain ⟨_,_,_,_,_,_,_,e,_⟩:=x;exact ⟨_,e⟩
 | dT A3=>obtain ⟨_,_,_,_,_,_,_,e,_⟩:=x;exact ⟨_,e⟩
 | set S n=>obtain ⟨_,_,_,_,e,_⟩:=x;exact ⟨_,e⟩
 | ins C dx fs=>obtain ⟨_,_,_,e,_⟩:=x;exact ⟨_,e⟩
 | own y=>exact x
 | xd fs=>obtain ⟨_,⟨_,_,_,e,_⟩,_⟩:=x;exact ⟨_,e⟩
 | met f y=>exact ⟨_,x⟩
 | OT lo hi=>obtain ⟨_,_,_,e⟩:=x;exact ⟨_,e⟩
 | CH ob u _=>exact ⟨_,x.1⟩
 | Hi ps=>exact ⟨_,x⟩
 | ext φ=>exact x.2.1
theorem B8.there {P:Program}{w:World}{H:Hp}{h:Heap}{a:Addr}{o:HO}(x:B8 P w H h) (e:H a=some o):∃ u,h.get? a=some u:=(x a o e).there
section
variable {X:Cx}{x:Str}{C:Addr}{E':St->XK}{np BJ pos:Pos}{e0:Expr}{es:List Expr}{t:TA}{E:XK}
def Goes (X:Cx) (E:St->XK):Prop:=∀ (pins:tW) (σ:St) (H':Hp) (s':Shared) (ea C:Addr) (dx tb:Option Addr),Inv X pins σ H' s'->Ey s'.heap ea (.ref C) dx tb->(H' ea=none/\X.s₀.heap.get? ea=none)->(∀ T,tb=some T->H' T=none/\X.s₀.heap.get? T=none)->
 (∀ p∈X.pn++pins,p.1≠ea/\tb≠some p.1)->E σ (.ref C) dx H'->X.xe (.ref ea) s'
end
abbrev Gx (C t:Addr) (dx:Option Addr):Obj:={ cls:=.ref C,dict:=dx,data:=.fields #[.ref t,.none,.none,.none,.bool false,.none] }
section
variable {M:Model}{A:Around}{E:Value->Shared->Prop}{env:Env}
variable {nm qn:Str}{C N:Addr}{bs bm:List Value}{hdct:Bool}{sn:List Str}{sub:List Value}{ab:Bool}{col:Option Bool}{dd:Option Addr}{k0 k1 k2 k3 k5:Option Value}{newId:String}
def oW {s:Shared}{y:Sem Value}{Q:Flow->Shared->Prop}(hb:bm.contains (.type "BaseException")=true) (hh:A.handled=none)
  (hy:wpAny M A y (fun v z=>∃ ea t dx,v=.ref ea/\z.heap.get? C=some (excClassObj nm qn C N bs bm hdct sn sub ab col dd k0 k1 k2 k3 k5 newId)/\z.heap.get? ea=some (Gx C t dx)/\E (.ref ea) z) E s) :
  wpAny M A (raiseStmt env (some y) none) Q E s:=by
 have cb:(Value.ref C :: bm).contains (.type "BaseException")=true:=by
  rw [rT,hb,Bool.or_true]
 unfold raiseStmt
 refine wpAny_bind (wpAny_mono hy (fun v z hz=>?_) fun _ _ q=>q)
 obtain ⟨ea,t,dx,rfl,oC,oe,hE⟩:=hz
 obtain ⟨hp,g,d,tk,os⟩:=z
 repeat (first
  | with_reducible refine wpAny_loadPart_at oe ?_
  | with_reducible refine wpAny_loadPart_at oC ?_
  | (with_reducible refine wpAny_isSubtype_exc oC ?_;rw [cb])
  | wp_step)
 exact wpAny_raiseNew_none hh hE
end
section
variable {prog:Program}{w:World}{A:Around}{E:Value->Shared->Prop}{h:Heap}{g:Array GenState}{d:Drawn}{t:Nat}{os:OsState}
variable {nm qn:Str}{C N:Addr}{bs bm N1:List Value}{hdct:Bool}{sn:List Str}{sub:List Value}{ab:Bool}{col:Option Bool}{dd:Option Addr}{k0 k1 k2 k3 k5:Option Value}{B newId XE:String}
def kE (F:ExcBaseFacts B newId XE N1) (T:OwnTail h N1 bm){mN:tX}{us:List Value}{fI:Addr}{oI:Obj}{Q:PySem.Fin->Shared->Prop}
  (oC:h.get? C=some (excClassObj nm qn C N bs bm hdct sn sub ab col dd k0 k1 k2 k3 k5 newId)) (hn:h.Ns N mN) (hi:mN "__init__" = some (.ref fI)) (Pw:h.get? fI=some oI) (Tt:oI.cls=.type "function") (QP:us.length<=sizeLine)
  (hq:∀ h' ea,h.objs.size<=ea->Heap.MadeExcOf h h' ea (.ref C) us->wpAny (model prog w) A (call (.ref fI) (.ref ea :: us)) (fun r s'=>r=.none/\Q (.done (.ret (.ref ea))) s') E ⟨h',g,d,t,os⟩) :
  wpAny (model prog w) A (Builtin.«type.__call__» ⟨.ref C :: us,[]⟩) Q E ⟨h,g,d,t,os⟩:=by
 repeat (first
  | with_reducible refine wpAny_loadPart_at oC ?_
  | with_reducible refine wpAny_madeBy_exc oC ?_
  | wp_step)
 refine codeAny_call_builtin_code (Code.quiet_builtin _ F.quiet) (wpAny_check_new_subT F T oC ?_)
 refine codeAny_exc_new_subT F T oC ?_ QP
 show wpAny _ _ _ _ _ _
 generalize aF:({ cls:=.type "tuple", data:=.seq us.toArray }:Obj)=o1
 generalize Gs:({ cls:=.ref C,data:=.fields #[.ref h.objs.size,.none,.none,.none,.bool false,.none] }:Obj)=o2
 have up:∀ {b:Addr}{o:Obj},h.get? b=some o->((h.push o1).push o2).get? b=some o:=fun e=>B9 _ (B9 _ e)
 have g2:((h.push o1).push o2).get? (h.objs.size+1)=some o2:=by
  rw [<- Ho h o1]
  exact Bx _ (by rw [<- Gs];rfl)
 have g1:((h.push o1).push o2).get? h.objs.size=some o1:=B9 _ (Bx h (by rw [<- aF];rfl))
 have n2:((h.push o1).push o2).Ns N mN:=hn.keeps fun b o e=>up e
 have Ya:=up oC
 have mO:=up Pw
 have T2:=T.keeps (h':=(h.push o1).push o2) fun b o e=>up e
 have cc:(Value.ref C :: bm).contains (.ref C)=true:=by simp
 have ec:o2.cls=.ref C:=by rw [<- Gs]
 unfold isInstance
 subst Gs
 repeat (first
  | with_reducible refine wpAny_loadPart_at g2 ?_
  | (with_reducible refine wpAny_isSubtype_exc Ya ?_;rw [cc])
  | wp_step)
 show wpAny _ _ (typeLookup (.ref C) _) _ _ _
 refine wpAny_typeLookup_tail Ya n2 T2 F.mroIs F.init.lookup ?_
 rw [hi]
 refine wpAny_holding (wpAny_bind ?_)
 unfold bindSpecial
 refine wpAny_bind (wpAny_typeOf (T := "function") ⟨_,mO,Tt⟩ ?_)
 rw [if_pos (by decide)]
 subst aF
 refine wpAny_pure (wpAny_bind (wpAny_mono (hq _ (h.objs.size+1) (Md _) ⟨fun b o hb=>up hb,MX (Md _),h.objs.size,g2,MX (AV _),g1⟩) (fun r s' hr=>?_) fun _ _ q=>q))
 obtain ⟨rfl,hQ⟩:=hr
 wp_walk
 exact hQ
def l9 (F:ExcBaseFacts B newId XE N1) (T:OwnTail h N1 bm){mN:tX}{us:List Value}{fI:Addr}{oI:Obj}{Q:Value->Shared->Prop}
  (oC:h.get? C=some (excClassObj nm qn C N bs bm hdct sn sub ab col dd k0 k1 k2 k3 k5 newId)) (hn:h.Ns N mN) (hi:mN "__init__" = some (.ref fI)) (Pw:h.get? fI=some oI) (Tt:oI.cls=.type "function") (QP:us.length<=sizeLine)
  (hq:∀ h' ea,h.objs.size<=ea->Heap.MadeExcOf h h' ea (.ref C) us->wpAny (model prog w) (A.under (.builtin "type.__call__" ⟨.ref C :: us,[]⟩)) (call (.ref fI) (.ref ea :: us)) (fun r s'=>r=.none/\Q (.ref ea) s') E ⟨h',g,d,t,os⟩) :
  wpAny (model prog w) A (call (.ref C) us) Q E ⟨h,g,d,t,os⟩:=by
 have f1:=tc_lookup
 have f2:=tc_bind (.ref C)
 have ty:(⟨h,g,d,t,os⟩:Shared).TypeIs (.ref C) "type" := ⟨_,oC,rfl⟩
 refine wpAny_call (codeAny_of_tree ?_)
 show wpAny _ _ (callAny (.ref C) _) _ _ _
 repeat (any_goals (first
  | assumption
  | with_reducible refine wpAny_loadPart_at oC ?_
  | wp_step))
 refine ⟨rfl,?_⟩
 exact codeAny_call_builtin_at (Code.quiet_builtin _ (by decide +kernel)) entry_typeCall (wpAny_check_type_call_sub oC (kE F T oC hn hi Pw Tt QP hq))
end
section
variable {prog:Program}{w:World}{A:Around}{E:Value->Shared->Prop}{s:Shared}{K:tV}{x C t:Addr}{name:Str}{v:Value}
def IA:List Value->Bool
 | [.type a,.type b,.type c,.type d]=>a == "ValueError" && (b == "Exception" && (c == "BaseException" && d == "object"))
 | .ref _ :: r=>IA r
 | _=>false
def fV (self:Value):PySem.refuseLoop self "__setattr__" [.type "ValueError", .type "Exception", .type "BaseException", .type "object"]=pure ():=by
 first | rfl | kernel_rfl
def Us {l:List Value}(h:IA l=true):l=[.type "ValueError", .type "Exception", .type "BaseException", .type "object"]∨∃ c r,l=.ref c :: r/\IA r=true:=by
 unfold IA at h
 split at h
 ·simp only [DW,beq_iff_eq] at h
  obtain ⟨rfl,rfl,rfl,rfl⟩:=h
  exact .inl rfl
 ·exact .inr ⟨_,_,rfl,h⟩
 ·cases h
def fG (self:Value):∀ {l:List Value},IA l=true->PySem.refuseLoop self "__setattr__" l=pure ():=by
 intro l
 induction l with
 | nil=>intro h;cases h
 | cons x r ih=>
  intro h
  rcases Us h with e | ⟨c,r',e,h'⟩
  ·rw [e];exact fV self
  ·cases e
   rw [PySem.refuseLoop_ref];exact ih h'
def mW:∀ {l:List Value},IA l=true->l.contains (.type "object")=true:=by
 intro l
 induction l with
 | nil=>intro h;cases h
 | cons x r ih=>
  intro h
  rcases Us h with e | ⟨c,r',e,h'⟩
  ·rw [e];decide
  ·cases e
   rw [rT,ih h',Bool.or_true]
def N2 (K:tV) (C:Addr):Bool:=(PySem.W.clsIn K C).any fun cd=>IA cd.mro
section
open PySem.Builtin PySem.Builtin.ObjectAttr
def kz {A:Around}{R:Result->Shared->Prop}{ox:Obj}{od:Option Obj}{name:Str}{tk:Tok}{v:Value}{r:Option Value}(X:K.In s.heap) (I:PySem.W.InstAt s.heap x ox C od) (hp:N2 K C=true) (ht:PySem.W.takerIn K C name=some r)
  (h:∀ b,wpAny (model prog w) A.in1 (match r with | some a=>setByDescriptor a (.ref x) v | none=>storeInOwnDict (.ref x) (.ref C) (.str name tk) name v b)
   (fun fin s'=>match fin with | .done f=>R (.ok f) s' | .again c'=>c'.quiet=true/\codeAny (model prog w) A c' R s') (fun e s'=>R (.error e) s') s) :
  codeAny (model prog w) A (.call (.builtin "object.__setattr__") ⟨[.ref x,.str name tk,v],[]⟩) R s:=by
 have SF:=PySem.F.store_object
 obtain ⟨cd,hc,ho⟩:=aw hp
 have ne:cd.mro.isEmpty=false:=by cases q:cd.mro with | nil=>rw [q] at ho;cases ho | cons _ _=>rfl
 have sub:PySem.W.Looks (model prog w) s.heap (isInstance (.ref x) (.type "object")) true:=I.type.andThen (sS X (by unfold PySem.W.mroIn;rw [hc,aj,if_neg (by rw [ne];decide),mW ho]))
 refine codeAny_call_builtin SF.slot.plain SF.entry (@PySem.W.check_slot (model prog w) _ _ s "object.__setattr__" "object" "__setattr__" (.ref x) [.str name tk,v] [] _ SF.kind SF.split sub (SF.args (.ref x) (.str name tk) v) ?_)
 obtain ⟨attr,ha,hr⟩:=Option.bind_eq_some_iff.mp ht
 have hm:PySem.W.Looks (model prog w) s.heap (mroOf (.ref C)) cd.mro:=(ax X hc).andThen .now
 have L3:PySem.W.Looks (model prog w) s.heap (storeTaker? attr) r:=by
  cases attr with
  | none=>cases hr;exact .now
  | some a=>
   obtain ⟨b,hb,rfl⟩:=Option.map_eq_some_iff.mp hr
   refine (PySem.W.looks_takesIn X hb).andThen ?_
   cases b <;> exact .now
 rw [PySem.W.osa_eq,PySem.refuse_eq]
 refine wpAny_bind (wpAny_bind (I.type.here (wpAny_bind (hm.here ?_))))
 rw [fG _ ho]
 refine wpAny_pure (wpAny_bind (I.type.here (wpAny_bind ((Ui X ha).here (wpAny_bind (L3.here ?_))))))
 exact h _
end
def nO (h:Heap):(h.push { cls:=.type "dict", data:=.dict #[] }).Ns1 h.objs.size (fun _=>none):=by
 refine ⟨_,#[],_,Bx h rfl,rfl,?_⟩
 refine ⟨fun e he=>?_,?_,fun _=>rfl⟩
 ·simp at he
 ·simp [UniqKeys]
def nP {Q:Unit->Shared->Prop}(X:K.In s.heap) (ho:s.heap.get? x=some (Gx C t none))
  (hs:PySem.W.findIn K (.ref C) "__setattr__" = some (some (.builtin "object.__setattr__"))) (hp:N2 K C=true) (ht:PySem.W.takerIn K C name=some none) (hh:PySem.W.hasDictIn K C=true)
  (h:∀ h' d,s.heap.objs.size<=d->h'.get? x=some (Gx C t (some d))->h'.Ns1 d (fun y=>if y=name then some v else none)->(∀ b o,b≠x->s.heap.get? b=some o->h'.get? b=some o)->s.heap.objs.size<=h'.objs.size->Q () { s with heap:=h',toks:=s.toks+2 }) :
  wpAny (model prog w) A (setAttr (.ref x) name v) Q E s:=by
 have J:PySem.W.InstAt s.heap x (Gx C t none) C none:=⟨ho,rfl,rfl,trivial⟩
 refine sT X J hs (kz (s:={ s with toks:=s.toks+1 }) (r:=none) X J hp ht fun b=>?_)
 obtain ⟨cd,hc,LZ⟩:=aw hh
 refine wpAny_bind (wpAny_pure (wpAny_bind (wpAny_bind (wpAny_loadPart ho (wpAny_bind (sL (s:={ s with toks:=s.toks+1 }) (ax X hc) ?_))))))
 rw [LZ,if_neg (by decide)]
 show wpAny _ _ (do
  let d <- alloc { cls:=Value.type "dict", data:=Data.dict #[] }
  update x fun o=>{ o with dict:=some d }
  dictMade (Value.ref C) x d) _ _ _
 have Y2:x < s.heap.objs.size:=AY ho
 refine wpAny_bind (wpAny_alloc (wpAny_bind (wpAny_update (B9 _ ho) ?_)))
 refine wpAny_bind (wpAny_pure (wpAny_pure ?_))
 generalize Ny:((s.heap.push { cls:=Value.type "dict", data:=Data.dict #[] }).update x fun o=>{ o with dict:=some s.heap.objs.size })=g
 have gx:g.get? x=some (Gx C t (some s.heap.objs.size)):=by
  rw [<- Ny]
  exact G6 _ (B9 _ ho) rfl
 have gb:∀ b o,b≠x->s.heap.get? b=some o->g.get? b=some o:=fun b o hb e=>by
  rw [<- Ny,Dn _ _ (Ah hb)]
  exact B9 _ e
 have gz:g.objs.size=s.heap.objs.size+1:=by rw [<- Ny,MY,Ho]
 have gd:g.Ns1 s.heap.objs.size (fun _=>none):=(nO s.heap).at fun o e=>by
  rw [<- Ny,Dn _ _ (BP Y2)];exact e
 refine wpAny_bind (wpAny_pure (wpAny_bind ?_))
 refine wpAny_nsSet1 (s:=⟨g,s.gens,s.drawn,s.toks+1,s.os⟩) gd fun h' Dd BD=>?_
 obtain ⟨oD,kI,lP,Pa,Q4,FI⟩:=Dd.count (sU (ns:=[]) name v PySem.Within.nil)
 refine wpAny_bind (wpAny_lookBehind Pa (by rw [Q4];exact pastItsLine_dict (Bt FI (Nat.succ_le_succ (Cj _)))) ?_)
 exact wpAny_pure (h h' s.heap.objs.size (AV _) ((BD.2 x (BP Y2)).trans gx) Dd (fun b o hb e=>(BD.2 b (BP (AY e))).trans (gb b o hb e)) (by rw [BD.1,gz];exact Md _))
end
def DN (ea C:Addr) (dx:Option Addr):HO:=.ext fun h=>∃ t,h.get? ea=some (Gx C t dx)
section
variable {X:Cx}{pins:tW}{σ:St} {H:Hp}{s:Shared}
def U0 {P:Program}{w:World}{h:Heap}{ea C t:Addr}{dx:Option Addr}(e:h.get? ea=some (Gx C t dx)):BO P w H h ea (DN ea C dx):=
 ⟨⟨t,e⟩,⟨_,e⟩,fun _ _ ⟨t',e'⟩ k=>⟨t',k _ e'⟩⟩
def Inv.exc (I:Inv X pins σ H s){ea C:Addr}{dx:Option Addr}(e:H ea=some (DN ea C dx)):∃ t,s.heap.get? ea=some (Gx C t dx):=(I.A7 ea _ e).1
def Inv.kx {h':Heap}{t':Nat}{ea C t:Addr}{dx dx':Option Addr}(I:Inv X pins σ H s) (e:H ea=some (DN ea C dx)) (k:∀ b u,b≠ea->s.heap.get? b=some u->h'.get? b=some u) (he:h'.get? ea=some (Gx C t dx')) :
  Inv X pins σ (upd H ea (DN ea C dx')) { s with heap:=h',toks:=t' }:=by
 have mu:Jf (H ea):=by rw [e];trivial
 exact I.write mu (.inl rfl) k ⟨_,he⟩ (U0 he)
end
def N4:V->Prop
 | .str x=>(reprText x).length<=100000
 | .int i=>i.natAbs.log2 < 1920
 | _=>False
section
variable {X:Cx}{e:Expr}{te:TE}{pos p1 p2 p3:Pos}{k1 k2:Nat}{c1 c2:Str}
def dQ {pins:tW}{s:Shared}{σ:St} {H:Hp}{R:St->Hp->Prop}(he:PE X e te) (I:Inv X pins σ H s) (h:te σ H fun v H1=>N4 v/\R σ H1){Q:Value->Shared->Prop}
  (hQ:∀ y t s1 H1,y.length<=200000->Inv X pins σ H1 s1->R σ H1->Q (.str y t) s1):wpAny (model X.prog X.w) X.A (eval (.FormattedValue e 114 none pos) X.env) Q X.xe s:=by
 refine wpAny_FormattedValue_repr (AE (he pins s σ H _ I h) fun u s1 ⟨v,H1,I1,rv,sv,hR⟩=>?_)
 cases v with
 | str x=>
  obtain ⟨t,rfl⟩:=rv
  have sz:(reprText x).length<=sizeLine:=Bt sv (by decide +kernel)
  refine wpAny_pyReprObj_str ?_ sz
  refine wpAny_formatField_str ?_ ?_ sz
  ·exact hQ _ _ _ H1 (Bt sv (by decide)) (I1.tok _) hR
  ·exact hQ _ _ _ H1 (Bt sv (by decide)) (I1.tok _) hR
 | int i=>
  obtain ⟨t,rfl⟩:=rv
  have l1:(Str.ofString (toString i)).length<=sizeLine:=int_text_fits sv
  have MR:i.natAbs.log2 < 1920:=sv
  have l2:(Str.ofString (toString i)).length<=200000:=by
   have h1:i.natAbs < 10 ^ 600:=by
    by_cases z:i.natAbs=0
    ·rw [z];decide +kernel
    ·exact ai ((Nat.log2_lt z).mp MR) (by decide +kernel)
   have e:=int_text_length_le10 (k:=600) (by decide) h1
   clear h1
   rw [PySem.ofString_length];omega
  refine wpAny_pyReprObj_gives (typeIs_int _ i t) F.slot_int_repr F.entry_int_repr (F.args_int_repr_1 _) (gives_int_repr i t sv) ?_ rfl l1
  refine wpAny_formatField_str ?_ ?_ l1
  ·exact hQ _ _ _ H1 l2 (I1.tok _) hR
  ·exact hQ _ _ _ H1 l2 (I1.tok _) hR
 | _=>exact sv.elim
def Y4 (te:TE):TE:=fun σ H Q=>te σ H fun v H1=>N4 v/\∀ y,Q (.str y) H1
def len_app (a b:Str):(a++b).length=a.length+b.length:=strLen_append a b
def nW (he:PE X e te) (h1:c1.length<=1000):PE X (.JoinedStr [.Constant (.str c1) k1 p1,.FormattedValue e 114 none p2] pos) (Y4 te):=by
 intro pins s σ H Q I h
 have z0:(Str.empty++c1).length<=1000:=by rw [len_app];show 0+_<=_;omega
 refine wpAny_JoinedStr (show wpAny _ _ (eval (.Constant (.str c1) k1 p1) X.env) _ _ s from fun _ _ _=>⟨c1,_,rfl,Bt z0 (by decide +kernel),?_⟩)
 refine dQ (R:=fun _ H1=>∀ y,Q (.str y) H1) he (I.tok _) h fun y t s1 H1 hy I1 hR=>⟨y,t,rfl,?_,?_,?_⟩
 ·rw [len_app];exact Bt (show _<=201000 by omega) (by decide +kernel)
 ·rw [len_app];exact Bt (show _<=201000 by omega) (by decide +kernel)
 ·exact ⟨.str _,H1,I1.tok _,⟨_,rfl⟩,hR _⟩
end
structure YB (K:tV) (S:Addr):Prop where
 ga:PySem.W.specialIn K (.ref S) "__getattribute__" = some (some (.builtin "type.__getattribute__"))
 rd:PySem.W.readsIn K S (.type "type")=true
 fd:PySem.W.findCls K (.ref S) (.type "type") "__init__" = some (.val (.builtin "ValueError.__init__"))
 hd:PySem.W.handedIn (.builtin "ValueError.__init__")=true
structure M8 (K:tV) (C fI:Addr) (fld:Str):Prop where
 ex:J9 K C (some (.ref fI))=true
 sa:PySem.W.findIn K (.ref C) "__setattr__" = some (some (.builtin "object.__setattr__"))
 po:N2 K C=true
 tk:PySem.W.takerIn K C fld=some none
 hd:PySem.W.hasDictIn K C=true
 fn:PySem.W.isFn K (.ref fI)=true
 kp:PySem.W.keepIn K (.ref C)=true
def Vc {x:V}{xs:List V}{us:List Value}(r:Vals (x :: xs) us):∃ u Ap,us=u :: Ap/\RelV x u/\Vals xs Ap:=by
 cases r with
 | cons a b=>exact ⟨_,_,rfl,a,b⟩
def oP {H:Hp}{a:Addr}{o:HO}(h:H a=some o):upd H a o=H:=by
 funext b
 unfold upd
 split
 ·rename_i e;rw [e,h]
 ·rfl
section
variable {X:Cx}{S C fI:Addr}{fld:Str}{G2:Option Value}
def qk {pins:tW}{σ:St} {H:Hp}{s:Shared}{ea t:Addr}{u:Value}{Q:Value->Shared->Prop}(I:Inv X pins σ H s) (hx:H ea=some (DN ea C none)) (q:J9 X.K C G2=true)
  (hQ:∀ s',Inv X pins σ H s'->Q .none s'):wpAny (model X.prog X.w) X.A (call (.builtin "ValueError.__init__") [.ref ea,u]) Q X.xe s:=by
 obtain ⟨t0,ho⟩:=I.exc hx
 obtain ⟨bm,N,nm,qn,bs,hdct,sn,sub,ab,col,dd,k0,k1,k2,k3,k5,mN,hC,hN,Ec,T⟩:=(PX I.B3 q).obj
 have F:=sI
 have HJ:H C=none:=by
  cases z:X.base.get? C with
  | some o=>exact (I.bs C o z).2
  | none=>
   obtain ⟨_,_,_,_,_,_,_,_,_,_,_,_,_,_,_,_,_,Yh,_⟩:=(PX I.mod.GA q).obj
   rw [z] at Yh;cases Yh
 obtain ⟨hp,g,d,tk,os⟩:=s
 refine wpAny_call (codeAny_call_builtin F.init.plain F.initEntry (wpAny_check_init_subT F T hC ho rfl ?_))
 wp_walk
 refine hQ _ ?_
 have I2:=I.kx (h':=(hp.push { cls:=Value.type "tuple", data:=Data.seq #[u] }).update ea (Obj.mapFields fun x=>x.setIfInBounds 0 (Value.ref hp.objs.size))) (t':=tk) (t:=hp.objs.size) (dx':=none) hx (fun b u' hb e=>by
  rw [Dn _ _ (Ah hb)]
  exact B9 _ e) (by
  rw [G6 _ (B9 _ ho) rfl]
  rfl)
 rw [oP hx] at I2
 exact I2
def W9 (C:Addr) (t:TA):TE:=fun σ H Q=>t σ H fun vs H1=>∃ ea v,vs=[.ref ea,v]/\H1 ea=some (DN ea C none)/\Q .A4 H1
def qN {pl:Sem Bool}{x:Str}{p apos pos:Pos}{e:Expr}{es:List Expr}{t:TA}(sp:YB X.K S) (hg:Gl X x) (hm:X.mg x=some (.ref S)) (q:J9 X.K C G2=true) (ha:PA X (e :: es) t)
  (Ax:(x == ("__debug__" : Str))=false:=by decide) (Bp:starEach (e :: es) X.env=(false,eval e X.env) :: starEach es X.env:=by rfl) (B1:(backTo pos (starEach es X.env)).any (·.1)=false:=by rfl)
  (ht:eval (.Call (.Attribute (.Name x p) "__init__" apos) (e :: es) [] pos) X.env=(do
   let ov <- eval (.Name x p) X.env
   standAt apos.atName
   let (f,first) <- holding [ov] (getMethod ov "__init__" pl)
   callWith pos f first (backTo pos (starEach (e :: es) X.env)) (backToKw pos (keywordEach [] X.env))):=by rfl) :
  PE X (.Call (.Attribute (.Name x p) "__init__" apos) (e :: es) [] pos) (W9 C t):=by
 intro pins s σ H Q I h
 refine ay (pl:=pl) (Il I hg hm ?_ Ax) ht
 refine PySem.W.method_cls I.B3 sp.ga (PySem.W.cls_value I.B3 sp.rd sp.fd sp.hd ?_)
 have hA:=ha pos pins { s with toks:=s.toks+1 } σ H _ (I.tok _) h
 show wpAny _ _ (callWith pos (.builtin "ValueError.__init__") [] (backTo pos (starEach (e :: es) X.env)) _) _ _ _
 rw [Bp] at hA ⊢
 refine rP (by show (false || (backTo pos (starEach es X.env)).any (·.1))=false;rw [B1] <;> rfl) (Calls.evalArgs_plain ?_)
 refine AE hA fun us s2 ⟨vs,H2,I2,r2,ea,v,ev,hx,hQ⟩=>?_
 subst ev
 obtain ⟨u1,t8,rfl,ru,r3⟩:=Vc r2
 obtain ⟨u2,tK,rfl,sf,r4⟩:=Vc r3
 cases r4
 cases (show u1=Value.ref ea from ru)
 exact qk (t:=ea) I2 hx q fun s' I'=>⟨.A4,H2,I',rfl,hQ⟩
def X1 (C:Addr) (f:Str) (ta tv:TE):TS:=fun D σ H=>tv σ H fun y H1=>ta σ H1 fun x H2=>∃ ea,x=.ref ea/\H2 ea=some (DN ea C none)/\∀ d,H2 d=none->D.nx σ (upd (upd H2 d (.xd [(f,y)])) ea (DN ea C (some d)))
def pV {o value:Expr}{pos pos':Pos}{ta tv:TE}(c:M8 X.K C fI fld) (ha:PE X o ta) (hv:PE X value tv) (hs:swapsWith value (some (.Attribute o fld pos')) pos.line X.env=pure false):PS X (.Assign [.Attribute o fld pos'] value pos) (X1 C fld ta tv):=by
 intro pins s σ H D I h
 refine plainObj_wpAny_Assign_Attribute (AE (hv pins s σ H _ I h) fun u s1 ⟨y,H1,I1,ry,q⟩=>AE (ha pins s1 σ H1 _ I1 q) fun ov s2 ⟨x,H2,I2,rx,ea,ex,hx,q2⟩=>?_) hs
 subst ex
 obtain rfl:ov=Value.ref ea:=rx
 obtain ⟨t0,ho⟩:=I2.exc hx
 refine nP I2.B3 ho c.sa c.po c.tk c.hd fun h' d hd he hn k hz=>?_
 have HM:H2 d=none:=I2.A7.fresh hd
 have JV:d≠ea:=by rintro rfl;rw [hx] at HM;cases HM
 refine ⟨σ,_,I2.un (t':=s2.toks+2) (h':=h') ⟨fun b o e n _ _=>k b o (by rintro rfl;rw [hx] at n;cases n) e,fun b o e n _ _=>⟨o.slots,k b o (by rintro rfl;rw [hx] at n;cases n) e⟩,fun b o e n _=>?_,fun b o e _=>?_,fun b xs e=>?_,fun b o' u' e=>?_,fun b ps e=>?_⟩ ?_,q2 d HM⟩
 ·rw [AF (by rintro rfl;rw [hx] at n;cases n),AF (by rintro rfl;exact absurd (AY e) (Nat.not_lt.mpr hd))];exact n
 ·by_cases z:b=ea
  ·subst z;exact ⟨_,he⟩
  ·exact ⟨o,k b o z e⟩
 ·rw [AF (by rintro rfl;rw [hx] at e;cases e),AF (Bu e HM)];exact e
 ·rw [AF (by rintro rfl;rw [hx] at e;cases e),AF (Bu e HM)];exact e
 ·exact ⟨#[],by rw [AF (by rintro rfl;rw [hx] at e;cases e),AF (Bu e HM),e];simp⟩
 ·intro b o e
  by_cases z:b=ea
  ·subst z;rw [AN] at e;cases e;exact U0 he
  ·rw [AF z] at e
   by_cases z2:b=d
   ·subst z2
    rw [AN] at e;cases e
    refine ⟨_,hn,fun f'=>?_⟩
    by_cases ef:f'=fld
    ·subst ef
     rw [if_pos rfl,rk]
     exact ry
    ·rw [if_neg ef,HD]
     rw [show (f' == fld)=false from by simpa using ef]
     exact trivial
   ·rw [AF z2] at e
    refine (I2.A7 b o e).Ea (fun c u' hc hu=>k c u' ?_ hu) (fun c hc=>?_) fun c xs hc=>?_
    ·rcases hc with rfl | hc
     ·exact z
     ·rintro rfl;rw [hx] at hc;cases hc
    ·rw [AF (by rintro rfl;rw [hx] at hc;cases hc),AF (Bu hc HM)];exact hc
    ·rw [AF (by rintro rfl;rw [hx] at hc;cases hc),AF (Bu hc HM)];exact hc
end
def Jq (C:Addr) (fld:Str):Sp:=fun vs H Q _=>∃ (ea:Addr) (v:V),vs=[.ref ea,v]/\N4 v/\H ea=some (DN ea C none)/\∀ d,H d=none->Q .A4 (upd (upd H d (.xd [(fld,v)])) ea (DN ea C (some d)))
def Nf (C:Addr) (fld:Str) (E:St->XK) (t:TA):TS:=fun _ σ H=>t σ H fun vs H1=>∃ v,vs=[v]/\N4 v/\∀ d,H1 d=none->E σ (.ref C) (some d) (upd H1 d (.xd [(fld,v)]))
def KD (H:Hp) (a:Addr):Hp:=fun b=>if b=a then none else H b
def Nl {H:Hp}{a b:Addr}(h:b≠a):KD H a b=H b:=if_neg h
def Sr {H:Hp}{a:Addr}:KD H a a=none:=if_pos rfl
section
variable {X:Cx}{pins:tW}{σ:St} {H:Hp}{s:Shared}
def Inv.forget (I:Inv X pins σ H s){a:Addr}{φ:Heap->Prop} (e:H a=some (.ext φ)) (hp:∀ p∈X.pn++pins,p.1≠a):Inv X pins σ (KD H a) s:=by
 have keep:∀ b o,b≠a->H b=o->KD H a b=o:=fun b o h q=>by rw [Nl h];exact q
 have N3:∀ b,H b=none->KD H a b=none:=fun b q=>by
  by_cases z:b=a
  ·subst z;exact Sr
  ·rw [Nl z];exact q
 refine ⟨I.ok,I.os,I.bare,⟨I.base.keep,I.base.slot,fun b o q n hx=>N3 b (I.base.free b o q n hx),I.base.there,fun b xs q=>?_,fun b o u q=>?_,fun b ps q=>?_⟩,I.loc,I.cell,N3 _ I.free,fun x c q=>N3 c (I.CW x c q),fun p DU=>?_,fun b o q=>?_,I.len⟩
 ·have z:=I.base.EJ b xs q
  exact keep b _ (by rintro rfl;rw [e] at z;cases z) z
 ·have z:=I.base.Ds b o u q
  exact keep b _ (by rintro rfl;rw [e] at z;cases z) z
 ·obtain ⟨m,z⟩:=I.base.ES b ps q
  exact ⟨m,keep b _ (by rintro rfl;rw [e] at z;cases z) z⟩
 ·obtain ⟨h1,h2,h3⟩:=I.pin p DU
  exact ⟨h1,N3 _ h2,h3⟩
 ·have hb:b≠a:=by rintro rfl;rw [Sr] at q;cases q
  rw [Nl hb] at q
  refine (I.A7 b o q).Ea (fun c u _ hu=>hu) (fun c hc=>keep c _ (by rintro rfl;rw [e] at hc;cases hc) hc) fun c xs hc=>keep c _ (by rintro rfl;rw [e] at hc;cases hc) hc
end
section
variable {X:Cx}{x:Str}{C fI:Addr}{fld par:Str}{E':St->XK}{np BJ pos:Pos}{e0:Expr}{t:TA}{kk:Nat}{fd:FuncData}
def pN (c:M8 X.K C fI fld) (hg:Gl X x) (hm:X.mg x=some (.ref C)) (Fn:Ba X.prog X.w X.K X.mg X.base DQ kk fI fd ["self", par] (Jq C fld)) (hb:Binds X.K fd ["self", par] []) (hr:Au (kk+1) X.A) (hc:X.calm=true) (hex:X.ex=[]) (go:Goes X E') (ha:PA X [e0] t)
  (Ax:(x == ("__debug__" : Str))=false:=by decide) (he:starEach [e0] X.env=(false,eval e0 X.env) :: starEach [] X.env:=by rfl) (B1:(backTo BJ (starEach [] X.env)).any (·.1)=false:=by rfl) :
  PS X (.Raise (some (.Call (.Name x np) [e0] [] BJ)) none pos) (Nf C fld E' t):=by
 intro pins s σ H D I h
 obtain ⟨bm,N,nm,qn,bs,hdct,sn,sub,ab,col,dd,k0,k1,k2,k3,k5,mN,hC,hN,Ec,T⟩:=(PX I.mod.GA c.ex).obj
 rw [arm_exec_Raise]
 show wpAny _ _ (do standAt pos;raiseStmt X.env (some (do let v <- eval (.Call (.Name x np) [e0] [] BJ) X.env;standAt pos;pure v)) none) _ _ s
 refine wpAny_bind (wpAny_standAt (oW (C:=C) (nm:=nm) (qn:=qn) (N:=N) (bs:=bs) (bm:=bm) (hdct:=hdct) (sn:=sn) (sub:=sub) (ab:=ab) (col:=col) (dd:=dd) (k0:=k0) (k1:=k1) (k2:=k2) (k3:=k3) (k5:=k5) (newId := "ValueError.__new__") (T.hasType rfl) (I.ok.hd hc) (wpAny_bind ?_)))
 refine wpAny_Call_Name_kw (Il I hg hm ?_ Ax)
 refine Om (h₀:=X.base) I.ok.mod.GA c.kp (AE (ha BJ pins s σ H _ I h) fun us s1 ⟨vs,H1,I1,r,v,ev,sv,hE⟩=>⟨I1.B3,?_⟩) he B1
 subst ev
 obtain ⟨u,rfl,rv⟩:=vals1 r
 obtain ⟨hp,g,d,tk,os⟩:=s1
 have Kl:∃ oI,hp.get? fI=some oI/\oI.cls=.type "function" := by
  have z:=beq_iff_eq.mp c.fn
  unfold PySem.W.typeIn at z
  obtain ⟨o,ho,hc⟩:=Option.map_eq_some_iff.mp z
  exact ⟨o,I1.B3 _ _ ho,hc⟩
 obtain ⟨oI,qr,Nk⟩:=Kl
 refine l9 sI (T.keeps I1.bk) (I1.bk _ _ hC) (hN.keeps I1.bk) Ec qr Nk (by show 1<=sizeLine;decide +kernel) fun h' ea Hl YC=>?_
 obtain ⟨t',bZ,_,_⟩:=YC.there
 have Fy:H1 ea=none:=I1.A7.fresh Hl
 have I2:Inv X pins σ (upd H1 ea (DN ea C none)) ⟨h',g,d,tk,os⟩:=I1.laid (t':=tk) YC.keeps Hl (U0 bZ)
 have q0:Jq C fld ([.ref ea,v]++[]) (upd H1 ea (DN ea C none)) (fun w H3=>w=.A4/\∃ d,H1 d=none/\d≠ea/\H3=upd (upd (upd H1 ea (DN ea C none)) d (.xd [(fld,v)])) ea (DN ea C (some d))) E0:=
  ⟨ea,v,rfl,sv,AN,fun d hd=>by
   have JV:d≠ea:=by rintro rfl;rw [AN] at hd;cases hd
   rw [AF JV] at hd
   exact ⟨rfl,d,hd,JV,rfl⟩⟩
 refine wpAny_call (codeAny_mono (Fn.run _ X.stack _ _ ⟨[.ref ea,u],[]⟩ [.ref ea,u] [.ref ea,v] _ E0 (hr.make C [u] []) (I2.KY.make C [u] []) (hb _ [.ref ea,u] I2.B3 rfl) (.cons rfl (.cons rv .nil)) q0) fun rr s' hq=>?_)
 cases rr with
 | error e=>exact False.elim hq
 | ok fl=>
  cases fl with
  | ret ur=>
   obtain ⟨w3,H3,I3,dC,ew,d3,pG,JV,eH⟩:=I2.after hq
   subst ew;subst eH
   cases (show ur=Value.none from dC)
   refine ⟨rfl,wpAny_bind (wpAny_standAt (wpAny_pure ?_))⟩
   obtain ⟨t3,o3⟩:=I3.exc (C:=C) (dx:=some d3) AN
   refine ⟨ea,t3,some d3,rfl,I3.bk _ _ hC,o3,?_⟩
   have W4:∀ p∈X.pn++pins,p.1≠ea:=fun p DU z=>by
    have:=AY (I1.pin p DU).1
    rw [z] at this
    exact absurd this (Nat.not_lt.mpr Hl)
   have I4:=I3.forget (a:=ea) AN W4
   have gy:KD (upd (upd (upd H1 ea (DN ea C none)) d3 (.xd [(fld,v)])) ea (DN ea C (some d3))) ea=upd H1 d3 (.xd [(fld,v)]):=by
    funext b
    by_cases z:b=ea
    ·subst z;rw [Sr,AF (Ah JV),Fy]
    ·rw [Nl z,AF z]
     by_cases z2:b=d3
     ·subst z2;rw [AN,AN]
     ·rw [AF z2,AF z2,AF z]
   rw [gy] at I4
   refine go pins σ _ s' ea C (some d3) none I4 ⟨⟨_,_,o3,rfl,rfl,rfl,by simp,rfl⟩,fun T z=>by cases z⟩ ⟨by rw [AF (Ah JV)];exact Fy,?_⟩ (fun T z=>by cases z) (fun p DU=>⟨W4 p DU,by simp⟩) (hE d3 pG)
   exact MX (Bt I1.sz Hl)
  | next=>exact False.elim hq
  | brk=>exact False.elim hq
  | cont=>exact False.elim hq
end
section
variable {X:Cx}{pins:tW}{σ:St} {H:Hp}{s:Shared}{ea:Addr}{C:Value}{dx tb:Option Addr}
def Inv.Yb (I:Inv X pins σ H s) (Bp:X.stack=X.env :: X.outer) (x:Ey s.heap ea C dx tb) (u1:H ea=none) (u2:X.s₀.heap.get? ea=none) (ut:∀ T,tb=some T->H T=none/\X.s₀.heap.get? T=none)
  (hp:∀ p∈X.pn++pins,p.1≠ea/\tb≠some p.1){h':Heap}(kp:Kp (X.env :: X.outer) ea tb s.heap h'):Inv X pins σ H { s with heap:=h' }:=by
 obtain ⟨oe,vs,he,_,_,gW,_⟩:=x.obj
 have mem:∀ b,b∈Bj (X.env :: X.outer)->b=X.env.locals∨b∈X.fs:=fun b hb=>by
  rw [<- Bp] at hb
  exact List.mem_cons.mp (I.JX b hb)
 have VS:∀ b,b=X.env.locals∨b∈X.fs->b∈Bj (X.env :: X.outer):=fun b hb=>by
  have hf:X.env.frame=some X.env.locals:=by
   rcases I.ok.GL with e | ⟨_,hf⟩
   ·rw [e] at Bp
    exact absurd (congrArg List.length Bp) (by simp)
   ·exact hf
  unfold Bj
  rw [Oe,hf]
  rcases hb with rfl | hb
  ·exact J0
  ·exact Fe _ hb
 have plain:∀ b o,s.heap.get? b=some o->(∀ vs,o.data≠.fields vs)->∃ sl,h'.get? b=some { o with slots:=sl }:=fun b o hb hd=>by
  by_cases hf:b∈Bj (X.env :: X.outer)
  ·exact kp.slot b o hb hf
  ·refine ⟨o.slots,kp.keep b o hb hf (by rintro rfl;rw [he] at hb;cases hb;exact hd _ gW) fun z=>?_⟩
   obtain ⟨_,oT,ts,hT,Ew,_⟩:=x.ent b z
   rw [hT] at hb;cases hb;exact hd _ Ew
 have old:∀ b o,s.heap.get? b=some o->H b≠none->h'.get? b=some o:=fun b o hb hn=>kp.keep b o hb (fun z=>hn (I.Kr b (by rw [Bp];exact z))) (fun z=>hn (z▸u1)) fun z=>hn (ut b z).1
 have low:∀ b o,X.s₀.heap.get? b=some o->b≠X.env.locals:=fun b o hb z=>absurd (AY hb) (Nat.not_lt.mpr (z▸I.ok.above))
 have Um:∀ c v,s.heap.IsCell c v->h'.IsCell c v:=fun c v ⟨o,ho,hd⟩=>by
  obtain ⟨sl,h1⟩:=plain c o ho (by rw [hd];intro vs z;cases z)
  exact ⟨_,h1,hd⟩
 refine ⟨I.ok,I.os,I.bare,⟨fun b o hb hn hf hx=>?_,fun b o hb hn hf hx=>?_,I.base.free,fun b o hb hx=>?_,I.base.EJ,I.base.Ds,I.base.ES⟩,?_,fun y c q=>?_,I.free,I.CW,fun p DU=>?_,I.A7.Zc fun b u hn hb=>old b u hb hn,I.len⟩
 ·exact kp.keep b o (I.base.keep b o hb hn hf hx) (fun z=>(mem b z).elim (low b o hb) hf) (by rintro rfl;rw [u2] at hb;cases hb) fun z=>by rw [(ut b z).2] at hb;cases hb
 ·obtain ⟨sl,h1⟩:=I.base.slot b o hb hn hf hx
  obtain ⟨M7,h2⟩:=kp.slot b _ h1 (VS b (.inr hf))
  exact ⟨M7,h2⟩
 ·obtain ⟨o1,h1⟩:=I.base.there b o hb hx
  by_cases hf:b∈Bj (X.env :: X.outer)
  ·obtain ⟨M7,h2⟩:=kp.slot b _ h1 hf
   exact ⟨_,h2⟩
  ·exact ⟨o1,kp.keep b o1 h1 hf (by rintro rfl;rw [u2] at hb;cases hb) fun z=>by rw [(ut b z).2] at hb;cases hb⟩
 ·obtain ⟨m,⟨o,es,ep,ho,r⟩,hl⟩:=I.loc
  obtain ⟨sl,h1⟩:=kp.slot _ _ ho (VS _ (.inl rfl))
  refine ⟨m,⟨_,es,ep,h1,r⟩,fun i y v hi hv hy=>?_⟩
  obtain ⟨u,ru,lk⟩:=hl i y v hi hv hy
  refine ⟨u,ru,?_⟩
  rcases lk with lk | ⟨k,c,hc,ic⟩
  ·exact .inl lk
  ·exact .inr ⟨k,c,hc,Um c _ ic⟩
 ·obtain ⟨v,hv⟩:=I.cell y c q
  exact ⟨v,Um c v hv⟩
 ·obtain ⟨h1,h2,h3,h4,h5⟩:=I.pin p DU
  exact ⟨kp.keep _ _ h1 (fun z=>(mem _ z).elim h3 h4) (hp p DU).1 (hp p DU).2,h2,h3,h4,h5⟩
def iL {M:Model}{A:Around}{E:Value->Shared->Prop}{Q:Unit->Shared->Prop}{l:List Env}(x:Ey s.heap ea C dx tb) (hl:∀ b∈Bj l,∃ o,s.heap.get? b=some o/\∀ vs,o.data≠.fields vs)
  (h:∀ h',Kp l ea tb s.heap h'->Ey h' ea C dx tb->Q () { s with heap:=h' }):wpAny M A (setFlight (.ref ea) none) Q E s:=by
 obtain ⟨oe,vs,he,hc,hd,FJ,hz,h1⟩:=x.obj
 unfold setFlight
 refine wpAny_bind (wpAny_field he FJ h1 ?_)
 cases tb with
 | none=>
  rw [if_neg (by decide)]
  exact wpAny_pure (h s.heap ⟨fun b o hb _ _ _=>hb,fun b o hb _=>⟨o.slots,hb⟩,AV _⟩ x)
 | some T=>
  obtain ⟨Hc,oT,ts,hT,Ew,tz,h3⟩:=x.ent T rfl
  rw [if_pos (show ((some T).elim Value.none Value.ref != Value.none)=true from by simp)]
  have FV:∀ b,b≠T->(s.heap.update T (Obj.mapFields (·.setIfInBounds 3 Value.none))).get? b=s.heap.get? b:=fun b hb=>Dn _ _ (Ah hb)
  have Jr:=G6 (Obj.mapFields (·.setIfInBounds 3 Value.none)) hT (Ol (J5 Ew _))
  refine wpAny_setField hT Ew tz (h _ ⟨fun b o hb _ _ SH=>(FV b (by rintro rfl;exact SH rfl)).trans hb,fun b o hb JE=>⟨o.slots,(FV b ?_).trans hb⟩,by rw [MY];exact AV _⟩ ⟨⟨oe,vs,(FV ea (Ah Hc)).trans he,hc,hd,FJ,hz,h1⟩,fun T' eT=>?_⟩)
  ·rintro rfl
   obtain ⟨o',D3,hn⟩:=hl b JE
   rw [hT] at D3;cases D3
   exact hn ts Ew
  ·cases eT
   exact ⟨Hc,_,_,Jr,J5 Ew _,by simpa using tz,by simp [tz]⟩
end
section
variable {X:Cx}{pins:tW}{σ:St} {H:Hp}{s:Shared}{ea C:Addr}{dx tb:Option Addr}
def Inv.unbind {j:Nat}{n:Str}{pos:Pos}{M:Model}{A:Around}{E:Value->Shared->Prop}{Q:Unit->Shared->Prop}(I:Inv X pins σ H s) (hN:X.N.Nodup) (hj:X.N[j]?=some n) (hk:X.env.scope.names.lookup n=some .local)
  (h:∀ s',Inv X pins (σ.set j none) H s'->Q () s'):wpAny M A (do bindName X.env n .none;unbindBehindTheSuite X.env n pos) Q E s:=by
 refine wpAny_bind (wpAny_bindName (Pu (v:=.A4) I hN hj (.inl hk) rfl (fun s1 I1 _=>?_) (.inr hk)))
 unfold unbindBehindTheSuite
 refine wpAny_onRaise ?_
 obtain ⟨m,hn,hl⟩:=id I1.loc
 have TX:(X.env.scope.kind == .class || (X.env.scope.kind == .module && X.env.locals != X.env.globals))=false:=by rw [I.ok.kind];rfl
 have hjσ:j < σ.length:=by rw [I.len];exact (List.getElem?_eq_some_iff.mp hj).1
 obtain ⟨u,ru,lk⟩:=hl j n .A4 hj (C7 hjσ) (.inl hk)
 have hm:m n=some u:=by
  rcases lk with ⟨_,e⟩ | ⟨z,_⟩
  ·exact e
  ·have PK:X.env.kindOf n=some .local:=hk
   rw [PK] at z
   rcases z with z | z <;> cases z
 refine wpAny_unbindName_local hk hn hm TX fun h' u' MT hs=>?_
 obtain ⟨oL,_,_,WV,_⟩:=id hn
 have EB:=I1.EB
 have low:∀ b o,X.s₀.heap.get? b=some o->b≠X.env.locals:=fun b o hb=>BP (CU (AY hb) I.ok.above)
 refine h _ ⟨I1.ok,I1.os,I1.bare,⟨fun b o e n hb hx=>(hs.2 b (low b o e)).trans (I1.base.keep b o e n hb hx),fun b o e n hb hx=>?_,I1.base.free,fun b o e hx=>?_,I1.base.EJ,I1.base.Ds,I1.base.ES⟩,⟨_,MT,fun i y v' e1 e2 e3=>?_⟩,fun y c e=>?_,I1.free,I1.CW,fun p hp=>?_,fun b ob e=>?_,by simpa using I.len⟩
 ·obtain ⟨sl,e1⟩:=I1.base.slot b o e n hb hx
  exact ⟨sl,(hs.2 b (low b o e)).trans e1⟩
 ·obtain ⟨o',e1⟩:=I1.base.there b o e hx
  exact ⟨o',(hs.2 b (low b o e)).trans e1⟩
 ·have EH:i≠j:=by
   rintro rfl
   rw [C7 hjσ] at e2
   cases e2
  rw [Bd (Ah EH)] at e2
  obtain ⟨w,r',q⟩:=hl i y v' e1 (by rw [Bd (Ah EH)];exact e2) e3
  refine ⟨w,r',?_⟩
  rcases q with ⟨k,e⟩ | ⟨k,c,e,z⟩
  ·refine .inl ⟨k,?_⟩
   have:y≠n:=fun e=>EH (Pz hN e1 (e▸hj))
   simp [this,e]
  ·exact .inr ⟨k,c,e,z.sameBut hs (EB y c e)⟩
 ·obtain ⟨w',z⟩:=I1.cell y c e
  exact ⟨w',z.sameBut hs (EB y c e)⟩
 ·obtain ⟨e,n,ne,nf,d⟩:=I1.pin p hp
  exact ⟨(hs.2 p.1 ne).trans e,n,ne,nf,d⟩
 ·refine (I1.A7 b ob e).Ea (fun c w' hc q=>(hs.2 c ?_).trans q) (fun _ q=>q) fun _ _ q=>q
  rintro rfl
  have fr:=I1.free
  rcases hc with rfl | hc
  ·rw [fr] at e;cases e
  ·rw [fr] at hc;cases hc
def Inv.iM (I:Inv X pins σ H s) (x:Ey s.heap ea (.ref C) dx tb) (u1:H ea=none) (u2:X.s₀.heap.get? ea=none) (hp:∀ p∈X.pn++pins,p.1≠ea):Inv X pins σ (upd H ea (Fz.GB ea C dx)) s:=by
 obtain ⟨oe,vs,he,hc,hd,FJ,_⟩:=x.obj
 have bz:X.env.locals≠ea:=fun z=>by
  obtain ⟨m,⟨o,es,ep,ho,hd2,_⟩,_⟩:=I.loc
  rw [z,he] at ho;cases ho;rw [FJ] at hd2;cases hd2
 have EB:∀ y c,X.env.cells.lookup y=some c->c≠ea:=fun y c q z=>by
  obtain ⟨v,o,ho,hd2⟩:=I.cell y c q
  rw [z,he] at ho;cases ho;rw [FJ] at hd2;cases hd2
 have tr:∀ b o,H b=some o->upd H ea (Fz.GB ea C dx) b=some o:=fun b o q=>by
  rw [AF (by rintro rfl;rw [u1] at q;cases q)];exact q
 refine ⟨I.ok,I.os,I.bare,⟨I.base.keep,I.base.slot,fun b o q n hx=>?_,I.base.there,fun b xs q=>tr b _ (I.base.EJ b xs q),fun b o u q=>tr b _ (I.base.Ds b o u q),fun b ps q=>?_⟩,I.loc,I.cell,?_,fun y c q=>?_,fun p DU=>?_,fun b o q=>?_,I.len⟩
 ·rw [AF (by rintro rfl;rw [u2] at q;cases q)];exact I.base.free b o q n hx
 ·obtain ⟨m,z⟩:=I.base.ES b ps q
  exact ⟨m,tr b _ z⟩
 ·rw [AF bz];exact I.free
 ·rw [AF (EB y c q)];exact I.CW y c q
 ·obtain ⟨h1,h2,h3⟩:=I.pin p DU
  exact ⟨h1,by rw [AF (hp p DU)];exact h2,h3⟩
 ·by_cases z:b=ea
  ·subst z
   rw [AN] at q
   cases q
   exact ⟨⟨oe,vs,he,hc,hd,FJ⟩,⟨_,he⟩,fun _ _ ⟨o',v',e',r⟩ k=>⟨o',v',k _ e',r⟩⟩
  ·rw [AF z] at q
   exact (I.A7 b o q).Ea (fun c u _ hu=>hu) (fun c hc=>tr c _ hc) fun c xs hc=>tr c _ hc
end
abbrev Cx.Ei (X:Cx) (pn:tW) (xe:Value->Shared->Prop):Cx:={ X with pn:=pn,xe:=xe }
abbrev Cx.Ca (X:Cx) (e:Value):Cx:={ X with A:=X.A.mark (some e),calm:=false,xe:=fun _ _=>False }
section
variable {X:Cx}{pins aG:tW}{σ:St} {H:Hp}{s:Shared}{ea C:Addr}{dx tb:Option Addr}{xe:Value->Shared->Prop}{e:Value}
theorem Cx.Ok.Ei (ok:X.Ok){pn:tW}:(X.Ei pn xe).Ok:=⟨ok.mod,ok.kind,ok.glob,ok.blt,ok.above,ok.inj,ok.has,ok.HZ,ok.hd,ok.frames,ok.GL,ok.GK,ok.bs,ok.E5,ok.GQ,ok.Gf,ok.Dj,ok.Fh⟩
def Cx.Ok.IX {pn:tW}(ok:(X.Ei pn xe).Ok):X.Ok:=⟨ok.mod,ok.kind,ok.glob,ok.blt,ok.above,ok.inj,ok.has,ok.HZ,ok.hd,ok.frames,ok.GL,ok.GK,ok.bs,ok.E5,ok.GQ,ok.Gf,ok.Dj,ok.Fh⟩
theorem Cx.Ok.Ca (ok:X.Ok):(X.Ca e).Ok:=⟨ok.mod,ok.kind,ok.glob,ok.blt,ok.above,ok.inj,ok.has,ok.HZ,fun z=>(by cases z),ok.frames,ok.GL,ok.GK,ok.bs,ok.E5,ok.GQ,ok.Gf,ok.Dj,ok.Fh⟩
theorem Inv.Ei (I:Inv X pins σ H s):Inv (X.Ei (X.pn++pins) xe) [] σ H s:=⟨I.ok.Ei,I.os,I.bare,I.base,I.loc,I.cell,I.free,I.CW,fun p hp=>I.pin p (by simpa using hp),I.A7,I.len⟩
theorem Inv.IX (I:Inv (X.Ei (X.pn++pins) xe) aG σ H s):Inv X pins σ H s:=⟨I.ok.IX,I.os,I.bare,I.base,I.loc,I.cell,I.free,I.CW,fun p hp=>I.pin p (Mc _ hp),I.A7,I.len⟩
theorem Inv.Ca (I:Inv X pins σ H s):Inv (X.Ca e) pins σ H s:=⟨I.ok.Ca,I.os,I.bare,I.base,I.loc,I.cell,I.free,I.CW,I.pin,I.A7,I.len⟩
def Inv.O6 (ok:X.Ok) (I:Inv (X.Ca e) pins σ H s):Inv X pins σ H s:=⟨ok,I.os,I.bare,I.base,I.loc,I.cell,I.free,I.CW,I.pin,I.A7,I.len⟩
end
def Ends.drop (D:Ends) (j:Nat):Ends:=⟨fun σ H=>D.nx (σ.set j none) H,D.rt,fun σ H=>D.bk (σ.set j none) H,fun σ H=>D.ct (σ.set j none) H⟩
def Qa (K:tV) (S:Addr) (j:Nat) (tb:(St->XK)->TS) (th:TS):TS:=fun D σ H=>∃ E1:St->XK,tb E1 D σ H/\
 ∀ σ1 C dx ea H1,E1 σ1 (.ref C) dx H1->H1 ea=none->PySem.W.exmOne K (.ref C) (.ref S)=some true/\th (D.drop j) (σ1.set j (some (.ref ea))) (upd H1 ea (Fz.GB ea C dx))
section
variable {X:Cx}{x n:Str}{S:Addr}{j:Nat}{body Ca:List Stmt}{b0:Stmt}{np Jb pos:Pos}{J7:(St->XK)->TS}{th:TS}
def iy (Bp:X.stack=X.env :: X.outer) (hex:X.ex=[]) (hN:X.N.Nodup) (hj:X.N[j]?=some n) (hk:X.env.scope.names.lookup n=some .local) (hg:Gl X x) (hm:X.mg x=some (.ref S))
  (hb:∀ (pn:tW) (xe:Value->Shared->Prop) (E1:St->XK),Goes (X.Ei pn xe) E1->Cd (X.Ei pn xe) body (J7 E1))
  (hh:∀ e,Cd (X.Ca e) (b0 :: Ca) th) (Ax:(x == ("__debug__" : Str))=false:=by decide) :
  PS X (.Try body [.ExceptHandler (some (.Name x np)) (some n) (b0 :: Ca) Jb] [] [] pos) (Qa X.K S j J7 th):=by
 intro pins s σ H D I h
 obtain ⟨E1,h1,h2⟩:=h
 have hf:X.env.frame=some X.env.locals:=by
  rcases I.ok.GL with e | ⟨_,hf⟩
  ·rw [e] at Bp
   exact absurd (congrArg List.length Bp) (by simp)
  ·exact hf
 refine wpAny_Try_except ?_
 refine wpAny_mono (hb (X.pn++pins) _ E1 ?_ [] s σ H D I.Ei h1) (fun f s1 q=>?_) (fun e s1 q=>q)
 ·intro aG σ1 H1 s1 ea C dx tb I1 x1 ⟨u1,u2⟩ ut hp hE
  have Jc:Inv X pins σ1 H1 s1:=I1.IX
  have u2:X.s₀.heap.get? ea=none:=u2
  have ut:∀ T,tb=some T->H1 T=none/\X.s₀.heap.get? T=none:=ut
  have hp:∀ p∈X.pn++pins,p.1≠ea/\tb≠some p.1:=fun p q=>hp p (Mc _ q)
  refine Vv (outer:=X.outer) (L:=X.env.locals) (by rw [<- Bp];exact Jc.ok.frames) (base:=X.base) (by rw [<- Bp];exact Jc.stack) hf x1 fun h' T kp hT x'=>?_
  have I2:=Jc.Yb Bp x1 u1 u2 ut hp kp
  obtain ⟨SQ,Qt⟩:=h2 σ1 C dx ea H1 hE u1
  refine wpAny_handleBy_cons ?_ (fun z=>by cases z)
  refine codeAny_handlers_test ?_
  refine Il (X:=X.Ca (.ref ea)) I2.Ca hg hm ?_ Ax
  obtain ⟨oe,vs,he,hc,hd,FJ,hz,h3⟩:=x'.obj
  have LT:PySem.W.Looks (model X.prog X.w) h' (typeOf (.ref ea)) (.ref C):=by
   rw [<- hc]
   exact (PySem.W.Looks.ld he).andThen .now
  refine (PySem.W.exm_one (K:=X.K) I2.B3 LT SQ).here ?_
  refine codeAny_handlers_suite_as ?_
  have fl:∀ b∈Bj (X.env :: X.outer),∃ o,h'.get? b=some o/\∀ vs,o.data≠.fields vs:=fun b hb=>by
   have st:=I2.stack
   rw [Bp] at st
   obtain ⟨_,o,ho,hn⟩:=st.mem hb
   exact ⟨o,ho,hn⟩
  refine iL (s:={ s1 with heap:=h' }) (l:=X.env :: X.outer) x' fl fun h4 pC x4=>?_
  have ko:∀ T',some T=some T'->H1 T'=none/\X.s₀.heap.get? T'=none:=fun T' eT=>by
   cases eT
   exact ⟨Jc.A7.fresh hT,MX (Bt Jc.sz hT)⟩
  have bS:∀ p∈X.pn++pins,p.1≠ea/\some T≠some p.1:=fun p q=>⟨(hp p q).1,fun z=>by
   have e1:=AY (Jc.pin p q).1
   rw [<- BA z] at e1
   exact absurd e1 (Nat.not_lt.mpr hT)⟩
  have I4:=I2.Yb Bp x' u1 u2 ko bS pC
  have I5:=I4.iM x4 u1 u2 fun p q=>(hp p q).1
  refine QU (X:=X.Ca (.ref ea)) (v:=.ref ea) I5.Ca hN hj (.inl hk) rfl (fun s6 I6=>?_) (.inr hk)
  refine wpAny_mono (hh (.ref ea) pins s6 _ _ (D.drop j) I6 Qt) (fun f s7 q=>?_) (fun _ _ z=>z.elim)
  cases f with
  | next=>
   obtain ⟨σ7,H7,I7,d⟩:=q
   exact (I7.O6 I.ok).unbind hN hj hk fun s' I9=>⟨_,_,I9,d⟩
  | brk=>
   obtain ⟨σ7,H7,I7,d⟩:=q
   exact (I7.O6 I.ok).unbind hN hj hk fun s' I9=>⟨_,_,I9,d⟩
  | cont=>
   obtain ⟨σ7,H7,I7,d⟩:=q
   exact (I7.O6 I.ok).unbind hN hj hk fun s' I9=>⟨_,_,I9,d⟩
  | ret u=>
   obtain ⟨v,σ7,H7,I7,r,d⟩:=q
   exact (I7.O6 I.ok).unbind hN hj hk fun s' I9=>⟨v,_,_,I9,r,d⟩
 ·cases f with
  | next=>
   obtain ⟨σ7,H7,I7,d⟩:=q
   exact wpAny_execs_nil ⟨_,_,I7.IX,d⟩
  | brk=>
   obtain ⟨σ7,H7,I7,d⟩:=q
   exact ⟨_,_,I7.IX,d⟩
  | cont=>
   obtain ⟨σ7,H7,I7,d⟩:=q
   exact ⟨_,_,I7.IX,d⟩
  | ret u=>
   obtain ⟨v,σ7,H7,I7,r,d⟩:=q
   exact ⟨v,_,_,I7.IX,r,d⟩
end
def U2 (sp:Sp) (E:St->XK) (t:TA):TE:=fun σ H Q=>t σ H fun vs H1=>sp vs H1 Q (E σ)
def GO (P:Program) (w:World) (K:tV) (mg:tX) (base:Heap) (x:Str) (k:Nat) (ps:List Str) (sp:Sp):Prop:=
 ∃ f fd,Ba P w K mg base (Fo P w) k f fd ps sp/\Binds K fd ps []/\PySem.W.keepIn K (.ref f)=true/\mg x=some (.ref f)
section
variable {P:Program}{w:World}{K:tV}{mg:tX}{base:Heap}{x qual:Str}{k:Nat}{ps:List Str}{sp:Sp}{st:Stmt}{f:Addr}{fd:FuncData}
def GO.mk (F:Ad K x qual st f fd) (b:Binds K fd ps []) (m:mg x=some (.ref f)) (h:Ba P w K mg base (Fo P w) k f fd ps sp):GO P w K mg base x k ps sp:=⟨f,fd,h,b,F.kp,m⟩
end
section
variable {X:Cx}{x:Str}{j k:Nat}{ps:List Str}{sp:Sp}{p pos:Pos}{e:Expr}{es:List Expr}{t:TA}{E:St->XK}
theorem Goes.call (go:Goes X E) (hex:X.ex=[]){pins:tW}{σ:St} {H:Hp}{s s':Shared}{e:Value}(I:Inv X pins σ H s) (h:Fo X.prog X.w X.stack H s (E σ) e s'):X.xe e s':=by
 have Cz:∀ a,s.heap.get? a=none->X.s₀.heap.get? a=none:=fun a ha=>by
  cases q:X.s₀.heap.get? a with
  | none=>rfl
  | some o=>
   obtain ⟨o1,h1⟩:=I.base.there a o q (by rw [hex];simp)
   rw [ha] at h1;cases h1
 obtain ⟨ea,C,dx,tb,H',rfl,os,bare,un,A7,x,⟨u1,u2⟩,ut,hE⟩:=h
 obtain ⟨hh,g,d,t,PJ⟩:=s'
 obtain rfl:PJ=s.os:=os
 have I2:=I.call (h':=hh) (g':=g) (d':=d) (t':=t) (ch:=[]) un A7 bare (fun b z=>absurd z (by simp))
 refine go pins σ H' _ ea C dx tb I2 x ⟨u1,Cz _ u2⟩ (fun T eT=>⟨(ut T eT).1,Cz _ (ut T eT).2⟩) (fun p hp=>⟨fun z=>?_,fun z=>?_⟩) hE
 ·have:=(I.pin p hp).1
  rw [z,u2] at this;cases this
 ·have:=(I.pin p hp).1
  rw [(ut _ z).2] at this;cases this
def qp (h:GO X.prog X.w X.K X.mg X.base x k ps sp) (hr:Au j X.A) (hk:k<=j) (go:Goes X E) (hex:X.ex=[]) (ha:PA X (e :: es) t) (hg:Gl X x:=by rfl) (Ax:(x == ("__debug__" : Str))=false:=by decide)
  (he:starEach (e :: es) X.env=(false,eval e X.env) :: starEach es X.env:=by rfl) (B1:(backTo pos (starEach es X.env)).any (·.1)=false:=by rfl) :
  PE X (.Call (.Name x p) (e :: es) [] pos) (U2 sp E t):=by
 obtain ⟨f,fd,F,b,kp,m⟩:=h
 have F:=F.mono hk
 intro pins s σ H Q I h
 refine wpAny_Call_Name_kw (Il I hg m ?_ Ax)
 refine Om (h₀:=X.base) I.ok.mod.GA kp (AE (ha pos pins s σ H _ I h) fun us s1 ⟨vs,H1,I1,r,q⟩=>⟨I1.B3,?_⟩) he B1
 have hl:us.length=ps.length:=by rw [<- r.length];exact F.len _ _ _ _ q
 refine wpAny_call (codeAny_mono (F.run X.A X.stack s1 H1 ⟨us,[]⟩ us vs Q (E σ) hr I1.KY (by have z:=b s1 us I1.B3 (by rw [EV];exact hl);rw [EV] at z;exact z) r q) fun r s' hq=>?_)
 cases r with
 | error e=>exact go.call hex I1 hq
 | ok fl=>
  cases fl with
  | ret u=>exact I1.after hq
  | next=>exact False.elim hq
  | brk=>exact False.elim hq
  | cont=>exact False.elim hq
end
section
variable {P:Program}{w:World}{K:tV}{mg:tX}{base:Heap}{N:List Str}{qual:Str}{scope:Scope}{f:Addr}{cd:Value}{A:Around}{outer:List Env}{s:Shared}{H:Hp}{E:XK}
def Qs:Goes (E8 (Fo P w) P w K mg base N qual scope f cd A outer s H E) (fun _=>E):=fun pins σ H' s' ea C dx tb I x u ut _ hE=>
 Tz.leave ⟨pins,σ,H',ea,C,dx,tb,rfl,I,x,u,ut,hE⟩
end
def Ad.TZ {P:Program}{w:World}{K:tV}{mg:tX}{base:Heap}{x qual:Str}{st:Stmt}{f:Addr}{fd:FuncData}{N ps:List Str}{k:Nat}{sp:Sp}(F:Ad K x qual st f fd) (S:Bq N ps (As st)) (len:∀ vs H Q E,sp vs H Q E->vs.length=ps.length)
  (IQ:∀ (Ab:Value) (A:Around) (outer:List Env) (s:Shared) (H:Hp) (vs:List V) (Q:VK) (E:XK),Au k (A.deeper (envOfC qual (As st) s.heap.objs.size f Ab))->sp vs H Q E->
   ∃ t,Eu (E8 (Fo P w) P w K mg base N qual (As st) f Ab A outer s H E) (HW st) t/\t { nx:=fun _ H'=>Q .A4 H',rt:=Q } (start N vs) H):Ba P w K mg base (Fo P w) (k+1) f fd ps sp:=by
 obtain ⟨oc,od,kV,doc,pm,an,Ab,ct,GS,rfl,lk,DZ⟩:=F.ex
 refine Ve lk DZ S len fun A outer s H vs Q E hr DH=>?_
 obtain ⟨t,h,q⟩:=IQ Ab A outer s H vs Q E hr DH
 exact ⟨t,h.h,q⟩
section
variable {X:Cx}{x n:Str}{S C fI:Addr}{i j k kk:Nat}{ps:List Str}{sp:Sp}{p np BJ Jb pos:Pos}{e e0:Expr}{es:List Expr}{t:TA}{E:St->XK}{body Ca:List Stmt}{b0:Stmt}{J7:(St->XK)->TS}{th:TS}{fd:FuncData}{fld par:Str}
def QH (h:GO X.prog X.w X.K X.mg X.base x k ps sp) (hr:Au j X.A) (hk:k<=j) (go:Goes X E) (hex:X.ex=[]) (ha:QA X (e :: es) t) (hg:Gl X x:=by rfl) (Ax:(x == ("__debug__" : Str))=false:=by decide)
  (he:starEach (e :: es) X.env=(false,eval e X.env) :: starEach es X.env:=by rfl) (B1:(backTo pos (starEach es X.env)).any (·.1)=false:=by rfl):QE X (.Call (.Name x p) (e :: es) [] pos) (U2 sp E t):=⟨qp h hr hk go hex ha.h hg Ax he B1⟩
def mE (c:M8 X.K C fI fld) (hg:Gl X x) (hm:X.mg x=some (.ref C)) (Fn:Ba X.prog X.w X.K X.mg X.base DQ kk fI fd ["self", par] (Jq C fld)) (hb:Binds X.K fd ["self", par] []) (hr:Au (kk+1) X.A) (hc:X.calm=true) (hex:X.ex=[]) (go:Goes X E) (ha:QA X [e0] t)
  (Ax:(x == ("__debug__" : Str))=false:=by decide) (he:starEach [e0] X.env=(false,eval e0 X.env) :: starEach [] X.env:=by rfl) (B1:(backTo BJ (starEach [] X.env)).any (·.1)=false:=by rfl) :
  QS X (.Raise (some (.Call (.Name x np) [e0] [] BJ)) none pos) (Nf C fld E t):=⟨pN c hg hm Fn hb hr hc hex go ha.h Ax he B1⟩
def i4 (Bp:X.stack=X.env :: X.outer) (hex:X.ex=[]) (hN:X.N.Nodup) (hj:X.N[j]?=some n) (hk:X.env.scope.names.lookup n=some .local) (hg:Gl X x) (hm:X.mg x=some (.ref S))
  (hb:∀ (pn:tW) (xe:Value->Shared->Prop) (E1:St->XK),Goes (X.Ei pn xe) E1->Eu (X.Ei pn xe) body (J7 E1))
  (hh:∀ e,Eu (X.Ca e) (b0 :: Ca) th) (Ax:(x == ("__debug__" : Str))=false:=by decide) :
  QS X (.Try body [.ExceptHandler (some (.Name x np)) (some n) (b0 :: Ca) Jb] [] [] pos) (Qa X.K S j J7 th):=⟨iy Bp hex hN hj hk hg hm (fun pn xe E1 g=>(hb pn xe E1 g).h) (fun e=>(hh e).h) Ax⟩
end
section
variable {prog:Program}{w:World}{A:Around}{E:Value->Shared->Prop}{s:Shared}{K:tV}{x C:Addr}{ox:Obj}{od:Option Obj}{name:Str}{fill expr:Bool}{tk:Tok}
structure ExGet (K:tV) (C:Addr):Prop where
 ga:PySem.W.findIn K (.ref C) "__getattribute__" = some (some (.builtin "BaseException.__getattribute__"))
 gt:PySem.W.findIn K (.ref C) "__getattr__" = some none
 mb:PySem.W.mroIn K C (.type "BaseException")=some true
def jZ (o:Value):bindSpecial (.builtin "BaseException.__getattribute__") o=pure (.builtin "BaseException.__getattribute__", [o]):=by
 first | rfl | kernel_rfl
def Yt {Q:Value->Shared->Prop}(X:K.In s.heap) (I:PySem.W.InstAt s.heap x ox C od) (g:ExGet K C)
  (h:wpAny (model prog w) A.in1 (Builtin.«object.__getattribute__» ⟨[.ref x,.str name tk],[]⟩) (fun fin s'=>match fin with | .done (.ret v)=>wpAny (model prog w) A (handedOut v) Q E s' | _=>False) (fun _ _=>False) s) :
  wpAny (model prog w) A (getAttrBy (.ref x) (.str name tk) fill expr) Q E s:=by
 obtain ⟨hh,gg,d,t,os⟩:=s
 have L0:=I.type (M:=model prog w)
 have L1:=Ui (M:=model prog w) X g.ga
 have L2:=Ui (M:=model prog w) X g.gt
 have L3:=sS (M:=model prog w) X g.mb
 unfold getAttrBy
 refine wpAny_holding (wpAny_bind (L0.at (wpAny_bind (L1.at ?_))))
 have Lu:(Value.builtin "BaseException.__getattribute__" == Value.builtin "object.__getattribute__")=false:=by decide +kernel
 dsimp only
 rw [if_neg (by rw [Lu,UU];decide)]
 unfold getAttrByItsOwn hookBefore
 rw [if_pos (show onTheHeap (Value.ref C)=true from rfl)]
 refine wpAny_bind (L2.at (wpAny_bind (wpAny_attempt (wpAny_holding ?_))))
 unfold callGetattribute
 rw [if_neg (show ¬ (expr && onTheHeap (Value.builtin "BaseException.__getattribute__"))=true by cases expr <;> decide)]
 unfold boundAndCalled
 rw [jZ]
 refine wpAny_bind (wpAny_pure ?_)
 show wpAny _ _ (call (.builtin "BaseException.__getattribute__") [.ref x,.str name tk]) _ _ _
 refine wpAny_call (codeAny_call_builtin PySem.F.excAttr_ValueError.ga.plain PySem.F.entry_bexc_ga ?_)
 have hk:builtinKind "BaseException.__getattribute__" = some .slot:=by decide +kernel
 have fL:splitId "BaseException.__getattribute__" = some ("BaseException", "__getattribute__"):=by decide +kernel
 have ha:=PySem.F.args_bexc_ga (.ref x) (.str name tk)
 simp only [checkBuiltinCall,hk,fL]
 unfold isInstance
 refine wpAny_bind (wpAny_bind (L0.at (L3.at ?_)))
 rw [if_neg (by decide)]
 refine wpAny_of_eq ha ?_
 refine wpAny_mono h (fun fin s' z=>?_) fun _ _ z=>z.elim
 rcases fin with (_ | _ | _ | _) | _ <;> first | exact z | exact z.elim
def iE {v:Value}{Q:Value->Shared->Prop}(X:K.In s.heap) (I:PySem.W.InstAt s.heap x ox C od) (g:ExGet K C) (hf:PySem.W.findObj K C od name=some (.value v)) (hh:PySem.W.handedIn v=true) (h:Q v { s with toks:=s.toks+1 }) :
  wpAny (model prog w) A (getAttr (.ref x) name expr) Q E s:=by
 unfold getAttr
 refine wpAny_bind (wpAny_mkText (Yt (s:={ s with toks:=s.toks+1 }) X I g ?_))
 obtain ⟨hp,gg,d,t,os⟩:=s
 have L0:=I.type (M:=model prog w)
 have L1:=sR (M:=model prog w) X I hf
 refine wpAny_bind (wpAny_pure (wpAny_bind (wpAny_pure (wpAny_bind (L0.at (wpAny_bind (L1.at ?_)))))))
 refine wpAny_pure ?_
 show wpAny _ _ (handedOut v) _ _ _
 rw [sO hh];exact wpAny_pure h
def lB {Q:Option Value->Shared->Prop}(X:K.In s.heap) (I:PySem.W.InstAt s.heap x ox C od) (g:ExGet K C) (hf:PySem.W.findObj K C od "__class__" = some (.bind (.builtin "getset_descriptor.__get__") (.builtin "object.__class__"))) (hm:PySem.W.mroIn K C (.type "object")=some true)
  (h:Q (some (.ref C)) { s with toks:=s.toks+1 }):wpAny (model prog w) A (getAttr? (.ref x) "__class__") Q E s:=by
 unfold getAttr? getAttrBy?
 refine wpAny_bind (wpAny_mkText (wpAny_bind (wpAny_attempt ?_)))
 refine Yt (s:={ s with toks:=s.toks+1 }) X I g ?_
 obtain ⟨hp,gg,d,t,os⟩:=s
 have L0:=I.type (M:=model prog w)
 have L1:=sR (M:=model prog w) X I hf
 refine wpAny_bind (wpAny_pure (wpAny_bind (wpAny_pure (wpAny_bind (L0.at (wpAny_bind (L1.at ?_)))))))
 show wpAny _ _ (holding [Value.builtin "object.__class__"] (call (.builtin "getset_descriptor.__get__") [.builtin "object.__class__", .ref x,.ref C]) >>= ret) _ _ _
 refine wpAny_bind (wpAny_holding (wpAny_call (PySem.W.class_get (s:=⟨hp,gg,d,t+1,os⟩) (ox:=ox) (od:=od) X I hm ?_)))
 refine wpAny_pure ?_
 show wpAny _ _ (handedOut (.ref C)) _ _ _
 rw [sO rfl]
 exact wpAny_pure (wpAny_pure h)
end
structure Ke (K:tV) (C:Addr):Prop extends ExGet K C where
 cl:(PySem.W.clsIn K C).isSome=true
 gc:PySem.W.findIn K (.ref C) "__class__" = some (some (.builtin "object.__class__"))
 gn:PySem.W.specialIn K (.builtin "object.__class__") "__get__" = some (some (.builtin "getset_descriptor.__get__"))
 tk:PySem.W.takesIn K (.builtin "object.__class__")=some true
 mo:PySem.W.mroIn K C (.type "object")=some true
def oO {K:tV}{C:Addr}{name:Str}{od:Option Obj}{a g:Value}(hc:(PySem.W.clsIn K C).isSome=true) (ha:PySem.W.findIn K (.ref C) name=some (some a)) (hg:PySem.W.specialIn K a "__get__" = some (some g)) (ht:PySem.W.takesIn K a=some true):PySem.W.findObj K C od name=some (.bind g a):=by
 obtain ⟨cd,hc⟩:=Option.isSome_iff_exists.mp hc
 unfold PySem.W.findObj
 rw [hc,aj,ha,aj]
 simp [hg,ht]
def qZ {K:tV}{x C:Addr}(g:Ke K C):PySem.W.KitX K (.ref x) (.ref C) (fun h=>∃ ox od,PySem.W.InstAt h x ox C od) where
 ty:=fun _ _ _ ⟨_,_,I⟩=>I.type
 it:=fun _ _ X _=>by
  obtain ⟨qI,FI⟩:=Option.isSome_iff_exists.mp g.cl
  unfold PySem.W.clsIn at FI
  split at FI
  ·rename_i c' d' pK PN ho
   intro A' Q' E' s' k q
   unfold isType loadHead
   exact wpAny_bind (wpAny_loadPart (k _ _ (X _ _ ho)) (wpAny_pure q))
  ·cases FI
 ne:=fun h tp dd A0 n sl X ot=>by
  obtain ⟨qI,FI⟩:=Option.isSome_iff_exists.mp g.cl
  refine Bool.eq_false_iff.mpr fun q=>?_
  have e:C=tp:=Value.ref.inj (beq_iff_eq.mp q)
  subst e
  unfold PySem.W.clsIn at FI
  split at FI
  ·rename_i c' d' pK PN ho
   have z:=(X _ _ ho).symm.trans ot
   cases z
  ·cases FI
 ca:=fun X ⟨_,_,I⟩ k=>lB X I g.toExGet (oO g.cl g.gc g.gn g.tk) g.mo k
def b7 {h:Heap}{a C:Addr}{dx:Option Addr}(e:∃ ob vs,h.get? a=some ob/\ob.cls=.ref C/\ob.dict=dx/\ob.data=.fields vs) (hd:∀ d,dx=some d->∃ o,h.get? d=some o):∃ ox od,PySem.W.InstAt h a ox C od:=by
 obtain ⟨ob,vs,h1,h2,h3,h4⟩:=e
 cases dx with
 | none=>exact ⟨ob,none,h1,h2,by unfold PySem.W.notCls;rw [h4],by rw [h3];trivial⟩
 | some d=>
  obtain ⟨o,ho⟩:=hd d rfl
  exact ⟨ob,some o,h1,h2,by unfold PySem.W.notCls;rw [h4],by rw [h3];exact ho⟩
def Xp:V->Value->Prop
 | .ty n,c=>c=.type n
 | .ref S,c=>c=.ref S
 | _,_=>False
def Vm (K:tV) (H:Hp) (x:V) (t:Value):Prop:=DP K H x t∨∃ a C dx,x=.ref a/\t=.ref C/\H a=some (Fz.GB a C dx)/\Ke K C/\∀ d,dx=some d->∃ fs,H d=some (.xd fs)
def Vu (K:tV):List V->Hp->VK->Prop:=fun xs H Q=>∃ (x cv:V) (c t:Value) (b:Bool),xs=[x,cv]/\Xp cv c/\Vm K H x t/\PySem.W.kitOne K t c=some b/\Q (.bl b) H
section
variable {X:Cx}
def D8:D6 X (.builtin "isinstance") (Vu X.K):=by
 intro pins s σ H xs us Q I r h
 obtain ⟨x,cv,c,t,b,rfl,hc,ty,e,q⟩:=h
 obtain ⟨u,c',rfl,rx,ry⟩:=vals2 r
 have ec:c'=c:=by
  cases cv with
  | ty n=>cases ry;exact hc.symm
  | ref S=>cases ry;exact hc.symm
  | _=>exact hc.elim
 subst ec
 have fin:∀ tk,EP X pins σ Q (.bool b) { s with toks:=tk }:=fun tk=>⟨.bl b,H,I.tok tk,rfl,q⟩
 rcases ty with ty | ⟨a,C,dx,rfl,rfl,ha,g,hd⟩
 ·exact Vw I rx ty e fin
 ·cases rx
  have ok:=(I.A7 a _ ha).1
  exact Ff (qZ g) I.B3 (b7 ok fun d ed=>by obtain ⟨fs,hf⟩:=hd d ed;exact I.A7.there hf) e (fun z=>nomatch z) fin
end
def Py (K:tV) (ta:TE) (f:Str):TE:=fun σ H Q=>ta σ H fun x H1=>∃ a C dx fs v,x=.ref a/\H1 a=some (Fz.GB a C (some dx))/\H1 dx=some (.xd fs)/\ExGet K C/\PySem.W.hasDictIn K C=true/\DV K C f/\fs.lookup f=some v/\Q v H1
section
variable {X:Cx}{e:Expr}{ta:TE}{f:Str}{pos:Pos}
def qf (he:PE X e ta) (hb:attributeBase e f X.env (eval e X.env)=eval e X.env):PE X (.Attribute e f pos) (Py X.K ta f):=by
 intro pins s σ H Q I h
 refine VB hb (AE (he pins s σ H _ I h) fun u s1 ⟨x,H1,I1,rx,a,C,dx,fs,v,ex,ea,ed,g,hd,n,l,q⟩=>?_)
 subst ex
 obtain rfl:u=Value.ref a:=rx
 obtain ⟨ob,vs,h1,h2,h3,h4⟩:=(I1.A7 a _ ea).1
 obtain ⟨mA,ns,r⟩:=I1.A7 dx _ ed
 obtain ⟨od,cP,lk⟩:=Wv ns
 obtain ⟨u,hu,ru⟩:=DI.some_of (v:=v) (o:=mA f) (by rw [<- l];exact r f)
 have J:PySem.W.InstAt s1.heap a ob C (some od):=⟨h1,h2,by unfold PySem.W.notCls;rw [h4],by rw [h3];exact cP⟩
 exact iE I1.B3 J g (sN hd n rfl (by rw [lk f,hu])) (YV ru) ⟨v,H1,I1.tok _,ru,q⟩
def ou (he:QE X e ta) (hb:attributeBase e f X.env (eval e X.env)=eval e X.env:=by rfl):QE X (.Attribute e f pos) (Py X.K ta f):=⟨qf he.h hb⟩
end
section
variable {X:Cx}
end
end L2
namespace Fz
open L2 Lw
structure K4 (K:tV) (a:Addr) (xs:List PV):Prop where
 HY:xs.all flat=true
 sq:∀ H,AU K H a (xs.map Fz.enc)
 ob:∃ o:Obj,K.lookup a=some o/\o.cls=.type "tuple"
def K4.of {K:tV}{a:Addr}{xs:List PV}{vs:List V}(h:∀ H,AU K H a vs) (e:xs.map Fz.enc=vs) (f:xs.all flat=true):K4 K a xs:=by
 subst e
 refine ⟨f,h,?_⟩
 rcases h (fun _=>none) with h | ⟨o,A0,n,h1,h2,_⟩
 ·rcases h with h | ⟨_,h⟩
  ·cases h
  ·cases h
 ·exact ⟨o,h1,h2⟩
section
variable [Xw]
variable {E:Ent0}{ss:List Slot}{σ:L2.St} {F H F' H':Hp}{K:tV}{ta tb tc te:TE}{k:PV->Prop}{v:V}{tp:Bool}{xs:List PV}{nx:List Slot->Prop}{R:AR}
end
def rv (n:Nat):Nat->Nat
 | 0=>0
 | i+1=>2 * rv n i+n / 2 ^ i % 2
section
variable [Xw]
variable {E:Ent0}{ss:List Slot}{σ:L2.St} {F H F1 F' H':Hp}{K:tV}{js:List Nat}{ta tb tc te ti:TE}{nx:List Slot->Prop}{R:AR}{k:PV->Prop}{xs:List PV}
def pE {sp:Sp}{i:Nat}{ns:List Int}{k:List PV->Prop}(DH:sp=Yx) (hi:ss[i]?=some (.raw (Br K ns))) (h:Wp ss te fun x=>∃ m,x=.int m/\0<=m/\m<=1000/\Wp ss tb fun y=>∃ m2,y=.int m2/\1<=m2/\m2<=100/\∀ rs:List Str,(rs.length:Int)<=m2->(∀ x∈rs,Nm x)->rs.Nodup->k (rs.map PV.str)) :
  Wn ss (CI sp [] E0 (AK (CI (MH K) [] E0 (AK (BB i) (AK te AS))) (AK tb AS))) k:=⟨fun E σ F H Q S q=>by
 subst DH
 obtain ⟨v,e,⟨a,ev,hq⟩,st⟩:=S.ok i _ hi
 subst ev
 refine ⟨_,e,h.go E σ F H _ S fun v x F1 H1 m1 r ⟨m,em,m0,FF,hw⟩=>?_⟩
 subst em;cases r
 obtain ⟨v',e',Lq,_⟩:=m1.st.ok i _ hi
 rw [e] at e';cases e'
 obtain ⟨a',ea,EO⟩:=Lb K ns _ F1 H1 m1.st.fh Lq
 cases ea
 refine ⟨a,ns,m,rfl,EO,m0,FF,fun p H2 hp s pp=>?_⟩
 have m2:=m1.st.grow s
 refine hw.go E σ F1 H2 _ m2.st fun v2 y F3 H3 m3 r3 ⟨mm,eS,iT,qt,kk⟩=>?_
 subst eS;cases r3
 have IB:∀ (j:Nat) s,ss[j]?=some s->¬ An s σ[j]? p:=fun j s hj=>m1.st.Ir hj hp
 have np:Bf ss σ p:=fun j hj=>IB j _ hj
 have Ss:Aq H3 p:=Aq.keep pp fun o eo=>m3.hh p o np eo
 have Rx:F3 p=Option.none:=by
  cases z:F3 p with
  | none=>rfl
  | some o=>
   obtain ⟨_,_,w,_⟩:=pp
   rcases m3.nn p o z with z | z
   ·rw [m1.st.BC hp] at z;cases z
   ·rw [w] at z;cases z
 refine ⟨p,mm,rfl,Ss,iT,qt,fun l H4 rs hl s4 Bl hz hN nd=>?_⟩
 have FP:=m1.trans (m2.trans m3)
 have mH:Mv E ss σ F H F3 H4:=by
  refine S.step FP.ff (fun b o z=>s4.same b o (Bu z Rx) (FP.st.fh b o z)) (fun b o n z=>s4.same b o (fun w=>?_) (FP.hh b o n z)) FP.nn fun j l' hj ej=>?_
  ·subst w;rw [m1.none hp] at z;cases z
  ·exact Aq.keep (FP.st.DG hj ej) fun o z=>s4.same l' o (fun w=>IB j _ hj (w▸ej)) z
 exact q l _ _ F3 H4 mH (FP.st.BC hl) (FP.none hl) Bl (Ij rs) (kk rs hz hN nd)⟩
def Vy {i:Nat}(hi:ss[i]?=some .AI) (h:Wq ss ta fun tp xs=>tp=false/\∃ ns:List Str,xs=ns.map PV.str/\(∀ x∈ns,Nm x)/\ns.length<=1000/\∀ x:Str,Nm x->x∉ns->k (.str x)) :
  Wp ss (CI (QY K) [] E0 (AK (BB i) (AK ta AS))) k:=⟨fun E σ F H Q S q=>by
 obtain ⟨p,e,_⟩:=S.ok i _ hi
 refine ⟨_,e,h.go E σ F H _ S fun v tp xs F1 H1 m1 sv ⟨et,ns,ex,hN,hz,kk⟩=>?_⟩
 subst et;subst ex
 obtain ⟨l,vs,ev,hn,hl,r⟩:=sv
 subst ev
 rw [r.strs] at hl
 exact ⟨p,l,ns,rfl,m1.st.DG hi e,AG.of hl,fun z=>hn i hi (z▸e),hN,hz,fun x H3 hx Lu s=>q _ _ F1 H3 (m1.trans (m1.st.MU hi e s)) (.str x) (kk x hx Lu)⟩⟩
end
end Fz
namespace L2
section
variable {X:Cx}
def jw (sep:Str) (ys:List Str):Nat:=(ys.map (·.length)).sum+ys.length * sep.length
def rJoin (K:tV):V->List V->Hp->VK->Prop:=fun x xs H Q=>∃ (sep:Str) (p:Addr) (tp:Bool) (ys:List Str),x=.str sep/\xs=[.ref p]/\Dv K tp H p (ys.map V.str)/\jw sep ys<=16777216/\Q (.str (Txt.join sep ys)) H
def jR:List V->Hp->VK->Prop:=fun xs H Q=>(∃ i,xs=[.int i]/\i.natAbs < 2 ^ 1000/\Q (.str (toString i)) H)∨∃ x,xs=[.str x]/\Q (.str x) H
end
end L2
namespace Fz
open L2 Lw
def oo:PV->Str
 | .int i=>toString i
 | .str x=>x
 | _ => ""
def n6:PV->Prop
 | .int i=>i.natAbs < 2 ^ 1000
 | .str _=>True
 | _=>False
section
variable [Xw]
variable {E:Ent0}{ss:List Slot}{σ:L2.St} {F H F' H':Hp}{K:tV}{ta tb tc te:TE}{k:PV->Prop}{v:V}{tp:Bool}{xs:List PV}{nx:List Slot->Prop}{R:AR}
def qw (h:Wp ss te fun p=>n6 p/\k (.str (oo p))):Wp ss (BY jR (AK te AS)) k:=⟨fun E σ F H Q S q=>
 h.go E σ F H _ S fun v p F1 H1 m1 r ⟨ok,kk⟩=>by
  cases r with
  | int i=>exact .inl ⟨i,rfl,ok,q _ _ F1 H1 m1 (.str _) kk⟩
  | str x=>exact .inr ⟨x,rfl,q _ _ F1 H1 m1 (.str _) kk⟩
  | _=>exact ok.elim⟩
def nB (h:Wp ss ta fun p=>∃ sep,p=.str sep/\Wq ss tb fun _ ys=>∃ zs:List Str,ys=zs.map PV.str/\jw sep zs<=16777216/\k (.str (Txt.join sep zs))):Wp ss (GN K "str" (rJoin K) ta (AK tb AS)) k:=⟨fun E σ F H Q S q=>
 h.go E σ F H _ S fun v p F1 H1 m1 r1 ⟨sep,e,h2⟩=>by
  subst e;cases r1
  refine ⟨rfl,h2.go E σ F1 H1 _ m1.st fun v2 tp ys F2 H2 m2 sv ⟨zs,e2,hz,kk⟩=>?_⟩
  subst e2
  obtain ⟨l,vs,rfl,hl,r⟩:=sv.seq m2.st
  rw [r.strs] at hl
  exact ⟨sep,l,tp,zs,rfl,rfl,CP.sq hl,hz,q _ _ F2 H2 (m1.trans m2) (.str _) kk⟩⟩
end
abbrev FQ:=List Slot->AR->(Ex->Prop)->Prop
def DO (pre:FQ):Sp:=fun vs H Q X=>∃ (ss:List Slot) (R:AR) (D:Ex->Prop) (F:Hp) (A:List Addr),pre ss R D/\Sg (E3 A F H) ss (vs.map some) F H/\(∀ v F' H',Fin (E3 A F H) F' H'->R.ok (E3 A F H) F' H' v->Q v H')/\
 ∀ (x:Ex) (C:Value) (dx:Option Addr) F' H',Fin (E3 A F H) F' H'->D x->x.at F' C dx->X C dx H'
@[reducible] def WY (X:XK) (D:Ex->Prop):Xw:=⟨fun _=>X,fun _=>True,D⟩
@[reducible] def K7 (E:Ent0) (J:List Slot->Prop) (D:Ex->Prop):Xw:=⟨fun σ C dx H=>∃ ss F x,J ss/\Sg E ss σ F H/\D x/\x.at F C dx,J,D⟩
def fg:PV->Prop
 | .str x=>(reprText x).length<=100000
 | .int i=>i.natAbs.log2 < 1920
 | _=>False
section
variable [Xw]
variable {E:Ent0}{ss:List Slot}{σ:L2.St} {F H F' H':Hp}{pre:FQ}{t:TA}{te:TE}{k:PV->Prop}{nx:List Slot->Prop}{R:AR}{K:tV}{C S:Addr}{fld:Str}
def Sn (h:Wa ss t fun l=>∃ k' D,pre l (.is k') D/\Xw.J ss/\(∀ x,D x->Xw.D x)/\∀ p,k' p->k p):Wp ss (U2 (DO pre) Xw.e t) k:=⟨fun E σ F H Q S q=>
 h.go E σ F H _ S fun vs l F1 H1 m1 a ⟨k',D,hp,hJ,hD,kk⟩=>by
  refine ⟨l,.is k',D,F1,[],hp,m1.st.KS a,fun v F' H' f ⟨p,r,kp⟩=>?_,fun x C dx F' H' f d Az=>?_⟩
  ·exact q v p F' H' (m1.trans (m1.st.back (fun _ h=>absurd h Ay) f)) r (kk p kp)
  ·exact E.hx ss σ F' H' x C dx hJ (m1.st.back (fun _ h=>absurd h Ay) f).st (hD x d) Az⟩
def YN (h:Wp ss te fun p=>fg p/\Xw.J ss/\Xw.D ⟨C,[fld],[p]⟩):Ws ss (Nf C fld Xw.e (AK te AS)) nx R:=⟨fun E D σ F H S hn hr=>
 h.go E σ F H _ S fun v p F1 H1 m1 r ⟨sp,hJ,hD⟩=>by
  refine ⟨v,rfl,?_,fun d hd=>?_⟩
  ·cases r <;> first | exact sp | exact sp.elim
  ·have m2:=m1.st.alloc hd (.xd [(fld,v)])
   exact E.hx ss σ _ _ ⟨C,[fld],[p]⟩ (.ref C) (some d) hJ m2.st hD ⟨rfl,.inr ⟨d,[v],rfl,AN,rfl,.cons (r.mono m2.ff) .nil⟩⟩⟩
end
section
variable {pre:FQ}{H:Hp}
def Sz {N:List Str}{n:Nat}{vs:List V}{Q:VK}{X:XK}{t:TS}(h:DO pre vs H Q X) (hl:∀ ss R D,pre ss R D->ss.length=n)
  (hw:∀ ss R D,pre ss R D->let _i:Xw:=WY X D;Ws (ss++List.replicate (N.length - n) .any) t (fun _=>∃ k,R=.is k/\k .A4) R):t { nx:=fun _ H'=>Q .A4 H',rt:=Q } (L2.start N vs) H:=by
 obtain ⟨ss,R,D,F,A,hp,S,q,qx⟩:=h
 have e:vs.length=n:=by have:=S.len;rw [AJ] at this;rw [<- this];exact hl ss R D hp
 unfold L2.start
 rw [e]
 letI:Xw:=WY X D
 refine (hw ss R D hp).go ⟨E3 A F H,fun A8 σ' F' H' x C dx _ S' d Az=>qx x C dx F' H' S'.toFin d Az⟩ _ _ F H (S.grown _) (fun A8 σ' F' H' ⟨k,e,kn⟩ S' _=>?_) fun v F' H' f ok=>q v F' H' f ok
 subst e
 exact q .A4 F' H' S'.toFin ⟨.A4,.A4,kn⟩
def RX {n:Nat}{vs:List V}{Q:VK}{X:XK}(hl:∀ ss R D,pre ss R D->ss.length=n) (h:DO pre vs H Q X):vs.length=n:=by
 obtain ⟨ss,R,D,F,A,hp,S,q⟩:=h
 have:=S.len
 rw [AJ] at this
 rw [<- this];exact hl ss R D hp
end
section
variable {E:Ent0}{ss:List Slot}{σ:L2.St} {F H F' H':Hp}
abbrev Ent0.at (E:Ent0) (F:Hp):Ent0:=⟨E.A,F,E.H0,E.B⟩
def Fin.un (S:Fin E F H) (f:Fin (E.at F) F' H'):Fin E F' H':=⟨f.fh,S.f0.trans f.f0,f.keep,fun a o e=>(f.fresh a o e).elim (fun e=>S.fresh a o e) .inr,f.Es,f.IS,f.a0,f.bF,f.bH,f.b0⟩
def Ok.un {G:Hp}{s:Slot}{o:Option (Option V)}:Ok (E.at G) F H s o↔Ok E F H s o:=by
 cases s with
 | sq tp xs=>cases tp <;> exact Iff.rfl
 | _=>exact Iff.rfl
theorem Sg.un {A8:List Slot}{σ':L2.St} (S:Sg E ss σ F H) (S':Sg (E.at F) A8 σ' F' H'):Sg E A8 σ' F' H':=⟨S.toFin.un S'.toFin,S'.len,fun i s hi=>Ok.un.mp (S'.ok i s hi),S'.BG⟩
def Sg.nK (S:Sg E ss σ F H):Sg (E.at F) ss σ F H:=⟨⟨S.fh,A9.refl _,S.keep,fun _ _ e=>.inl e,S.Es,S.IS,S.a0,S.bF,S.bH,S.b0⟩,S.len,fun i s hi=>Ok.un.mpr (S.ok i s hi),S.BG⟩
def AR.un {R:AR}{G:Hp}{v:V}(h:R.ok (E.at G) F H v):R.ok E F H v:=by
 cases R <;> exact h
def Sg.eW (S:Sg E ss σ F H) (j:Nat):Sg E (ss.set j .any) (σ.set j none) F H:=by
 have at_:∀ (i:Nat) (s:Slot),(ss.set j .any)[i]?=some s->s=.any∨(i≠j/\ss[i]?=some s):=fun i s hi=>by
  by_cases q:i=j
  ·subst q
   by_cases AM:i < ss.length
   ·rw [C7 AM] at hi;cases hi;exact .inl rfl
   ·rw [rW (by rw [HC];omega)] at hi;cases hi
  ·rw [Bd (Ah q)] at hi
   exact .inr ⟨q,hi⟩
 refine ⟨S.toFin,by rw [HC,HC];exact S.len,fun i s hi=>?_,fun i k u w l JA hi hk mu mw=>?_⟩
 ·rcases at_ i s hi with rfl | ⟨q,hi⟩
  ·trivial
  ·rw [Bd (Ah q)];exact S.ok i s hi
 ·rcases at_ i u hi with rfl | ⟨q,hi⟩
  ·exact mu
  ·rcases at_ k w hk with rfl | ⟨q2,hk⟩
   ·exact mw
   ·rw [Bd (Ah q)] at mu
    rw [Bd (Ah q2)] at mw
    exact S.BG i k u w l JA hi hk mu mw
end
section
variable [Xw]
variable {ss:List Slot}{nx:List Slot->Prop}{R:AR}{K:tV}{S:Addr}{j:Nat}{tb:(L2.St->XK)->TS}{th:TS}
def j4 (J:List Slot->Prop) (Dx:Ex->Prop) (hb:∀ E:Ent0,@Ws (K7 E J Dx) ss (tb (K7 E J Dx).e) nx R)
  (hh:∀ MB x,J MB->Dx x->PySem.W.exmOne K (.ref x.C) (.ref S)=some true/\Ws (MB.set j (.is (.exc x.C x.ns x.xs))) th (fun Bi=>nx (Bi.set j .any)) R):Ws ss (Qa K S j tb th) nx R:=⟨fun E D σ F H S0 hn hr=>by
 refine ⟨(K7 (E.toEnt0.at F) J Dx).e,@Ws.go (K7 (E.toEnt0.at F) J Dx) _ _ _ _ (hb (E.toEnt0.at F)) (@Ent.mk (K7 (E.toEnt0.at F) J Dx) (E.toEnt0.at F) fun ss σ F H x C dx hJ S d Az=>⟨ss,F,x,hJ,S,d,Az⟩) D σ F H S0.nK (fun A8 σ' F' H' n S' ff=>hn A8 σ' F' H' n (S0.un S') ff) (fun v F' H' f ok=>hr v F' H' (S0.toFin.un f) (AR.un ok)),fun σ1 C dx ea H1 he Hl=>?_⟩
 obtain ⟨MB,F1,x,hJ,S1,hD,eC,Az⟩:=he
 obtain ⟨mz,hw⟩:=hh MB x hJ hD
 cases eC
 have bE:=S0.un S1
 have m:=bE.alloc Hl (GB ea x.C dx)
 have r:Rep (upd F1 ea (GB ea x.C dx)) (.ref ea) (.exc x.C x.ns x.xs):=by
  rcases Az with ⟨e1,e2,e3⟩ | ⟨a,vs,e1,e2,e3,e4⟩
  ·subst e3;rw [e1,e2];exact .K9 AN
  ·subst e1
   exact .exc AN (m.ff _ _ e2) e3 (e4.mono m.ff)
 exact ⟨mz,hw.go E (D.drop j) _ _ _ (m.st.D9 r) (fun Bi σ2 F3 H3 n2 S2 ff=>hn _ _ F3 H3 n2 (S2.eW j) (S1.f0.trans (m.ff.trans ff))) fun v F' H' f ok=>hr v F' H' f ok⟩⟩
end
def Y7 (K:tV) (p:PV) (t:Value):Prop:=match p with
 | .exc C _ _=>t=.ref C/\Ke K C
 | p=>t=HV p
section
variable [Xw]
variable {E:Ent0}{ss:List Slot}{σ:L2.St} {F H F' H':Hp}{K:tV}{te:TE}{k:PV->Prop}{v:V}{fld:Str}
def Rep.pH {p:PV}{t c:Value}{b:Bool}(s:A9 F H) (r:Rep F v p) (h:Y7 K p t) (hb:PySem.W.kitOne K t c=some b) (hc:∀ C ns xs,p≠.obj C ns xs) (hn:∀ a xs,p≠.con a xs):Vm K H v t:=by
 cases r with
 | A4=>cases (show t=.type "NoneType" from h);exact .inl .A4
 | bl b=>cases (show t=.type "bool" from h);exact .inl (.bl b)
 | int i=>cases (show t=.type "int" from h);exact .inl (.int i)
 | str x=>cases (show t=.type "str" from h);exact .inl (.str x)
 | lst e _=>cases (show t=.type "list" from h);exact .inl (.lst (s _ _ e))
 | tup e _=>cases (show t=.type "tuple" from h);exact .inl (.tup (s _ _ e))
 | Ae e _ _=>cases (show t=.type "dict" from h);exact .inl (.dK (s _ _ e))
 | obj _ _ _ _=>exact absurd rfl (hc _ _ _)
 | con=>exact absurd rfl (hn _ _)
 | K9 e=>
  obtain ⟨rfl,g⟩:=h
  exact .inr ⟨_,_,none,rfl,rfl,s _ _ e,g,fun d z=>by cases z⟩
 | exc e e2 _ _=>
  obtain ⟨rfl,g⟩:=h
  exact .inr ⟨_,_,_,rfl,rfl,s _ _ e,g,fun d z=>by cases z;exact ⟨_,s _ _ e2⟩⟩
def Cy {cv:V}(h:Wp ss te fun p=>((∀ C ns xs,p≠.obj C ns xs)/\∀ a xs,p≠.con a xs)/\∃ t c b,Xp cv c/\Y7 K p t/\PySem.W.kitOne K t c=some b/\k (.bl b)):Wp ss (BY (Vu K) (AK te (AK (tC cv) AS))) k:=⟨fun E σ F H Q S q=>
 h.go E σ F H _ S fun v p F1 H1 m1 r ⟨⟨h1,h2⟩,t,c,b,hc,ht,hb,kk⟩=>⟨v,cv,c,t,b,rfl,hc,r.pH m1.st.fh ht hb h1 h2,hb,q _ _ F1 H1 m1 (.bl _) kk⟩⟩
def om (h:Wp ss te fun p=>∃ C x,p=.exc C [fld] [x]/\ExGet K C/\PySem.W.hasDictIn K C=true/\DV K C fld/\k x):Wp ss (Py K te fld) k:=⟨fun E σ F H Q S q=>
 h.go E σ F H _ S fun v p F1 H1 m1 r ⟨C,x,e,g,hd,n,kk⟩=>by
  subst e
  cases r with
  | @exc a _ dx _ vs _ e1 e2 e3 e4=>
   match vs,e4 with
   | [u],.cons r1 .nil=>exact ⟨a,C,dx,_,u,rfl,m1.st.fh _ _ e1,m1.st.fh _ _ e2,g,hd,n,by simp [List.zip,List.lookup],q _ _ F1 H1 m1 r1 kk⟩⟩
end
end Fz
namespace L2
def bC (s:Stmt):Stmt:=match s with
 | .ClassDef _ _ _ (d :: _) ..=>d
 | s=>s
def PF (P:Program) (w:World) (K:tV) (mg:tX) (base:Heap) (C:Addr) (fld:Str):Prop:=
 ∃ (fI:Addr) (fd:FuncData) (par:Str),M8 K C fI fld/\Ba P w K mg base DQ 1 fI fd ["self", par] (Jq C fld)/\Binds K fd ["self", par] []
def lx {C:Addr}{fld:Str}{a b:Str}:∀ vs H Q E,Jq C fld vs H Q E->vs.length=[a,b].length:=fun vs H Q E h=>by obtain ⟨ea,v,rfl,_⟩:=h;rfl
def r8 {C:Addr}{fld:Str}{vs:List V}{H:Hp}{Q:VK}{E:XK}{N:List Str}(hN:N.length=2) (h:Jq C fld vs H Q E) :
  IV (Gu (W9 C (AK (BB 0) (AK (Y4 (BB 1)) AS)))) (IV (X1 C fld (BB 0) (BB 1)) NZ) { nx:=fun _ H'=>Q .A4 H',rt:=Q } (start N vs) H:=by
 obtain ⟨ea,v,rfl,sv,hx,q⟩:=h
 have e0:(start N [V.ref ea,v])=[some (.ref ea),some v]:=by
  unfold start
  simp [hN]
 rw [e0]
 refine ⟨_,rfl,_,rfl,sv,fun y=>⟨ea,_,rfl,hx,?_⟩⟩
 refine ⟨_,rfl,_,rfl,ea,rfl,hx,fun d hd=>q d hd⟩
def NR {X:Cx}:Goes X (fun _=>E0):=fun _ _ _ _ _ _ _ _ _ _ _ _ _ h=>h.elim
section
variable {X:Cx}{x:Str}{C:Addr}{fld:Str}{E:St->XK}{np BJ pos:Pos}{e0:Expr}{t:TA}{j:Nat}
def fe (c:PF X.prog X.w X.K X.mg X.base C fld) (hg:Gl X x) (hm:X.mg x=some (.ref C)) (hr:Au j X.A) (hj:2<=j) (hc:X.calm=true) (hex:X.ex=[]) (go:Goes X E) (ha:QA X [e0] t)
  (Ax:(x == ("__debug__" : Str))=false:=by decide) (he:starEach [e0] X.env=(false,eval e0 X.env) :: starEach [] X.env:=by rfl) (B1:(backTo BJ (starEach [] X.env)).any (·.1)=false:=by rfl) :
  QS X (.Raise (some (.Call (.Name x np) [e0] [] BJ)) none pos) (Nf C fld E t):=by
 obtain ⟨fI,fd,par,ci,Fn,hb⟩:=c
 exact mE ci hg hm Fn hb (hr.mono hj) hc hex go ha Ax he B1
end
end L2
namespace Fz
open L2 Lw
def Zp {α:Type} (f:α->PV) (L:List α) (i:Nat) (e:α):(L.map f).set i (f e)=(L.set i e).map f:=by rw [List.map_set]
def Ov (K:tV) (C:Addr):Bool:=PySem.W.findIn K (.ref C) "__getattribute__" == some (some (.builtin "BaseException.__getattribute__")) && (PySem.W.findIn K (.ref C) "__getattr__" == some none && (PySem.W.mroIn K C (.type "BaseException") == some true && ((PySem.W.clsIn K C).isSome && (PySem.W.findIn K (.ref C) "__class__" == some (some (.builtin "object.__class__")) && (PySem.W.specialIn K (.builtin "object.__class__") "__get__" == some (some (.builtin "getset_descriptor.__get__")) && (PySem.W.takesIn K (.builtin "object.__class__") == some true && PySem.W.mroIn K C (.type "object") == some true))))))
def pX {K:tV}{C:Addr}(h:Ov K C=true):Ke K C:=by
 unfold Ov at h
 simp only [DW,beq_iff_eq] at h
 obtain ⟨h1,h2,h3,h4,h5,h6,h7,h8⟩:=h
 exact ⟨⟨h1,h2,h3⟩,h4,h5,h6,h7,h8⟩
def Nq (K:tV) (cs:List Addr) (S C:Addr) (i:Nat):Bool:=Ov K C && (PySem.W.kitOne K (.ref C) (.ref S) == some true && (PySem.W.kitOne K (.ref C) (.type "ValueError") == some true && (List.range cs.length).all fun j=>PySem.W.kitOne K (.ref C) (.ref (cs.getD j 0)) == some (decide (j=i))))
structure WT (K:tV) (cs:List Addr) (S C:Addr) (i:Nat):Prop where
 ex:Ke K C
 st:PySem.W.kitOne K (.ref C) (.ref S)=some true
 ve:PySem.W.kitOne K (.ref C) (.type "ValueError")=some true
 at_:∀ j,j < cs.length->PySem.W.kitOne K (.ref C) (.ref (cs.getD j 0))=some (decide (j=i))
def pQ {K:tV}{cs:List Addr}{S C:Addr}{i:Nat}(h:Nq K cs S C i=true):WT K cs S C i:=by
 unfold Nq at h
 simp only [DW,beq_iff_eq,G7] at h
 obtain ⟨h1,h2,h3,h4⟩:=h
 exact ⟨pX h1,h2,h3,fun j hj=>h4 j (List.mem_range.mpr hj)⟩
def lI (bs:List Bool):(bs.map V.bl).all Bn=true:=by
 rw [G7];intro x hx
 obtain ⟨y,_,rfl⟩:=List.mem_map.mp hx;rfl
section
variable [Xw]
variable {ss:List Slot}{K:tV}{ta:TE}{k:PV->Prop}{a:Addr}{ns:List Str}
def bP {neg:Bool}(c:K4 K a (ns.map .str)) (h:Wp ss ta fun p=>∃ x,p=.str x/\k (.bl (if neg then !decide (x∈ns) else decide (x∈ns)))):Wp ss (B0 (K8 K neg) ta (tC (.ref a))) k:=⟨fun E σ F H Q S q=>
 h.go E σ F H _ S fun v p F1 H1 m1 r1 ⟨x,e,kk⟩=>by
  subst e;cases r1
  have sq:=c.sq H1
  rw [Qp] at sq
  refine ⟨a,ns.map V.str,rfl,.inr sq,rfl,IH ns,?_⟩
  rw [QD]
  exact q _ _ F1 H1 m1 (.bl _) kk⟩
def cO {tb:TE}(h:Wq ss ta fun tp xs=>tp=false/\∃ bs:List Bool,xs=bs.map PV.bl/\Wp ss tb fun q=>∃ b,q=.bl b/\k (.int (L8 (.bl b) (bs.map V.bl)))):Wp ss (GN K "list" (To K) ta (AK tb AS)) k:=⟨fun E σ F H Q S q=>
 h.go E σ F H _ S fun v tp xs F1 H1 m1 sv ⟨et,bs,e,h2⟩=>by
  subst et;subst e
  obtain ⟨l,vs,rfl,hl,r⟩:=sv.seq m1.st
  refine ⟨.inl ⟨rfl,_,AG.of hl⟩,h2.go E σ F1 H1 _ m1.st fun v2 p2 F2 H2 m2 r2 ⟨b,e2,kk⟩=>?_⟩
  subst e2;cases r2
  obtain ⟨l',BQ,e',Er,r'⟩:=(sv.mv m2).seq m2.st
  cases e'
  rw [r'.R1] at Er
  exact ⟨l,_,_,rfl,rfl,AG.of Er,rfl,lI bs,q _ _ F2 H2 (m1.trans m2) (.int _) kk⟩⟩
end
def bp (r:Str):Bool:=decide (r∈([("none" : Str), "ahead", "all"]))
def TJ (K:tV) (cs:List Addr) (S:Addr):Pre:=fun l R=>∃ (C:Addr) (ms:List Str) (xs:List PV) (i:Nat),l=[.is (.exc C ms xs),.is (.int i)]/\WT K cs S C i/\i < cs.length/\cs.length=16/\R=.is fun p=>p=.bl true
def lZ {i:Nat}(h:i < 16):L8 (.bl true) (List.map V.bl [decide (0=i),decide (1=i),decide (2=i),decide (3=i),decide (4=i),decide (5=i),decide (6=i),decide (7=i),decide (8=i),decide (9=i),decide (10=i),decide (11=i),decide (12=i),decide (13=i),decide (14=i),decide (15=i)])=1:=by
 have c:i=0∨i=1∨i=2∨i=3∨i=4∨i=5∨i=6∨i=7∨i=8∨i=9∨i=10∨i=11∨i=12∨i=13∨i=14∨i=15:=by omega
 rcases c with rfl | rfl | rfl | rfl | rfl | rfl | rfl | rfl | rfl | rfl | rfl | rfl | rfl | rfl | rfl | rfl <;> rfl
def rA {i:Nat}(h:i < 16):L2.BK [PV.bl (decide (0=i)),PV.bl (decide (1=i)),PV.bl (decide (2=i)),PV.bl (decide (3=i)),PV.bl (decide (4=i)),PV.bl (decide (5=i)),PV.bl (decide (6=i)),PV.bl (decide (7=i)),PV.bl (decide (8=i)),PV.bl (decide (9=i)),PV.bl (decide (10=i)),PV.bl (decide (11=i)),PV.bl (decide (12=i)),PV.bl (decide (13=i)),PV.bl (decide (14=i)),PV.bl (decide (15=i))] (i:Int)=some (.bl true):=by
 have c:i=0∨i=1∨i=2∨i=3∨i=4∨i=5∨i=6∨i=7∨i=8∨i=9∨i=10∨i=11∨i=12∨i=13∨i=14∨i=15:=by omega
 rcases c with rfl | rfl | rfl | rfl | rfl | rfl | rfl | rfl | rfl | rfl | rfl | rfl | rfl | rfl | rfl | rfl <;> rfl
def dH {x:Str}(h:x.length<=100) (hx:∀ c∈x.cps.toList,c < 16 ^ 8):(reprText x).length<=100000:=by
 have:=PySem.StrLaws.reprText_len x hx
 omega
section
variable [Xw]
variable {ss:List Slot}{ta tb:TE}{k:PV->Prop}
end
section
variable [Xw]
variable {ss:List Slot}{K:tV}{ta tb te t u:TE}{k:PV->Prop}{pre:FQ}{tA:TA}
def oU (h:Wp ss te fun p=>∃ x,p=.str x/\x.length<=1000/\k (.bl (isNm x))):Wp ss (CI Sw [] E0 (AK te AS)) k:=⟨fun E σ F H Q S q=>
 h.go E σ F H _ S fun v p F1 H1 m1 r ⟨x,e,hx,kk⟩=>by
  subst e;cases r
  exact ⟨x,rfl,hx,fun H3 s=>q _ _ F1 H3 (m1.trans (m1.st.grow s)) (.bl _) kk⟩⟩
end
section
variable [Xw]
variable {ss:List Slot}{K:tV}{ta tb:TE}
end
def Gz (pre:Pre):Sp:=fun vs H Q _=>∃ (ss:List Slot) (R:AR) (F:Hp) (A B:List Addr),pre ss R/\Sg ⟨A,F,H,B⟩ ss (vs.map some) F H/\∀ v F' H',Fin ⟨A,F,H,B⟩ F' H'->R.ok ⟨A,F,H,B⟩ F' H' v->Q v H'
inductive Gv (F:Hp):List V->List Slot->Prop where
 | nil:Gv F [] []
 | cons {v:V}{p:PV}{vs:List V}{l:List Slot}:Rep F v p->Gv F vs l->Gv F (v :: vs) (.is p :: l)
inductive Gw (σ:L2.St) (F:Hp) (i:Nat) (t:OV):List V->List Slot->Prop where
 | here {v:V}{vs:List V}{l:List Slot}:σ[i]?=some (some v)->Gv F vs l->Gw σ F i t (v :: vs) (.ow true t :: l)
 | there {v:V}{p:PV}{vs:List V}{l:List Slot}:Rep F v p->Gw σ F i t vs l->Gw σ F i t (v :: vs) (.is p :: l)
theorem Gv.len {F:Hp}:∀ {vs:List V}{l:List Slot},Gv F vs l->l.length=vs.length
 | _,_,.nil=>rfl
 | _,_,.cons _ t=>by rw [Bm,Bm,t.len]
theorem Gw.len {σ:L2.St} {i:Nat}{t:OV}{F:Hp}:∀ {vs:List V}{l:List Slot},Gw σ F i t vs l->l.length=vs.length
 | _,_,.here _ r=>by rw [Bm,Bm,r.len]
 | _,_,.there _ h=>by rw [Bm,Bm,h.len]
theorem Gv.at {F:Hp}:∀ {vs:List V}{l:List Slot},Gv F vs l->∀ {n:Nat}{s:Slot},l[n]?=some s->∃ v p,vs[n]?=some v/\s=.is p/\Rep F v p
 | _,_,.nil,_,_,e=>by simp at e
 | _,_,.cons r _,0,_,e=>by simp at e;subst e;exact ⟨_,_,rfl,rfl,r⟩
 | _,_,.cons _ t,n+1,s,e=>by
  obtain ⟨v,p,h⟩:=t.at (n:=n) (s:=s) (by simpa using e)
  exact ⟨v,p,by simpa using h⟩
theorem Gw.at {σ:L2.St} {i:Nat}{t:OV}{F:Hp}:∀ {vs:List V}{l:List Slot},Gw σ F i t vs l->∃ m:Nat,∀ {n:Nat}{s:Slot},l[n]?=some s->(n=m/\s=.ow true t/\∃ v,vs[n]?=some v/\σ[i]?=some (some v))∨∃ v p,vs[n]?=some v/\s=.is p/\Rep F v p
 | _,_,.here e r=>⟨0,fun {n s} h=>by
  cases n with
  | zero=>simp at h;subst h;exact .inl ⟨rfl,rfl,_,rfl,e⟩
  | succ n=>
   obtain ⟨v,p,q⟩:=r.at (n:=n) (s:=s) (by simpa using h)
   exact .inr ⟨v,p,by simpa using q⟩⟩
 | _,_,.there r h=>by
  obtain ⟨m,hm⟩:=h.at
  refine ⟨m+1,fun {n s} q=>?_⟩
  cases n with
  | zero=>simp at q;subst q;exact .inr ⟨_,_,rfl,rfl,r⟩
  | succ n=>
   rcases hm (n:=n) (s:=s) (by simpa using q) with ⟨e,es,v,hv⟩ | ⟨v,p,hv⟩
   ·exact .inl ⟨by rw [e],es,v,by simpa using hv⟩
   ·exact .inr ⟨v,p,by simpa using hv⟩
structure NB (E:Ent0) (ss:List Slot) (σ:L2.St) (i:Nat) (lt:Bool) (t t':OV) (F H F' H':Hp):Prop where
 st:Sg E (ss.set i (.ow lt t')) σ F' H'
 ff:A9 F F'
 hh:∀ a o,Bf ss σ a->a∉t.addrs->H a=some o->H' a=some o
 nn:∀ a o,F' a=some o->F a=some o∨H a=none
structure Kb [Xw] (ss:List Slot) (ta:TA) (k:List Slot->Prop):Prop where
 go:∀ (E:Ent) (σ:L2.St) (F H:Hp) (Q:List V->Hp->Prop),Sg E ss σ F H->(∀ vs l F' H',Mv E ss σ F H F' H'->Gv F' vs l->k l->Q vs H')->ta σ H Q
structure N8 [Xw] (ss:List Slot) (i:Nat) (t:OV) (ta:TA) (k:List Slot->Prop):Prop where
 go:∀ (E:Ent) (σ:L2.St) (F H:Hp) (Q:List V->Hp->Prop),Sg E ss σ F H->(∀ vs l F' H',Mv E ss σ F H F' H'->Gw σ F' i t vs l->k l->Q vs H')->ta σ H Q
structure Wm [Xw] (ss:List Slot) (i:Nat) (lt:Bool) (t:OV) (te:TE) (k:PV->OV->Prop):Prop where
 go:∀ (E:Ent) (σ:L2.St) (F H:Hp) (Q:VK),Sg E ss σ F H->(∀ v p t' F' H',NB E ss σ i lt t t' F H F' H'->Rep F' v p->k p t'->Q v H')->te σ H Q
section
variable {E:Ent0}{ss:List Slot}{σ:L2.St} {F H F' H':Hp}
def Sg.aC {i:Nat}{lt:Bool}{t:OV}(S:Sg E ss σ F H) (hi:ss[i]?=some (.ow lt t)){vs:List V}{l:List Slot}(a:Gw σ F i t vs l):Sg ⟨[],F,H,t.addrs⟩ l (vs.map some) F H:=by
 obtain ⟨v0,e0,r0,CQ,q0⟩:=S.ok i _ hi
 have nn:∀ {p:Prop}(a:Addr),a∈([]:List Addr)->p:=fun a h=>absurd h Ay
 obtain ⟨m,hm⟩:=a.at
 refine ⟨⟨S.fh,A9.refl _,fun _ _ _ e=>e,fun _ _ e=>.inl e,fun a h=>nn a h,fun a h=>nn a h,fun a h=>nn a h,fun a h=>(q0 a h).1,fun a h=>r0.there a h,fun a h=>⟨r0.there a h,Ay⟩⟩,by rw [AJ];exact a.len,fun n s hn=>?_,fun n j s u b jj hn hj ms mu=>?_⟩
 ·rcases hm hn with ⟨_,rfl,v,hv,ev⟩ | ⟨v,p,hv,rfl,r⟩
  ·rw [Ak,hv]
   rw [e0] at ev;cases ev
   exact ⟨v0,rfl,r0,CQ,fun a ha=>⟨(q0 a ha).1,.inr ⟨rfl,ha⟩⟩⟩
  ·rw [Ak,hv]
   exact ⟨v,rfl,r⟩
 ·rcases hm hn with ⟨e1,rfl,_⟩ | ⟨_,_,_,rfl,_⟩
  ·rcases hm hj with ⟨e2,rfl,_⟩ | ⟨_,_,_,rfl,_⟩
   ·exact jj (e1.trans e2.symm)
   ·cases mu
  ·cases ms
def Sg.XF {i:Nat}{lt:Bool}{nk Fw:NK}{a0:Addr}{us Ap:List OV}(S:Sg E ss σ F H) (hi:ss[i]?=some (.ow lt (.nd nk a0 us))) (f:Fin ⟨[],F,H,(OV.nd nk a0 us).addrs⟩ F' H') (r:Aa F' H' (.ref a0) (.nd Fw a0 Ap)) (nd:(OV.nd Fw a0 Ap).addrs.Nodup) (q:∀ a∈(OV.nd Fw a0 Ap).addrs,F' a=none/\(H a=none∨a∈(OV.nd nk a0 us).addrs)) :
  NB E ss σ i lt (.nd nk a0 us) (.nd Fw a0 Ap) F H F' H':=by
 obtain ⟨v0,e0,r0,CQ,q0⟩:=S.ok i _ hi
 have ev:v0=.ref a0:=by cases r0;rfl
 subst ev
 have AM:i < ss.length:=(List.getElem?_eq_some_iff.mp hi).1
 have kp:∀ a o,a∉(OV.nd nk a0 us).addrs->H a=some o->H' a=some o:=fun a o n e=>f.keep a o ⟨Ay,n⟩ e
 have BC:∀ a,H a≠none->F a=none->F' a=none:=fun a h1 h2=>by
  cases e:F' a with
  | none=>rfl
  | some o=>
   rcases f.fresh a o e with z | z
   ·rw [show F a=some o from z] at h2;cases h2
   ·exact absurd z h1
 have bq:∀ a,a∈E.A->a∉(OV.nd nk a0 us).addrs:=fun a hA hm=>by
  rcases (q0 a hm).2 with z | ⟨_,z⟩
  ·exact S.a0 a hA z
  ·exact (S.b0 a z).2 hA
 have other:∀ (j:Nat) s,j≠i->ss[j]?=some s->∀ a,An s σ[j]? a->a∉(OV.nd nk a0 us).addrs:=fun j s hj hs a ho hm=>S.BG j i s _ a hj hs hi ho hm
 refine ⟨⟨⟨f.fh,S.f0.trans f.f0,fun a o hA e=>?_,fun a o e=>?_,fun a hA=>?_,fun a hA=>?_,S.a0,fun a hB=>?_,fun a hB=>?_,S.b0⟩,by rw [HC];exact S.len,fun j s hj=>?_,fun j k s u b O2 hj hk ms mu=>?_⟩,f.f0,fun a o _ n e=>kp a o n e,fun a o e=>f.fresh a o e⟩
 ·refine kp a o (fun hm=>?_) (S.keep a o hA e)
  rcases (q0 a hm).2 with z | ⟨_,z⟩
  ·rw [e] at z;cases z
  ·exact hA.2 z
 ·rcases f.fresh a o e with z | z
  ·exact S.fresh a o z
  ·exact .inr (S.Cz z)
 ·exact Aq.keep (S.Es a hA) fun o e=>kp a o (bq a hA) e
 ·obtain ⟨_,_,e1,_⟩:=S.Es a hA
  exact BC a (by rw [e1];simp) (S.IS a hA)
 ·exact BC a (S.bH a hB) (S.bF a hB)
 ·by_cases hm:a∈(OV.nd nk a0 us).addrs
  ·exact f.bH a hm
  ·intro z
   cases e:H a with
   | none=>exact S.bH a hB e
   | some o=>rw [kp a o hm e] at z;cases z
 ·by_cases c:j=i
  ·subst c
   rw [C7 AM] at hj
   cases hj
   refine ⟨.ref a0,e0,r,nd,fun a ha=>⟨(q a ha).1,?_⟩⟩
   rcases (q a ha).2 with z | z
   ·exact .inl (S.Cz z)
   ·exact (q0 a z).2
  ·rw [Bd (Ah c)] at hj
   by_cases np:s=.AI
   ·subst np
    obtain ⟨l,e,fl,hl,pt⟩:=S.ok j _ hj
    obtain ⟨_,_,e1,_⟩:=id pt
    exact ⟨l,e,BC l (by rw [e1];simp) fl,hl,Aq.keep pt fun o z=>kp l o (other j _ c hj l e) z⟩
   ·exact Ok.go S hj f.f0 (fun a o ho e=>kp a o (other j s c hj a ho) e) BC np
 ·have at_:∀ (n:Nat) s,(ss.set i (.ow lt (.nd Fw a0 Ap)))[n]?=some s->(n=i/\s=.ow lt (.nd Fw a0 Ap))∨(n≠i/\ss[n]?=some s):=fun n s hn=>by
   by_cases c:n=i
   ·subst c;rw [C7 AM] at hn;exact .inl ⟨rfl,(BA hn).symm⟩
   ·rw [Bd (Ah c)] at hn;exact .inr ⟨c,hn⟩
  have VG:∀ (n:Nat) s,n≠i->ss[n]?=some s->An s σ[n]? b->b∉(OV.nd Fw a0 Ap).addrs:=fun n s hn hs ho hm=>by
   rcases (q b hm).2 with z | z
   ·exact S.DJ hs ho z
   ·exact other n s hn hs b ho z
  rcases at_ j s hj with ⟨e1,rfl⟩ | ⟨n1,h1⟩
  ·rcases at_ k u hk with ⟨e2,rfl⟩ | ⟨n2,h2⟩
   ·exact O2 (e1.trans e2.symm)
   ·exact VG k u n2 h2 mu ms
  ·rcases at_ k u hk with ⟨e2,rfl⟩ | ⟨n2,h2⟩
   ·exact VG j s n1 h1 ms mu
   ·exact S.BG j k s u b O2 h1 h2 ms mu
end
section
variable [Xw]
variable {ss:List Slot}{te:TE}{ta:TA}{i:Nat}{lt:Bool}{t:OV}{nx:List Slot->Prop}{R:AR}
def Hw {k:List Slot->Prop}(h:k []):Kb ss AS k:=⟨fun E σ F H Q S q=>q [] [] F H (Mv.refl S) .nil h⟩
def RV {k:List Slot->Prop}(h:Wp ss te fun p=>Kb ss ta fun l=>k (.is p :: l)):Kb ss (AK te ta) k:=⟨fun E σ F H Q S q=>
 h.go E σ F H _ S fun v p F1 H1 m1 r h2=>h2.go E σ F1 H1 _ m1.st fun vs l F2 H2 m2 a kk=>q _ _ F2 H2 (m1.trans m2) (.cons (r.mono m2.ff) a) kk⟩
def OY {k:List Slot->Prop}(hi:ss[i]?=some (.ow lt t)) (h:Kb ss ta fun l=>k (.ow true t :: l)):N8 ss i t (AK (BB i) ta) k:=⟨fun E σ F H Q S q=>by
 obtain ⟨v0,e0,_⟩:=S.ok i _ hi
 exact ⟨_,e0,h.go E σ F H _ S fun vs l F2 H2 m2 a kk=>q _ _ F2 H2 m2 (.here e0 a) kk⟩⟩
def HK {k:List Slot->Prop}(h:Wp ss te fun p=>N8 ss i t ta fun l=>k (.is p :: l)):N8 ss i t (AK te ta) k:=⟨fun E σ F H Q S q=>
 h.go E σ F H _ S fun v p F1 H1 m1 r h2=>h2.go E σ F1 H1 _ m1.st fun vs l F2 H2 m2 a kk=>q _ _ F2 H2 (m1.trans m2) (.there (r.mono m2.ff) a) kk⟩
def Mv.c4 {E:Ent0}{σ:L2.St} {F H F1 H1 F2 H2:Hp}{t':OV}(hi:ss[i]?=some (.ow lt t)) (a:Mv E ss σ F H F1 H1) (b:NB E ss σ i lt t t' F1 H1 F2 H2):NB E ss σ i lt t t' F H F2 H2:=
 ⟨b.st,a.ff.trans b.ff,fun c o n z e=>b.hh c o n z (a.hh c o n e),fun c o e=>(b.nn c o e).elim (fun e=>a.nn c o e) fun e=>.inr (a.none e)⟩
def N9 {pre:Pre}{nk:NK}{a0:Addr}{us:List OV}{k:PV->OV->Prop}(hi:ss[i]?=some (.ow lt (.nd nk a0 us))) (h:N8 ss i (.nd nk a0 us) ta fun l=>∃ k',pre l (.mt k')/\∀ p t',k' p t'->∃ Fw Ap,t'=.nd Fw a0 Ap/\k p t'):Wm ss i lt (.nd nk a0 us) (CI (Gz pre) [] E0 ta) k:=⟨fun E σ F H Q S q=>
 h.go E σ F H _ S fun vs l F1 H1 m1 a ⟨k',hp,kk⟩=>by
  rw [EV]
  refine ⟨l,.mt k',F1,[],(OV.nd nk a0 us).addrs,hp,m1.st.aC hi a,fun v F' H' f ⟨p,t',r,ro,nd,qa,kp⟩=>?_⟩
  obtain ⟨Fw,Ap,rfl,k2⟩:=kk p t' kp
  exact q v p _ F' H' (m1.c4 hi (m1.st.XF hi f ro nd qa)) r k2⟩
def V2 {j:Nat}(h:Wm ss i lt t te fun p t'=>nx ((ss.set i (.ow lt t')).set j (.is p))):Ws ss (DM te (BU j)) nx R:=⟨fun E D σ F H S hn hr=>
 h.go E σ F H _ S fun v p t' F1 H1 m1 r kk=>hn _ _ F1 H1 kk (m1.st.D9 r) m1.ff⟩
def kC {nk:NK}{a0:Addr}{us:List OV}{k:PV->OV->Prop}(hi:ss[i]?=some (.ow lt (.nd nk a0 us))) (h:Wp ss te fun p=>k p (.nd nk a0 us)):Ws ss (Jd te) nx (.mt k):=⟨fun E D σ F H S hn hr=>
 h.go E σ F H _ S fun v p F1 H1 m1 r kk=>by
  obtain ⟨v0,e0,r0,CQ,q0⟩:=m1.st.ok i _ hi
  have ev:v0=.ref a0:=by cases r0;rfl
  subst ev
  exact hr v F1 H1 m1.st.toFin ⟨p,.nd nk a0 us,r,r0,CQ,fun a ha=>⟨(q0 a ha).1,(q0 a ha).2.imp id fun z=>z.2⟩,kk⟩⟩
end
section
variable {pre:Pre}{H:Hp}
def j7 {N:List Str}{n:Nat}{vs:List V}{Q:VK}{X:XK}{t:TS}(h:Gz pre vs H Q X) (hl:∀ ss R,pre ss R->ss.length=n)
  (hw:∀ ss R,pre ss R->Ws (ss++List.replicate (N.length - n) .any) t (fun _=>False) R):t { nx:=fun _ H'=>Q .A4 H',rt:=Q } (L2.start N vs) H:=by
 obtain ⟨ss,R,F,A,B,hp,S,q⟩:=h
 have e:vs.length=n:=by have:=S.len;rw [AJ] at this;rw [<- this];exact hl ss R hp
 unfold L2.start
 rw [e]
 exact (hw ss R hp).go (N6 ⟨A,F,H,B⟩) _ _ F H (S.grown _) (fun A8 σ' F' H' z S' _=>z.elim) fun v F' H' f ok=>q v F' H' f ok
def Ym {n:Nat}{vs:List V}{Q:VK}{X:XK}(hl:∀ ss R,pre ss R->ss.length=n) (h:Gz pre vs H Q X):vs.length=n:=by
 obtain ⟨ss,R,F,A,B,hp,S,q⟩:=h
 have:=S.len
 rw [AJ] at this
 rw [<- this];exact hl ss R hp
end
section
variable {E:Ent0}{ss:List Slot}{σ:L2.St} {F H F' H':Hp}{j:Nat}{u:OV}
end
section
variable [Xw]
variable {ss:List Slot}{te:TE}{i j:Nat}{lt:Bool}{t u:OV}
end
end Fz
namespace L2
section
variable {X:Cx}{o i value:Expr}{td ty tv:TE}{pos pos':Pos}
def WN (hu:X.A.units+1 < cLine) (ho:QE X o td) (hi:QE X i ty) (hs:PL i):QE X (.Subscript o i pos) (R0 td ty):=⟨fP hu ho.h hi.h hs⟩
def ZO (hu:X.A.units+1 < cLine) (ho:QE X o td) (hi:QE X i ty) (hv:QE X value tv) (hs:swapsWith value (some (.Subscript o i pos')) pos.line X.env=pure false:=by rfl) :
  QS X (.Assign [.Subscript o i pos'] value pos) (QV td ty tv):=⟨gN hu ho.h hi.h hv.h hs⟩
def ZE:QE X (.Dict [] [] pos) Th:=⟨lH⟩
end
end L2
namespace Fz
open L2 Lw
def IY:Key->PV
 | .inl i=>.int i
 | .inr x=>.str x
def Hn:List Key->List PV->Key->Option PV
 | k' :: ks,x :: xs,k=>if k'=k then some x else Hn ks xs k
 | _,_,_=>none
def G0 (ks:List Key) (k:Key):Bool:=ks.any fun k'=>decide (k'=k)
def IF (ks:List Key) (k:Key):List Key:=if G0 ks k=true then ks else ks++[k]
def T4 {F:Hp}{v:V}{k:Key}(r:Rep F v (IY k)):v=kV k:=by
 cases k with
 | inl i=>cases r;rfl
 | inr x=>cases r;rfl
theorem ZP {F:Hp}{k:Key}{y:PV}:∀ {ks:List Key}{vs:List V}{xs:List PV},AD F vs xs->ks.length=vs.length->Hn ks xs k=some y->∃ v,De (ks.zip vs) k=some v/\Rep F v y
 | [],_,_,_,_,h=>by rw [Hn] at h;cases h;all_goals simp
 | k' :: ks,v :: vs,x :: xs,.cons r t,hl,h=>by
  rw [Hn] at h
  rw [J2]
  by_cases c:k'=k
  ·rw [if_pos c] at h
   cases h
   exact ⟨v,OX c,r⟩
  ·rw [if_neg c] at h
   obtain ⟨w,h1,h2⟩:=ZP t (by simpa using hl) h
   exact ⟨w,by rw [NQ c];exact h1,h2⟩
 | k' :: ks,[],xs,_,hl,_=>by simp at hl
section
variable [Xw]
variable {ss:List Slot}{td ty tv:TE}{k:PV->Prop}{nx:List Slot->Prop}{R:AR}{i:Nat}{lt:Bool}
def ZD (h:Wp ss td fun p=>∃ ks xs,p=.Ae ks xs/\Wp ss ty fun q=>∃ key y,q=IY key/\Hn ks xs key=some y/\k y):Wp ss (R0 td ty) k:=⟨fun E σ F H Q S q=>
 h.go E σ F H _ S fun v p F1 H1 m1 r1 ⟨ks,xs,e,h2⟩=>h2.go E σ F1 H1 _ m1.st fun v2 p2 F2 H2 m2 r2 ⟨key,y,e2,hy,kk⟩=>by
  subst e;subst e2
  have Ih:=r1.mono m2.ff
  cases Ih with
  | Ae ef hl rr=>
   obtain ⟨w,hw,rw_⟩:=ZP rr hl hy
   refine ⟨_,w,rfl,?_,q w y F2 H2 (m1.trans m2) rw_ kk⟩
   rw [<- hw,T4 r2]
   exact GU.k (m2.st.fh _ _ ef)⟩
def XY {k:List Nat->OV->Prop}(h:∀ a,k [] (.nd (.Ae []) a (([]:List PV).map .fz))):Wx ss Th k:=⟨fun E σ F H Q S q p hp=>by
 have m:=S.make hp (.dK [])
 refine q _ [] (.nd (.Ae []) p (([]:List PV).map .fz)) F _ m (.nd (k:=.Ae []) (vs:=[]) AN trivial rfl .nil) (by rw [OV.Cm];simp [NK.more,OV.Gp]) (fun a ha=>?_) (h p)
 rw [OV.Cm] at ha
 have e:a=p:=by simpa [NK.more,OV.Gp] using ha
 subst e
 exact ⟨S.BC hp,S.Cz hp,.inr hp⟩⟩
theorem Rg:∀ {ks:List Key}{vs:List V}{key:Key},ks.length=vs.length->(ks.zip vs).any (fun kv=>decide (kv.1=key))=G0 ks key
 | [],vs,key,h=>rfl
 | k' :: ks,w :: vs,key,h=>by
  rw [J2,KI,Rg (by simpa using h)]
  rfl
 | _ :: _,[],_,h=>by simp at h
def FK:List Key->List V->Key->V->List V
 | k' :: ks,x :: xs,k,p=>(if k'=k then p else x) :: FK ks xs k p
 | _,xs,_,_=>xs
theorem Yi:∀ {ks:List Key}{vs:List V}{key:Key}{v:V},(ks.zip vs).map (fun kv=>if kv.1=key then (kv.1,v) else kv)=ks.zip (FK ks vs key v)
 | [],vs,key,v=>by simp
 | k' :: ks,w :: vs,key,v=>by
  rw [J2,BV,Yi,FK,J2]
  by_cases c:k'=key
  ·rw [if_pos c,if_pos c]
  ·rw [if_neg c,if_neg c]
 | _ :: _,[],_,_=>by simp [FK]
end
def Dr:List Key->Key->Option Nat
 | [],_=>none
 | k' :: ks,k=>if k'=k then some 0 else (Dr ks k).map (· + 1)
theorem X4:∀ {ks:List Key}{key:Key}{n:Nat},Dr ks key=some n->ks[n]?=some key
 | [],_,_,h=>by cases h
 | k' :: ks,key,n,h=>by
  rw [Dr] at h
  by_cases c:k'=key
  ·rw [if_pos c] at h;cases h;subst c;rfl
  ·rw [if_neg c] at h
   cases e:Dr ks key with
   | none=>rw [e] at h;cases h
   | some m=>rw [e] at h;cases h;exact X4 (ks:=ks) e
theorem Qu:∀ {ks:List Key}{key:Key},(Dr ks key).isSome=G0 ks key
 | [],_=>rfl
 | k' :: ks,key=>by
  rw [Dr]
  unfold G0
  rw [KI]
  by_cases c:k'=key
  ·rw [if_pos c,decide_eq_true c];rfl
  ·rw [if_neg c,decide_eq_false c,Bool.false_or,ak,Qu];rfl
def rH {ks:List Key}{vs:List V}{key:Key}(hl:ks.length=vs.length):(De (ks.zip vs) key).isSome=G0 ks key:=by
 rw [<- Mi,Rg hl]
theorem WG:∀ {ks:List Key}{vs:List V}{key:Key}{n:Nat}{v:V},ks.Nodup->Dr ks key=some n->FK ks vs key v=vs.set n v
 | [],_,_,_,_,_,h=>by cases h
 | k' :: ks,[],key,n,v,_,h=>by rw [FK];simp;simp
 | k' :: ks,w :: vs,key,n,v,nd,h=>by
  rw [Dr] at h
  obtain ⟨n1,n2⟩:=List.nodup_cons.mp nd
  rw [FK]
  by_cases c:k'=key
  ·rw [if_pos c] at h;cases h
   rw [if_pos c,Ud]
   congr 1
   subst c
   have aux:∀ {ks:List Key}{vs:List V},k'∉ks->FK ks vs k' v=vs:=by
    intro ks
    induction ks with
    | nil=>intro vs _;rw [FK];simp
    | cons k2 ks ih=>
     intro vs hn
     cases vs with
     | nil=>rw [FK];simp
     | cons u vs=>
      rw [FK,if_neg (fun z=>hn (by rw [z];simp)),ih (fun z=>hn (by simp [z]))]
   exact aux n1
  ·rw [if_neg c] at h
   cases e:Dr ks key with
   | none=>rw [e] at h;cases h
   | some m=>
    rw [e] at h;cases h
    rw [if_neg c,Of,WG n2 e]
section
variable [Xw]
variable {ss:List Slot}{ta td ty tv:TE}{k:PV->Prop}{nx:List Slot->Prop}{R:AR}{i:Nat}{t:OV}
def bb (h:Wp ss ty fun q=>Wp ss td fun u=>∃ ks xs key,u=.Ae ks xs/\q=IY key/\k (.bl (!G0 ks key))):Wp ss (Oq ty td) k:=⟨fun E σ F H Q S q=>
 h.go E σ F H _ S fun v p F1 H1 m1 r1 h2=>h2.go E σ F1 H1 _ m1.st fun v2 u F2 H2 m2 r2 ⟨ks,xs,key,eu,eq,kk⟩=>by
  subst eu;subst eq
  cases r2 with
  | @Ae a _ vs _ ef hl rr=>
   refine ⟨a,De (ks.zip vs) key,rfl,by rw [T4 r1];exact GU.k (m2.st.fh _ _ ef),?_⟩
   rw [rH hl]
   exact q _ _ F2 H2 (m1.trans m2) (.bl _) kk⟩
def J6 {ks:List Key}{a:Addr}{us:List OV}:(OV.nd (.Ae ks) a us).addrs=a :: OV.AO us:=by rw [OV.Cm];rfl
def X9 {lt:Bool}:∀ (m:List Nat) (ss:List Slot),ss[i]?=some (.ow lt t)->i∉m->(Fz.C4 m ss)[i]?=some (.ow lt t):=by
 intro m
 induction m with
 | nil=>intro ss h _;exact h
 | cons j m ih=>
  intro ss h hm
  refine ih _ ?_ fun z=>hm (by simp [z])
  rw [Bd (by rintro rfl;exact hm (by simp))];exact h
def Sg.gi {lt:Bool}{E:Ent0}{σ:L2.St} {F0 F H0 H:Hp}{p:List Nat}{a:Addr}{ks O1:List Key}{us Ap:List OV}{BQ:List V}{m:List Nat}{u:OV}(S0:Sg E ss σ F0 H0) (S:Sg E ss σ F H) (hi:ss[i]?=some (.ow lt t)) (Az:t.at p=some (.nd (.Ae ks) a us))
  (hu:∀ a∈u.addrs,F a=none/\E.H0 a=none/\((∃ i∈m,∃ s,s≠Slot.AI/\ss[i]?=some s/\An s σ[i]? a)∨H0 a=none)) (CK:i∉m)
  (hr:AZ F H BQ Ap) (hl:O1.length=BQ.length) (MP:(OV.AO Ap).Nodup) (Ga:∀ b∈OV.AO Ap,b∈OV.AO us∨b∈u.addrs):Sg E ((Fz.C4 m ss).set i (.ow lt (t.put p (.nd (.Ae O1) a Ap)))) σ F (upd H a (.dK (O1.zip BQ))):=by
 have Du:=X9 m ss hi CK
 obtain ⟨v,e,r,nd,q⟩:=S.ok i _ hi
 have ut:∀ b,b∈a :: OV.AO us->b∈t.addrs:=fun b hb=>OV.Fq Az b (by rw [J6];exact hb)
 have JL:∀ b∈u.addrs,b∉t.addrs:=fun b hb z=>by
  rcases (hu b hb).2.2 with ⟨j,hj,s,_,hs,o⟩ | w
  ·exact S.BG j i s _ b (by rintro rfl;exact CK hj) hs hi o z
  ·exact S0.DJ hi z w
 have CC:(OV.nd (.Ae ks) a us).addrs.Nodup:=by
  obtain ⟨l,rr,e1,_⟩:=OV.split Az
  rw [e1,Be,Be] at nd
  exact nd.1.2.1
 rw [J6] at CC
 have na:∀ b∈OV.AO Ap,b≠a:=fun b hb z=>by
  subst z
  rcases Ga b hb with w | w
  ·exact (List.nodup_cons.mp CC).1 w
  ·exact JL b w (ut b (by simp))
 refine (S.C4 m).Sl Du Az (.nd (k:=.Ae O1) AN trivial hl (hr.mono (A9.refl _) fun b hb o ho=>by rw [AF (na b hb)];exact ho)) (by rw [J6];exact List.nodup_cons.mpr ⟨fun z=>na a z rfl,MP⟩) fun b hb=>?_
 rw [J6] at hb ⊢
 rcases List.mem_cons.mp hb with w | w
 ·exact .inl (by simp [w])
 ·rcases Ga b w with z | z
  ·exact .inl (by simp [z])
  ·refine .inr ⟨(hu b z).1,(hu b z).2.1,fun j s hs o=>?_⟩
   rcases MF hs with y | ⟨BE,hm⟩
   ·subst y;cases o
   ·rcases (hu b z).2.2 with ⟨i2,Fu,s2,_,BD,o2⟩ | y
    ·exact S.BG j i2 s s2 b (by rintro rfl;exact hm Fu) BE BD o o2
    ·exact S0.DJ BE o y
def Hg (ks:List Key) (us:List OV) (key:Key) (w:OV):List OV:=match Dr ks key with
 | some n=>us.set n w
 | none=>us++[w]
def WE (h:Wx ss tv fun m w=>Wl ss i t td fun p u=>∃ lt a ks us,ss[i]?=some (.ow lt t)/\u=.nd (.Ae ks) a us/\us.length<=99999/\ks.Nodup/\i∉m/\Wp ss ty fun q=>∃ key,q=IY key/\nx ((Fz.C4 m ss).set i (.ow lt (t.put p (.nd (.Ae (IF ks key)) a (Hg ks us key w)))))):Ws ss (QV td ty tv) nx R:=⟨fun E D σ F H S hn hr=>
 h.go E σ F H _ S fun v m w F1 H1 m1 r1 El a1 h2=>h2.go E σ F1 H1 _ m1.st fun v2 p u F2 H2 m2 r2 Az ⟨lt,a,ks,us,hi,eu,hz,hk,CK,h3⟩=>h3.go E σ F2 H2 _ m2.st fun v3 q F3 H3 m3 r3 ⟨key,eq,kk⟩=>by
  subst eu;subst eq
  have ev:v2=.ref a:=by cases r2;rfl
  subst ev
  have HU:=m2.trans m3
  have np:∀ b∈w.addrs,Bf ss σ b:=fun b hb k hk ek=>by
   rcases (a1 b hb).2.2 with ⟨j,hj,s,hs,Lf,o⟩ | z
   ·exact S.BG j k s _ b (fun e=>by subst e;rw [Lf] at hk;exact hs (BA hk)) Lf hk o ek
   ·exact S.DJ hk ek z
  have Ih:Aa F3 H3 v w:=r1.mono HU.ff fun b hb o e=>HU.hh b o (np b hb) e
  have Pn:∀ b∈w.addrs,F3 b=none/\E.H0 b=none/\((∃ i∈m,∃ s,s≠Slot.AI/\ss[i]?=some s/\An s σ[i]? b)∨H b=none):=fun b hb=>by
   refine ⟨?_,(a1 b hb).2⟩
   cases e:F3 b with
   | none=>rfl
   | some o=>
    rcases HU.nn b o e with z | z
    ·rw [(a1 b hb).1] at z;cases z
    ·exact absurd z (r1.there b hb)
  have r4:=r2.mv m2.st ⟨lt,hi⟩ Az m3
  cases r4 with
  | @nd _ _ vs _ ha sd ft rr=>
   have JO:ks.length=vs.length:=ft
   have vl:=rr.length
   have rB:(ks.zip vs).length<=99999:=by rw [aZ];omega
   refine ⟨a,_,rfl,by rw [T4 r3];exact LV.k ha (Ii rB),?_⟩
   obtain ⟨v0,e0,r0,CQ,q0⟩:=m3.st.ok i _ hi
   have CC:(OV.nd (.Ae ks) a us).addrs.Nodup:=by
    obtain ⟨l,rr,e1,_⟩:=OV.split Az
    rw [e1,Be,Be] at CQ
    exact CQ.1.2.1
   rw [J6] at CC
   have apart:∀ b∈w.addrs,b∉OV.AO us:=fun b hb z=>by
    have bt:b∈t.addrs:=OV.Fq Az b (by rw [J6];simp [z])
    rcases (a1 b hb).2.2 with ⟨j,hj,s,_,hs,o⟩ | y
    ·exact S.BG j i s _ b (by rintro rfl;exact CK hj) hs hi o bt
    ·exact S.DJ hi bt y
   obtain ⟨BQ,ep,Pe,Pd,Gm,sb⟩:∃ BQ:List V,putK (ks.zip vs) key v=(IF ks key).zip BQ/\(IF ks key).length=BQ.length/\AZ F3 H3 BQ (Hg ks us key w)/\(OV.AO (Hg ks us key w)).Nodup/\∀ b∈OV.AO (Hg ks us key w),b∈OV.AO us∨b∈w.addrs:=by
    unfold putK IF Hg
    rw [Rg JO]
    cases e:Dr ks key with
    | some n=>
     have c:G0 ks key=true:=by rw [<- Qu,e];rfl
     have PM:n < us.length:=by
      have:=(List.getElem?_eq_some_iff.mp (X4 e)).1
      omega
     obtain ⟨l,r,e1,e2⟩:=HS (B4 PM)
     rw [if_pos c,if_pos c,Yi,WG hk e]
     refine ⟨vs.set n v,rfl,by rw [HC];exact JO,rr.set n Ih,?_,fun b hb=>?_⟩
     ·show (OV.AO (us.set n w)).Nodup
      rw [e2]
      have n1:=(List.nodup_cons.mp CC).2
      rw [e1] at n1
      exact Sd n1 El fun b hb=>.inr (by rw [<- e1];exact apart b hb)
     ·have DK:b∈OV.AO (us.set n w):=hb
      rw [e2] at DK
      rcases List.mem_append.mp DK with z | z
      ·rcases List.mem_append.mp z with z | z
       ·exact .inl (by rw [e1];simp [z])
       ·exact .inr z
      ·exact .inl (by rw [e1];simp [z])
    | none=>
     have c:¬ G0 ks key=true:=by rw [<- Qu,e];decide
     rw [if_neg c,if_neg c]
     refine ⟨vs++[v],by rw [List.zip_append JO];rfl,by rw [DL,DL,JO];rfl,rr.append (.one Ih),?_,fun b hb=>?_⟩
     ·show (OV.AO (us++[w])).Nodup
      rw [Gd,HI,Be]
      exact ⟨(List.nodup_cons.mp CC).2,El,fun x hx y hy e=>apart y hy (e▸hx)⟩
     ·have DK:b∈OV.AO (us++[w]):=hb
      rw [Gd,HI] at DK
      exact List.mem_append.mp DK
   rw [ep]
   exact hn _ σ F3 _ kk (Sg.gi (u:=w) S m3.st hi Az Pn CK Pd Pe Gm sb) (m1.ff.trans HU.ff)⟩
end
def By:List Str->Str->Option Nat
 | [],_=>none
 | g :: ns,f=>if g=f then some 0 else (By ns f).map (· + 1)
def LM (ns:List Str) (f:Str):List Str:=match By ns f with
 | some _=>ns
 | none=>ns++[f]
def MN (ns:List Str) (us:List OV) (f:Str) (w:OV):List OV:=match By ns f with
 | some n=>us.set n w
 | none=>us++[w]
def KC (ns:List Str) (vs:List V) (f:Str) (w:V):List V:=match By ns f with
 | some n=>vs.set n w
 | none=>vs++[w]
theorem Zb:∀ {ns:List Str}{f:Str}{n:Nat},By ns f=some n->n < ns.length
 | [],_,_,h=>by cases h
 | g :: ns,f,n,h=>by
  rw [By] at h
  by_cases c:g=f
  ·rw [if_pos c] at h;cases h;exact Nat.succ_pos _
  ·rw [if_neg c] at h
   cases e:By ns f with
   | none=>rw [e] at h;cases h
   | some m=>rw [e] at h;cases h;exact Nat.succ_lt_succ (Zb e)
theorem P9:∀ {ns:List Str}{vs:List V}{f:Str}{n:Nat}{v:V},By ns f=some n->vs[n]?=some v->(ns.zip vs).lookup f=some v
 | [],_,_,_,_,h,_=>by cases h
 | g :: ns,[],f,n,v,h,hv=>by simp at hv
 | g :: ns,w :: vs,f,n,v,h,hv=>by
  rw [By] at h
  rw [J2]
  by_cases c:g=f
  ·rw [if_pos c] at h;cases h
   simp at hv
   subst c
   rw [rk,hv]
  ·rw [if_neg c] at h
   cases e:By ns f with
   | none=>rw [e] at h;cases h
   | some m=>
    rw [e] at h;cases h
    rw [HD]
    have:(f == g)=false:=by simpa using fun z=>c z.symm
    rw [this]
    exact P9 e (by simpa using hv)
theorem Y6:∀ {ns:List Str}{vs:List V}{f:Str}{v:V},ns.length=vs.length->CJ f v (ns.zip vs)=(LM ns f).zip (KC ns vs f v)/\(LM ns f).length=(KC ns vs f v).length
 | [],[],f,v,_=>by simp [CJ,LM,KC,By]
 | [],_ :: _,_,_,h=>by simp at h
 | _ :: _,[],_,_,h=>by simp at h
 | g :: ns,w :: vs,f,v,h=>by
  obtain ⟨i1,i2⟩:=Y6 (ns:=ns) (vs:=vs) (f:=f) (v:=v) (by simpa using h)
  rw [J2]
  rw [show CJ f v ((g,w) :: ns.zip vs)=(if g=f then (g,v) :: ns.zip vs else (g,w) :: CJ f v (ns.zip vs)) from rfl]
  unfold LM KC at i1 i2 ⊢
  rw [By]
  by_cases c:g=f
  ·rw [if_pos c,if_pos c]
   exact ⟨by simp,by simpa using h⟩
  ·rw [if_neg c,if_neg c,i1]
   cases e:By ns f with
   | none=>rw [e] at i2;exact ⟨by simp,by simpa using i2⟩
   | some m=>rw [e] at i2;exact ⟨by simp,by simpa using i2⟩
section
variable [Xw]
variable {ss:List Slot}{ta tv:TE}{k:PV->Prop}{nx:List Slot->Prop}{R:AR}{i:Nat}{t:OV}{K:tV}{f:Str}
def Za {k:List Nat->OV->Prop}(h:Wl ss i t ta fun p u=>∃ C dx ns a us n w,u=.nd (.obj C dx ns) a us/\CY K C/\DV K C f/\By ns f=some n/\us[n]?=some w/\k (p++[n]) w):Wl ss i t (Mr K ta f) k:=⟨h.hi,fun E σ F H Q S q=>
 h.go E σ F H _ S fun v p u F1 H1 m1 r1 h1 ⟨C,dx,ns,a,us,n,w,eu,hc,hn,hx,hw,kk⟩=>by
  subst eu
  cases r1 with
  | @nd _ _ vs _ ha sd ft rr=>
   obtain ⟨x,oG,rx⟩:=rr.get hw
   exact ⟨a,C,dx,ns.zip vs,x,rfl,ha,hc,hn,P9 hx oG,q x (p++[n]) w F1 H1 m1 rx (OV.Kq h1 (by rw [OV.HQ,hw];exact OV.FZ)) kk⟩⟩
def IU {C dx:Addr}{ns:List Str}{a:Addr}{us:List OV}:(OV.nd (.obj C dx ns) a us).addrs=a :: dx :: OV.AO us:=by rw [OV.Cm];rfl
def Sg.kK {lt:Bool}{E:Ent0}{σ:L2.St} {F0 F H0 H:Hp}{p:List Nat}{a C dx:Addr}{ns Dm:List Str}{us Ap:List OV}{BQ:List V}{m:List Nat}{u:OV}(S0:Sg E ss σ F0 H0) (S:Sg E ss σ F H) (hi:ss[i]?=some (.ow lt t)) (Az:t.at p=some (.nd (.obj C dx ns) a us)) (Ib:H dx=some (.own a))
  (hu:∀ a∈u.addrs,F a=none/\E.H0 a=none/\((∃ i∈m,∃ s,s≠Slot.AI/\ss[i]?=some s/\An s σ[i]? a)∨H0 a=none)) (CK:i∉m)
  (hr:AZ F H BQ Ap) (hl:Dm.length=BQ.length) (MP:(OV.AO Ap).Nodup) (Ga:∀ b∈OV.AO Ap,b∈OV.AO us∨b∈u.addrs):Sg E ((Fz.C4 m ss).set i (.ow lt (t.put p (.nd (.obj C dx Dm) a Ap)))) σ F (upd H a (.ins C dx (Dm.zip BQ))):=by
 have Du:=X9 m ss hi CK
 obtain ⟨v,e,r,nd,q⟩:=S.ok i _ hi
 have ut:∀ b,b∈a :: dx :: OV.AO us->b∈t.addrs:=fun b hb=>OV.Fq Az b (by rw [IU];exact hb)
 have JL:∀ b∈u.addrs,b∉t.addrs:=fun b hb z=>by
  rcases (hu b hb).2.2 with ⟨j,hj,s,_,hs,o⟩ | w
  ·exact S.BG j i s _ b (by rintro rfl;exact CK hj) hs hi o z
  ·exact S0.DJ hi z w
 have CC:(OV.nd (.obj C dx ns) a us).addrs.Nodup:=by
  obtain ⟨l,rr,e1,_⟩:=OV.split Az
  rw [e1,Be,Be] at nd
  exact nd.1.2.1
 rw [IU] at CC
 obtain ⟨n1,n2⟩:=List.nodup_cons.mp CC
 obtain ⟨n3,n4⟩:=List.nodup_cons.mp n2
 have na:∀ b∈OV.AO Ap,b≠a:=fun b hb z=>by
  subst z
  rcases Ga b hb with w | w
  ·exact n1 (by simp [w])
  ·exact JL b w (ut b (by simp))
 have O4:∀ b∈OV.AO Ap,b≠dx:=fun b hb z=>by
  subst z
  rcases Ga b hb with w | w
  ·exact n3 w
  ·exact JL b w (ut b (by simp))
 have Zn:dx≠a:=fun z=>n1 (by simp [z])
 refine (S.C4 m).Sl Du Az (.nd (k:=.obj C dx Dm) AN (show upd H a _ dx=some (.own a) by rw [AF Zn];exact Ib) hl (hr.mono (A9.refl _) fun b hb o ho=>by rw [AF (na b hb)];exact ho)) (by
  rw [IU]
  exact List.nodup_cons.mpr ⟨fun z=>by
   rcases List.mem_cons.mp z with z | z
   ·exact Zn z.symm
   ·exact na a z rfl,List.nodup_cons.mpr ⟨fun z=>O4 dx z rfl,MP⟩⟩) fun b hb=>?_
 rw [IU] at hb ⊢
 rcases List.mem_cons.mp hb with w | w
 ·exact .inl (by simp [w])
 ·rcases List.mem_cons.mp w with w | w
  ·exact .inl (by simp [w])
  ·rcases Ga b w with z | z
   ·exact .inl (by simp [z])
   ·refine .inr ⟨(hu b z).1,(hu b z).2.1,fun j s hs o=>?_⟩
    rcases MF hs with y | ⟨BE,hm⟩
    ·subst y;cases o
    ·rcases (hu b z).2.2 with ⟨i2,Fu,s2,_,BD,o2⟩ | y
     ·exact S.BG j i2 s s2 b (by rintro rfl;exact hm Fu) BE BD o o2
     ·exact S0.DJ BE o y
def l7 {E:Ent0}{σ:L2.St} {F H F1 H1 F3 H3:Hp}{m:List Nat}{w:OV}{v:V}(S:Sg E ss σ F H) (HU:Mv E ss σ F1 H1 F3 H3) (r1:Aa F1 H1 v w) (a1:∀ a∈w.addrs,F1 a=none/\E.H0 a=none/\((∃ i∈m,∃ s,s≠Slot.AI/\ss[i]?=some s/\An s σ[i]? a)∨H a=none)) :
  Aa F3 H3 v w/\∀ b∈w.addrs,F3 b=none/\E.H0 b=none/\((∃ i∈m,∃ s,s≠Slot.AI/\ss[i]?=some s/\An s σ[i]? b)∨H b=none):=by
 have np:∀ b∈w.addrs,Bf ss σ b:=fun b hb k hk ek=>by
  rcases (a1 b hb).2.2 with ⟨j,hj,s,hs,Lf,o⟩ | z
  ·exact S.BG j k s _ b (fun e=>by subst e;rw [Lf] at hk;exact hs (BA hk)) Lf hk o ek
  ·exact S.DJ hk ek z
 refine ⟨r1.mono HU.ff fun b hb o e=>HU.hh b o (np b hb) e,fun b hb=>⟨?_,(a1 b hb).2⟩⟩
 cases e:F3 b with
 | none=>rfl
 | some o=>
  rcases HU.nn b o e with z | z
  ·rw [(a1 b hb).1] at z;cases z
  ·exact absurd z (r1.there b hb)
def Uj (h:Wx ss tv fun m w=>Wl ss i t ta fun p u=>∃ lt C dx ns a us,ss[i]?=some (.ow lt t)/\u=.nd (.obj C dx ns) a us/\CY K C/\DV K C f/\ns.length < 1000/\i∉m/\nx ((Fz.C4 m ss).set i (.ow lt (t.put p (.nd (.obj C dx (LM ns f)) a (MN ns us f w)))))):Ws ss (R5 K ta tv f) nx R:=⟨fun E D σ F H S hn hr=>
 h.go E σ F H _ S fun v m w F1 H1 m1 r1 El a1 h2=>h2.go E σ F1 H1 _ m1.st fun v2 p u F2 H2 m2 r2 Az ⟨lt,C,dx,ns,a,us,hi,eu,hc,lU,hz,CK,kk⟩=>by
  subst eu
  have ev:v2=.ref a:=by cases r2;rfl
  subst ev
  obtain ⟨Ih,Pn⟩:=l7 S m2 r1 a1
  cases r2 with
  | @nd _ _ vs _ ha sd ft rr=>
   have JO:ns.length=vs.length:=ft
   have vl:=rr.length
   obtain ⟨ep,Pe⟩:=Y6 (f:=f) (v:=v) JO
   refine ⟨a,C,dx,ns.zip vs,rfl,ha,hc,lU,by rw [aZ];omega,?_⟩
   obtain ⟨v0,e0,r0,CQ,q0⟩:=m2.st.ok i _ hi
   have CC:(OV.nd (.obj C dx ns) a us).addrs.Nodup:=by
    obtain ⟨l,rr,e1,_⟩:=OV.split Az
    rw [e1,Be,Be] at CQ
    exact CQ.1.2.1
   rw [IU] at CC
   have S9:=(List.nodup_cons.mp (List.nodup_cons.mp CC).2).2
   have apart:∀ b∈w.addrs,b∉OV.AO us:=fun b hb z=>by
    have bt:b∈t.addrs:=OV.Fq Az b (by rw [IU];simp [z])
    rcases (a1 b hb).2.2 with ⟨j,hj,s,_,hs,o⟩ | y
    ·exact S.BG j i s _ b (by rintro rfl;exact CK hj) hs hi o bt
    ·exact S.DJ hi bt y
   obtain ⟨Pd,Gm,sb⟩:AZ F2 H2 (KC ns vs f v) (MN ns us f w)/\(OV.AO (MN ns us f w)).Nodup/\∀ b∈OV.AO (MN ns us f w),b∈OV.AO us∨b∈w.addrs:=by
    unfold KC MN
    cases e:By ns f with
    | some n=>
     have PM:n < us.length:=by have:=Zb e;omega
     obtain ⟨l,r,e1,e2⟩:=HS (B4 PM)
     refine ⟨rr.set n Ih,?_,fun b hb=>?_⟩
     ·show (OV.AO (us.set n w)).Nodup
      rw [e2]
      rw [e1] at S9
      exact Sd S9 El fun b hb=>.inr (by rw [<- e1];exact apart b hb)
     ·have DK:b∈OV.AO (us.set n w):=hb
      rw [e2] at DK
      rcases List.mem_append.mp DK with z | z
      ·rcases List.mem_append.mp z with z | z
       ·exact .inl (by rw [e1];simp [z])
       ·exact .inr z
      ·exact .inl (by rw [e1];simp [z])
    | none=>
     refine ⟨rr.append (.one Ih),?_,fun b hb=>?_⟩
     ·show (OV.AO (us++[w])).Nodup
      rw [Gd,HI,Be]
      exact ⟨S9,El,fun x hx y hy e=>apart y hy (e▸hx)⟩
     ·have DK:b∈OV.AO (us++[w]):=hb
      rw [Gd,HI] at DK
      exact List.mem_append.mp DK
   rw [ep]
   exact hn _ σ F2 _ kk (Sg.kK (u:=w) S m2.st hi Az sd Pn CK Pd Pe Gm sb) (m1.ff.trans m2.ff)⟩
end
theorem OL:∀ {ns:List Str}{vs:List V}{f:Str},By ns f=none->(ns.zip vs).lookup f=none
 | [],_,_,_=>by simp
 | g :: ns,[],f,h=>by simp
 | g :: ns,w :: vs,f,h=>by
  rw [By] at h
  by_cases c:g=f
  ·rw [if_pos c] at h;cases h
  ·rw [if_neg c] at h
   rw [J2,HD]
   have:(f == g)=false:=by simpa using fun z=>c z.symm
   rw [this]
   refine OL ?_
   cases e:By ns f with
   | none=>rfl
   | some m=>rw [e] at h;cases h
section
variable [Xw]
variable {ss:List Slot}{te tv:TE}{ta:TA}{i:Nat}{lt:Bool}{t:OV}{nx:List Slot->Prop}{R:AR}{K:tV}{f:Str}
def MG {k:PV->Prop}(h:Wp ss te fun o=>∃ C ns xs n y,o=.obj C ns xs/\CY K C/\DV K C f/\By ns f=some n/\xs[n]?=some y/\k y):Wp ss (Mr K te f) k:=⟨fun E σ F H Q S q=>
 h.go E σ F H _ S fun v o F1 H1 m1 ro ⟨C,ns,xs,n,y,eo,hc,hn,hx,hy,kk⟩=>by
  subst eo
  cases ro with
  | @obj a _ dx _ Gj _ e1 e2 hl rr=>
   obtain ⟨u,hu,ru⟩:=rr.get hy
   exact ⟨a,C,dx,ns.zip Gj,u,rfl,m1.st.fh _ _ e1,hc,hn,P9 hx hu,q u y F1 H1 m1 ru kk⟩⟩
def PD {pre:Pre}{C:Addr}{k:List Nat->OV->Prop}(h:Kb ss ta fun l=>∀ x dx:Addr,∃ k',pre (.ow true (.nd (.obj C dx []) x []) :: l) (.mt k')/\∀ p t',k' p t'->p=.A4/\∃ Dm Ap,t'=.nd (.obj C dx Dm) x Ap/\k [] t'):Wx ss (Tc C (Gz pre) [] E0 ta) k:=⟨fun E σ F H Q S q=>
 h.go E σ F H _ S fun vs l F1 H1 m1 al Hb x dx hx Ib Ag=>by
  rw [EV]
  have M1:=m1.st.make Ib (.own x)
  have Lu:upd H1 dx (.own x) x=none:=by rw [AF (Ah Ag)];exact hx
  have M2:=M1.st.make Lu (.ins C dx [])
  have m2:=M1.trans M2
  have up:∀ a o,H1 a=some o->upd (upd H1 dx (.own x)) x (.ins C dx []) a=some o:=fun a o e=>by
   rw [AF (Bu e hx),AF (Bu e Ib)];exact e
  have dn:∀ a,upd (upd H1 dx (.own x)) x (.ins C dx []) a=none->H1 a=none:=fun a e=>by
   cases z:H1 a with
   | none=>rfl
   | some o=>rw [up a o z] at e;cases e
  have a0:(OV.nd (.obj C dx []) x []).addrs=[x,dx]:=by rw [IU,OV.Gp]
  have r0:Aa F1 (upd (upd H1 dx (.own x)) x (.ins C dx [])) (.ref x) (.nd (.obj C dx []) x []):=.nd (k:=.obj C dx []) (vs:=[]) AN (show upd _ x _ dx=some (.own x) by rw [AF Ag];exact AN) rfl .nil
  have f0:∀ a∈(OV.nd (.obj C dx []) x []).addrs,H1 a=none:=fun a ha=>by
   rw [a0] at ha
   simp only [KL,Ay,or_false] at ha
   rcases ha with rfl | rfl
   ·exact hx
   ·exact Ib
  have CQ:(OV.nd (.obj C dx []) x []).addrs.Nodup:=by
   rw [a0]
   simp [Ah Ag]
  have Sx:=Sg.Rb (j:=ss.length) (m:=[]) (v:=.ref x) (u:=.nd (.obj C dx []) x []) (m1.st.grown 1) (m2.st.grown 1) r0 CQ fun a ha=>⟨m1.st.BC (f0 a ha),m1.st.Cz (f0 a ha),.inr (f0 a ha)⟩
  have hl:=m1.st.len
  have hi:((ss++List.replicate 1 Slot.any).set ss.length (.ow false (.nd (.obj C dx []) x [])))[ss.length]?=some (.ow false (.nd (.obj C dx []) x [])):=C7 (by simp)
  have e0:((σ++List.replicate 1 none).set ss.length (some (V.ref x)))[ss.length]?=some (some (.ref x)):=C7 (by simp;omega)
  obtain ⟨k',hp,kk⟩:=Hb x dx
  refine ⟨.ow true (.nd (.obj C dx []) x []) :: l,.mt k',F1,[],(OV.nd (.obj C dx []) x []).addrs,hp,Sx.aC hi (.here e0 al),fun v F' H' f ⟨p,t',r,ro,nd,qa,kp⟩=>?_⟩
  obtain ⟨rfl,Dm,Ap,rfl,k2⟩:=kk p t' kp
  have B:=Sx.XF hi f ro nd qa
  have at':∀ n,n < ss.length->((ss++List.replicate 1 Slot.any).set ss.length (.ow false (.nd (.obj C dx []) x [])))[n]?=ss[n]?:=fun n hn=>by rw [Bd (by omega),EW hn]
  have D0:∀ n,n < ss.length->((σ++List.replicate 1 none).set ss.length (some (V.ref x)))[n]?=σ[n]?:=fun n hn=>by rw [Bd (by omega),EW (by omega)]
  have np:∀ a,H1 a≠none->Bf ss σ a->Bf ((ss++List.replicate 1 Slot.any).set ss.length (.ow false (.nd (.obj C dx []) x []))) ((σ++List.replicate 1 none).set ss.length (some (V.ref x))) a:=fun a _ hn n hk=>by
   by_cases c:n < ss.length
   ·rw [at' n c] at hk
    rw [D0 n c]
    exact hn n hk
   ·by_cases c2:n=ss.length
    ·subst c2;rw [hi] at hk;cases hk
    ·rw [rW (by simp;omega)] at hk;cases hk
  have M3:Mv E ss σ F1 H1 F' H':=m1.st.step B.ff B.st.fh (fun a o hn e=>B.hh a o (np a (by rw [e];simp) hn) (fun z=>by rw [f0 a z] at e;cases e) (up a o e)) (fun a o e=>(B.nn a o e).imp id (dn a)) fun n l' hn en=>by
   have c:n < ss.length:=(List.getElem?_eq_some_iff.mp hn).1
   refine B.st.DG (i:=n) ?_ (by rw [D0 n c];exact en)
   rw [Bd (by omega)]
   exact (at' n c).trans hn
  cases r
  refine ⟨rfl,q (.ref x) [] _ F' H' (m1.trans M3) ro nd (fun a ha=>?_) k2⟩
  have h1:H1 a=none:=(qa a ha).2.elim (dn a) (f0 a)
  exact ⟨(qa a ha).1,m1.st.Cz h1,.inr (m1.none h1)⟩⟩
end
end Fz
namespace L2
section
variable {X:Cx}{o e value:Expr}{f:Str}{pos pos' So:Pos}{ta tv:TE}
def IC (he:QE X e ta) (hb:attributeBase e f X.env (eval e X.env)=eval e X.env:=by rfl):QE X (.Attribute e f pos) (Mr X.K ta f):=⟨fD he.h hb⟩
def Yr (ha:QE X o ta) (hv:QE X value tv) (hs:swapsWith value (some (.Attribute o f pos')) pos.line X.env=pure false:=by rfl):QS X (.Assign [.Attribute o f pos'] value pos) (R5 X.K ta tv f):=⟨lS ha.h hv.h hs⟩
end
end L2
namespace Fz
open L2 Lw
section
variable [Xw]
variable {ss:List Slot}{ta tv:TE}{nx:List Slot->Prop}{R:AR}{i:Nat}{t:OV}{K:tV}{f:Str}
end
end Fz
namespace L2
section
variable {X:Cx}{o e:Expr}{td ty:TE}{apos BJ:Pos}
end
end L2
namespace Fz
open L2 Lw
section
variable [Xw]
variable {ss:List Slot}{td ty:TE}{nx:List Slot->Prop}{R:AR}{i:Nat}{t:OV}
end
end Fz
namespace L2
def Pr (P:Program) (w:World) (K:tV) (mg:tX) (base:Heap) (C:Addr) (m:Str) (k:Nat) (ps:List Str) (sp:Sp):Prop:=
 ∃ f fd,Ba P w K mg base DQ k f fd ps sp/\Binds K fd ps []/\Meth K C m f/\CY K C
def Td (P:Program) (w:World) (K:tV) (mg:tX) (base:Heap) (C:Addr) (k:Nat) (ps:List Str) (sp:Sp):Prop:=
 ∃ f fd,Ba P w K mg base DQ k f fd ps sp/\Binds K fd ps []/\Mk K C f
section
variable {X:Cx}{o e:Expr}{es:List Expr}{m x:Str}{C:Addr}{k j:Nat}{ps:List Str}{sp:Sp}{ta:TE}{t:TA}{apos pos p:Pos}
def eO {pl:Sem Bool}(h:Pr X.prog X.w X.K X.mg X.base C m k ps sp) (hr:Au j X.A) (hk:k<=j) (he:QE X o ta)
  (ht:eval (.Call (.Attribute o m apos) [] [] pos) X.env=(do
   let ov <- eval o X.env
   standAt apos.atName
   let (f,first) <- holding [ov] (getMethod ov m pl)
   callWith pos f first (backTo pos (starEach [] X.env)) (backToKw pos (keywordEach [] X.env))):=by rfl) :
  QE X (.Call (.Attribute o m apos) [] [] pos) (Tv C m sp [] E0 ta AS):=by
 obtain ⟨f,fd,F,b,hm,c⟩:=h
 exact ⟨qu he.h c hm (F.mono hk) hr b .nil Q6 ht⟩
def P1 (h:Td X.prog X.w X.K X.mg X.base C k ps sp) (hr:Au (j+1) X.A) (hk:k<=j) (hm:X.mg x=some (.ref C)) (ha:QA X (e :: es) t) (hg:Gl X x:=by rfl) (Ax:(x == ("__debug__" : Str))=false:=by decide)
  (he:starEach (e :: es) X.env=(false,eval e X.env) :: starEach es X.env:=by rfl) (B1:(backTo pos (starEach es X.env)).any (·.1)=false:=by rfl):QE X (.Call (.Name x p) (e :: es) [] pos) (Tc C sp [] E0 t):=by
 obtain ⟨f,fd,F,b,M⟩:=h
 exact ⟨i5 M (F.mono hk) hr hg hm b .nil Q6 ha.h Ax he B1⟩
end
section
variable {prog:Program}{w:World}{A:Around}{E:Value->Shared->Prop}{s:Shared}
end
section
variable {prog:Program}{w:World}{A:Around}
end
section
variable {prog:Program}{w:World}{A:Around}{E:Value->Shared->Prop}{s:Shared}
end
end L2
set_option maxHeartbeats 200000
namespace L2
section
variable {prog:Program}{w:World}{A:Around}{E:Value->Shared->Prop}{s:Shared}
end
end L2
set_option maxHeartbeats 4000000
namespace L2
section
variable {prog:Program}{w:World}{A:Around}{R:Result->Shared->Prop}{I:Addr}{fp wr:List Addr}{G:Array GenState->Array GenState->Prop}{n:Nat}{P:Nat->Value->Prop}{St:Nat->Shared->Prop}{ss:List Int}
end
section
variable {prog:Program}{w:World}{A:Around}{E:Value->Shared->Prop}{s:Shared}{ss:List Int}
end
section
variable {X:Cx}
end
end L2
namespace Fz
open L2 Lw
section
variable [Xw]
variable {E:Ent0}{ss:List Slot}{σ:L2.St} {F H F' H':Hp}{K:tV}{js:List Nat}{ta tb tc te:TE}{nx:List Slot->Prop}{R:AR}{xs ys:List PV}{P:Program}{w:World}
end
section
variable [Xw]
variable {E:Ent0}{ss:List Slot}{σ:L2.St} {F H F' H':Hp}{K:tV}{ta tb tc te:TE}{k:PV->Prop}{xs:List PV}{nx:List Slot->Prop}{R:AR}
end
end Fz
namespace L2
section
variable {X:Cx}{x:Str}{S:Addr}{body Ca:List Stmt}{b0:Stmt}{np Jb pos:Pos}{J7:(St->XK)->TS}{th:TS}
end
end L2
namespace Fz
open L2 Lw
section
variable [Xw]
variable {ss:List Slot}{nx:List Slot->Prop}{R:AR}{K:tV}{S:Addr}{tb:(L2.St->XK)->TS}{th:TS}{ta te ti:TE}{xs:List PV}{F:Hp}
end
end Fz
namespace L2
section
variable {X:Cx}
end
end L2
namespace Fz
open L2 Lw
section
variable [Xw]
variable {E:Ent0}{ss:List Slot}{σ:L2.St} {F H F' H':Hp}{K:tV}{ta tb tc te:TE}{k:PV->Prop}{xs:List PV}{nx:List Slot->Prop}{R:AR}
end
section
variable [Xw]
variable {ss:List Slot}{pre:FQ}{t:TA}
end
section
variable {X:Cx}
end
section
variable [Xw]
variable {ss:List Slot}{K:tV}{ta tb:TE}{k:PV->Prop}
end
end Fz
namespace L2
open Lw
section
variable {X:Cx}
end
end L2
namespace Fz
open L2 Lw
section
variable [Xw]
variable {E:Ent0}{ss:List Slot}{σ:L2.St} {F H F' H':Hp}{K:tV}{ta tb tc te:TE}{k:PV->Prop}{v:V}{tp:Bool}{xs:List PV}{nx:List Slot->Prop}{R:AR}
end
section
variable [Xw]
variable {E:Ent0}{ss:List Slot}{σ:L2.St} {F H F' H':Hp}{K:tV}{js:List Nat}{ta tb te:TE}{nx:List Slot->Prop}{R:AR}
end
section
variable [Xw]
variable {E:Ent0}{ss:List Slot}{σ:L2.St} {F H F' H':Hp}{K:tV}{js:List Nat}{i:Nat}{t:OV}{ta tb te:TE}{nx:List Slot->Prop}{R:AR}
end
end Fz
namespace L2
def OO (s:Stmt) (n:Nat):Stmt:=match s with
 | .ClassDef _ _ _ b ..=>b.getD n (.Pass ⟨0,0,0,0⟩)
 | s=>s
def OM (C:Addr) (m:Str) (sp:Sp) (E:St->XK) (ta:TE) (t:TA):TE:=fun σ H Q=>ta σ H fun x H1=>∃ a dx fs,x=.ref a/\H1 a=some (.ins C dx fs)/\fs.lookup m=none/\
 t σ H1 fun vs H2=>sp (x :: vs) H2 Q (E σ)
def Ie (P:Program) (w:World) (K:tV) (mg:tX) (base:Heap) (C:Addr) (m:Str) (k:Nat) (ps:List Str) (sp:Sp):Prop:=
 ∃ f fd,Ba P w K mg base (Fo P w) k f fd ps sp/\Binds K fd ps []/\Meth K C m f/\CY K C
section
variable {X:Cx}{o e:Expr}{es:List Expr}{m x:Str}{C:Addr}{k j:Nat}{ps:List Str}{sp:Sp}{ta:TE}{t:TA}{apos pos p:Pos}{E:St->XK}
def oQ {pins:tW}{σ:St} {H:Hp}{s:Shared}{Q:VK}{us:List Value}{vs:List V}{f:Addr}{fd:FuncData}(F:Ba X.prog X.w X.K X.mg X.base (Fo X.prog X.w) k f fd ps sp) (hr:Au k X.A) (b:Binds X.K fd ps []) (go:Goes X E) (hex:X.ex=[])
  (I1:Inv X pins σ H s) (r:Vals vs us) (q:sp vs H Q (E σ)):wpAny (model X.prog X.w) X.A (call (.ref f) us) (EP X pins σ Q) X.xe s:=by
 have hl:us.length=ps.length:=by rw [<- r.length];exact F.len _ _ _ _ q
 refine wpAny_call (codeAny_mono (F.run X.A X.stack s H ⟨us,[]⟩ us vs Q (E σ) hr I1.KY (by have z:=b s us I1.B3 (by rw [EV];exact hl);rw [EV] at z;exact z) r q) fun r s' hq=>?_)
 cases r with
 | error e=>exact go.call hex I1 hq
 | ok fl=>
  cases fl with
  | ret u=>exact I1.after hq
  | next=>exact False.elim hq
  | brk=>exact False.elim hq
  | cont=>exact False.elim hq
def LA {pl:Sem Bool}(h:Ie X.prog X.w X.K X.mg X.base C m k ps sp) (hr:Au j X.A) (hk:k<=j) (go:Goes X E) (hex:X.ex=[]) (he:QE X o ta) (ha:QA X (e :: es) t)
  (Bp:starEach (e :: es) X.env=(false,eval e X.env) :: starEach es X.env:=by rfl) (B1:(backTo pos (starEach es X.env)).any (·.1)=false:=by rfl)
  (ht:eval (.Call (.Attribute o m apos) (e :: es) [] pos) X.env=(do
   let ov <- eval o X.env
   standAt apos.atName
   let (f,first) <- holding [ov] (getMethod ov m pl)
   callWith pos f first (backTo pos (starEach (e :: es) X.env)) (backToKw pos (keywordEach [] X.env))):=by rfl) :
  QE X (.Call (.Attribute o m apos) (e :: es) [] pos) (OM C m sp E ta t):=by
 obtain ⟨f,fd,F,b,hm,c⟩:=h
 refine ⟨fun pins s σ H Q I h=>?_⟩
 refine ay (pl:=pl) (AE (he.h pins s σ H _ I h) fun u s1 ⟨x,H1,I1,rx,a,dx,fs,ex,ea,l,q⟩=>?_) ht
 subst ex
 obtain rfl:u=Value.ref a:=rx
 refine Z9 I1 ea c hm l ?_
 refine Om (first:=[.ref a]) (h₀:=X.base) I.ok.mod.GA hm.kp (AE (ha.h pos pins s1 σ H1 _ I1 q) fun us s2 ⟨vs,H2,I2,r,q2⟩=>⟨I2.B3,?_⟩) Bp B1
 exact oQ (us:=.ref a :: us) (vs:=.ref a :: vs) (F.mono hk) hr b go hex I2 (.cons rfl r) q2
end
end L2
namespace Fz
open L2 Lw
@[reducible] def sg (X:XK) (t:OV) (D:Ex->Prop):Xw:=⟨fun _=>X,fun ss=>ss[0]?=some (.ow true t),D⟩
section
variable {pre:FQ}{H:Hp}
def SA (R:AR) (A8:List Slot):Prop:=∃ (k:PV->OV->Prop) (nk:NK) (a:Addr) (us:List OV),R=.mt k/\A8[0]?=some (.ow true (.nd nk a us))/\k .A4 (.nd nk a us)
theorem SA.ok {E:Ent0}{R:AR}{A8:List Slot}{σ:L2.St} {F H:Hp}(h:SA R A8) (S:Sg E A8 σ F H):R.ok E F H .A4:=by
 obtain ⟨k,nk,a,us,rfl,h0,hk⟩:=h
 obtain ⟨v0,e0,r0,CQ,q0⟩:=S.ok 0 _ h0
 have ev:v0=.ref a:=by cases r0;rfl
 subst ev
 exact ⟨.A4,.nd nk a us,.A4,r0,CQ,fun b hb=>⟨(q0 b hb).1,(q0 b hb).2.imp id fun z=>z.2⟩,hk⟩
end
section
variable [Xw]
variable {ss:List Slot}{te tv:TE}{ta:TA}{i:Nat}{lt:Bool}{t:OV}{nx:List Slot->Prop}{R:AR}{K:tV}{f:Str}
def ku {pre:Pre}{C:Addr}{m:Str}{k:List PV->Prop}(h:Wp ss te fun o=>∃ ns xs,o=.obj C ns xs/\By ns m=none/\Wa ss ta fun l=>∃ k',pre (.is o :: l) (.new k')/\∀ p,k' p->k p):Wn ss (Tv C m (Cu pre) [] E0 te ta) k:=⟨fun E σ F H Q S q=>
 h.go E σ F H _ S fun v o F1 H1 m1 ro ⟨ns,xs,eo,hm,h2⟩=>by
  subst eo
  cases ro with
  | @obj a _ dx _ Gj _ e1 e2 hl rr=>
   refine ⟨a,dx,ns.zip Gj,rfl,m1.st.fh _ _ e1,OL hm,h2.go E σ F1 H1 _ m1.st fun vs l F2 H2 m2 al ⟨k',hp,kk⟩=>?_⟩
   rw [EV]
   refine ⟨.is (.obj C ns xs) :: l,.new k',F2,[],hp,m2.st.KS (.cons (s:=.is _) (Rep.obj (m2.ff _ _ e1) (m2.ff _ _ e2) hl (rr.mono m2.ff)) al),fun v F' H' f ⟨a,T8,Kt,ev,f1,h1,Di,r,kp⟩=>?_⟩
   subst ev
   exact q a T8 Kt F' H' (m1.trans (m2.trans (m2.st.back (fun _ h=>absurd h Ay) f))) f1 (m1.none (m2.none h1)) Di r (kk Kt kp)⟩
def YF {pre:FQ}{C:Addr}{m:Str}{k:PV->Prop}(h:Wp ss te fun o=>∃ ns xs,o=.obj C ns xs/\By ns m=none/\Wa ss ta fun l=>∃ k' D,pre (.is o :: l) (.is k') D/\Xw.J ss/\(∀ e,D e->Xw.D e)/\∀ p,k' p->k p):Wp ss (OM C m (DO pre) Xw.e te ta) k:=⟨fun E σ F H Q S q=>
 h.go E σ F H _ S fun v o F1 H1 m1 ro ⟨ns,xs,eo,hm,h2⟩=>by
  subst eo
  cases ro with
  | @obj a _ dx _ Gj _ e1 e2 hl rr=>
   refine ⟨a,dx,ns.zip Gj,rfl,m1.st.fh _ _ e1,OL hm,h2.go E σ F1 H1 _ m1.st fun vs l F2 H2 m2 al ⟨k',D,hp,hJ,hD,kk⟩=>?_⟩
   refine ⟨.is (.obj C ns xs) :: l,.is k',D,F2,[],hp,m2.st.KS (.cons (s:=.is _) (Rep.obj (m2.ff _ _ e1) (m2.ff _ _ e2) hl (rr.mono m2.ff)) al),fun v F' H' f ⟨p,r,kp⟩=>?_,fun x C dx F' H' f d Az=>?_⟩
   ·exact q v p F' H' (m1.trans (m2.trans (m2.st.back (fun _ h=>absurd h Ay) f))) r (kk p kp)
   ·exact E.hx ss σ F' H' x C dx hJ (m2.st.back (fun _ h=>absurd h Ay) f).st (hD x d) Az⟩
end
end Fz
namespace L2
section
variable {prog:Program}{w:World}{A:Around}{E:Value->Shared->Prop}{s:Shared}
def qG:typeLookup (.type "dict") "__len__" = pure (some (.builtin "dict.__len__")):=by rw [typeLookup_type,builtinLookup_eq_fast];kernel_rfl
end
section
variable {X:Cx}
end
end L2
namespace Fz
open L2 Lw
theorem Xu:∀ {ks:List Key}{vs:List V},ks.length=vs.length->(ks.zip vs).map (·.1)=ks
 | [],[],_=>rfl
 | [],_ :: _,h=>by simp at h
 | _ :: _,[],h=>by simp at h
 | k :: ks,v :: vs,h=>by
  rw [J2,BV,Xu (by simpa using h)]
section
variable [Xw]
variable {E:Ent0}{ss:List Slot}{σ:L2.St} {F H F' H':Hp}{K:tV}{i:Nat}{t:OV}{ta tb te:TE}{nx:List Slot->Prop}{R:AR}
end
end Fz
namespace L2
section
variable {X:Cx}
end
end L2
namespace Fz
open L2 Lw
section
variable [Xw]
variable {E:Ent0}{ss:List Slot}{σ:L2.St} {F H F' H':Hp}{K:tV}{i:Nat}{t:OV}{ta tb tc te:TE}{nx:List Slot->Prop}{R:AR}
end
end Fz
namespace L2
section
variable {prog:Program}{w:World}{A:Around}{s:Shared}{R:Result->Shared->Prop}
def dW {L S:Addr}{c0:Nat}{res:Value}{A3:List (Key×Value)}{n:Nat}(hh:A.handled=none) (JP:(S == sysModules)=false) (hL:s.heap.get? L=some { cls:=.type "list", data:=.seq #[] c0 }) (hG:s.heap.DictOf (CZ prog w) S A3) (en:A3.length=n) (hn:n<=sizeLine)
  (h:∀ (s':Shared) (vs:List Value) (c':Nat),(∀ b o,b≠L->s.heap.get? b=some o->s'.heap.get? b=some o)->L < s'.heap.objs.size->s'.gens=s.gens->s'.os=s.os->s'.heap.get? L=some { cls:=.type "list", data:=.seq vs.toArray c' }->vs.length=n->(∀ (i:Nat) v,vs[i]?=some v->∃ k x,A3[i]?=some (k,x)/\(CZ prog w).is k v=true)->R (.ok (.ret res)) s') :
  wpAny (model prog w) A.in1 (Builtin.List.listExtendWith (.ref L) (.ref S) res)
   (fun fin s'=>match fin with | .done f=>R (.ok f) s' | .again c'=>c'.quiet=true/\codeAny (model prog w) A c' R s') (fun e s'=>R (.error e) s') s:=by
 obtain ⟨ep,hS⟩:=hG.dictAt
 have AM:S < s.heap.objs.size:=hS.lt_size
 have aA:L≠S:=fun z=>by
  subst z
  obtain ⟨o,ho,hc⟩:=hS.dictOf.typeIs
  rw [hL] at ho
  cases ho
  exact absurd hc (by show ¬ Value.type "list" = Value.type "dict"; decide)
 have WU:Shared.TypeIs s (.ref S) "dict" := hS.dictOf.typeIs
 have h1:Builtin.List.listSameRef (.ref L) (.ref S)=false:=by simp [Builtin.List.listSameRef,aA]
 unfold Builtin.List.listExtendWith
 refine wpAny_bind (wpAny_typeOf WU ?_)
 rw [if_neg (by rw [h1];decide)]
 refine wpAny_bind (wpAny_pyIter_dict (s:=s) JP hS ?_)
 dsimp only
 generalize Rj:({ cls:=.type "dict_keyiterator", data:=.fields #[.ref S,.int 0 0,.int A3.length 0,.int ep 0] }:Obj)=io
 have kp:∀ b o,s.heap.get? b=some o->(s.heap.push io).get? b=some o:=fun b o e=>B9 _ e
 have Ag:S≠s.heap.objs.size:=BP AM
 have W:∀ A2:Around,A2.handled=none->Walks prog w A2 s.heap.objs.size [s.heap.objs.size,S] [s.heap.objs.size] A3.length _ _:=fun A2 h2=>Walks.dictKeys (knd:=CZ prog w) h2 s.heap.objs.size S Ag A3 ep
 have Wh:(s.heap.push io).IsKeyIter s.heap.objs.size S 0 A3.length ep/\(s.heap.push io).DictAt (CZ prog w) S A3 ep:=⟨⟨io,Bx _ (by rw [<- Rj];rfl),by rw [<- Rj],by rw [<- Rj];rfl⟩,hS.push _⟩
 have Xd:L∉[s.heap.objs.size,S]:=fun hm=>by
  simp only [KL,Ay,or_false] at hm
  rcases hm with z | z
  ·have q:L < s.heap.objs.size:=AY hL
   rw [z] at q;exact J3 _ q
  ·exact aA z
 generalize sW:s.heap.push io=h2 at kp Wh ⊢
 have Jr:Shared.TypeIs { s with heap:=h2 } (.ref S) "dict" := by obtain ⟨o,ho,hc⟩:=WU;exact ⟨o,kp _ _ ho,hc⟩
 refine wpAny_bind (wpAny_holding ?_)
 unfold Builtin.List.listLengthHint
 refine wpAny_bind (wpAny_specialOf Jr qG ?_)
 generalize YL:("dict.__len__" : String)=qz
 wp_delta
 rw [show splitId qz=some ("dict", "__len__") from by subst YL;decide +kernel]
 subst YL
 refine wpAny_bind (wpAny_isInstance (b:=true) Jr (by rw [isSubtype_type];kernel_rfl) ?_)
 rw [if_neg (by decide)]
 refine wpAny_ite_split (fun _=>?_) (fun FC=>absurd (by decide +kernel) FC)
 refine wpAny_bind (wpAny_typeOf Jr ?_)
 refine wpAny_pure ?_
 refine wpAny_ite_split (fun _=>?_) (fun FC=>absurd (by decide +kernel) FC)
 refine wpAny_bind (wpAny_rule ?_)
 refine wpAny_bind ?_
 show wpAny _ _ (updateSeq L (·.push .none) >>= fun _=>updateSeq L (·.pop)) _ _ _
 have z0:(#[]:Array Value).size<=sizeLine:=Cj _
 have z1:((#[]:Array Value).push Value.none).size<=sizeLine:=by show 1<=sizeLine;decide
 have z2:((#[]:Array Value).push Value.none).size<=sizeLine+1:=sD z1
 have z3:(((#[]:Array Value).push Value.none).pop).size<=sizeLine+1:=Cj _
 have V6:=kp _ _ hL
 refine wpAny_bind (wpAny_updateSeq (s:={ s with heap:=h2 }) V6 rfl ?_ z0 z2)
 have q2:=G6 (Obj.mapSeq (·.push Value.none)) V6 rfl
 refine wpAny_updateSeq q2 rfl ?_ z1 z3
 have q3:=G6 (Obj.mapSeq (·.pop)) q2 rfl
 have FV:∀ b o,b≠L->h2.get? b=some o->((h2.update L (Obj.mapSeq (·.push Value.none))).update L (Obj.mapSeq (·.pop))).get? b=some o:=
  fun b o hb e=>(Dn _ _ (Ah hb)).trans ((Dn _ _ (Ah hb)).trans e)
 refine wpAny_pure ⟨plainId_quiet PySem.F.plain_extend_loop _,codeAny_extend_loopS (W A.in1 hh).toS (en▸hn) _ Xd _ A3.length 0 _ #[] _ rfl (Cj _) ?_ q3 (ItemsOf.nil _) fun s' pD c' hm aH BX=>?_⟩
 ·exact (W A.in1 hh).frame 0 h2 _ Wh fun b hb o e=>FV b o (fun z=>Xd (z▸hb)) e
 ·have hsz:L < s'.heap.objs.size:=AY aH
  refine h s' pD.toList c' (fun b o hb e=>?_) hsz hm.gens hm.os aH (by rw [UT,BX.1];exact en) fun i v hv=>BX.2 i v (by rw [<- rN];exact hv)
  have DK:b < s.heap.objs.size:=AY e
  refine hm.heap b o ?_ (FV b o hb (kp b o e))
  simp only [KL,Ay,or_false,not_or]
  exact ⟨hb,BP DK⟩
end
theorem WK {prog:Program}{w:World}:∀ {ks:List Key}{A3:List (Key×Value)}{vs:List Value},A3.map (·.1)=ks->vs.length=A3.length->(∀ (i:Nat) v,vs[i]?=some v->∃ k x,A3[i]?=some (k,x)/\(CZ prog w).is k v=true)->Vals (ks.map kV) vs
 | [],[],[],_,_,_=>.nil
 | [],[],_ :: _,_,h,_=>by simp at h
 | [],_ :: _,_,h,_,_=>by simp at h
 | _ :: _,[],_,h,_,_=>by simp at h
 | _ :: _,_ :: _,[],_,h,_=>by simp at h
 | n :: ns,kv :: A3,v :: vs,e,hl,h=>by
  rw [BV] at e
  injection e with e1 e2
  obtain ⟨k,x,ek,hk⟩:=h 0 v rfl
  have kZ:kv=(k,x):=by simpa using ek
  subst kZ
  have CF:k=n:=e1
  subst CF
  refine .cons ?_ (WK e2 (by simpa using hl) fun i v hv=>h (i+1) v hv)
  rcases Fs (show IP k v=true from hk) with ⟨i,t,rfl,rfl⟩ | ⟨y,t,rfl,rfl⟩
  ·exact ⟨t,rfl⟩
  ·exact ⟨t,rfl⟩
section
variable {X:Cx}
def YU:List V->Hp->VK->Prop:=fun xs H Q=>∃ (p:Addr) (A3:List (Key×V)),xs=[.ref p]/\Rd H p (.dK A3)/\A3.length<=1000/\∀ l:Addr,H l=none->Q (.ref l) (upd H l (.lst ((A3.map (·.1)).map kV)))
def jc (hc:X.calm=true):D6 X (.type "list") YU:=by
 intro pins s σ H xs us Q I r h
 obtain ⟨p,A3,rfl,hH,Uu,q⟩:=h
 obtain ⟨u,rfl,rx⟩:=vals1 r
 cases rx
 obtain ⟨hz,JP,Gj,rel,hS⟩:=M0 I.A7 hH
 have hh:X.A.handled=none:=I.ok.hd hc
 have AM:p < s.heap.objs.size:=by obtain ⟨ep,h2⟩:=hS.dictAt;exact h2.lt_size
 have Ag:p≠s.heap.objs.size:=BP AM
 refine callType_codes (Q₁:=fun obj s₁=>obj=.ref s.heap.objs.size/\s₁={ s with heap:=s.heap.push { cls:=.type "list", data:=.seq #[] } }) F.called_list (F.typeCall_list_1 _) F.entry_list_init
  (code_list_new _ ⟨rfl,rfl⟩) fun obj s₁ h₁=>?_
 obtain ⟨rfl,rfl⟩:=h₁
 have OA:(s.heap.push { cls:=.type "list", data:=.seq #[] }).get? s.heap.objs.size=some { cls:=.type "list", data:=.seq #[] }:=Bx _ rfl
 refine ⟨⟨_,OA,rfl⟩,F.args_list_init_2 _ _,?_⟩
 show wpAny _ X.A.in1.in1 (do let old <- Builtin.List.listItems (.ref s.heap.objs.size);Builtin.List.listUpdate (.ref s.heap.objs.size) (fun _=>#[]);letGo old.toList.reverse;Builtin.List.listExtendWith (.ref s.heap.objs.size) (.ref p) .none) _ _ _
 refine wpAny_bind ?_
 unfold Builtin.List.listItems
 refine wpAny_bind (wpAny_seqItems OA rfl (wpAny_pure ?_))
 show wpAny _ X.A.in1.in1 (updateSeq s.heap.objs.size (fun _=>#[]) >>= fun _=>letGo (#[]:Array Value).toList.reverse >>= fun _=>Builtin.List.listExtendWith (.ref s.heap.objs.size) (.ref p) .none) _ _ _
 refine wpAny_bind (wpAny_updateSeq OA rfl ?_)
 have dR:=G6 (Obj.mapSeq (fun _=>(#[]:Array Value))) OA rfl
 have old:∀ b o,s.heap.get? b=some o->((s.heap.push { cls:=.type "list", data:=.seq #[] }).update s.heap.objs.size (Obj.mapSeq (fun _=>(#[]:Array Value)))).get? b=some o:=fun b o e=>
  (Dn _ _ (J4 (AY e))).trans (B9 _ e)
 have de:((s.heap.push { cls:=.type "list", data:=.seq #[] }).update s.heap.objs.size (Obj.mapSeq (fun _=>(#[]:Array Value)))).DictOf (CZ X.prog X.w) p Gj:=by
  obtain ⟨o,es,ep,ho,rest⟩:=hS
  exact ⟨o,es,ep,old _ _ ho,rest⟩
 refine wpAny_bind (wpAny_letGo ?_)
 refine dW (A:=X.A.in1) hh JP dR de rfl (by rw [<- rel.length];exact hz) fun s' vs c' a1 a2 a3 a4 a5 a6 a7=>?_
 have vv:Vals ((A3.map (·.1)).map kV) vs:=by
  rw [rel.keys]
  exact WK rfl a6 a7
 refine ⟨rfl,?_⟩
 obtain ⟨h1,g1,d1,t1,o1⟩:=s'
 simp only at a1 a2 a3 a4 a5
 subst a3;subst a4
 refine ⟨.ref _,_,(I.drew d1).laid (a:=s.heap.objs.size) (h':=h1) (t':=t1) (o:=.lst ((A3.map (·.1)).map kV)) (fun b o e=>a1 b o (BP (AY e)) (old b o e)) (AV _) ?_,rfl,q _ (I.A7.fresh (AV _))⟩
 exact ⟨by rw [AJ,AJ];exact hz,vs,c',vv,a5⟩
end
section
variable {X:Cx}{i o:Expr}{ty td:TE}{pos:Pos}
def gA (hu:X.A.units+1 < cLine) (hi:QE X i ty) (ho:QE X o td) (hm:behindInMarks .NotIn o=false:=by with_unfolding_all rfl):QT X (.Compare i [.NotIn] [o] pos) (tB (Oq ty td)):=⟨qy (kl hu hi.h ho.h) hm⟩
end
end L2
namespace Fz
open L2 Lw
theorem TC {F:Hp}:∀ ks:List Key,AD F (ks.map kV) (ks.map IY)
 | []=>.nil
 | .inl i :: ks=>.cons (.int i) (TC ks)
 | .inr x :: ks=>.cons (.str x) (TC ks)
section
variable [Xw]
variable {E:Ent0}{ss:List Slot}{σ:L2.St} {F H F' H':Hp}{K:tV}{i:Nat}{t:OV}{ta tb tc te:TE}{nx:List Slot->Prop}{R:AR}
def fT {k:List PV->Prop}(h:Wp ss te fun p=>∃ (ks:List Key) (xs:List PV),p=.Ae ks xs/\ks.length<=1000/\k (ks.map IY)):Wn ss (BY YU (AK te AS)) k:=⟨fun E σ F H Q S q=>
 h.go E σ F H _ S fun v p F1 H1 m1 rp ⟨ks,xs,e,hz,kk⟩=>by
  subst e
  cases rp with
  | @Ae a _ vs _ ef hl rr=>
   refine ⟨a,_,rfl,.inl (m1.st.fh _ _ ef),by rw [aZ];omega,fun l Er=>?_⟩
   rw [Xu hl]
   have m2:=m1.st.make Er (.lst (ks.map kV))
   exact q l _ _ F1 _ (m1.trans m2) (m1.st.BC Er) (m1.none Er) AN (TC ks) kk⟩
end
end Fz
namespace L2
section
variable {P:Program}{w:World}{H:Hp}{h:Heap}{a:Addr}
end
section
variable {X:Cx}{pins:tW}{σ:St} {H:Hp}{s:Shared}{a b:Addr}{v:V}{r:Value}{k:List Bool}{A3:List (List Bool×V)}{A:Around}{E:Value->Shared->Prop}
end
section
variable {X:Cx}{o i e value:Expr}{pos pos' So:Pos}{td ty tv:TE}
end
section
variable {prog:Program}{w:World}{A:Around}{s:Shared}
def b8 {elt iter:Expr}{es:List Expr}{k1:Nat}{tp:Pos}{ifs:List Expr}{scope:Scope}{pos:Pos}{it acc:Value}{env:Env}{R:Result->Shared->Prop}(I:Nat->Shared->Prop)
  (turn:∀ n s,I n s->wpAny (model prog w) A (pyNext it) (fun r s1=>match r with
   | none=>R (.ok .next) s1
   | some v=>wpAny (model prog w) A (letOwnedTupleGo (.Tuple es k1 tp) it v) (fun _ s2=>wpAny (model prog w) A (assign (.Tuple es k1 tp) env v) (fun _ s3=>
     wpAny (model prog w) A (forIn ifs true fun c r=>if r=true then do let ok <- isTrue c env (eval c env);pure (ForInStep.yield ok) else pure (ForInStep.yield r)) (fun ok s4=>if ok=true then
      wpAny (model prog w) A (eval elt env) (fun x s5=>wpAny (model prog w) A (call (.builtin "list.append") [acc,x]) (fun _ s6=>∃ m,m < n/\I m s6) (notedBy (model prog w) A env fun e s'=>R (.error e) s') s5) (notedBy (model prog w) A env fun e s'=>R (.error e) s') s4
      else ∃ m,m < n/\I m s4) (notedBy (model prog w) A env fun e s'=>R (.error e) s') s3)
     (notedBy (model prog w) A env fun e s'=>R (.error e) s') s2) (notedBy (model prog w) A env fun e s'=>R (.error e) s') s1) (notedBy (model prog w) A env fun e s'=>R (.error e) s') s)
  (n:Nat) (h:I n s):codeAny (model prog w) A (.compLoop (.ListComp elt [⟨.Tuple es k1 tp,iter,ifs,0⟩] scope pos) 0 it acc env) R s:=by
 refine codeAny_loop rfl I (fun n s hI=>(show wpAny _ A ((compTurn (.ListComp elt [⟨.Tuple es k1 tp,iter,ifs,0⟩] scope pos) 0 it acc env).onRaise (fun x=>do noteFrame x env;theTreesLotGoes x)) _ _ s from wpAny_noted ?_)) n h
 rw [compTurn_list]
 refine wpAny_bind (wpAny_standAt (wpAny_bind (wpAny_mono (turn n s hI) (fun r s1 q1=>?_) fun _ _ z=>z)))
 cases r with
 | none=>exact wpAny_pure q1
 | some v=>
  refine wpAny_bind (wpAny_mono q1 (fun _ s2 q2=>wpAny_bind (wpAny_mono q2 (fun _ s3 q3=>wpAny_bind (wpAny_mono q3 (fun ok s4 q4=>?_) fun _ _ z=>z)) fun _ _ z=>z)) fun _ _ z=>z)
  cases ok with
  | false=>
   rw [if_neg (by decide)] at q4
   exact wpAny_bind (wpAny_pure (wpAny_pure ⟨rfl,q4⟩))
  | true=>
   rw [if_pos rfl] at q4
   exact wpAny_bind (wpAny_bind (wpAny_mono q4 (fun x s5 q5=>wpAny_bind (wpAny_mono q5 (fun _ s6 q6=>wpAny_pure (wpAny_pure ⟨rfl,q6⟩)) fun _ _ z=>z)) fun _ _ z=>z))
end
section
variable {X:Cx}{pins:tW}{σ:St} {H2:Hp}{s2:Shared}{elt iter:Expr}{ifs:List Expr}{x z:Str}{px pz tp pos:Pos}{tk:Nat}{scope:Scope}{AA:List Str}{js:List Nat}{tt:TT}{te:TE}{J:It}{fp:List Addr}{it:Addr}
 {tn:Nat->Heap->Prop}
end
structure Iu (N:List Str) (outer scope:Scope) (zs:List Str) (AA:List Str) (js:List Nat):Prop where
 kind:scope.kind=.function
 Lm:∀ y∈scope.names,y.2≠.cell
 loc:∀ y∈scope.names,y.2=.local->scope.names.lookup y.1=some .local
 LD:∀ x∈zs,scope.names.lookup x=some .local
 at':js.map (fun j=>N[j]?)=AA.map some
 cell:∀ y∈AA,outer.names.lookup y=some .cell
 free:∀ y∈AA,scope.names.lookup y=some .free
 all:∀ y∈scope.names,y.2=.free->outer.names.lookup y.1=some .cell
 nd:(AA++zs).Nodup
inductive Hd:List Str->List Expr->Prop
 | nil:Hd [] []
 | cons {x zs p es}:Hd zs es->Hd (x :: zs) (.Name x p :: es)
def OG (i:Nat):Nat->FA
 | 0=>IK
 | n+1=>Dq (BU i) (OG (i+1) n)
theorem VI {Q:St->Hp->Prop}{H:Hp}:∀ {us:List V}{l ws:St},ws.length=us.length->Q (l++us.map some) H->OG l.length us.length us (l++ws) H Q
 | [],l,ws,h,q=>by
  rw [List.length_eq_zero_iff.mp h];exact ⟨rfl,q⟩
 | u :: us,l,w :: ws,h,q=>by
  refine ⟨u,us,rfl,?_⟩
  show OG (l.length+1) us.length us ((l++w :: ws).set l.length (some u)) H Q
  have e:(l++w :: ws).set l.length (some u)=(l++[some u])++ws:=by
   rw [sA _ _ (AV _),Ug];simp
  have el:l.length+1=(l++[some u]).length:=by simp
  rw [e,el]
  refine VI (l:=l++[some u]) (by simpa using h) ?_
  rw [CT];exact q
theorem V4 {X:Cx}(hN:X.N.Nodup):∀ {zs:List Str}{es:List Expr}{i:Nat},Hd zs es->(∀ (j:Nat) x,zs[j]?=some x->X.N[i+j]?=some x/\Loc X.env.scope x/\X.env.scope.names.lookup x=some .local)->JJ X es (OG i zs.length)
 | _,_,_,.nil,_=>V1
 | _,_,i,.cons (x:=x) (zs:=zs) r,h=>by
  obtain ⟨h1,h2,h3⟩:=h 0 _ rfl
  refine Vi (Ru hN h1 h2 (.inr h3)) (V4 hN r fun j y hj=>?_)
  have:=h (j+1) y hj
  rwa [show i+(j+1)=i+1+j by omega] at this
def kP {n i:Nat}{v:V}(h:(List.replicate n (none:Option V))[i]?=some (some v)):False:=by
 rw [aW] at h
 by_cases c:i < n
 ·rw [if_pos c] at h;cases h
 ·rw [if_neg c] at h;cases h
def Z6 (K:tV) (n:Nat) (J:It) (js:List Nat) (tt:TT) (te:TE) (σ:St) (H1:Hp) (acc:Addr) (Q:VK):Prop:=
 ∃ W:Nat->Nat->Hp->Prop,(∃ m,W 0 m (upd H1 acc (.lst [])))/\∀ i m H2,W i m H2->
  (J.stop i H2/\Q (.ref acc) H2)∨(J.go i H2/\∀ x H3,J.E6 i H2 x H3->∃ a us,x=.ref a/\AU K H3 a us/\us.length=n/\tt (Ac js σ++us.map some) H3 fun b H4=>if b=true then te (Ac js σ++us.map some) H4 fun y H5=>∃ ys,H5 acc=some (.lst ys)/\ys.length < sizeLine/\∃ m',m' < m/\W (i+1) m' (upd H5 acc (.lst (ys++[y]))) else ∃ m',m' < m/\W (i+1) m' H4)
def Oo (K:tV) (n:Nat) (wi:TI) (js:List Nat) (tt:TT) (te:TE):TE:=fun σ H Q=>wi σ H fun J H1=>∀ acc,H1 acc=none->Z6 K n J js tt te σ H1 acc Q
section
variable {X:Cx}{pins:tW}{σ:St} {H2:Hp}{s2:Shared}{elt iter:Expr}{ifs es:List Expr}{zs:List Str}{tp pos:Pos}{tk:Nat}{scope:Scope}{AA:List Str}{js:List Nat}{tt:TT}{te:TE}{J:It}{fp:List Addr}{it:Addr}
 {tn:Nat->Heap->Prop}
def cn (S:Iu X.N X.env.scope scope zs AA js) (I3:Inv X pins σ H2 s2) (f2:∀ b∈fp,Bw X pins H2 b) (Qq:∀ b∈fp,b < s2.heap.objs.size){h1:Heap}
  {m:tX}(En:h1.Ns s2.heap.objs.size m) (old:∀ b o,s2.heap.get? b=some o->h1.get? b=some o){t':Nat} :
  Inv (Ai X (AA++zs) scope (Bb X.env.cells scope.names) s2.heap.objs.size s2 H2 fp) [] (Ac js σ++List.replicate zs.length none) H2 { s2 with heap:=h1,toks:=t' }:=by
 have Qj:∀ y∈scope.names,y.2=.free->(X.env.cells.lookup y.1).isSome=true:=fun y hy hk=>by
  obtain ⟨c,e⟩:=I3.ok.has y.1 (.inl (S.all y hy hk))
  rw [e];rfl
 have EE:∀ y c,(Bb X.env.cells scope.names).lookup y=some c->X.env.cells.lookup y=some c:=SW scope.names [] Qj (fun _ _ e=>by cases e)
 have La:∀ y k,(relabel scope X.env).names.lookup y=some k->k=.cell∨k=.free->scope.names.lookup y=some .free:=fun y k e hk=>by
  have e':=(Lk (env:=X.env) scope.names y).symm.trans e
  cases q:scope.names.lookup y with
  | none=>rw [q] at e';cases e'
  | some k0=>
   rw [q] at e'
   have Ag:=S.Lm _ (G9 q)
   cases k0 with
   | free=>rfl
   | cell=>exact absurd rfl Ag
   | _=>simp at e';rcases hk with rfl | rfl <;> cases e'
 have hlen:js.length=AA.length:=by have:=congrArg List.length S.at';simpa using this
 have kQ:∀ y c,X.env.cells.lookup y=some c->c < s2.heap.objs.size:=fun y c e=>by
  obtain ⟨v,o,ho,_⟩:=I3.cell y c e
  exact AY ho
 have cellK:∀ c v,s2.heap.IsCell c v->h1.IsCell c v:=fun c v ⟨o,ho,hd⟩=>⟨o,old c o ho,hd⟩
 refine ⟨⟨I3.ok.mod,S.kind,I3.ok.glob,I3.ok.blt,AV _,fun y z c e1 e2=>I3.ok.inj y z c (EE y c e1) (EE z c e2),fun y hy=>?_,fun y c hf _=>(by cases hf),I3.ok.hd,I3.ok.frames,.inl rfl,fun b hb=>⟨BP (Qq b hb),fun y c e=>(f2 b hb).2.2.2.2.1 y c (EE y c e)⟩,
  fun b o e=>I3.bs b o e,Bt I3.ok.E5 I3.sz,fun b o e hb=>?_,fun b hb hs=>?_,I3.stack,I3.Kr⟩,rfl,I3.bare,Un.kept old,⟨m,En,fun i y v e1 e2 e3=>?_⟩,fun y c e=>?_,I3.A7.fresh (AV _),fun y c e=>I3.CW y c (EE y c e),fun p hp=>(by cases hp),I3.A7.kept old,?_⟩
 ·have hf:scope.names.lookup y=some .free:=by
   rcases hy with hy | hy
   ·exact La y _ hy (.inl rfl)
   ·exact La y _ hy (.inr rfl)
  exact Option.isSome_iff_exists.mp (Lg scope.names [] (.inr (G9 hf)))
 ·rcases (f2 b hb).2.2.2.1 with z | z
  ·exact I3.ok.GQ b o e z
  ·exact absurd (CU (CU (AY e) I3.ok.E5) z) (J3 _)
 ·rcases List.mem_cons.mp (I3.JX b hs) with z | z
  ·exact (f2 b hb).2.1 z
  ·exact (f2 b hb).2.2.1 z
 ·have HJ:(Ac js σ).length=AA.length:=by unfold Ac;rw [AJ,hlen]
  have hi:i < AA.length:=by
   by_cases hi:i < AA.length
   ·exact hi
   ·have Af:(Ac js σ++List.replicate zs.length none)[i]?=some (some v):=e2
    rw [EX (by rw [HJ];omega),HJ] at Af
    exact (kP Af).elim
  have CF:AA[i]?=some y:=by
   have CF:(AA++zs)[i]?=some y:=e1
   rwa [EW hi] at CF
  have Af:(Ac js σ)[i]?=some (some v):=by
   have Af:(Ac js σ++List.replicate zs.length none)[i]?=some (some v):=e2
   rwa [EW (by rw [HJ];exact hi)] at Af
  have Fb:y∈AA:=EZ CF
  unfold Ac at Af
  rw [Ak] at Af
  cases hj:js[i]? with
  | none=>rw [hj] at Af;cases Af
  | some j=>
   rw [hj] at Af
   have hN:X.N[j]?=some y:=by
    have q:=congrArg (fun l=>l[i]?) S.at'
    simp only [Ak,hj,CF,Me] at q
    exact BA q
   have hσ:σ[j]?=some (some v):=by
    simp only [Me,sH] at Af
    cases q:σ[j]? with
    | none=>rw [q] at Af;cases Af
    | some w=>rw [q] at Af;simp at Af;rw [Af]
   obtain ⟨m0,eV,Ph⟩:=I3.loc
   obtain ⟨u,r,l⟩:=Ph j y v hN hσ (.inr (.inl (S.cell y Fb)))
   refine ⟨u,r,?_⟩
   rcases l with ⟨k,_⟩ | ⟨_,c,e,z⟩
   ·have k':X.env.scope.names.lookup y=some .local:=k
    rw [S.cell y Fb] at k';cases k'
   ·have Qo:X.env.kindOf y=some .cell:=S.cell y Fb
    have hk:(relabel scope X.env).names.lookup y=some .cell:=by
     refine (Lk (env:=X.env) scope.names y).trans ?_
     rw [S.free y Fb]
     simp [I3.ok.kind,Qo]
    obtain ⟨c',e'⟩:=Option.isSome_iff_exists.mp (Lg (cells:=X.env.cells) scope.names [] (.inr (G9 (S.free y Fb))))
    have KZ:=EE y c' e'
    rw [e] at KZ;cases KZ
    exact .inr ⟨.inl hk,c,e',cellK c _ z⟩
 ·obtain ⟨v,z⟩:=I3.cell y c (EE y c e)
  exact ⟨v,cellK c v z⟩
 ·show (Ac js σ++List.replicate zs.length none).length=(AA++zs).length
  unfold Ac
  simp [hlen]
def gu {acc C:Addr}{s3:Shared}{H3:Hp}{cl:List (Str×Addr)}{s4:Shared}{ws:St}{H4:Hp}{R:Result->Shared->Prop}(hc:X.calm=true) (S:Iu X.N X.env.scope scope zs AA js) (Hx:Hd zs es) (Fy:∀ e,(assignEach es e).length=zs.length) (Dd:∀ e,(assignEach es e).findIdx? (·.1)=none)
  (CV:GY (Ai X (AA++zs) scope cl C s3 H3 fp) ifs tt) (Cb:PE (Ai X (AA++zs) scope cl C s3 H3 fp) elt te)
  (T:Turn X.prog X.w X.K (.Tuple es tk tp) J fp it tn) (RP:∀ b∈fp,(Ai X (AA++zs) scope cl C s3 H3 fp).Ok->Bw (Ai X (AA++zs) scope cl C s3 H3 fp) [] (fun _=>none) b)
  (W:Nat->Nat->Hp->Prop) (Q:VK)
  (turn:∀ i m H2,W i m H2->(J.stop i H2/\Q (.ref acc) H2)∨(J.go i H2/\∀ x H3,J.E6 i H2 x H3->∃ a us,x=.ref a/\AU X.K H3 a us/\us.length=zs.length/\tt (Ac js σ++us.map some) H3 fun b H4=>if b=true then te (Ac js σ++us.map some) H4 fun y H5=>∃ ys,H5 acc=some (.lst ys)/\ys.length < sizeLine/\∃ m',m' < m/\W (i+1) m' (upd H5 acc (.lst (ys++[y]))) else ∃ m',m' < m/\W (i+1) m' H4))
  (I4:Inv (Ai X (AA++zs) scope cl C s3 H3 fp) [] (Ac js σ++ws) H4 s4) (GD:tn 0 s4.heap) (SJ:∀ b∈fp,H4 b=none) (m0:Nat) (w4:W 0 m0 H4)
  (mY:ws.length=zs.length) (hR:∀ H' s' ws,Inv (Ai X (AA++zs) scope cl C s3 H3 fp) [] (Ac js σ++ws) H' s'->Q (.ref acc) H'->R (.ok .next) s') :
  codeAny (model X.prog X.w) X.A (.compLoop (.ListComp elt [⟨.Tuple es tk tp,iter,ifs,0⟩] scope pos) 0 (.ref it) (.ref acc) (compEnvC scope cl C X.env)) R s4:=by
 have hlen:(Ac js σ).length=AA.length:=by
  unfold Ac;rw [AJ];have:=congrArg List.length S.at';simpa using this
 have A7:=I4.ok
 have FU:∀ {H':Hp},(∀ b∈fp,H' b=none)->∀ b∈fp,Bw (Ai X (AA++zs) scope cl C s3 H3 fp) [] H' b:=fun hn b hb=>⟨hn b hb,(RP b hb A7).2⟩
 refine b8 (fun n s'=>∃ i ws H',ws.length=zs.length/\Inv (Ai X (AA++zs) scope cl C s3 H3 fp) [] (Ac js σ++ws) H' s'/\tn i s'.heap/\(∀ b∈fp,H' b=none)/\W i n H') ?_ m0 ⟨0,ws,H4,mY,I4,GD,SJ,w4⟩
 rintro n s5 ⟨i,kU,H5,eL,I5,GZ,Ig,w5⟩
 rcases turn i n H5 w5 with ⟨stop,q⟩ | ⟨go,step⟩
 ·refine wpAny_mono (T.done (Ai X (AA++zs) scope cl C s3 H3 fp) rfl rfl rfl hc i [] s5 _ H5 (fun _ _=>False) I5 (FU Ig) GZ stop) (fun r s6 ⟨hr,I6⟩=>?_) fun _ _ z=>z.elim
  subst hr
  exact hR H5 s6 kU I6 q
 ·refine wpAny_mono (T.item (Ai X (AA++zs) scope cl C s3 H3 fp) rfl rfl rfl hc i [] s5 _ H5 (fun _ _=>False) I5 (FU Ig) GZ go) (fun r s6 ⟨u,hr,h6⟩=>?_) fun _ _ z=>z.elim
  subst hr
  refine wpAny_mono h6 (fun _ s7 ⟨v,H7,I7,r7,y7,IL,U6⟩=>?_) fun _ _ z=>z.elim
  have Qv:=I7.pinned (FU U6) (T.obj _ _ IL)
  obtain ⟨ta,us,rfl,dB,Ln,df⟩:=step v H7 y7
  refine wpAny_mono (Xm (X:=Ai X (AA++zs) scope cl C s3 H3 fp) (n:=zs.length) hc (V4 S.nd (i:=AA.length) Hx fun j y hj=>?_) (Fy _) (Dd _) _ s7 _ H7 _ u
   (fun σ8 H8=>σ8=Ac js σ++us.map some/\H8=H7) Qv r7 ⟨ta,us,rfl,dB,Ln,?_⟩) (fun _ s8 ⟨σ8,H8,I8,e8,SO⟩=>?_) fun _ _ z=>z.elim
  ·have hm:=EZ hj
   exact ⟨by show (AA++zs)[AA.length+j]?=_;rw [EX (by omega),Nat.add_sub_cancel_left];exact hj,.inl (lookup_relabel_local (S.LD y hm)),lookup_relabel_local (S.LD y hm)⟩
  ·rw [<- Ln,<- hlen]
   exact VI (by rw [eL,Ln]) ⟨rfl,rfl⟩
  subst e8;subst SO
  have again:∀ {σa:St} {Ha:Hp}{sa:Shared},Inv (Ai X (AA++zs) scope cl C s3 H3 fp) ([]++JZ fp s7.heap) σa Ha sa->tn (i+1) sa.heap/\(∀ b∈fp,Ha b=none):=fun {σa Ha sa} Ia=>by
   refine ⟨T.keep _ _ _ IL fun b hb o e=>(Ia.pin (b,o) (E9 _ (E9 _ (Jt hb e)))).1,fun b hb=>?_⟩
   obtain ⟨o,e,d⟩:=T.obj _ _ IL b hb
   exact (Ia.pin (b,o) (E9 _ (E9 _ (Jt hb e)))).2.1
  refine wpAny_mono (CV _ s8 _ H8 _ I8 df) (fun b s9 ⟨H9,I9,q9⟩=>?_) fun _ _ z=>z.elim
  cases b with
  | false=>
   have TN:∃ m',m' < n/\W (i+1) m' H9:=q9
   obtain ⟨m',hm,w9⟩:=TN
   rw [if_neg (by decide)]
   exact ⟨m',hm,i+1,_,H9,by rw [AJ,Ln],I9.Ic,(again I9).1,(again I9).2,w9⟩
  | true=>
   rw [if_pos rfl]
   rw [if_pos rfl] at q9
   refine wpAny_mono (Cb _ s9 _ H9 _ I9 q9) (fun yv P0 ⟨y,LC,Ow,Pg,ys,BX,hz,m',hm,UE⟩=>?_) fun _ _ z=>z.elim
   refine wpAny_mono (US (X:=Ai X (AA++zs) scope cl C s3 H3 fp) _ P0 _ LC (.ref acc) [y] (.ref acc) [yv] (fun _ LO=>LO=upd LC acc (.lst (ys++[y]))) Ow rfl (.cons Pg .nil) ⟨acc,ys,y,rfl,rfl,BX,hz,rfl⟩)
    (fun _ dq ⟨_,LO,I0,_,RM⟩=>?_) fun _ _ z=>z.elim
   subst RM
   exact ⟨m',hm,i+1,_,_,by rw [AJ,Ln],I0.Ic,(again I0).1,(again I0).2,UE⟩
def fZ {RR:Value->Addr->Result->Shared->Prop}{E:Value->Shared->Prop}(hc:X.calm=true) (S:Iu X.N X.env.scope scope zs AA js) (Hx:Hd zs es) (Fy:∀ e,(assignEach es e).length=zs.length) (Dd:∀ e,(assignEach es e).findIdx? (·.1)=none)
  (CV:∀ C s H,GY (Ai X (AA++zs) scope (Bb X.env.cells scope.names) C s H fp) ifs tt) (Cb:∀ C s H,PE (Ai X (AA++zs) scope (Bb X.env.cells scope.names) C s H fp) elt te)
  (T:Turn X.prog X.w X.K (.Tuple es tk tp) J fp it tn) (I2:Inv X pins σ H2 s2) (ER:tn 0 s2.heap) (f2:∀ b∈fp,Bw X pins H2 b) (Q:VK) (hW:∀ acc,H2 acc=none->Z6 X.K zs.length J js tt te σ H2 acc Q)
  (P4:∀ acc C H' s' m,Inv X pins σ H' s'->Bw X pins H' C->s'.heap.Ns C m->Q (.ref acc) H'->RR (.ref acc) C (.ok .next) s') :
  wpAny (model X.prog X.w) X.A (newList []) (fun acc s3=>wpAny (model X.prog X.w) X.A (newFunctionEnv scope X.env.globals (Bb X.env.cells scope.names) [] X.env.qual none .none (some X.env)) (fun Ku s4=>
   codeAny (model X.prog X.w) X.A (.compStart (.ListComp elt [⟨.Tuple es tk tp,iter,ifs,0⟩] scope pos) 0 (.ref it) acc { Ku with scope:=relabel scope X.env }) (RR acc Ku.locals) s4) E s3) E s2:=by
 refine wpAny_newObj_type (wpAny_newFunctionEnv S.Lm (fun y hy=>by cases hy) (fun h1 En FY=>?_) S.kind)
 have I3:Inv X pins σ (upd H2 s2.heap.objs.size (.lst [])) { s2 with heap:=s2.heap.push { cls:=.type "list", data:=.seq ([]:List Value).toArray } }:=I2.Rl (t':=s2.toks) .nil (Cj _)
 have AM:∀ b∈fp,b < s2.heap.objs.size:=fun b hb=>by
  obtain ⟨o,e,_⟩:=T.obj _ _ ER b hb
  exact AY e
 have hsz:(s2.heap.push { cls:=.type "list", data:=.seq ([]:List Value).toArray }).objs.size=s2.heap.objs.size+1:=Ho ..
 have f3:∀ b∈fp,Bw X pins (upd H2 s2.heap.objs.size (.lst [])) b:=fun b hb=>⟨by rw [AF (BP (AM b hb))];exact (f2 b hb).1,(f2 b hb).2⟩
 generalize Jm:({ s2 with heap:=s2.heap.push { cls:=.type "list", data:=.seq ([]:List Value).toArray } }:Shared)=s3 at I3 En FY ⊢
 have Lz:s3.heap=s2.heap.push { cls:=.type "list", data:=.seq ([]:List Value).toArray }:=by rw [<- Jm]
 have Sq:∀ b∈fp,b < s3.heap.objs.size:=fun b hb=>by rw [Lz,hsz];exact sE (AM b hb)
 have old:∀ b o,s3.heap.get? b=some o->h1.get? b=some o:=fun b o e=>FY.extBut b o (BP (AY e)) (B9 _ e)
 have SK:∀ b o,s2.heap.get? b=some o->h1.get? b=some o:=fun b o e=>old b o (by rw [Lz];exact B9 _ e)
 have I4:=cn S I3 f3 Sq En old (t':=s3.toks+([]:List (Str×Value)).length)
 have GD:tn 0 h1:=T.keep _ _ _ ER fun b _ o e=>SK b o e
 obtain ⟨W,⟨m0,w0⟩,turn⟩:=hW s2.heap.objs.size (I2.A7.fresh (AV _))
 have loop:codeAny (model X.prog X.w) X.A (.compLoop (.ListComp elt [⟨.Tuple es tk tp,iter,ifs,0⟩] scope pos) 0 (.ref it) (.ref s2.heap.objs.size) (compEnvC scope (Bb X.env.cells scope.names) s3.heap.objs.size X.env))
   (RR (.ref s2.heap.objs.size) s3.heap.objs.size) { s3 with heap:=h1,toks:=s3.toks+([]:List (Str×Value)).length }:=by
  refine gu (acc:=s2.heap.objs.size) (Q:=Q) hc S Hx Fy Dd (CV _ _ _) (Cb _ _ _) T (fun b hb ok=>⟨rfl,(ok.GK b hb).1,ok.Gf b hb,.inl hb,(ok.GK b hb).2,fun p hp=>by cases hp⟩) W turn I4 GD (fun b hb=>(f3 b hb).1) m0 w0 (rg ..) fun H' s' w I' q=>?_
  obtain ⟨m,hn,_⟩:=I'.loc
  exact P4 _ _ H' s' m (I3.XQ (ch:=fp) I'.os I'.base I'.A7 I'.bare fun b hb=>⟨(f3 b hb).2.2.2.1,(f3 b hb).2.1,(f3 b hb).2.2.2.2.1,(f3 b hb).2.2.2.2.2⟩) (I3.Hy (AV _) I'.free) hn q
 exact codeAny_compStart_list loop (T.self X.A 0 _ _ _ GD loop)
def mK {σ:St} {H:Hp}{s:Shared}(S:Iu X.N X.env.scope scope zs AA js) (I:Inv X pins σ H s):closureFor scope X.env=pure (Bb X.env.cells scope.names):=VJ fun y hy hk=>by
 obtain ⟨c,e⟩:=I.ok.has y.1 (.inl (S.all y hy hk))
 rw [e];rfl
def gm {wi:TI}(hc:X.calm=true) (S:Iu X.N X.env.scope scope zs AA js) (Hx:Hd zs es) (Fy:∀ e,(assignEach es e).length=zs.length) (Dd:∀ e,(assignEach es e).findIdx? (·.1)=none) (hi:PI X (.Tuple es tk tp) iter wi)
  (CV:∀ fp C s H,GY (Ai X (AA++zs) scope (Bb X.env.cells scope.names) C s H fp) ifs tt) (Cb:∀ fp C s H,PE (Ai X (AA++zs) scope (Bb X.env.cells scope.names) C s H fp) elt te)
  (hs:∀ v,foldedSetIterable iter X.env v=pure v:=by intro _;rfl):PE X (.ListComp elt [⟨.Tuple es tk tp,iter,ifs,0⟩] scope pos) (Oo X.K zs.length wi js tt te):=by
 intro pins s σ H Q I h
 rw [eval_ListComp]
 refine wpAny_comprehension_free (use:=none) rfl hs (mK S I) S.kind S.loc (AE (hi pins s σ H _ I h) fun v s1 h1=>AE h1 fun LI s2 h2=>?_)
 obtain ⟨it,fp,tn,J,H2,e,I2,T,ER,f2,hW⟩:=h2
 subst e
 refine fZ (RR:=fun acc C=>compPost (model X.prog X.w) X.A X.xe none (EP X pins σ Q) acc C) hc S Hx Fy Dd (CV fp) (Cb fp) T I2 ER f2 Q hW fun acc C H' s' m I' fC hn q=>⟨m,hn,fun h' FY=>?_⟩
 exact ⟨.ref acc,H',I'.turned (t':=s'.toks) (fun b o hb e=>(FY.2 b hb).trans e) fC.1 fC.2.1 fC.2.2.2.1 fC.2.2.2.2.1 fC.2.2.2.2.2,rfl,q⟩
def bQ {wi:TI}(hc:X.calm=true) (S:Iu X.N X.env.scope scope zs AA js) (Hx:Hd zs es) (Fy:∀ e,(assignEach es e).length=zs.length) (Dd:∀ e,(assignEach es e).findIdx? (·.1)=none) (hi:QI X (.Tuple es tk tp) iter wi) (CV:∀ fp C s H,OF (Ai X (AA++zs) scope (Bb X.env.cells scope.names) C s H fp) ifs tt) (Cb:∀ fp C s H,QE (Ai X (AA++zs) scope (Bb X.env.cells scope.names) C s H fp) elt te)
  (hs:∀ v,foldedSetIterable iter X.env v=pure v:=by intro _;rfl):QE X (.ListComp elt [⟨.Tuple es tk tp,iter,ifs,0⟩] scope pos) (Oo X.K zs.length wi js tt te):=⟨gm hc S Hx Fy Dd hi.h (fun fp C s H=>(CV fp C s H).h) (fun fp C s H=>(Cb fp C s H).h) hs⟩
end
section
variable {prog:Program}{w:World}{A:Around}{E:Value->Shared->Prop}{s:Shared}
variable {z TI TO i1 i2 l1 l2:Addr}{k:Nat}{t1 t2:Bool}{xs ys:Array Value}{x y a b:Value}
end
section
variable {X:Cx}
end
section
variable {X:Cx}{pins:tW}{σ:St} {H:Hp}{s:Shared}
end
section
variable {X:Cx}{tg:Expr}
end
section
variable {X:Cx}
end
section
variable {X:Cx}{tg l e:Expr}{tl t:TE}{st:Stmt}{ts:TS}
end
end L2
namespace Fz
open L2 Lw
section
variable [Xw]
variable {ss:List Slot}{i j:Nat}{lt:Bool}{ks:List Key}{a:Addr}{xs:List PV}{nx:List Slot->Prop}{R:AR}{tt:TT}{te:TE}
end
section
variable [Xw]
variable {ss:List Slot}{te:TE}{ta:TA}{i j0:Nat}{lt:Bool}{K:tV}
end
end Fz
namespace L2
section
variable {X:Cx}{pos:Pos}
end
end L2
namespace Fz
open L2 Lw
section
variable [Xw]
variable {ss:List Slot}
end
section
variable [Xw]
variable {ss:List Slot}{te:TE}{ta:TA}{i:Nat}{t:OV}{pre:Pre}
end
section
variable [Xw]
variable {ss:List Slot}{te:TE}{i:Nat}{t:OV}
end
def jQ {pre:Pre}{H:Hp}{N:List Str}{n:Nat}{vs:List V}{Q:VK}{X:XK}{t:TS}(h:Gz pre vs H Q X) (hl:∀ ss R,pre ss R->ss.length=n)
  (hw:∀ ss R,pre ss R->Ws (ss++List.replicate (N.length - n) .any) t (SA R) R):t { nx:=fun _ H'=>Q .A4 H',rt:=Q } (L2.start N vs) H:=by
 obtain ⟨ss,R,F,A,B,hp,S,q⟩:=h
 have e:vs.length=n:=by have:=S.len;rw [AJ] at this;rw [<- this];exact hl ss R hp
 unfold L2.start
 rw [e]
 exact (hw ss R hp).go (N6 ⟨A,F,H,B⟩) _ _ F H (S.grown _) (fun A8 σ' F' H' z S' _=>q .A4 F' H' S'.toFin (z.ok S')) fun v F' H' f ok=>q v F' H' f ok
section
variable [Xw]
variable {E:Ent0}{ss:List Slot}{σ:L2.St} {F H F' H':Hp}{K:tV}{i:Nat}{ks:List (List Bool)}{ta tb tc te:TE}{R:AR}
end
section
variable [Xw]
variable {E:Ent0}{ss:List Slot}{σ:L2.St} {F H F' H':Hp}{K:tV}{js:List Nat}
end
end Fz
namespace L2
section
variable {X:Cx}
end
end L2
namespace Fz
open L2 Lw
section
variable [Xw]
variable {ss:List Slot}{te:TE}{K:tV}{P:Program}{w:World}
end
section
variable [Xw]
variable {E:Ent0}{ss:List Slot}{σ:L2.St} {F H F' H':Hp}{K:tV}{js:List Nat}{ta tb:TE}
def cX {n:Nat}{wi:TI}{tt:TT}{te:TE}{k:List PV->Prop}(f:PV->Bool) (g:PV->PV)
  (h:Wi ss wi fun xs=>xs.length<=100000/\(∀ x∈xs,∃ as:List PV,x=.tup as/\as.length=n/\Wt (CL js ss++as.map .is) tt (fun c=>c=f x)/\(f x=true->Wp (CL js ss++as.map .is) te fun p=>p=g x))/\k ((xs.filter f).map g))
  (nd:js.Nodup:=by decide) (np:NC js ss=true:=by rfl):Wn ss (Oo K n wi js tt te) k:=⟨fun E σ F H Q S q=>
 h.go E σ F H _ S fun J xs F1 H1 m1 sr ⟨hz,he,kk⟩ acc BX=>by
  have KP:Bf ss σ acc:=m1.st.LF BX
  have Qk:=m1.st.Cz BX
  have SG:∀ (i:Nat) s,ss[i]?=some s->¬ An s σ[i]? acc:=fun i s hi=>m1.st.Ir hi BX
  refine ⟨fun i m H2=>m=xs.length - i/\i<=xs.length/\∃ F2 vs,Mv E ss σ F1 H1 F2 H2/\F2 acc=none/\H2 acc=some (.lst vs)/\AD F2 vs (((xs.take i).filter f).map g),⟨_,rfl,Cj _,F1,[],m1.st.make BX _,m1.st.BC BX,AN,.nil⟩,?_⟩
  rintro i m H2 ⟨rfl,hi,F2,vs,m2,fa,ha,rv⟩
  by_cases AM:i < xs.length
  ·refine .inr ⟨sr.go ss σ F2 H2 i m2.ff m2.st AM,fun x H3 y=>?_⟩
   obtain ⟨p,F3,hp,m3,rp⟩:=sr.E6 ss σ F2 H2 i x H3 m2.ff m2.st AM y
   have Oa:p∈xs:=EZ hp
   have HR:(xs.take (i+1))=xs.take i++[p]:=by
    have e2:xs[i]=p:=by rw [B4 AM] at hp;exact BA hp
    rw [Oh AM,e2]
   have e1:List.filter f (xs.take (i+1))=(xs.take i).filter f++(if f p=true then [p] else []):=by
    rw [HR,aU];congr 1
    by_cases hf:f p=true <;> simp [hf]
   have M6:∀ {F4:Hp},(∀ a o,F4 a=some o->F2 a=some o∨H2 a=none)->F4 acc=none:=fun {F4} n=>by
    cases e:F4 acc with
    | none=>rfl
    | some o=>
     rcases n acc o e with w | w
     ·rw [fa] at w;cases w
     ·rw [ha] at w;cases w
   obtain ⟨as,ep,hn,ht,hw⟩:=he p Oa
   rw [ep] at rp
   cases rp with
   | tup e r=>
    refine ⟨_,_,rfl,AU.of (m3.st.fh _ _ e),by rw [r.length,hn],?_⟩
    have S3:=m3.st.AA (js:=js) nd r
    refine ht.go E _ F3 H3 _ S3 fun c F4 H4 m4 hb=>?_
    have Yz:=m4.out (ps:=as) m3.st np
    have Dk:=m3.trans Yz
    show if c=true then _ else _
    rw [hb]
    by_cases hf:f p=true
    ·rw [if_pos hf]
     have S4:=Dk.st.AA (js:=js) nd (r.mono Yz.ff)
     refine (hw hf).go E _ F4 H4 _ S4 fun w pw F5 H5 m5 Kh ew=>?_
     have Px:=m5.out (ps:=as) Dk.st np
     have Gn:=Dk.trans Px
     have Sj:=Gn.hh acc _ KP ha
     have L4:=M6 Gn.nn
     have hlen:vs.length<=99999:=by
      rw [rv.length,AJ]
      have:=aY f (xs.take i)
      rw [EY] at this
      omega
     refine ⟨vs,Sj,Ii hlen,xs.length - (i+1),by omega,rfl,AM,F5,vs++[w],?_,L4,AN,?_⟩
     ·have Gr:=m2.trans Gn
      refine ⟨Gr.st.NW L4 (.inl Qk) SG,Gr.ff,fun a o n e=>?_,Gr.nn⟩
      rw [AF (Bu e BX)];exact Gr.hh a o n e
     ·rw [e1,if_pos hf,Dp]
      rw [ew] at Kh
      exact (rv.mono Gn.ff).append (.one Kh)
    ·have Ka:f p=false:=by simpa using hf
     rw [Ka,if_neg (by decide)]
     refine ⟨xs.length - (i+1),by omega,rfl,AM,F4,vs,m2.trans Dk,M6 Dk.nn,Dk.hh acc _ KP ha,?_⟩
     rw [e1,if_neg hf,EV]
     exact rv.mono Dk.ff
  ·have e:i=xs.length:=by omega
   subst e
   refine .inl ⟨sr.stop ss σ F2 H2 m2.ff m2.st,q acc vs _ F2 H2 (m1.trans m2) fa (m1.none BX) ha ?_ kk⟩
   rw [J1] at rv
   exact rv⟩
end
end Fz
namespace L2
end L2
namespace Fz
open L2 Lw
section
variable {X:Cx}
end
section
variable [Xw]
variable {ss:List Slot}{ta tb:TE}{K:tV}{k:PV->Prop}{nx:List Slot->Prop}{R:AR}{xs:List PV}
end
section
variable [Xw]
variable {ss:List Slot}{ta tb te:TE}{K:tV}{nx:List Slot->Prop}{R:AR}{xs:List PV}
end
section
variable [Xw]
variable {ss:List Slot}{ta tb te:TE}{K:tV}{k:PV->Prop}
end
section
variable [Xw]
variable {ss:List Slot}{ta tb te:TE}{K:tV}{nx:List Slot->Prop}{R:AR}{xs:List PV}
end
section
variable [Xw]
variable {ss:List Slot}{ta tb te:TE}{K:tV}{P:Program}{w:World}{k:PV->Prop}
end
end Fz
namespace L2
section
variable {X:Cx}{e:Expr}{t1 t2:TE}{u1 u2:TT}
def T5 (t1 t2:TT):TT:=fun σ H Q=>t1 σ H Q∨t2 σ H Q
def pb (h1:QT X e u1) (h2:QT X e u2):QT X e (T5 u1 u2):=⟨fun pins s σ H Q I h=>h.elim (h1.h pins s σ H Q I) (h2.h pins s σ H Q I)⟩
end
end L2
namespace Fz
open L2 Lw
section
variable [Xw]
variable {ss:List Slot}{K:tV}{ta tb tc te ti t1 t2:TE}{u1 u2:TT}{nx:List Slot->Prop}{R:AR}{xs ps:List PV}{i j:Nat}{t:OV}{lt:Bool}{a:Addr}{js:List Nat}
def qJ {k:Bool->Prop}(h:Wt ss u1 k):Wt ss (T5 u1 u2) k:=⟨fun E σ F H Q S q=>.inl (h.go E σ F H Q S q)⟩
def l6 {k:Bool->Prop}(h:Wt ss u2 k):Wt ss (T5 u1 u2) k:=⟨fun E σ F H Q S q=>.inr (h.go E σ F H Q S q)⟩
structure Qb (ss:List Slot) (g:TG) (u:OV) (k:List Slot->Prop):Prop where
 go:∀ (E:Ent) (σ:L2.St) (F H:Hp) (v:V) (Q:L2.St->Hp->Prop),Sg E ss σ F H->Aa F H v u->(∀ A8 σ',k A8->Sg E A8 σ' F H->Q σ' H)->g v σ H Q
def qW {n1 n2 n3:Nat}{p q:PV}{nk:NK}{b:Addr}{us:List OV}{k:List Slot->Prop}(h:k (((ss.set n1 (.is p)).set n2 (.raw (ptr b))).set n3 (.is q))):Qb ss (JC K 3 (Dq (BU n1) (Dq (BU n2) (Dq (BU n3) IK)))) (.tp [.fz p,.nd nk b us,.fz q]) k:=⟨fun E σ F H v Q S r qq=>by
 cases r with
 | tp e r=>
  cases r with
  | cons r1 r=>cases r with
   | cons r2 r=>cases r with
    | cons r3 r=>cases r with
     | nil=>
      cases r1 with
      | fz r1=>cases r3 with
       | fz r3=>cases r2 with
        | nd _ _ _ _=>
         refine ⟨_,_,rfl,AU.of (S.fh _ _ e),rfl,_,_,rfl,_,_,rfl,_,_,rfl,rfl,qq _ _ h ?_⟩
         exact ((S.D9 r1).setG (j:=n2) (s:=.raw (ptr b)) (v:=.ref b) ⟨_,rfl,rfl,fun _ _ _ h=>h⟩ fun _ z=>by cases z).D9 r3⟩
def jy {g:TG}{tb:TS}{a0:Addr}(N:Nat) (I:Nat->List Slot->Prop) (h0:I 0 ss) (st:∀ n A8,n<=N->I n A8->∃ lt us,A8[i]?=some (.ow lt (.nd .lst a0 us))/\us.length=N/\(n < N->∃ u,us[n]?=some u/\Qb A8 g u fun Bi=>Ws Bi tb (I (n+1)) R)) (hd:∀ A8,I N A8->nx A8) :
  Ws ss (Nz (Sa K (BB i)) g tb) nx R:=⟨fun E D σ F H S hn hr=>by
 have look:∀ {A8:List Slot}{σ':L2.St} {F' H':Hp}{lt:Bool}{us:List OV},Sg E A8 σ' F' H'->A8[i]?=some (.ow lt (.nd .lst a0 us))->σ'[i]?=some (some (.ref a0))/\∃ vs,H' a0=some (.lst vs)/\AZ F' H' vs us:=fun {A8 σ' F' H' lt us} S hi=>by
  obtain ⟨v,e,r,_,_⟩:=S.ok i _ hi
  cases r with
  | nd ha _ _ rr=>exact ⟨e,_,ha,rr⟩
 obtain ⟨lt,us,hi,hl,_⟩:=st 0 ss (Cj _) h0
 obtain ⟨e,vs,hv,rv⟩:=look S hi
 refine ⟨_,e,a0,rfl,⟨vs,AG.of hv⟩,?_⟩
 refine ⟨fun n m σ' H'=>m=N - n/\n<=N/\∃ A8 F',I n A8/\Sg E A8 σ' F' H'/\A9 F F',⟨_,rfl,Cj _,ss,F,h0,S,A9.refl _⟩,?_⟩
 rintro n m σ' H' ⟨rfl,MT,A8,F',hI,S',s'⟩
 obtain ⟨lt',Ap,Du,Er,tn⟩:=st n A8 MT hI
 obtain ⟨_,BQ,Gk,WM⟩:=look S' Du
 have ll:=WM.length
 by_cases AM:n < N
 ·obtain ⟨u,hu,wg⟩:=tn AM
  obtain ⟨v,XT,kg⟩:=WM.get hu
  refine .inr ⟨⟨BQ,v,AG.of Gk,XT⟩,fun σ2 H2=>∃ Bi F2,I (n+1) Bi/\Sg E Bi σ2 F2 H2/\A9 F F2,fun σ2 H2 ⟨Bi,F2,a,b,c⟩=>⟨_,by omega,rfl,AM,Bi,F2,a,b,c⟩,fun x H3 y=>?_⟩
  obtain ⟨eH,hx⟩:=y
  subst eH
  have ex:x=v:=by
   have:=hx BQ (AG.of Gk)
   rw [XT] at this;exact (BA this).symm
  subst ex
  refine wg.go E σ' F' H3 _ _ S' kg fun r9 σ4 w S4=>?_
  exact w.go E _ σ4 F' H3 S4 (fun UB σ5 F5 H5 n5 S5 s5=>⟨UB,F5,n5,S5,s'.trans s5⟩) hr
 ·have e:n=N:=by omega
  subst e
  refine .inl ⟨⟨BQ,AG.of Gk,by omega⟩,?_⟩
  exact hn _ _ F' H' (hd _ hI) S' s'⟩
end
def Df:Slot->Slot
 | .own xs=>.is (.lst xs)
 | .ow _ t=>.is t.pv
 | .AI=>.any
 | s=>s
section
variable {E:Ent0}{ss:List Slot}{σ:L2.St} {F H F' H':Hp}
def Sg.RJ (S:Sg E ss σ F H):Sg (E3 [] (C3 F H (BI ss σ)) H) (ss.map Df) σ (C3 F H (BI ss σ)) H:=by
 have nn:∀ {p:Prop}(a:Addr),a∈([]:List Addr)->p:=fun a h=>absurd h Ay
 refine ⟨⟨S.Hk.2,A9.refl _,fun _ _ _ e=>e,fun _ _ e=>.inl e,fun a h=>nn a h,fun a h=>nn a h,fun a h=>nn a h,fun a h=>nn a h,fun a h=>nn a h,fun a h=>nn a h⟩,by rw [AJ,S.len],fun i s hi=>?_,fun i j s u l EH hi hj ms mu=>?_⟩
 ·rw [Ak] at hi
  cases e:ss[i]? with
  | none=>rw [e] at hi;cases hi
  | some s0=>
   rw [e] at hi
   have es:Df s0=s:=BA hi
   subst es
   have k:=S.ok i s0 e
   cases s0 with
   | any=>trivial
   | is p=>obtain ⟨v,e1,r⟩:=k;exact ⟨v,e1,r.mono S.Hk.1⟩
   | own xs=>
    obtain ⟨l,vs,e1,_,_,e3,r⟩:=k
    refine ⟨_,e1,.lst ?_ (r.mono S.Hk.1)⟩
    unfold C3
    rw [if_pos (UP S.len e (by simp) e1)];exact e3
   | AI=>trivial
   | sq tp xs=>
    cases tp with
    | true=>obtain ⟨v,e1,r⟩:=k;exact ⟨v,e1,r.mono S.Hk.1⟩
    | false=>
     obtain ⟨l,vs,e1,hA,e2,r⟩:=k
     exact ⟨l,vs,e1,⟨Ay,Ay⟩,S.keep l _ hA e2,r.mono S.Hk.1⟩
   | raw P=>obtain ⟨v,e1,hp,hm⟩:=k;exact ⟨v,e1,hm _ _ S.Hk.1 hp,hm⟩
   | ow lt t=>
    obtain ⟨v,e1,r,_,_⟩:=k
    refine ⟨v,e1,r.rep S.Hk.1 fun a ha o ho=>?_⟩
    unfold C3
    rw [if_pos (UP S.len e (by simp) ha)];exact ho
 ·rw [Ak] at hi
  cases e:ss[i]? with
  | none=>rw [e] at hi;cases hi
  | some s0=>
   rw [e] at hi
   have es:Df s0=s:=BA hi
   subst es
   cases s0 <;> cases ms
mutual
def OV.Eb:OV->Bool
 | .fz p=>DR p
 | .tp xs=>OV.GI xs
 | .nd _ _ xs=>OV.GI xs
def OV.GI:List OV->Bool
 | []=>true
 | x :: r=>x.Eb && OV.GI r
end
def Aa.dh {as:List Addr}(h:∀ a∈as,∀ vs,F a≠some (.tup vs)):∀ {v:V}{t:OV},Aa F H v t->t.Eb=true->Aa (EU F as) H v t:=by
 intro v t r hn
 exact Aa.rec (motive_1:=fun v t _=>t.Eb=true->Aa (EU F as) H v t) (motive_2:=fun vs ts _=>OV.GI ts=true->AZ (EU F as) H vs ts)
  (fun {v p} r z=>.fz (r.sub h (by simpa [OV.Eb] using z)))
  (fun {a vs xs} e _ ih z=>.tp (by unfold EU;rw [if_neg (fun q=>h a q vs e)];exact e) (ih (by simpa [OV.Eb] using z)))
  (fun {k a vs xs} e sd ft _ ih z=>.nd e sd ft (ih (by simpa [OV.Eb] using z)))
  (fun _=>.nil)
  (fun _ _ LB LR z=>by
   rw [OV.GI,DW] at z
   exact .cons (LB z.1) (LR z.2))
  r hn
end
section
variable {ss:List Slot}{te:TE}{c:TT}
def PQ (E:Ent0) (F H:Hp) (as:List Addr):@Ent X0:=@Ent.mk X0 (E3 [] (C3 F H as) H) fun _ _ _ _ _ _ _ _ _ d _=>d.elim
def qB {k:PV->Prop}(h:Wp (ss.map Df) te fun p=>DR p=true/\k p):Wp ss te k:=⟨fun E σ F H Q S q=>by
 refine h.go (PQ E F H (BI ss σ)) σ _ H Q S.RJ fun v p F' H' m rp ⟨hn,kk⟩=>?_
 obtain ⟨M,ht⟩:=S.R9 m.st.toFin
 exact q v p _ H' M (rp.sub ht hn) kk⟩
def XX {k:Bool->Prop}(h:Wt (ss.map Df) c k):Wt ss c k:=⟨fun E σ F H Q S q=>by
 refine h.go (PQ E F H (BI ss σ)) σ _ H Q S.RJ fun b F' H' m kk=>?_
 exact q b _ H' (S.R9 m.st.toFin).1 kk⟩
def Xs {k:List Nat->OV->Prop}(h:Wx (ss.map Df) te fun m u=>m=[]/\u.Eb=true/\k [] u):Wx ss te k:=⟨fun E σ F H Q S q=>by
 refine h.go (PQ E F H (BI ss σ)) σ _ H Q S.RJ fun v mm u F' H' m ro nd hu ⟨em,hn,kk⟩=>?_
 subst em
 obtain ⟨M,ht⟩:=S.R9 m.st.toFin
 refine q v [] u _ H' M (ro.dh ht hn) nd (fun a ha=>?_) kk
 obtain ⟨f,h0,_⟩:=hu a ha
 have h0:H a=none:=h0
 exact ⟨by unfold EU;split <;> first | rfl | exact f,S.Cz h0,.inr h0⟩⟩
end
end Fz
namespace L2
section
variable {X:Cx}
def Inv.same {pins:tW}{σ:St} {H:Hp}{s:Shared}(I:Inv X pins σ H s){h':Heap}{tk:Nat}(k:∀ b o,s.heap.get? b=some o->h'.get? b=some o):Inv X pins σ H { s with heap:=h',toks:=tk }:=I.kept (t':=tk) k
def bg {tg l:Expr}{tl:TE}(hl:QE X l tl):QI X tg l (Sa X.K tl):=⟨kD hl.h⟩
end
section
variable {X:Cx}{pins:tW}{elt iter:Expr}{ifs es:List Expr}{zs:List Str}{tp pos:Pos}{tk:Nat}{scope:Scope}{AA:List Str}{js:List Nat}{tt:TT}{te:TE}
end
section
variable {X:Cx}{pins:tW}{σ:St} {H2:Hp}{s2:Shared}{elt iter:Expr}{x:Str}{px pos:Pos}{ifs:List Expr}{scope:Scope}{AA:List Str}{js:List Nat}{tt:TT}{te:TE}{J:It}{fp:List Addr}{it:Addr}
 {tn:Nat->Heap->Prop}
end
end L2
namespace Fz
open L2 Lw
section
variable [Xw]
variable {ss:List Slot}{K:tV}{ta tb tc te ti:TE}{nx:List Slot->Prop}{R:AR}{xs ys:List PV}{i j:Nat}{k:PV->Prop}
end
section
variable {ss:List Slot}{nx:List Slot->Prop}{i:Nat}{lt:Bool}
variable [Xw]
end
inductive Je where
 | put (x:Str) (i:Int) | take (x:Str) | move (x:Str) (i:Int) | turn (lo hi:Int)
def aP:Je->PV
 | .put x i=>.tup [.str "put", .str x,.int i]
 | .take x=>.tup [.str "take", .str x]
 | .move x i=>.tup [.str "move", .str x,.int i]
 | .turn lo hi=>.tup [.str "turn", .int lo,.int hi]
def inR (i:Int) (lo hi:Int):Prop:=lo<=i/\i<=hi
instance {i lo hi:Int}:Decidable (inR i lo hi):=by unfold inR;infer_instance
def Gq (x:Str):Prop:=(reprText x).length<=100000/\x.length<=1000
def Je.Is (d:Je) (ns:List Str) (d':CB):Prop:=aP d=dP d'/\d'.Ok 40 ns
def pT {x:Str}(h:x.length<=100) (hx:∀ c∈x.cps.toList,c < 16 ^ 8):Gq x:=⟨dH h hx,by omega⟩
def jd {x:Str}(h:Nm x):∀ c∈x.cps.toList,c < 16 ^ 8:=fun c hc=>Oi (h.2.2 c hc).2 (by decide)
section
variable [Xw]
variable {ss:List Slot}{te:TE}
def lz {i:Nat}{k:List PV->Prop}(hi:ss[i]?=some .AI) (h:Wp ss te fun x=>∃ m,x=.int m/\0<=m/\m<=100/\∀ ns:List Str,(ns.length:Int)=m->(∀ x∈ns,Nm x)->ns.Nodup->k (ns.map PV.str)):Wn ss (CI Pq [] E0 (AK (BB i) (AK te AS))) k:=⟨fun E σ F H Q S q=>by
 obtain ⟨p,e,_⟩:=S.ok i _ hi
 refine ⟨_,e,h.go E σ F H _ S fun v x F1 H1 m1 r ⟨m,em,m0,FF,kk⟩=>?_⟩
 subst em;cases r
 refine ⟨p,m,rfl,m1.st.DG hi e,m0,FF,fun l H2 ns hl s Bl hz hN nd=>?_⟩
 have m2:=m1.st.MU hi e s
 exact q l _ _ F1 H2 (m1.trans m2) (m1.st.BC hl) (m1.none hl) Bl (Ij ns) (kk ns hz hN nd)⟩
end
theorem Tw:∀ ps:List PV,OV.BM (ps.map .fz)=ps
 | []=>rfl
 | p :: ps=>by rw [BV,OV.BM,OV.pv,Tw ps]
def PU {x:Str}(h:Nm x):Gq x:=pT (by have:=h.2.1;omega) (jd h)
def YM {n:Int}(h:n<=1000):n < 10 ^ 18:=aS h (by decide)
def la (K:tV):PySem.W.kitOne K (.type "tuple") (.type "list")=some false:=by
 unfold PySem.W.kitOne;rw [if_neg (by decide)];with_unfolding_all rfl
def Zt {ns:List Str}{k:Nat}(h:k<=ns.length):E2 ns none (some (k:Int))=ns.take k:=by
 unfold E2
 rw [show HT.Bh ns.length 0 none=0 from rfl,UX,Uh]
 congr 1
 simp only [HT.Bh]
 split <;> omega
structure Kd where
 w:Str
 ps:List (Str×Str)
 g:Bool
def Al (p:Str×Str):PV:=.tup [.str p.1,.str p.2]
def Kd.P (k:Kd):PV:=.tup [.str k.w,.tup (k.ps.map Al),.bl k.g]
def WH:List Str:=["next", "last", "back", "first"]
def TU {α:Type} {xs:List α}{k:Nat}{x:α}(h:xs[k]?=some x):xs.take (k+1)=xs.take k++[x]:=by
 obtain ⟨hk,e⟩:=List.getElem?_eq_some_iff.mp h
 rw [Oh hk,e]
def mT {t:Int}(h0:0<=t) (h:t < 7):∃ z:Nat,L2.BK [PV.int 0,.int 1,.int 1,.int 2,.int 2,.int 3,.int 6] t=some (.int (z:Int))/\z<=6:=by
 rcases (show t=0∨t=1∨t=2∨t=3∨t=4∨t=5∨t=6 by omega) with rfl | rfl | rfl | rfl | rfl | rfl | rfl
 ·exact ⟨0,rfl,by decide⟩
 ·exact ⟨1,rfl,by decide⟩
 ·exact ⟨1,rfl,by decide⟩
 ·exact ⟨2,rfl,by decide⟩
 ·exact ⟨2,rfl,by decide⟩
 ·exact ⟨3,rfl,by decide⟩
 ·exact ⟨6,rfl,by decide⟩
def not_of {p:Prop} [Decidable p] (c:¬ (!decide p)=true):p:=by
 by_cases h:p
 ·exact h
 ·rw [decide_eq_false h] at c;exact absurd rfl c
theorem OC:∀ {ps qs:List (Str×Str)},ps.map Al=qs.map Al->ps=qs
 | [],[],_=>rfl
 | [],_ :: _,h=>by simp at h
 | _ :: _,[],h=>by simp at h
 | p :: ps,q :: qs,h=>by
  rw [BV,BV] at h
  injection h with h1 h2
  have e1:p.1=q.1/\p.2=q.2:=by
   unfold Al at h1
   injection h1 with h1
   injection h1 with a b
   injection a with a
   injection b with b _
   injection b with b
   exact ⟨a,b⟩
  rw [OC h2,Prod.ext e1.1 e1.2]
def Kd.inj (x y:Kd) (h:x.P=y.P):x=y:=by
 obtain ⟨w,ps,g⟩:=x
 obtain ⟨w',YQ,g'⟩:=y
 unfold Kd.P at h
 injection h with h
 injection h with a b
 injection a with a
 injection b with b c
 injection b with b
 injection c with c _
 injection c with c
 have b':=OC b
 simp only at a b' c
 subst a b' c
 rfl
section
variable [Xw]
variable {ss:List Slot}{K:tV}{ta tb tc te:TE}{k:PV->Prop}{F:Hp}
end
section
variable [Xw]
variable {E:Ent0}{ss:List Slot}{σ:L2.St} {F H F1 F' H':Hp}{K:tV}{js:List Nat}{ta tb tc te ti:TE}{nx:List Slot->Prop}{R:AR}{k:PV->Prop}{xs:List PV}
end
section
variable [Xw]
end
structure Lp where
 r:Str
 g:Nat
 cs:List Str
def cA (ns:List Str):List Str:=ns.foldr (fun x r=>Qx r x) []
def Lp.led (ns:List Str) (d:CB) (l:Lp):Lp:=⟨l.r,d.gap ns l.g,d.cj l.r l.g l.cs⟩
structure Sm where
 stood:Nat
 joined:Nat
 told:Nat
 taken:Nat
structure Ls where
 row:List Str
 ln:List Str
 ll:List Lp
 sn:List Str
 sq:List Sm
inductive LE where
 | nR (x r:Str) | tell (x y:Str) | over (x:Str) | pM (d:Je)
noncomputable def dd (ns:List Str) (d:Je):Option CB:=open Classical in if h:∃ d',d.Is ns d' then some h.choose else none
def Sm.join (q:Sm):Sm:=⟨q.stood,q.joined+1,q.told,q.taken⟩
def Sm.tell (q:Sm):Sm:=⟨q.stood,q.joined,q.told+1,q.taken⟩
def Sm.take (q:Sm):Sm:=⟨q.stood,q.joined,q.told,q.taken+1⟩
def Sm.by (n m:Nat):Sm->Sm:=if n < m then Sm.join else if m < n then Sm.take else id
def Qi (s:Ls) (d:CB):Nat->List Sm
 | 0=>s.sq
 | i+1=>match s.ln[i]?,s.ll[i]? with
  | some x,some l=>(Qi s d i).modify (s.sn.idxOf x) (Sm.by l.cs.length (l.led s.row d).cs.length)
  | _,_=>Qi s d i
def lQ (s:Ls) (x r:Str):Option Ls:=if isNm x=true/\x∉s.sn/\bp r=true then some ⟨s.row,s.ln++[x],s.ll++[⟨r,0,cA s.row⟩],s.sn++[x],s.sq++[⟨s.row.length,0,0,0⟩]⟩ else none
def cm (s:Ls) (x y:Str):Option Ls:=match s.ll[s.ln.idxOf x]? with
 | some l=>if y∈l.cs then some ⟨s.row,s.ln,s.ll.set (s.ln.idxOf x) ⟨l.r,s.row.idxOf y+1,wo l.cs y⟩,s.sn,s.sq.modify (s.sn.idxOf x) Sm.tell⟩ else none
 | none=>none
def pJ (s:Ls) (x:Str):Option Ls:=match s.ll[s.ln.idxOf x]? with
 | some l=>if l.cs=[] then some ⟨s.row,s.ln.eraseIdx (s.ln.idxOf x),s.ll.eraseIdx (s.ln.idxOf x),s.sn,s.sq⟩ else none
 | none=>none
noncomputable def pO (s:Ls) (d:Je):Option Ls:=match dd s.row d with
 | some d'=>some ⟨d'.done s.row,s.ln,s.ll.map (Lp.led s.row d'),s.sn,Qi s d' s.ln.length⟩
 | none=>none
noncomputable def pd (s:Ls):LE->Option Ls
 | .nR x r=>lQ s x r
 | .tell x y=>cm s x y
 | .over x=>pJ s x
 | .pM d=>pO s d
def BL (ns:List Str):List Key:=ns.map Sum.inr
def Yc (ns:List Str) (x:Str):G0 (BL ns) (.inr x)=decide (x∈ns):=by
 unfold G0 BL
 rw [List.any_map]
 by_cases h:x∈ns
 ·rw [decide_eq_true h]
  exact List.any_eq_true.mpr ⟨x,h,decide_eq_true rfl⟩
 ·rw [decide_eq_false h]
  rw [Bool.eq_false_iff]
  intro z
  obtain ⟨y,hy,e⟩:=List.any_eq_true.mp z
  have e2:(Sum.inr y:Key)=Sum.inr x:=of_decide_eq_true e
  injection e2 with e2
  exact h (e2▸hy)
theorem Zz:∀ {ns:List Str}{x:Str},x∉ns->Dr (BL ns) (.inr x)=none
 | [],_,_=>rfl
 | y :: ns,x,h=>by
  unfold BL
  rw [BV,Dr,if_neg (fun e=>h (by injection e with e;subst e;exact J0))]
  have h1:Dr (ns.map (Sum.inr:Str->Key)) (.inr x)=none:=Zz (ns:=ns) fun z=>h (Fe _ z)
  rw [h1];rfl
def Zw {ns:List Str}(h:ns.Nodup):(BL ns).Nodup:=List.Pairwise.map _ (fun a b (h:a≠b)=>fun z=>h (by injection z)) h
def V3 {ns:List Str}{us:List OV}{x:Str}{u:OV}(h:x∉ns):IF (BL ns) (.inr x)=BL (ns++[x])/\Hg (BL ns) us (.inr x) u=us++[u]:=by
 unfold Hg IF
 rw [Zz h,Yc,decide_eq_false h]
 exact ⟨by unfold BL;rw [Dp];rfl,rfl⟩
def Sh {ns:List Str}{x:Str}(h:x∉ns):IF (BL ns) (.inr x)=BL (ns++[x]):=(V3 (us:=[]) (u:=.fz .A4) h).1
def ZH {ns:List Str}{us:List OV}{x:Str}{u:OV}(h:x∉ns):Hg (BL ns) us (.inr x) u=us++[u]:=(V3 h).2
theorem Pb {y:PV}:∀ {ns:List Str}{xs:List PV}{x:Str},x∈ns->xs[ns.idxOf x]?=some y->Hn (BL ns) xs (.inr x)=some y
 | [],_,_,h,_=>absurd h Ay
 | z :: ns,xs,x,h,e=>by
  rw [List.idxOf_cons] at e
  unfold BL
  by_cases c:z=x
  ·subst c
   rw [show (z == z)=true from beq_self_eq_true z] at e
   cases xs with
   | nil=>cases e
   | cons w ws=>rw [BV,Hn,if_pos rfl];exact e
  ·rw [show (z == x)=false from beq_eq_false_iff_ne.mpr c] at e
   cases xs with
   | nil=>cases e
   | cons w ws=>
    rw [BV,Hn,if_neg (fun q=>c (by injection q))]
    exact Pb ((List.mem_cons.mp h).resolve_left fun q=>c q.symm) e
noncomputable def runs (s:Ls):List LE->Option Ls
 | []=>some s
 | e :: r=>match pd s e with
  | some s'=>runs s' r
  | none=>none
def bw (ns:List Str):(BL ns).map IY=ns.map PV.str:=by
 unfold BL
 rw [Ci];rfl
section
variable [Xw]
variable {ss:List Slot}{te:TE}{nx:List Slot->Prop}{i:Nat}{t:OV}
end
abbrev wk (ks:List Kd):List Str:=ks.map Kd.w
structure KG (ks:List Kd):Prop where
 l1:1<=ks.length
 l8:ks.length<=8
 nd:(wk ks).Nodup
 nm:∀ k∈ks,Nm k.w
 ps:∀ k∈ks,k.ps.length<=6/\∀ p∈k.ps,p.1∈WH/\p.2∈wk ks
def JY (ks:List Kd) (x:Str):List (Str×Str):=match ks[(wk ks).idxOf x]? with
 | some k=>k.ps
 | none=>[]
def Ki (ks:List Kd) (x:Str):Bool:=match ks[(wk ks).idxOf x]? with
 | some k=>k.g
 | none=>false
def Qw:List Str:=["next", "last"]
def Ux (ks:List Kd) (r x:Str):List (Str×Str):=if r = "none" then [] else (JY ks x).filter fun p=>decide (r = "all") || decide (p.1∈Qw)
def Xx (ks:List Kd) (r x:Str):List Str:=(Ux ks r x).map (·.2)
theorem KG.at {ks:List Kd}(h:KG ks){x:Str}(hx:x∈wk ks):∃ k,ks[(wk ks).idxOf x]?=some k/\k.w=x/\JY ks x=k.ps/\Ki ks x=k.g/\k∈ks:=by
 have hi:=List.idxOf_lt_length_iff.mpr hx
 have Fu:(wk ks).idxOf x < ks.length:=by simpa using hi
 have e:=B4 Fu
 refine ⟨_,e,?_,?_,?_,Hr Fu⟩
 ·have q:(wk ks)[(wk ks).idxOf x]'hi=x:=aX hi
  rw [Mb] at q;exact q
 ·unfold JY;rw [e]
 ·unfold Ki;rw [e]
def EN:List Str:=["puts_by_word", "goes_by_word"]
def B2 (C:Addr) (ks:List Kd):PV:=.obj C EN [.Ae (BL (wk ks)) (ks.map fun k=>.tup (k.ps.map Al)),.Ae (BL (wk ks)) (ks.map fun k=>.bl k.g)]
def Fj (C dx a b1 b2:Addr) (ks:List Kd):OV:=.nd (.obj C dx EN) a [.nd (.Ae (BL (wk ks))) b1 (ks.map fun k=>.fz (.tup (k.ps.map Al))),.nd (.Ae (BL (wk ks))) b2 (ks.map fun k=>.fz (.bl k.g))]
theorem QM {α:Type} (g:α->PV):∀ (l:List α),OV.BM (l.map fun x=>OV.fz (g x))=l.map g
 | []=>by rw [Hs,OV.BM];rfl
 | x :: r=>by rw [BV,OV.BM,OV.pv,QM g r];rfl
def X2 (C dx a b1 b2:Addr) (ks:List Kd):(Fj C dx a b1 b2 ks).pv=B2 C ks:=by
 unfold Fj B2
 rw [OV.pv,OV.BM,OV.pv,OV.BM,OV.pv,OV.BM,QM,QM]
theorem VV {α:Type} (g:α->PV) (h:∀ x,DR (g x)=true):∀ (l:List α),HF (l.map g)=true
 | []=>by rw [Hs,HF]
 | x :: r=>by rw [BV,HF,h x,VV g h r];rfl
theorem TR {α:Type} (g:α->OV) (h:∀ x,(g x).Eb=true):∀ (l:List α),OV.GI (l.map g)=true
 | []=>by rw [Hs,OV.GI]
 | x :: r=>by rw [BV,OV.GI,h x,TR g h r];rfl
def lT (p:Str×Str):DR (Al p)=true:=by unfold Al;simp [DR,HF]
def Vh (C dx a b1 b2:Addr) (ks:List Kd):(Fj C dx a b1 b2 ks).Eb=true:=by
 unfold Fj
 simp only [OV.Eb,OV.GI]
 rw [TR _ fun k=>?_,TR _ fun k=>?_]
 ·rfl
 ·simp [OV.Eb,DR]
 ·rw [OV.Eb,DR];exact VV _ lT _
def Q5 (C:Addr):Pre:=fun l R=>∃ ks:List Kd,l=[.is (B2 C ks)]/\KG ks/\R=.new (fun xs=>xs=(wk ks).map .str)
def TB:Pre:=fun l R=>l=[.AI]/\R=.is fun p=>∃ ks:List Kd,p=.lst (ks.map Kd.P)/\KG ks
def hX {t:Int}(h0:0<=t) (h:t < 4):∃ x∈WH,L2.BK [PV.str "next", .str "last", .str "back", .str "first"] t=some (.str x):=by
 rcases (show t=0∨t=1∨t=2∨t=3 by omega) with rfl | rfl | rfl | rfl
 ·exact ⟨"next", by decide,rfl⟩
 ·exact ⟨"last", by decide,rfl⟩
 ·exact ⟨"back", by decide,rfl⟩
 ·exact ⟨"first", by decide,rfl⟩
section
variable [Xw]
variable {ss:List Slot}{K:tV}{ta tb tc te ti:TE}{nx:List Slot->Prop}{R:AR}{xs ps:List PV}{i j:Nat}{t:OV}{lt:Bool}{a b:Addr}{us:List OV}{nk:NK}
def Sg.gE {E:Ent0}{σ:L2.St} {F H:Hp}{P:Hp->V->Prop}{v:V}(S:Sg E ss σ F H) (e:σ[j]?=some (some v)) (hp:P F v) (hm:∀ F F',A9 F F'->P F v->P F' v):Sg E (ss.set j (.raw P)) σ F H:=by
 have S2:=S.setG (j:=j) (s:=.raw P) (v:=v) ⟨v,rfl,hp,hm⟩ fun _ z=>by cases z
 rw [Jk e] at S2
 exact S2
def aB (j:Nat) (P:Hp->V->Prop) (hm:∀ v F F',A9 F F'->P F v->P F' v) (hv:∀ (E:Ent0) (σ:L2.St) (F H:Hp),Sg E ss σ F H->∃ v,σ[j]?=some (some v)/\P F v)
  (h:Wl ss i t ta fun p u=>∃ lt a us,ss[i]?=some (.ow lt t)/\u=.nd .lst a us/\us.length<=99999/\Wx ss te fun m w=>i∉m/\nx (((C4 m ss).set i (.ow lt (t.put p (.nd .lst a (us++[w]))))).set j (.raw P))):Ws ss (Gu (GN K "list" Lr ta (AK te AS))) nx R:=⟨fun E D σ F H S hn hr=>
 h.go E σ F H _ S fun v p u F1 H1 m1 r1 h1 ⟨lt,a,us,hi,eu,hz,hw⟩=>by
  subst eu
  obtain ⟨v0,gL,hP⟩:=hv E σ F H S
  cases r1 with
  | @nd k a' vs _ ha sd ft rr=>
   refine .inl ⟨rfl,_,AG.of ha⟩ |> fun q0=>⟨q0,hw.go E σ F1 H1 _ m1.st fun v2 m w F2 H2 m2 r2 Gm a2 ⟨CK,kk⟩=>?_⟩
   have r3:=(Aa.nd (k:=.lst) ha sd ft rr).mv m1.st h.hi h1 m2
   cases r3 with
   | @nd _ _ RL _ Se d8 pP LK=>
    refine ⟨a,RL,v2,rfl,rfl,Se,Ii (by rw [LK.length];exact hz),?_⟩
    refine hn _ σ F2 _ kk ((Sg.ZS (u:=w) m1.st m2.st hi h1 a2 CK (LK.append (.one r2)) ?_ fun b hb=>?_).gE gL (hm v0 F F2 (m1.ff.trans m2.ff) hP) (hm v0)) (m1.ff.trans m2.ff)
    ·rw [Gd,HI,Be]
     obtain ⟨v0,e0,r0,CQ,q0⟩:=m2.st.ok i _ hi
     have CC:(OV.nd .lst a us).addrs.Nodup:=by
      obtain ⟨l,rr,e1,_⟩:=OV.split h1
      rw [e1,Be,Be] at CQ
      exact CQ.1.2.1
     rw [He] at CC
     refine ⟨(List.nodup_cons.mp CC).2,Gm,fun x hx y hy e=>?_⟩
     subst e
     have xt:x∈t.addrs:=OV.Fq h1 x (by rw [He];simp [hx])
     rcases (a2 x hy).2.2 with ⟨j,hj,s,_,hs,o⟩ | w
     ·exact m1.st.BG j i s _ x (by rintro rfl;exact CK hj) hs hi o xt
     ·exact m1.st.DJ hi xt w
    ·rw [Gd,HI] at hb
     exact List.mem_append.mp hb⟩
end
def SE:List Int->Int
 | []=>0
 | [a]=>a
 | a :: b :: r=>if a<=SE (b :: r) then SE (b :: r) else a
def eQ (ks:List Kd) (r x:Str) (g:Str->List Int):List Int:=(List.range ks.length).map fun j=>((Xx ks r x).map fun y=>(g y).getD j 0).sum+(if (wk ks).idxOf x=j then 1 else 0)
def Yj (f:Str->Int) (p:Str×Str):Int:=if p.1∈Qw then f p.2 else f p.2+1
def jA (ks:List Kd) (r x:Str) (f:Str->Int):Int:=SE (1 :: (Ux ks r x).map (Yj f))
def ZQ (ks:List Kd) (r:Str):Nat->Str->List Int
 | 0=>fun _=>(List.range ks.length).map fun _=>0
 | n+1=>fun x=>eQ ks r x (ZQ ks r n)
def ZG (ks:List Kd) (r:Str):Nat->Str->Int
 | 0=>fun _=>0
 | n+1=>fun x=>jA ks r x (ZG ks r n)
theorem rL:∃ n:Nat,n=9:=⟨9,rfl⟩
noncomputable def fuel:Nat:=Classical.choose rL
noncomputable def cnt (ks:List Kd) (r x:Str):List Int:=ZQ ks r fuel x
noncomputable def Nn (ks:List Kd) (r x:Str):Int:=ZG ks r fuel x
noncomputable def TH (ks:List Kd) (r x:Str):PV:=.tup [.str x,.tup ((cnt ks r x).map .int),.int (Nn ks r x)]
noncomputable def tF (ks:List Kd) (r:Str) (a:Addr) (M:List Str):OV:=.nd (.Ae (BL M)) a (M.map fun y=>.fz (TH ks r y))
noncomputable def tL (ks:List Kd) (r:Str) (M:List Str):PV:=.Ae (BL M) (M.map (TH ks r))
noncomputable def tD (ks:List Kd) (r:Str) (M:List Str):List PV:=((wk ks).filter fun w=>decide (w∈M)).map (TH ks r)
noncomputable def sj (ks:List Kd) (r:Str) (L:List Str):PV:=.Ae (BL L) (L.map fun y=>.tup [.tup ((cnt ks r y).map .int),.int (Nn ks r y)])
noncomputable def t4 (ks:List Kd) (r:Str) (a:Addr) (L:List Str):OV:=.nd (.Ae (BL L)) a ((L.map fun y=>PV.tup [.tup ((cnt ks r y).map .int),.int (Nn ks r y)]).map .fz)
def Bc (l:Addr) (hs:List (Addr×List PV)):OV:=.nd .lst l (hs.map fun h=>.tp [.nd .lst h.1 (h.2.map .fz),.fz (.lst h.2)])
def Kz (K:tV) (hs:List (Addr×List PV)):Prop:=∀ h∈hs,dat K 40 (.lst h.2)
def qO (l:Addr):∀ (hs:List (Addr×List PV)),(Bc l hs).pv=.lst (hs.map fun h=>.tup [.lst h.2,.lst h.2]):=fun hs=>by
 unfold Bc
 rw [OV.pv]
 congr 1
 induction hs with
 | nil=>rw [Hs,OV.BM];rfl
 | cons h r ih=>rw [BV,OV.BM,ih,OV.pv,OV.BM,OV.pv,OV.BM,OV.pv,OV.BM,Tw];rfl
noncomputable def t6 (ks:List Kd) (r x:Str) (i:Nat):List Int:=(List.range ks.length).map fun j=>(((Xx ks r x).take i).map fun y=>(cnt ks r y).getD j 0).sum+(if (wk ks).idxOf x=j then 1 else 0)
noncomputable def tG (ks:List Kd) (r:Str) (ps:List (Str×Str)):List Int:=1 :: ((if r = "none" then [] else ps.filter fun p=>decide (r = "all") || decide (p.1∈Qw))).map (Yj (Nn ks r))
def Wd (l b:Addr) (hs:List (Addr×List PV)) (T:List PV) (w:PV):(OV.nd .lst l ((hs.map fun h=>OV.tp [.nd .lst h.1 (h.2.map .fz),.fz (.lst h.2)])++[.tp [.nd .lst b (T.map .fz),.fz (.lst (T++[w]))]])).put [hs.length,0] (.nd .lst b (T.map .fz++[.fz w]))=Bc l (hs++[(b,T++[w])]):=by
 have e0:((hs.map fun h=>OV.tp [.nd .lst h.1 (h.2.map .fz),.fz (.lst h.2)])++[.tp [.nd .lst b (T.map .fz),.fz (.lst (T++[w]))]])[hs.length]?=some (.tp [.nd .lst b (T.map .fz),.fz (.lst (T++[w]))]):=by
  rw [EX (by rw [AJ];exact AV _),AJ,Ug];rfl
 rw [OV.Hj e0,OV.JB (x:=.nd .lst b (T.map .fz)) rfl,OV.EA]
 unfold Bc
 rw [Dp,sA _ _ (by rw [AJ];exact AV _),AJ,Ug]
 simp
section
variable [Xw]
variable {ss:List Slot}{K:tV}{ta tb tc te ti:TE}{nx:List Slot->Prop}{R:AR}{xs ps:List PV}{i j:Nat}{t:OV}{lt:Bool}{a b:Addr}{us:List OV}{nk:NK}
end
end Fz
namespace L2
section
variable {X:Cx}
end
end L2
namespace Fz
open L2 Lw
section
variable [Xw]
variable {ss:List Slot}{K:tV}{ta tb tc te ti ty:TE}{nx:List Slot->Prop}{R:AR}{xs ps:List PV}{i j:Nat}{t:OV}{lt:Bool}{a b:Addr}{us:List OV}{nk:NK}
end
section
variable [Xw]
variable {ss:List Slot}{K:tV}{tb tc te ti ty:TE}{ta:TA}{nx:List Slot->Prop}{R:AR}{xs ps:List PV}{i j:Nat}{t:OV}{lt:Bool}{a b:Addr}{us:List OV}{nk:NK}
def Xn {pre:FQ}{C:Addr}{m:Str}{k:List PV->Prop}(h:Wp ss te fun o=>∃ ns xs,o=.obj C ns xs/\By ns m=none/\Wa ss ta fun l=>∃ k' D,pre (.is o :: l) (.new k') D/\Xw.J ss/\(∀ e,D e->Xw.D e)/\∀ p,k' p->k p):Wn ss (OM C m (DO pre) Xw.e te ta) k:=⟨fun E σ F H Q S q=>
 h.go E σ F H _ S fun v o F1 H1 m1 ro ⟨ns,xs,eo,hm,h2⟩=>by
  subst eo
  cases ro with
  | @obj a _ dx _ Gj _ e1 e2 hl rr=>
   refine ⟨a,dx,ns.zip Gj,rfl,m1.st.fh _ _ e1,OL hm,h2.go E σ F1 H1 _ m1.st fun vs l F2 H2 m2 al ⟨k',D,hp,hJ,hD,kk⟩=>?_⟩
   refine ⟨.is (.obj C ns xs) :: l,.new k',D,F2,[],hp,m2.st.KS (.cons (s:=.is _) (Rep.obj (m2.ff _ _ e1) (m2.ff _ _ e2) hl (rr.mono m2.ff)) al),fun v F' H' f ⟨a,T8,Kt,ev,f1,h1,Di,r,kp⟩=>?_,fun x C dx F' H' f d Az=>?_⟩
   ·subst ev
    exact q a T8 Kt F' H' (m1.trans (m2.trans (m2.st.back (fun _ h=>absurd h Ay) f))) f1 (m1.none (m2.none h1)) Di r (kk Kt kp)
   ·exact E.hx ss σ F' H' x C dx hJ (m2.st.back (fun _ h=>absurd h Ay) f).st (hD x d) Az⟩
def VN (hj:ss[j]?=some (.ow lt (.nd nk b us))):∀ (E:Ent0) (σ:L2.St) (F H:Hp),Sg E ss σ F H->∃ v,σ[j]?=some (some v)/\ptr b F v:=fun E σ F H S=>by
 obtain ⟨v,e,r,_,_⟩:=S.ok j _ hj
 have ev:v=.ref b:=by cases r;rfl
 subst ev
 exact ⟨_,e,rfl⟩
def Ul {te:TE}(h:Wm ss i lt t te fun p t'=>∃ c,p=.bl c/\if c=true then Ws (ss.set i (.ow lt t')) (DM tb (BU j)) nx R else nx ((ss.set i (.ow lt t')).set j (.is (.bl false)))):Ws ss (DM (LL te tb) (BU j)) nx R:=⟨fun E D σ F H S hn hr=>
 h.go E σ F H _ S fun v p t' F1 H1 m1 r ⟨c,e,kk⟩=>by
  subst e;cases r
  refine ⟨c,rfl,?_⟩
  cases c with
  | true=>rw [if_pos rfl] at kk ⊢;exact kk.go E D σ F1 H1 m1.st (fun A8 σ' F' H' n S' s=>hn A8 σ' F' H' n S' (m1.ff.trans s)) hr
  | false=>rw [if_neg (by decide)] at kk ⊢;exact hn _ _ F1 H1 kk (m1.st.D9 (.bl _)) m1.ff⟩
def cU (h:Wp ss te fun p=>∃ c,p=.bl c/\if c=true then Ws ss (DM tb (BU j)) nx R else nx (ss.set j (.is (.bl false)))):Ws ss (DM (LL te tb) (BU j)) nx R:=⟨fun E D σ F H S hn hr=>
 h.go E σ F H _ S fun v p F1 H1 m1 r ⟨c,e,kk⟩=>by
  subst e;cases r
  refine ⟨c,rfl,?_⟩
  cases c with
  | true=>rw [if_pos rfl] at kk ⊢;exact kk.go E D σ F1 H1 m1.st (fun A8 σ' F' H' n S' s=>hn A8 σ' F' H' n S' (m1.ff.trans s)) hr
  | false=>rw [if_neg (by decide)] at kk ⊢;exact hn _ _ F1 H1 kk (m1.st.D9 (.bl _)) m1.ff⟩
def jl {t1 t2:TE}{k:List Nat->OV->Prop}(h:L5 ss (AK t1 (AK t2 AS)) fun m us=>∃ u0 u1,us=[u0,u1]/\Wp ss ti fun q=>∃ n:Nat,n < 2/\q=.int n/\(n=0->k m u0)/\(n=1->k m u1)):Wx ss (B0 (GF K) (JQ (AK t1 (AK t2 AS))) ti) k:=⟨fun E σ F H Q S q=>by
  unfold B0 JQ
  refine h.go E σ F H _ S fun vs m us F1 H1 m1 r1 El a1 h3=>?_
  obtain ⟨u0,u1,eu,h2⟩:=h3
  subst eu
  refine ⟨small (by rw [r1.length];show 2<=100000;decide),fun p hp=>?_⟩
  have m2:=m1.st.alloc hp (.tup vs)
  refine h2.go E σ _ _ _ m2.st fun v2 p2 F3 H3 m3 r3 ⟨n,hn,en,k0,k1⟩=>?_
  subst en;cases r3
  have mm:=m2.trans m3
  have np:∀ a∈OV.AO [u0,u1],Bf ss σ a:=fun a ha=>Wx.Y8 S (a1 a ha).2.2
  have r2:=r1.mono mm.ff fun a ha o e=>mm.hh a o (np a ha) e
  obtain ⟨w,hw⟩:∃ w,[u0,u1][n]?=some w:=⟨_,B4 hn⟩
  obtain ⟨v,hv,rv⟩:=r2.get hw
  have sub:∀ a∈w.addrs,a∈OV.AO [u0,u1]:=fun a ha=>by
   have:=OV.Fq (t:=OV.tp [u0,u1]) (p:=[n]) (u:=w) (by rw [OV.GG,hw];show w.at []=some w;rw [OV.FZ]) a ha
   rw [OV.Dy] at this;exact this
  have iJ:w.addrs.Nodup:=by
   obtain ⟨l,r,e1,_⟩:=OV.split (t:=OV.tp [u0,u1]) (p:=[n]) (u:=w) (by rw [OV.GG,hw];show w.at []=some w;rw [OV.FZ])
   rw [<- OV.Dy,e1,Be,Be] at El
   exact El.1.2.1
  refine ⟨_,_,_,v,rfl,rfl,AU.of (m3.st.fh _ _ (m3.ff _ _ AN)),Qm hv,q v m w F3 H3 (m1.trans mm) rv iJ (fun a ha=>?_) ?_⟩
  ·obtain ⟨f,h0,o⟩:=a1 a (sub a ha)
   exact ⟨mm.Zq f (r1.there a (sub a ha)),h0,o⟩
  ·rcases (show n=0∨n=1 by omega) with e | e
   ·subst e;cases hw;exact k0 rfl
   ·subst e;cases hw;exact k1 rfl⟩
def dr {n1 n2 n3:Nat}{p r q:PV}{k:List Slot->Prop}(h:k (((ss.set n1 (.is p)).set n2 (.is r)).set n3 (.is q))):Qb ss (JC K 3 (Dq (BU n1) (Dq (BU n2) (Dq (BU n3) IK)))) (.tp [.fz p,.fz r,.fz q]) k:=⟨fun E σ F H v Q S r qq=>by
 cases r with
 | tp e r=>
  cases r with
  | cons r1 r=>cases r with
   | cons r2 r=>cases r with
    | cons r3 r=>cases r with
     | nil=>
      cases r1 with
      | fz r1=>cases r3 with
       | fz r3=>cases r2 with
        | fz r2=>
         exact ⟨_,_,rfl,AU.of (S.fh _ _ e),rfl,_,_,rfl,_,_,rfl,_,_,rfl,rfl,qq _ _ h (((S.D9 r1).D9 r2).D9 r3)⟩⟩
def pA {n:String}{k:PV->Prop}(h:Wl ss i t te fun _ u=>∃ a us,u=.nd .lst a us/\∃ b,PySem.W.kitOne K (.type "list") (.type n)=some b/\k (.bl b)):Wp ss (BY (MQ K) (AK te (AK (tC (.ty n)) AS))) k:=⟨fun E σ F H Q S q=>
 h.go E σ F H _ S fun v p u F1 H1 m1 r1 h1 ⟨a,us,eu,b,hb,kk⟩=>by
  subst eu
  cases r1 with
  | @nd _ _ vs _ ha sd ft rr=>exact ⟨_,n,_,b,rfl,.lst ha,hb,q _ _ F1 H1 m1 (.bl _) kk⟩⟩
end
def KdS (i:Bool×Kd):PV:=.tup [.str i.2.w,C9 i.1 (i.2.ps.map Al),.bl i.2.g]
def n8 (x y:Bool×Kd) (h:KdS x=KdS y):x=y:=by
 obtain ⟨b,w,ps,g⟩:=x
 obtain ⟨b',w',YQ,g'⟩:=y
 unfold KdS at h
 injection h with h
 injection h with h1 h2
 injection h1 with h1
 injection h2 with h2 h3
 injection h3 with h3 _
 injection h3 with h3
 have h1:w=w':=h1
 have h3:g=g':=h3
 have h2:C9 b (ps.map Al)=C9 b' (YQ.map Al):=h2
 subst h1 h3
 cases b <;> cases b'
 ·injection h2 with h2
  have h2:=OC h2
  subst h2;rfl
 ·cases h2
 ·cases h2
 ·injection h2 with h2
  have h2:=OC h2
  subst h2;rfl
section
variable [Xw]
variable {ss:List Slot}{i:Nat}{tp:Bool}{xs:List PV}{k:Bool->List PV->Prop}
def LS (h:ss[i]?=some (.is (C9 tp xs))) (hk:k tp xs):Wz ss (BB i) k:=by
 cases tp
 ·exact EC (AB h ⟨_,.inl ⟨rfl,hk⟩⟩)
 ·exact EC (AB h ⟨_,.inr ⟨rfl,hk⟩⟩)
def Zm (h:ss[i]?=some (.is (C9 tp xs))) (hk:k tp xs):Wq ss (BB i) k:=by
 cases tp
 ·exact Kn h hk
 ·exact Ct h hk
def Wc {te:TE}(h:Wp ss te fun p=>∃ tp xs,p=C9 tp xs/\k tp xs):Wq ss te k:=Dw (h.mono fun p ⟨tp,xs,e,hk⟩=>by
 subst e
 cases tp
 ·exact ⟨xs,.inl ⟨rfl,hk⟩⟩
 ·exact ⟨xs,.inr ⟨rfl,hk⟩⟩)
end
def Bk (A0:List (Bool×Kd)):List Kd:=A0.map (·.2)
def Lo (NN:Addr):FQ:=fun l R D=>∃ (ws:List Str) (d:PV) (x:Str),l=[.is d,.is (.str x)]/\(d=.lst (ws.map .str)∨∃ xs,d=.Ae (BL ws) xs)/\ws.length<=1000/\Gq x/\R=.is (fun p=>p=.A4/\x∈ws)/\D=fun e=>x∉ws/\e=⟨NN,["name"],[.str x]⟩
def Oz:Pre:=fun l R=>∃ (ws:List Str) (t:Bool) (ps:List (Str×Str)),l=[.is (.lst (ws.map .str)),.is (C9 t (ps.map Al))]/\ws.length<=1000/\(∀ p∈ps,p.1∈WH/\p.2∈ws)/\(∀ w∈ws,Gq w)/\R=.is (fun p=>p=.A4)
def Qn:Pre:=fun l R=>∃ (t:Bool) (A0:List (Bool×Kd)),l=[.is (C9 t (A0.map KdS))]/\KG (Bk A0)/\R=.is (fun p=>p=.A4)
def U3 (C:Addr):Pre:=fun l R=>∃ (dx a:Addr) (t:Bool) (A0:List (Bool×Kd)),l=[.ow true (.nd (.obj C dx []) a []),.is (C9 t (A0.map KdS))]/\KG (Bk A0)/\R=.mt (fun p t'=>p=.A4/\∃ b1 b2,t'=Fj C dx a b1 b2 (Bk A0))
def Mw (C NN:Addr):FQ:=fun l R D=>∃ (ks:List Kd) (x:Str),l=[.is (B2 C ks),.is (.str x)]/\KG ks/\Gq x/\R=.new (fun xs=>x∈wk ks/\xs=(JY ks x).map Al)/\D=fun e=>x∉wk ks/\e=⟨NN,["name"],[.str x]⟩
def LG (C NN:Addr):FQ:=fun l R D=>∃ (ks:List Kd) (x:Str),l=[.is (B2 C ks),.is (.str x)]/\KG ks/\Gq x/\R=.is (fun p=>x∈wk ks/\p=.bl (Ki ks x))/\D=fun e=>x∉wk ks/\e=⟨NN,["name"],[.str x]⟩
def Te (K:tV) (C:Addr):Pre:=fun ll R=>∃ (ks:List Kd) (l:Addr) (hs:List (Addr×List PV)),ll=[.is (B2 C ks),.is (.lst (ks.map Kd.P)),.ow true (Bc l hs)]/\KG ks/\Kz K hs/\hs.length<=90/\
 R=.mt (fun p t'=>p=.bl true/\∃ BE,t'=Bc l BE/\BE.length<=hs.length+9/\Kz K BE)
def RD (C:Addr):Pre:=fun l R=>∃ (ks:List Kd) (x:Str) (b:Bool),l=[.is (B2 C ks),.is (.str x),.is (.bl b)]/\KG ks/\Gq x/\x∉wk ks/\R=.is (fun p=>p=.bl true)
def aN {K:tV}(ps:List (Str×Str)) (w:Str):dat K 40 (.lst (ps.map Al++[.str w])):=fun x hx=>by
 rcases List.mem_append.mp hx with h | h
 ·obtain ⟨y,_,rfl⟩:=List.mem_map.mp h
  intro z hz
  simp only [KL,Ay,or_false] at hz
  rcases hz with rfl | rfl <;> trivial
 ·rw [List.mem_singleton.mp h];trivial
def Rp {K:tV}(ps:List (Str×Str)):dat K 40 (.lst (ps.map Al)):=fun x hx=>aN (K:=K) ps "" x (Mc _ hx)
def bo {K:tV}(ws:List Str) (w:Str):dat K 40 (.lst (ws.map .str++[.str w])):=fun x hx=>by
 rcases List.mem_append.mp hx with h | h
 ·obtain ⟨y,_,rfl⟩:=List.mem_map.mp h
  trivial
 ·rw [List.mem_singleton.mp h];trivial
def W6 (l b:Addr) (hs:List (Addr×List PV)) (T:List PV) (v:OV):(OV.nd .lst l ((hs.map fun h=>OV.tp [.nd .lst h.1 (h.2.map .fz),.fz (.lst h.2)])++[.tp [.nd .lst b (T.map .fz),v]])).at [hs.length,0]=some (.nd .lst b (T.map .fz)):=by
 have e0:((hs.map fun h=>OV.tp [.nd .lst h.1 (h.2.map .fz),.fz (.lst h.2)])++[.tp [.nd .lst b (T.map .fz),v]])[hs.length]?=some (.tp [.nd .lst b (T.map .fz),v]):=by
  rw [EX (by rw [AJ];exact AV _),AJ,Ug];rfl
 rw [OV.HQ,e0]
 show OV.at (.tp _) [0]=_
 rw [OV.GG]
 show OV.at (.nd .lst b _) []=_
 rw [OV.FZ]
def Yp {K:tV}{hs:List (Addr×List PV)}{h:Addr×List PV}(ok:Kz K hs) (d:dat K 40 (.lst h.2)):Kz K (hs++[h]):=fun x hx=>by
 rcases List.mem_append.mp hx with z | z
 ·exact ok x z
 ·rw [List.mem_singleton.mp z];exact d
def jE (p q:Str×Str) (h:Al p=Al q):p=q:=by
 obtain ⟨a,b⟩:=p
 obtain ⟨c,d⟩:=q
 unfold Al at h
 injection h with h
 injection h with h1 h2
 injection h2 with h2 _
 injection h1 with h1
 injection h2 with h2
 have h1:a=c:=h1
 have h2:b=d:=h2
 rw [h1,h2]
def EL (p:Option Addr×Kd):OV:=.tp [.fz (.str p.2.w),(match p.1 with
 | some b=>.nd .lst b ((p.2.ps.map Al).map .fz)
 | none=>.fz (.tup (p.2.ps.map Al))),.fz (.bl p.2.g)]
def Gy (p:Option Addr×Kd):Bool×Kd:=(p.1.isNone,p.2)
def bj (p:Option Addr×Kd):(EL p).pv=KdS (Gy p):=by
 obtain ⟨o,k⟩:=p
 cases o with
 | some b=>unfold EL;rw [OV.pv,OV.BM,OV.BM,OV.BM,OV.BM,OV.pv,OV.pv,OV.pv,Tw];rfl
 | none=>unfold EL;rw [OV.pv,OV.BM,OV.BM,OV.BM,OV.BM,OV.pv,OV.pv,OV.pv];rfl
def gO (h:Addr):∀ (ps:List (Option Addr×Kd)),(OV.nd .lst h (ps.map EL)).pv=.lst ((ps.map Gy).map KdS):=fun ps=>by
 rw [OV.pv]
 congr 1
 induction ps with
 | nil=>rw [Hs,OV.BM];rfl
 | cons p r ih=>rw [BV,OV.BM,ih,bj];rfl
def aO (ps:List (Option Addr×Kd)):Bk (ps.map Gy)=ps.map (·.2):=by unfold Bk;rw [Ci];rfl
def ZC (os:List Kd):os.map Kd.P=(os.map fun k=>(true,k)).map KdS:=by rw [Ci];rfl
def Zo (os:List Kd):Bk (os.map fun k=>(true,k))=os:=by unfold Bk;rw [Ci];exact List.map_id os
end Fz
set_option maxHeartbeats 8000000
namespace Pf
open L2 Lw
abbrev St:=L2.St
def top (i:Nat):Stmt:=PySem.Challenge.pw_stirround_k71_errands_told.main.body.getD i (.Pass ⟨0,0,0,0⟩)
abbrev Sy:Stmt:=top 29
abbrev Qy:Stmt:=top 28
abbrev Nd:Stmt:=top 21
abbrev OH:Stmt:=top 27
abbrev RI:Stmt:=OO (top 26) 0
abbrev SY:Stmt:=top 32
abbrev Pj:Stmt:=top 33
abbrev QX:Stmt:=top 34
abbrev P8:Stmt:=top 35
abbrev U8:Stmt:=top 37
abbrev UQ:Stmt:=top 31
abbrev QN:Stmt:=OO (top 26) 1
abbrev Rf:Stmt:=OO (top 26) 2
abbrev Qr:Stmt:=OO (top 26) 3
abbrev JD:Stmt:=top 38
abbrev Sk:Stmt:=top 36
abbrev RE:Stmt:=top 39
abbrev Hh:Stmt:=top 40
variable {P:Program}{w:World}{K:tV}{mg:tX}{base:Heap}{f:Addr}{fd:FuncData}
def aI {α:Type} {us:List α}(h:us.length=1):∃ a,us=[a]:=by
 rcases us with _ | ⟨a,_ | ⟨b,us⟩⟩
 ·cases h
 ·exact ⟨a,rfl⟩
 ·cases h
def ln2 {α:Type} {us:List α}(h:us.length=2):∃ a b,us=[a,b]:=by
 rcases us with _ | ⟨a,us⟩
 ·cases h
 ·obtain ⟨b,rfl⟩:=aI (Oj h);exact ⟨a,b,rfl⟩
def W7 {α:Type} {us:List α}(h:us.length=3):∃ a b c,us=[a,b,c]:=by
 rcases us with _ | ⟨a,us⟩
 ·cases h
 ·obtain ⟨b,c,rfl⟩:=ln2 (Oj h);exact ⟨a,b,c,rfl⟩
def Z0 {α:Type} {us:List α}(h:us.length=4):∃ a b c d,us=[a,b,c,d]:=by
 rcases us with _ | ⟨a,us⟩
 ·cases h
 ·obtain ⟨b,c,d,rfl⟩:=W7 (Oj h);exact ⟨a,b,c,d,rfl⟩
def YE {α:Type} {us:List α}(h:us.length=5):∃ a b c d e,us=[a,b,c,d,e]:=by
 rcases us with _ | ⟨a,us⟩
 ·cases h
 ·obtain ⟨b,c,d,e,rfl⟩:=Z0 (Oj h);exact ⟨a,b,c,d,e,rfl⟩
def jo {α:Type} {us:List α}(h:us.length=6):∃ a b c d e f,us=[a,b,c,d,e,f]:=by
 rcases us with _ | ⟨a,us⟩
 ·cases h
 ·obtain ⟨b,c,d,e,f,rfl⟩:=YE (Oj h);exact ⟨a,b,c,d,e,f,rfl⟩
local macro_rules | `(tactic| walk_at "bD1")=>`(tactic| (intro _ _ _ _ _ _ us hl;obtain ⟨_,e⟩:=aI hl;subst e;rfl))
local macro_rules | `(tactic| walk_at "bD2")=>`(tactic| (intro _ _ _ _ _ _ us hl;obtain ⟨_,_,e⟩:=ln2 hl;subst e;rfl))
local macro_rules | `(tactic| walk_at "bD3")=>`(tactic| (intro _ _ _ _ _ _ us hl;obtain ⟨_,_,_,e⟩:=W7 hl;subst e;rfl))
local macro_rules | `(tactic| walk_at "bD4")=>`(tactic| (intro _ _ _ _ _ _ us hl;obtain ⟨_,_,_,_,e⟩:=Z0 hl;subst e;rfl))
local macro_rules | `(tactic| walk_at "bD5")=>`(tactic| (intro _ _ _ _ _ _ us hl;obtain ⟨_,_,_,_,_,e⟩:=YE hl;subst e;rfl))
local macro_rules | `(tactic| walk_at "bD6")=>`(tactic| (intro _ _ _ _ _ _ us hl;obtain ⟨_,_,_,_,_,_,e⟩:=jo hl;subst e;rfl))
abbrev nS (K:tV) (x:Str) (v:Value):Prop:=PySem.W.nsIn K mainGlobals x=some (some v)
abbrev nN (K:tV) (x:Str):Prop:=PySem.W.nsIn K mainGlobals x=some none
abbrev UN:Stmt:=bC (top 2)
def k4:Bq ["self", "name"] ["self", "name"] (As UN):=⟨rfl,rfl,rfl,by decide +kernel,rfl,by decide +kernel,by decide +kernel⟩
def o6 {C S:Addr}(F:Ad K "__init__" "NoName.__init__" UN f fd) (bd:Binds K fd ["self", "name"] []) (c:M8 K C f "name") (sup:YB K S) (bX:mg "StirError" = some (.ref S)):PF P w K mg base C "name" := by
 refine ⟨f,fd, "name", c,F.ok (k:=0) k4 lx (fun Ab A outer s H vs Q E hr h=>?_),bd⟩
 refine ⟨_,?_,r8 (N:=["self", "name"]) rfl h⟩
 exact Si (XM (qN (S:=S) sup (by rfl) bX c.ex (SI (pv 0) (SI (nW (pv 1) (by decide)) ZN)))) (Si (pV c (pv 0) (pv 1) rfl) YT)
open Fz
def ZWM (t:String):Lean.MacroM (Lean.TSyntax `tactic):=do
 let g:Lean.TSyntax `tactic←`(tactic| fail)
 let k←`(tactic| case wk=>rfl)
 let n (s:String):=`(tactic| walk_at $(Lean.quote s):str)
 (t.splitOn " ").foldrM (fun s r=>do
  let l:=((s.drop 1).toString.splitOn "/").map fun x=>Lean.mkIdent (`Fz++x.toName)
  let h:Lean.Ident:=l.getLast!
  let c:=s.front
  let w:=(h.getId.getString!.toLower.replace "o" "e").replace "i" "e"
  let z←if c=='j' then `($h ?wj ?wk ?_) else if c=='k'||c=='K' then `($h ?wk ?_) else `($h ?_)
  let z←l.dropLast.foldrM (fun (f:Lean.Ident) (z:Lean.Term)=>`($f ($z))) z
  let p←if c=='e' then `(tactic| show ∃ _,_=$h _/\_) else if c=='s' then `(tactic| show $h _ _ _) else `(tactic| refine' $z)
  let p←if c=='K'||c=='R'||c=='j' then pure p else `(tactic| with_reducible $p:tactic)
  let q←if c=='e' then `(tactic| refine ⟨_,rfl,?_⟩) else if c=='s' then n w else if c=='n' then n "wn" else if c=='p' then n "wp" else if c=='k'||c=='K' then pure k else if c=='j' then `(tactic| ((case wj=>rfl);$k:tactic)) else `(tactic| skip)
  `(tactic| first | ($p:tactic;$q:tactic) | $r:tactic)) g
local macro_rules | `(tactic| walk_at "wp")=>ZWM "Rqw rnB kVy kKc/Ja/Cg kKc/JR/Cg kKc/Ja/Ja/Cg kKc/JR/JR/Cg kKc/JR/Ja/Cg kRv/Cg kRv/JR/Cg kRv/Ja/Cg kVy kAB rBg rGh rJx rXv rfK rfU rXi rNH rUw rJh rfX ro5 rYf rmZ kk8 rS8 rTb rDc roF rbM rPp rIw rY0 rpj rY1 rYo rYH kQJ rc7 rc8 rgH RpL rdE rdI rez rmG Ki9 KjW Kfk kbT Kgh KTL KeX KTs"
local macro_rules | `(tactic| walk_at "wn")=>ZWM "jpE rL7 rQL rrG rji Rd6 rmx rc5 rcq KMV jhU"
local macro_rules | `(tactic| walk_at "wq")=>do
 let z←ZWM "kQ8/Cg kQ8/Ja/Cg kQ8/JR/Cg kLY kbV kKn kCt rjb"
 `(tactic| first | $z:tactic | (refine Dw (E4 ?_);walk_at "wn") | (refine Dw ?_;walk_at "wp"))
local macro_rules | `(tactic| walk_at "wz")=>`(tactic| first
 | ((with_reducible refine' XI ?wk ?_);(case wk=>rfl))
 | (with_reducible refine' Xo ?_)
 | (refine EC (E4 ?_);walk_at "wn")
 | (refine EC ?_;walk_at "wp"))
local macro_rules | `(tactic| walk_at "wt")=>ZWM "rFg rFX rII rHf riB rMC"
local macro_rules | `(tactic| walk_at "we")=>ZWM "rED rGH rqV rfw rjz rmq rVE rEI"
local macro_rules | `(tactic| walk_at "w")=>do
 let z←ZWM "rAr rGR rDl rDF kVs kXc kgG kXk nJW pJF kkA nSV pK2"
 let z1←ZWM "eOV.tp eOV.fz"
 let z2←ZWM "sWn sWq sWz sWt sWe sWo sWi"
 let z3←ZWM "ePV.int ePV.str ePV.bl"
 `(tactic| first | $z1:tactic | ((with_reducible show ∃ _ _,_=OV.nd NK.lst _ _/\_);refine ⟨_,_,rfl,?_⟩) | ((with_reducible show ∃ _ _ _,_=PV.int _/\_/\_/\_);refine ⟨_,_,_,rfl,rfl,rfl,?_⟩) | ((with_reducible show Wp _ _ _);first | walk_at "wp" | (refine E4 ?_;walk_at "wn")) | $z2:tactic | ((with_reducible show Ws _ _ _ _);$z:tactic) | $z3:tactic | ((with_reducible show (_:Bool)=_/\_);refine ⟨rfl,?_⟩) | ((with_reducible show ∃ _ _,_=PV.int _/\L2.BK _ _=some _/\_);refine ⟨_,_,rfl,rfl,?_⟩) | ((with_reducible show ∃ _,(_=PV.lst _/\_)∨(_=PV.tup _/\_));first | refine ⟨_,.inl ⟨rfl,?_⟩⟩ | refine ⟨_,.inr ⟨rfl,?_⟩⟩) | ((with_reducible show ∃ _,_=List.map _ _/\_);first | refine ⟨_,rfl,?_⟩ | refine ⟨[],rfl,?_⟩ | refine ⟨_,qM _ _ _ _,?_⟩ | refine ⟨_,gv _ _ _,?_⟩ | refine ⟨_,dU _ _,?_⟩))
local macro_rules | `(tactic| walk_at "ww")=>`(tactic| repeat walk_at "w")
def mL:Bq ["words", "word"] ["words", "word"] (As Sy):=⟨rfl,rfl,rfl,by decide +kernel,rfl,by decide +kernel,by decide +kernel⟩
def Vx {AQ:Addr}:∀ ss R D,(Lo AQ) ss R D->ss.length=2:=by rintro _ _ _ ⟨ws,d,x,rfl,_,_,_,rfl,rfl⟩;rfl
def iZ {AQ:Addr}(F:Ad K "check_word" "check_word" Sy f fd) (m:mg "check_word" = some (.ref f)) (Jv:mg "NoName" = some (.ref AQ)) (T7:PF P w K mg base AQ "name") :
  GO P w K mg base "check_word" 3 ["words", "word"] (DO (Lo AQ)):=by
 refine GO.mk F (F.binds (by walk_at "bD2")) m (F.TZ (k:=2) mL (fun vs H Q E h=>Fz.RX Vx h) (fun Ab A outer s H vs Q E hr h=>?_))
 refine ⟨_,(AW rfl (Bv (pb (gA (Lh hr) (qv 1) (qv 0)) (Z8 PR (qv 1) (qv 0) (by with_unfolding_all rfl))) (AW rfl (fe T7 (by rfl) Jv hr (by decide) rfl rfl Qs (A1 (qv 1) A6))) CA)),?_⟩
 refine Fz.Sz h Vx ?_
 rintro _ _ _ ⟨ws,d,x,rfl,hd,hz,hx,rfl,rfl⟩
 intro i0
 show Ws [_,_] _ _ _
 refine Dl ?_
 rcases hd with rfl | ⟨xs,rfl⟩
 ·refine l6 (Fg (Pp (AB rfl ⟨x,rfl,Kn rfl ⟨_,rfl,_,rfl,?_⟩⟩)))
  refine Cc (fun c=>YN (AB rfl ⟨hx.1,trivial,fun m=>?_,rfl⟩)) (fun c=>DF ⟨_,rfl,rfl,not_of c⟩)
  rw [decide_eq_true m] at c;cases c
 ·refine qJ (FX (bb (AB rfl (AB rfl ⟨_,_,.inr x,rfl,rfl,_,rfl,?_⟩))))
  rw [Yc]
  refine Cc (fun c=>YN (AB rfl ⟨hx.1,trivial,fun m=>?_,rfl⟩)) (fun c=>DF ⟨_,rfl,rfl,not_of c⟩)
  rw [decide_eq_true m] at c;cases c
def aJ:Bq ["words", "puts", "put"] ["words", "puts"] (As Qy):=⟨rfl,rfl,rfl,by decide +kernel,rfl,by decide +kernel,by decide +kernel⟩
def Xa  : ∀ ss R,Oz ss R->ss.length=2:=by rintro _ _ ⟨ws,t,ps,rfl,_,_,_,rfl⟩;rfl
def bJ {Hm:Addr}(F:Ad K "check_puts" "check_puts" Qy f fd) (m:mg "check_puts" = some (.ref f)) (GX:GO P w K mg base "check_word" 3 ["words", "word"] (DO (Lo AQ))) (Ra:mg "WHERES" = some (.ref Hm)) (Qh:∀ H,AU K H Hm [.str "next", .str "last", .str "back", .str "first"]) :
  Am P w K mg base "check_puts" 4 ["words", "puts"] (Cu Oz):=by
 refine Am.mk F (F.binds (by walk_at "bD2")) m (F.DX (k:=3) aJ (fun vs H Q E h=>Fz.J8 Xa h) (fun Ab A outer s H vs Q E hr h=>?_))
 refine ⟨_,(AW rfl (FT Ez rfl (Ek (qv 1)) (DA 2 aJ.nd) (AL rfl (Bv (CD PR (BH Cf (qv 2) AH) (C0 (v:=.ref Hm) (by rfl) Ra rfl)) (AW rfl LH) CA)
   (AW rfl (DE (QH GX hr (by decide) NR rfl (A1 (qv 0) (A1 (BH Cf (qv 2) AH) A6)))))))),?_⟩
 refine Fz.Jj h Xa ?_
 rintro _ _ ⟨ws,t,ps,rfl,hz,hp,hs,rfl⟩
 show Ws [_,_,.any] _ _ _
 have C:K4 K Hm (WH.map .str):=K4.of Qh rfl rfl
 refine HA (fun _ i A8=>∃ s2:Slot,A8=[.is (.lst (ws.map .str)),.is (C9 t (ps.map Al)),s2]) (EI (LS rfl ⟨⟨_,rfl⟩,?_,?_⟩))
 ·rintro k p A8 hq ⟨s2,rfl⟩
  rw [Ak] at hq
  obtain ⟨q,ex,rfl⟩:=Option.map_eq_some_iff.mp hq
  refine K0 ?_
  have sq:=hp q (EZ ex)
  refine Ar (Dl (Fg (bP (neg:=true) C (Dc (Ct rfl ⟨rfl,Bg ⟨_,_,rfl,rfl,q.1,rfl,_,rfl,?_⟩⟩)))))
  rw [decide_eq_true sq.1]
  refine Dt (by decide) (DF ?_)
  refine Iv (Sn (CG (AB rfl (CG (Dc (Ct rfl ⟨rfl,Bg ⟨_,_,rfl,rfl,DY ⟨_,_,⟨ws,_,q.2,rfl,.inl rfl,hz,hs _ sq.2,rfl,rfl⟩,trivial,fun e h=>h.1 sq.2,?_⟩⟩⟩))))))
  rintro _ ⟨rfl,_⟩
  exact ⟨_,rfl⟩
 ·rintro A8 ⟨s2,rfl⟩
  exact ⟨_,rfl,rfl⟩
def gw:Bq ["text"] ["text"] (As Nd):=⟨rfl,rfl,rfl,by decide +kernel,rfl,by decide +kernel,by decide +kernel⟩
def nc:Scope:={ kind:=.function,names:=[(".0", .local),("sign", .local),("LETTERS", .globalImplicit)],isGenerator:=false,isCoroutine:=false,more:=[] }
def pf:Dz ["text"] (As Nd) nc "sign" [] []:=⟨rfl,by decide +kernel,by decide +kernel,rfl,rfl,by decide +kernel,by decide +kernel,by decide +kernel,by decide +kernel⟩
def e7 {Rc:Tok}{PZ:Tok}(F:Ad K "is_name" "is_name" Nd f fd) (m:mg "is_name" = some (.ref f)) (Gb:mg "all" = none) (Dh:mg "len" = none) (Ql:mg "LETTERS" = some (.str "abcdefghijklmnopqrstuvwxyz" Rc)) (Ou:mg "MOST_LETTERS" = some (.int 8 PZ)) :
  Am P w K mg base "is_name" 1 ["text"] (Sw):=by
 refine Am.mk F (F.binds (by walk_at "bD1")) m (F.DX (k:=0) gw (fun vs H Q E h=>?_) (fun Ab A outer s H vs Q E hr h=>?_))
 ·obtain ⟨x,rfl,hx,q⟩:=h;rfl
 obtain ⟨x,rfl,hx,q⟩:=h
 refine ⟨_,(AW rfl (CM (GP (ck Nb Nb AH (BF W5 Dh (A1 (qv 0) A6)) (C0 (v:=.int 8) (by rfl) Ou ⟨_,rfl⟩)) (Im (BF (U7 rfl) Gb (A1 (Np rfl pf (d7 (qv 0)) (fun _ _ _ _=>by exact ID) (fun _ _ _ _=>by exact (LJ fi (qv 0) (C0 (v:=.str "abcdefghijklmnopqrstuvwxyz") (by rfl) Ql ⟨_,rfl⟩)))) A6)))))),?_⟩
 refine ⟨_,rfl,_,rfl,small (by omega),_,_,rfl,rfl,_,rfl,?_⟩
 refine Cc (fun c=>?_) (fun c=>⟨_,rfl,M4 ?_⟩)
 ·refine ⟨_,_,rfl,rfl,_,rfl,?_⟩
  refine Cc (fun c2=>?_) (fun c2=>?_)
  ·refine ⟨_,rfl,x,rfl,fun acc BX=>b6 (fun _=>true) Wf BX (by rw [<- UT,<- G4];exact small (by omega)) (fun i v H' Q' _ _ h=>h H' (A9.refl _)) (fun i v H' Q' hv _ _ h=>?_) (fun H' s1 e1=>?_)⟩
   ·obtain ⟨cc,rfl⟩:=signs_get hv
    exact ⟨_,rfl,_,_,rfl,rfl,h H' (A9.refl _)⟩
   ·rw [n9] at e1
    refine ⟨acc,_,rfl,AG.of e1,?_⟩
    rw [all_map]
    have e:isNm x=x.cps.toList.all OE:=by unfold isNm;rw [c,c2];rfl
    rw [<- e];exact q H' s1
  ·have e:isNm x=false:=by unfold isNm;rw [Bool.eq_false_iff.mpr c2];simp
   rw [<- e];exact q H (A9.refl _)
 ·have e:isNm x=false:=by unfold isNm;rw [Bool.eq_false_iff.mpr c];simp
  rw [<- e];exact q H (A9.refl _)
def Lj:Bq ["kinds", "words", "number", "kind"] ["kinds"] (As OH):=⟨rfl,rfl,rfl,by decide +kernel,rfl,by decide +kernel,by decide +kernel⟩
def cH:Scope:={ kind:=.function,names:=[(".0", .local),("kind", .local)],isGenerator:=false,isCoroutine:=false,more:=[] }
def ja:Dz ["kinds", "words", "number", "kind"] (As OH) cH "kind" [] []:=⟨rfl,by decide +kernel,by decide +kernel,rfl,rfl,by decide +kernel,by decide +kernel,by decide +kernel,by decide +kernel⟩
def WD  : ∀ ss R,Qn ss R->ss.length=1:=by rintro _ _ ⟨t,A0,rfl,_,rfl⟩;rfl
def nD {Rw:Tok}{Tr:Tok}(F:Ad K "check_kinds" "check_kinds" OH f fd) (m:mg "check_kinds" = some (.ref f)) (Ti:Am P w K mg base "check_puts" 4 ["words", "puts"] (Cu Oz)) (Rq:Am P w K mg base "is_name" 1 ["text"] (Sw)) (UM:mg "enumerate" = none) (Dh:mg "len" = none) (U9:mg "MOST_KINDS" = some (.int 8 Rw)) (R7:mg "MOST_PUTS" = some (.int 6 Tr)) :
  Am P w K mg base "check_kinds" 5 ["kinds"] (Cu Qn):=by
 refine Am.mk F (F.binds (by walk_at "bD1")) m (F.DX (k:=4) Lj (fun vs H Q E h=>Fz.J8 WD h) (fun Ab A outer s H vs Q E hr h=>?_))
 refine ⟨_,(AL rfl (Bv (HN (oH Nb Nb AH (BF Va Dh (A1 (qv 0) A6)) (C0 (v:=.int 8) (by rfl) U9 ⟨_,rfl⟩))) (AW rfl LH) CA)
   (AL rfl (Zd (i:=1) Lj.nd rfl (Or.inl rfl) rfl ja (Ek (qv 0)) (fun _ _ _ _=>by exact ID) (fun _ _ _ _=>by exact (BH (show G5 _ (GF K) from Cf) (qv 0) AH)))
   (AL rfl (DD (FT Ez rfl (ik rfl UM (A1 (qv 0) A6)) (Nu rfl (Fc (DA 2 Lj.nd) (Fc (DA 3 Lj.nd) OQ))) (AL rfl (Bv (HN (Gg (B7 Rq hr (A1 (BH Cf (qv 3) AH) A6)))) (AW rfl LH) CA)
   (AL rfl (Bv (CD Xg (BH Cf (qv 3) AH) (Ta qC (qv 1) Sf (Rm (qv 2)))) (AW rfl LH) CA)
   (AW rfl (Bv (CD Qf (BF Va Dh (A1 (BH Cf (qv 3) AH) A6)) (C0 (v:=.int 6) (by rfl) R7 ⟨_,rfl⟩)) (AW rfl LH) CA))))))
   (AW rfl (FT Ez rfl (Ek (qv 0)) (DA 3 Lj.nd) (AW rfl (DE (B7 Ti hr (A1 (qv 1) (A1 (BH Cf (qv 3) AH) A6)))))))))),?_⟩
 refine Fz.Jj h WD ?_
 rintro _ _ ⟨t,A0,rfl,g,rfl⟩
 show Ws [_,.any,.any,.any] _ _ _
 have l1:=g.l1
 have l8:=g.l8
 have lk:(Bk A0).length=A0.length:=AJ ..
 have ew:(A0.map fun i=>PV.str i.2.w)=(wk (Bk A0)).map PV.str:=by unfold wk Bk;rw [Ci,Ci];rfl
 refine Ar (Dl (Hf (Fg (Yf (Bg ⟨_,rfl,S8 (Zm rfl ⟨_,rfl,?_⟩)⟩)))))
 rw [AJ]
 refine FE (decide_eq_true (by omega)) (Bg ⟨_,rfl,_,rfl,?_⟩)
 rw [decide_eq_true (show (A0.length:Int)<=8 by omega)]
 refine Dt (by decide) (DF ?_)
 refine Ar (JW (M5 KdS (fun _=>true) (fun i=>PV.str i.2.w) (EI (LS rfl ⟨A0,rfl,by omega,fun k _=>II rfl,fun k _ _=>Dc (Ct rfl ⟨rfl,Bg ⟨_,_,rfl,rfl,rfl⟩⟩),?_⟩)) n8))
 rw [List.filter_eq_self.mpr fun _ _=>rfl]
 refine NT 1 rfl ?_
 rw [ew]
 show Ws [.is (C9 t (A0.map KdS)),.is (.lst ((wk (Bk A0)).map .str)),.any,.any] _ _ _
 have YS:∀ {j:Nat}{i:Bool×Kd},A0[j]?=some i->i.2∈Bk A0:=fun h=>List.mem_map.mpr ⟨_,EZ h,rfl⟩
 refine Ar (GR (HA (fun _ i A8=>∃ s2 s3:Slot,A8=[.is (C9 t (A0.map KdS)),.is (.lst ((wk (Bk A0)).map .str)),s2,s3]) (VE (LS rfl ⟨⟨_,_,rfl⟩,?_,?_⟩))))
 ·rintro i q A8 hq ⟨s2,s3,rfl⟩
  obtain ⟨x0,hx,rfl⟩:=dO hq
  rw [Ak] at hx
  obtain ⟨k,ex,rfl⟩:=Option.map_eq_some_iff.mp hx
  have hi:=(List.getElem?_eq_some_iff.mp ex).1
  have km:=YS ex
  refine oh ⟨_,_,rfl,?_⟩
  walk_at "ww"
  refine oU (Dc (Ct rfl ⟨rfl,Bg ⟨_,_,rfl,rfl,k.2.w,rfl,Bt (g.nm k.2 km).2.1 (by decide),_,rfl,?_⟩⟩))
  rw [kX (g.nm k.2 km)]
  refine Dt (by decide) (DF ?_)
  walk_at "ww"
  rw [show E2 (wk (Bk A0)) none (some (i:Int))=(wk (Bk A0)).take i from Zt (by rw [AJ];omega)]
  refine Dt (fun c=>?_) (DF ?_)
  ·obtain ⟨j,hj,ej⟩:=rY (of_decide_eq_true c)
   rw [EY,AJ] at hj
   rw [rZ] at ej
   have q:=List.pairwise_iff_getElem.mp g.nd j i (by rw [AJ];omega) (by rw [AJ];omega) (by omega)
   refine q (ej.trans ?_)
   rw [Mb]
   have e2:(Bk A0)[i]'(by omega)=k.2:=by
    unfold Bk
    rw [Mb,(List.getElem?_eq_some_iff.mp ex).2]
   rw [e2]
  refine Dl (Fg (Xi (S8 (Wc (Dc (Ct rfl ⟨rfl,Bg ⟨_,_,rfl,rfl,k.1,_,rfl,?_⟩⟩))))))
  walk_at "ww"
  rw [AJ]
  refine Dt (fun c=>?_) (DF ⟨_,_,rfl⟩)
  have:=of_decide_eq_true c
  have:=(g.ps k.2 km).1
  omega
 ·rintro A8 ⟨s2,s3,rfl⟩
  refine HA (fun _ i A8=>∃ s2 s3:Slot,A8=[.is (C9 t (A0.map KdS)),.is (.lst ((wk (Bk A0)).map .str)),s2,s3]) (EI (LS rfl ⟨⟨_,_,rfl⟩,?_,?_⟩))
  ·rintro i p A8 hp ⟨s2,s3,rfl⟩
   rw [Ak] at hp
   obtain ⟨k,ex,rfl⟩:=Option.map_eq_some_iff.mp hp
   have km:=YS ex
   refine K0 ?_
   refine Iv (wp_call (CG (AB rfl (CG (Dc (Ct rfl ⟨rfl,Bg ⟨_,_,rfl,rfl,DY ⟨_,⟨wk (Bk A0),k.1,k.2.ps,rfl,by rw [AJ];omega,(g.ps k.2 km).2,fun w hw=>?_,rfl⟩,?_⟩⟩⟩))))))
   ·obtain ⟨k',PK,rfl⟩:=List.mem_map.mp hw
    exact PU (g.nm k' PK)
   rintro _ rfl
   exact ⟨_,_,rfl⟩
  ·rintro A8 ⟨s2,s3,rfl⟩
   exact ⟨_,rfl,rfl⟩
def XH:Bq ["self", "kinds", "kind"] ["self", "kinds"] (As RI):=⟨rfl,rfl,rfl,by decide +kernel,rfl,by decide +kernel,by decide +kernel⟩
def Zs {A5:Addr}:∀ ss R,(U3 A5) ss R->ss.length=2:=by rintro _ _ ⟨dx,a,t,A0,rfl,_,rfl⟩;rfl
def eD {A5:Addr}(F:Ad K "__init__" "Errands.__init__" RI f fd) (mt:Mk K A5 f) (Tj:Am P w K mg base "check_kinds" 5 ["kinds"] (Cu Qn)) (Em:mg "tuple" = none) (CO:CY K A5) (HP:DV K A5 "goes_by_word") (Fd:DV K A5 "puts_by_word") :
  Td P w K mg base A5 6 ["self", "kinds"] (Gz (U3 A5)):=by
 refine ⟨f,fd,F.DX (k:=5) XH (fun vs H Q E h=>Fz.Ym Zs h) (fun Ab A outer s H vs Q E hr h=>?_),(F.binds (by walk_at "bD2")),mt⟩
 refine ⟨_,(AL rfl (DE (B7 Tj hr (A1 (qv 1) A6)))
   (AL rfl (Yr (qv 0) ZE)
   (AL rfl (Yr (qv 0) ZE)
   (AW rfl (FT Ez rfl (Ek (qv 1)) (DA 2 XH.nd) (AL rfl (ZO (Lh hr) (IC (qv 0)) (BH Cf (qv 2) AH) (HX R8 Em (A1 (BH Cf (qv 2) AH) A6)))
   (AW rfl (ZO (Lh hr) (IC (qv 0)) (BH Cf (qv 2) AH) (BH Cf (qv 2) AH))))))))),?_⟩
 refine Fz.jQ h Zs ?_
 rintro _ _ ⟨dx,a,t,A0,rfl,g,rfl⟩
 show Ws [_,_,.any] _ _ _
 refine Ar (Iv (wp_call (CG (AB rfl (DY ⟨_,⟨t,A0,rfl,g,rfl⟩,?_⟩)))))
 rintro _ rfl
 refine Ar (Uj (i:=0) (XY fun b1=>Cg rfl ⟨true,A5,dx,[],a,[],rfl,rfl,CO,Fd,by decide,Ay,?_⟩))
 rw [OV.EA]
 show Ws [.ow true (.nd (.obj A5 dx ["puts_by_word"]) a [.nd (.Ae []) b1 []]),.is (C9 t (A0.map KdS)),.any] _ _ _
 refine Ar (Uj (i:=0) (XY fun b2=>Cg rfl ⟨true,A5,dx,_,a,_,rfl,rfl,CO,HP,by decide,Ay,?_⟩))
 rw [OV.EA]
 have l8:=g.l8
 have lk:(Bk A0).length=A0.length:=AJ ..
 refine HA (fun _ i A8=>∃ (s2:Slot),A8=[.ow true (Fj A5 dx a b1 b2 ((Bk A0).take i)),.is (C9 t (A0.map KdS)),s2]) (EI (LS rfl ⟨⟨_,rfl⟩,?_,?_⟩))
 ·rintro i p A8 hp ⟨s2,rfl⟩
  rw [Ak] at hp
  obtain ⟨kk,jf,rfl⟩:=Option.map_eq_some_iff.mp hp
  obtain ⟨fl,k⟩:=kk
  generalize gB:Bk A0=ks at *
  have ex:ks[i]?=some k:=by rw [<- gB];unfold Bk;rw [Ak,jf];rfl
  have hi:=(List.getElem?_eq_some_iff.mp ex).1
  have nk:k.w∉wk (ks.take i):=fun m=>by
   obtain ⟨j,hj,ej⟩:=rY m
   rw [AJ,EY] at hj
   rw [Mb,rZ] at ej
   have q:=List.pairwise_iff_getElem.mp g.nd j i (by rw [AJ];omega) (by rw [AJ];exact hi) (by omega)
   refine q ?_
   rw [Mb,Mb,ej,(List.getElem?_eq_some_iff.mp ex).2]
  have V9:(wk (ks.take i)).Nodup:=by
   rw [show wk (ks.take i)=(wk ks).take i from Ua]
   exact g.nd.sublist (sC _ _)
  refine K0 ?_
  refine Ar (WE (i:=0) (t:=Fj A5 dx a b1 b2 (ks.take i)) (Ee (Ts rfl (Wc (Dc (Ct rfl ⟨rfl,Bg ⟨_,_,rfl,rfl,fl,_,rfl,?_⟩⟩))))))
  refine Za (Cg rfl ⟨A5,dx,_,a,_,0,_,rfl,CO,Fd,rfl,rfl,true,b1,_,_,rfl,rfl,by rw [AJ,EY];omega,Zw V9,Ay,Dc (Ct rfl ⟨rfl,Bg ⟨_,_,rfl,rfl,.inr k.w,rfl,?_⟩⟩)⟩)
  rw [Uc,Sh nk,ZH nk]
  unfold Fj
  rw [OV.Hj (show _=some _ from rfl),OV.EA]
  refine WE (i:=0) (t:=.nd (.obj A5 dx EN) a [.nd (.Ae (BL (wk (ks.take i)++[k.w]))) b1 ((ks.take i).map (fun k=>.fz (.tup (k.ps.map Al)))++[.fz (.tup (k.ps.map Al))]),.nd (.Ae (BL (wk (ks.take i)))) b2 ((ks.take i).map fun k=>.fz (.bl k.g))]) (Ee (Dc (Ct rfl ⟨rfl,Bg ⟨_,_,rfl,rfl,?_⟩⟩)))
  refine Za (Cg rfl ⟨A5,dx,_,a,_,1,_,rfl,CO,HP,by decide +kernel,rfl,true,b2,_,_,rfl,rfl,by rw [AJ,EY];omega,Zw V9,Ay,Dc (Ct rfl ⟨rfl,Bg ⟨_,_,rfl,rfl,.inr k.w,rfl,?_⟩⟩)⟩)
  rw [Uc,Sh nk,ZH nk,OV.Hj (show _=some _ from rfl),OV.EA]
  refine ⟨.is (KdS (fl,k)),?_⟩
  rw [TU ex]
  simp only [wk,Dp,BV,Hs]
  rfl
 ·rintro A8 ⟨s2,rfl⟩
  rw [AJ,<- lk,J1]
  exact ⟨_,_,_,_,rfl,rfl,rfl,b1,b2,rfl⟩
def aD:Bq ["pot", "many", "found"] ["pot", "many"] (As SY):=⟨rfl,rfl,rfl,by decide +kernel,rfl,by decide +kernel,by decide +kernel⟩
def nj (F:Ad K "_law_take" "_law_take" SY f fd) (m:mg "_law_take" = some (.ref f))  :
  Am P w K mg base "_law_take" 1 ["pot", "many"] (Lc):=by
 refine Am.mk F (F.binds (by walk_at "bD2")) m (F.DX (k:=0) aD (fun vs H Q E h=>?_) (fun Ab A outer s H vs Q E hr h=>?_))
 ·obtain ⟨p,m,rfl,⟨a,b,hp,a0,a1,b0,b1⟩,m0,m1,q⟩:=h;rfl
 obtain ⟨p,m,rfl,⟨a,b,hp,a0,a1,b0,b1⟩,m0,m1,q⟩:=h
 refine ⟨_,(AL rfl (Bv (CD Qf (BH EG (qv 0) AH) AH) (AL rfl (Aj 2 aD.nd (Ao Gi (BH EG (qv 0) AH) (qv 1)))
   (AL rfl (ZY (Ao P2 (BH EG (qv 0) AH) (qv 1)) (VD (qv 0) AH set_list))
   (AW rfl (CM (qv 2))))) CA)
   (AL rfl (ZY (Ao Gi (Ao GJ (Ao IJ (BH EG (qv 0) AH) AH) AH) AH) (VD (qv 0) AH set_list))
   (AW rfl (CM (Ao Gi (Ao P2 (Ao Gi (Ao IJ (BH EG (qv 0) AH) (BH EG (qv 0) AH)) AH) AH) (qv 1)))))),?_⟩
 refine ⟨_,rfl,p,_,_,_,rfl,rfl,AG.of hp,rfl,_,_,rfl,rfl,_,rfl,?_⟩
 refine Cc (fun c=>?_) (fun c=>?_)
 ·have c':0 < a:=of_decide_eq_true c
  refine ⟨_,rfl,p,_,_,_,rfl,rfl,AG.of hp,rfl,_,rfl,_,_,rfl,rfl,m0,?_⟩
  refine ⟨_,rfl,p,_,_,_,rfl,rfl,AG.of hp,rfl,_,rfl,_,_,rfl,rfl,⟨m0,Jg (by omega) (by omega)⟩,?_⟩
  refine ⟨_,rfl,p,_,_,_,rfl,rfl,hp,rfl,?_⟩
  refine ⟨_,rfl,?_⟩
  refine q _ _ (Hq _ (by omega)) (Iy _ m0) ⟨⟨a / m,b,AN,Int.ediv_nonneg a0 (by omega),aS (Int.ediv_le_self _ a0) a1,b0,b1⟩,E7.upd⟩
 ·refine ⟨_,rfl,p,_,_,_,rfl,rfl,AG.of hp,rfl,_,_,rfl,rfl,⟨Jg (by omega) (by omega),by decide +kernel⟩,_,_,rfl,rfl,_,_,rfl,rfl,(by show (0:Int) < 2147483647;decide),?_⟩
  refine ⟨_,rfl,p,_,_,_,rfl,rfl,hp,rfl,?_⟩
  have WO:0<=(b * 69621+12345) % 2147483647:=Hq _ (by decide)
  have WZ:(b * 69621+12345) % 2147483647 < 2147483647:=Iy _ (by decide)
  generalize hb:(b * 69621+12345) % 2147483647=b' at WO WZ
  have DU:(upd H p (.lst [.int a,.int ((b * 69621+12345) % 2147483647)])) p=some (.lst [.int a,.int b']):=by rw [AN,hb]
  refine ⟨_,rfl,p,_,_,_,rfl,rfl,AG.of DU,rfl,_,rfl,p,_,_,_,rfl,rfl,AG.of DU,rfl,_,_,rfl,rfl,⟨Jg (by omega) (by omega),Jg (by omega) (by omega)⟩,_,_,rfl,rfl,(by show (0:Int) < 2147483629;decide),?_⟩
  refine ⟨_,_,rfl,rfl,⟨(by show (0:Int) < 64;decide),by decide +kernel⟩,_,rfl,_,_,rfl,rfl,m0,?_⟩
  exact q _ _ (Hq _ (by omega)) (Iy _ m0) ⟨⟨a,b',DU,a0,a1,WO,WZ⟩,E7.upd⟩
def NA:Bq ["number", "word"] ["number"] (As Pj):=⟨rfl,rfl,rfl,by decide +kernel,rfl,by decide +kernel,by decide +kernel⟩
def kf (F:Ad K "_law_letters" "_law_letters" Pj f fd) (m:mg "_law_letters" = some (.ref f))  :
  Am P w K mg base "_law_letters" 1 ["number"] (XG):=by
 refine Am.mk F (F.binds (by walk_at "bD1")) m (F.DX (k:=0) NA (fun vs H Q E h=>?_) (fun Ab A outer s H vs Q E hr h=>?_))
 ·obtain ⟨r,rfl,r0,r1,q⟩:=h;rfl
 obtain ⟨r,rfl,r0,r1,q⟩:=h
 refine ⟨_,(AL rfl (Aj 1 NA.nd BZ)
   (AL rfl (DD (Uz Ez (Lv (CD HH (qv 1) BZ) (M9 (CD Qf (qv 0) AH))).pt (AL rfl (Aj 1 NA.nd (Ao X3 (qv 1) (BH iu BZ (Ao Gi (qv 0) AH))))
   (AW rfl (Aj 0 NA.nd (Ao P2 (qv 0) AH))))))
   (AW rfl (CM (qv 1))))),?_⟩
 obtain ⟨n,rfl⟩:=aR r0
 have hn:n < 26 ^ 8:=by omega
 rw [Iz] at q
 refine ⟨fun σ' H'=>∃ v,σ'=[some v,some (.str (C2 (MA.lets n)))]/\H=H',?_,?_⟩
 ·refine ⟨fun m σ' H'=>∃ (k:Nat) (pre:List Nat),σ'=[some (.int k),some (.str (C2 pre))]/\H=H'/\((pre=[]/\k=n/\m=n+2)∨(pre≠[]/\m=k+1/\(0 < k->pre++MA.lets k=MA.lets n)/\(k=0->pre=MA.lets n))),⟨n+2,n,[],rfl,rfl,.inl ⟨rfl,rfl,rfl⟩⟩,?_⟩
  rintro m σ' H' ⟨k,pre,rfl,rfl,hI⟩
  refine ⟨_,rfl,rfl,_,rfl,?_⟩
  refine Cc (fun c=>eM ?_) (fun c=>⟨_,rfl,_,_,rfl,rfl,_,rfl,?_⟩)
  ·have hp:pre=[]:=Ye.mp (of_decide_eq_true c)
   obtain ⟨_,hk,hm⟩ | ⟨h,_⟩:=hI
   ·have he:pre++MA.lets k=MA.lets n:=by rw [hp,hk];rfl
    have hlen:pre.length+1<=8:=by
     have h1:=congrArg List.length he
     rw [DL] at h1
     have h2:=MA.Mq 7 n hn
     have h3:=MA.U1 k
     omega
    refine ⟨fun σ' H'=>σ'=[some (.int ((k:Int) / 26)),some (.str (C2 pre++⟨#[97+((k:Int) % 26).toNat]⟩))]/\H=H',?_,?_⟩
    ·rintro σ' H' ⟨rfl,rfl⟩
     have nx:=ZX he
     have e1:((k:Int) % 26).toNat=k % 26:=by omega
     have e2:(k:Int) / 26=((k / 26:Nat):Int):=by omega
     exact ⟨k / 26+1,by omega,k / 26,pre++[97+k % 26],by rw [e1,e2,Xj],rfl,.inr ⟨by simp,rfl,nx.1,nx.2⟩⟩
    ·refine ⟨_,rfl,_,rfl,_,_,rfl,rfl,(by show (0:Int) < 26;decide),_,_,_,rfl,rfl,(by decide +kernel),XZ (Hq _ (by decide)) (Iy _ (by decide)),_,_,rfl,rfl,?_,?_⟩
     ·rw [OJ];exact small (show pre.length+1<=_ by omega)
     ·exact ⟨_,rfl,_,_,rfl,rfl,⟨(by show (0:Int) < 26;decide),by decide +kernel⟩,rfl,rfl⟩
   ·exact absurd hp h
  ·have hp:pre≠[]:=fun h=>c (decide_eq_true (Ye.mpr h))
   obtain ⟨h,_⟩ | ⟨_,hm,h1,h2⟩:=hI
   ·exact absurd h hp
   refine Cc (fun c2=>?_) (fun c2=>?_)
   ·have hk:0 < k:=by have:(0:Int) < k:=of_decide_eq_true c2;omega
    have he:=h1 hk
    have hlen:pre.length+1<=8:=by
     have h1:=congrArg List.length he
     rw [DL] at h1
     have h2:=MA.Mq 7 n hn
     have h3:=MA.U1 k
     omega
    refine ⟨fun σ' H'=>σ'=[some (.int ((k:Int) / 26)),some (.str (C2 pre++⟨#[97+((k:Int) % 26).toNat]⟩))]/\H=H',?_,?_⟩
    ·rintro σ' H' ⟨rfl,rfl⟩
     have nx:=ZX he
     have e1:((k:Int) % 26).toNat=k % 26:=by omega
     have e2:(k:Int) / 26=((k / 26:Nat):Int):=by omega
     exact ⟨k / 26+1,by omega,k / 26,pre++[97+k % 26],by rw [e1,e2,Xj],rfl,.inr ⟨by simp,rfl,nx.1,nx.2⟩⟩
    ·refine ⟨_,rfl,_,rfl,_,_,rfl,rfl,(by show (0:Int) < 26;decide),_,_,_,rfl,rfl,(by decide +kernel),XZ (Hq _ (by decide)) (Iy _ (by decide)),_,_,rfl,rfl,?_,?_⟩
     ·rw [OJ];exact small (show pre.length+1<=_ by omega)
     ·exact ⟨_,rfl,_,_,rfl,rfl,⟨(by show (0:Int) < 26;decide),by decide +kernel⟩,rfl,rfl⟩
   ·have hk:k=0:=by
     have:¬ (0:Int) < k:=fun z=>c2 (decide_eq_true z)
     omega
    exact ⟨_,by rw [h2 hk],rfl⟩
 ·rintro σ' H' ⟨v,rfl,rfl⟩
  exact ⟨_,rfl,q⟩
def Eh:Bq ["pot", "names", "some", "way", "name", "number"] ["pot", "names"] (As QX):=⟨rfl,rfl,rfl,by decide +kernel,rfl,by decide +kernel,by decide +kernel⟩
def eZ (F:Ad K "_law_name" "_law_name" QX f fd) (m:mg "_law_name" = some (.ref f)) (MJ:Am P w K mg base "_law_letters" 1 ["number"] (XG)) (C5:Am P w K mg base "_law_take" 1 ["pot", "many"] (Lc)) (Dh:mg "len" = none) :
  Am P w K mg base "_law_name" 2 ["pot", "names"] (QY K):=by
 refine Am.mk F (F.binds (by walk_at "bD2")) m (F.DX (k:=1) Eh (fun vs H Q E h=>?_) (fun Ab A outer s H vs Q E hr h=>?_))
 ·obtain ⟨p,q,ns,rfl,hp,hS,Ag,hN,hL,K1⟩:=h;rfl
 obtain ⟨p,q,ns,rfl,hp,hS,Ag,hN,hL,K1⟩:=h
 refine ⟨_,(AL rfl (Aj 2 Eh.nd (EF (A1 BZ (A1 BZ (A1 BZ (A1 BZ (A1 BZ (A1 BZ (A1 BZ (A1 BZ (A1 BZ (A1 BZ (A1 BZ (A1 BZ (A1 BZ A6)))))))))))))))
   (AL rfl (Aj 3 Eh.nd (B7 C5 hr (A1 (qv 0) (A1 AH A6))))
   (AL rfl (Aj 4 Eh.nd (BH Cf (qv 2) (B7 C5 hr (A1 (qv 0) (A1 AH A6)))))
   (AL rfl (DD (Bv (CD HH (qv 3) AH) (AW rfl (Aj 4 Eh.nd (B7 MJ hr (A1 (B7 C5 hr (A1 (qv 0) (A1 (Ao P7 (Ao Ji AH AH) AH) A6))) A6)))) CA))
   (AL rfl (DD (Bv (Uy (CD HH (qv 3) AH) (Vt (CD (PH hr.Rt) (qv 1) (FO A6)))).pt (AL rfl (Aj 4 Eh.nd (BH EG (qv 1) (B7 C5 hr (A1 (qv 0) (A1 (BF Ob Dh (A1 (qv 1) A6)) A6)))))
   (AW rfl (Aj 4 Eh.nd (Ta VQ (Ao X3 (qv 4) (B7 MJ hr (A1 (B7 C5 hr (A1 (qv 0) (A1 AH A6))) A6))) Sf (Rm AH))))) CA))
   (AL rfl (DD (Bv (Uy (CD HH (qv 3) AH) (Vt (CD (PH hr.Rt) (qv 1) (FO A6)))).pt (AL rfl (Aj 4 Eh.nd (BH EG (qv 1) (B7 C5 hr (A1 (qv 0) (A1 (BF Ob Dh (A1 (qv 1) A6)) A6)))))
   (AW rfl (Aj 4 Eh.nd (Ta VQ (qv 4) Sf (Rm (Ao GJ AH (B7 C5 hr (A1 (qv 0) (A1 (BF W5 Dh (A1 (qv 4) A6)) A6))))))))) CA))
   (AL rfl (Aj 5 Eh.nd AH)
   (AL rfl (DD (Uz Ez (CD Xg (qv 4) (qv 1)) (AL rfl (Aj 4 Eh.nd (B7 MJ hr (A1 (qv 5) A6)))
   (AW rfl (Aj 5 Eh.nd (Ao GJ (qv 5) AH))))))
   (AW rfl (CM (qv 4))))))))))),?_⟩
 have hl:(ns.map V.str).length=ns.length:=AJ _
 refine ⟨(by show 13<=sizeLine;decide +kernel),fun sm JP=>?_⟩
 have DH:sm≠p:=by
  obtain ⟨_,_,e,_⟩:=hp
  exact (Bu e JP).symm
 have g0:BS p H (upd H sm (.tup OR)):=BS.of hp (C8 JP _)
 refine ⟨_,rfl,p,4,rfl,g0.AI,by decide,by decide,fun way H1 w0 w1 s1=>?_⟩
 refine ⟨_,rfl,_,rfl,p,13,rfl,s1.AI,by decide,by decide,fun i H2 i0 i1 s2=>?_⟩
 have h2:H2 sm=some (.tup OR):=s2.at' (s1.at' AN DH) DH
 obtain ⟨x,hx,nx⟩:=qo i0 i1
 refine ⟨sm,_,_,_,rfl,rfl,AU.of h2,hx,?_⟩
 have g2:=g0.trans (s1.trans s2)
 refine ⟨fun σ' H'=>∃ x,σ'=[some (.ref p),some (.ref q),some (.ref sm),some (.int way),some (.str x),none]/\Nm x/\BS p H H',?_,?_⟩
 ·refine ⟨_,rfl,rfl,_,rfl,?_⟩
  refine Cc (fun c=>?_) (fun c=>?_)
  ·refine ⟨_,rfl,_,_,rfl,rfl,⟨by decide,by decide,by decide +kernel⟩,_,_,rfl,rfl,p,_,rfl,g2.AI,nU,bR,fun r H3 r0 r1 s3=>?_⟩
   have r2:r < 26 ^ 8:=Int.lt_trans r1 dY
   exact ⟨r,rfl,r0,r2,_,rfl,Tp (ZV r0 r2),g2.trans s3⟩
  ·exact ⟨x,rfl,nx,g2⟩
 clear h2 hx nx s2 g2 i0 i1
 rintro σ' H3 ⟨y,rfl,ny,g3⟩
 refine ⟨fun σ' H'=>∃ x,σ'=[some (.ref p),some (.ref q),some (.ref sm),some (.int way),some (.str x),none]/\Nm x/\BS p H H',?_,?_⟩
 ·refine ⟨_,rfl,rfl,_,rfl,?_⟩
  refine Cc (fun c=>?_) (fun c=>M4 ⟨y,rfl,ny,g3⟩)
  refine ⟨_,rfl,(by show 0<=sizeLine;decide),fun e he=>?_⟩
  have g4:=g3.trans (BS.of g3.AI (C8 he (.lst [])))
  have Ky:=g4.LN hS Ag
  refine ⟨q,e,_,[],rfl,rfl,.inl ⟨Ky,AG.of AN⟩,IH ns,rfl,_,rfl,?_⟩
  rw [Yd]
  refine Cc (fun c2=>?_) (fun c2=>⟨y,rfl,ny,g4⟩)
  have Jb:0 < ns.length:=by
   cases ns with
   | nil=>simp at c2
   | cons a r=>simp
  refine ⟨_,rfl,_,rfl,_,rfl,q,_,rfl,.inl Ky,p,_,rfl,g4.AI,(by rw [hl];omega),(by rw [hl];omega),fun i H5 i0 i1 s5=>?_⟩
  rw [hl] at i1
  have g5:=g4.trans s5
  obtain ⟨z,hz,Qz,_⟩:=Z1 i0 i1
  have nz:=hN z Qz
  refine ⟨q,_,_,_,rfl,rfl,g5.LN hS Ag,hz,?_⟩
  refine ⟨_,rfl,_,rfl,p,26,rfl,g5.AI,by decide,by decide,fun r H6 r0 r1 s6=>?_⟩
  have g6:=g5.trans s6
  have r2:r < 26 ^ 8:=Int.lt_trans r1 kM
  refine ⟨r,rfl,r0,r2,?_⟩
  have nl:=Tp (n:=r.toNat) (ZV r0 r2)
  have hlen:z.length+(C2 (MA.lets r.toNat)).length<=16:=by have:=nz.2.1;have:=nl.2.1;omega
  refine ⟨_,_,rfl,rfl,small (by omega),?_⟩
  refine ⟨_,rfl,_,rfl,small (by rw [YJ];omega),?_⟩
  refine ⟨_,rfl,Vo (by decide) (by decide) (by rw [YJ];have:=nz.1;omega) (fun c hc=>?_),g6⟩
  rw [aM] at hc
  rcases List.mem_append.mp hc with hc | hc
  ·exact nz.2.2 c hc
  ·exact nl.2.2 c hc
 clear ny g3
 rintro σ' H3 ⟨y,rfl,ny,g3⟩
 refine ⟨fun σ' H'=>∃ x,σ'=[some (.ref p),some (.ref q),some (.ref sm),some (.int way),some (.str x),none]/\Nm x/\BS p H H',?_,?_⟩
 ·refine ⟨_,rfl,rfl,_,rfl,?_⟩
  refine Cc (fun c=>?_) (fun c=>M4 ⟨y,rfl,ny,g3⟩)
  refine ⟨_,rfl,(by show 0<=sizeLine;decide),fun e he=>?_⟩
  have g4:=g3.trans (BS.of g3.AI (C8 he (.lst [])))
  have Ky:=g4.LN hS Ag
  refine ⟨q,e,_,[],rfl,rfl,.inl ⟨Ky,AG.of AN⟩,IH ns,rfl,_,rfl,?_⟩
  rw [Yd]
  refine Cc (fun c2=>?_) (fun c2=>⟨y,rfl,ny,g4⟩)
  have Jb:0 < ns.length:=by
   cases ns with
   | nil=>simp at c2
   | cons a r=>simp
  refine ⟨_,rfl,_,rfl,_,rfl,q,_,rfl,.inl Ky,p,_,rfl,g4.AI,(by rw [hl];omega),(by rw [hl];omega),fun i H5 i0 i1 s5=>?_⟩
  rw [hl] at i1
  have g5:=g4.trans s5
  obtain ⟨z,hz,Qz,_⟩:=Z1 i0 i1
  have nz:=hN z Qz
  refine ⟨q,_,_,_,rfl,rfl,g5.LN hS Ag,hz,?_⟩
  have nH:=nz.1
  have tS:=nz.2.1
  refine ⟨_,rfl,_,rfl,_,rfl,_,rfl,small (by omega),p,_,rfl,g5.AI,(by omega),(by omega),fun r H6 r0 r1 s6=>?_⟩
  refine ⟨_,_,rfl,rfl,_,rfl,_,rfl,small (by omega),?_⟩
  exact ⟨_,rfl,Vo (by omega) (by omega) nH nz.2.2,g5.trans s6⟩
 clear ny g3
 rintro σ' H3 ⟨y,rfl,ny,g3⟩
 refine ⟨fun σ' H'=>∃ x v,σ'=[some (.ref p),some (.ref q),some (.ref sm),some (.int way),some (.str x),some v]/\Nm x/\x∉ns/\H3=H',?_,?_⟩
 ·refine ⟨fun m σ' H'=>∃ (k:Nat) (x:Str),σ'=[some (.ref p),some (.ref q),some (.ref sm),some (.int way),some (.str x),some (.int k)]/\H3=H'/\Nm x/\m=ns.length+1 - k/\k<=ns.length+1/\(0 < k->x=C2 (MA.lets (k - 1)))/\(∀ j,j+1 < k->C2 (MA.lets j)∈ns),
   ⟨ns.length+1,0,y,rfl,rfl,ny,rfl,Cj _,fun h=>absurd h (by decide),fun j h=>absurd h (by omega)⟩,?_⟩
  rintro m σ' H' ⟨k,x,rfl,rfl,nx,rfl,hk,hx,hj⟩
  refine ⟨_,rfl,_,rfl,q,_,rfl,.inl (g3.LN hS Ag),rfl,IH ns,_,rfl,?_⟩
  rw [if_neg (by decide),QD]
  refine Cc (fun c=>?_) (fun c=>⟨x,_,rfl,nx,fun z=>c (decide_eq_true z),rfl⟩)
  have Ks:x∈ns:=of_decide_eq_true c
  have Mn:∀ j,j < k->C2 (MA.lets j)∈ns:=fun j P5=>by
   by_cases e:j+1 < k
   ·exact hj j e
   ·have e2:j=k - 1:=by omega
    rw [e2,<- hx (by omega)];exact Ks
  have NX:=dG Mn
  refine ⟨fun σ' H'=>σ'=[some (.ref p),some (.ref q),some (.ref sm),some (.int way),some (.str (C2 (MA.lets k))),some (.int ((k:Int)+1))]/\H3=H',?_,?_⟩
  ·rintro σ' H' ⟨rfl,rfl⟩
   exact ⟨ns.length+1 - (k+1),by omega,k+1,C2 (MA.lets k),rfl,rfl,Tp (Oi (Bt NX hL) nJ),rfl,by omega,fun _=>rfl,fun j P5=>Mn j (by omega)⟩
  ·refine ⟨_,rfl,k,rfl,by omega,?_,?_⟩
   ·have:(k:Int)<=1000:=by omega
    exact aS this qX
   ·rw [Iz]
    exact ⟨_,rfl,_,_,rfl,rfl,rfl,rfl⟩
 rintro σ' H' ⟨x,v,rfl,nx,hx,rfl⟩
 exact ⟨_,rfl,K1 x H3 nx hx g3⟩
def R6:Bq ["pot", "many", "names", "k"] ["pot", "many"] (As P8):=⟨rfl,rfl,rfl,by decide +kernel,rfl,by decide +kernel,by decide +kernel⟩
def d9 (F:Ad K "_law_names" "_law_names" P8 f fd) (m:mg "_law_names" = some (.ref f)) (PY:Am P w K mg base "_law_name" 2 ["pot", "names"] (QY K)) (Ip:mg "range" = none) :
  Am P w K mg base "_law_names" 3 ["pot", "many"] (Pq):=by
 refine Am.mk F (F.binds (by walk_at "bD2")) m (F.DX (k:=2) R6 (fun vs H Q E h=>?_) (fun Ab A outer s H vs Q E hr h=>?_))
 ·obtain ⟨p,m,rfl,hp,m0,m1,q⟩:=h;rfl
 obtain ⟨p,m,rfl,hp,m0,m1,q⟩:=h
 refine ⟨_,(AL rfl (Aj 2 R6.nd (FO A6))
   (AL rfl (DD (FT Ez rfl (Pm rfl Ip (A1 (qv 1) A6)) (DA 3 R6.nd) (AW rfl (DE (FN G8 Ht Hu GV (qv 2) (A1 (B7 PY hr (A1 (qv 0) (A1 (qv 2) A6))) A6))))))
   (AW rfl (CM (qv 2))))),?_⟩
 refine ⟨(by show 0<=sizeLine;decide),fun l hl=>?_⟩
 have Ag:=hp.ne hl
 refine ⟨fun σ' H'=>∃ (ns:List Str) (v:Option V),σ'=[some (.ref p),some (.int m),some (.ref l),v]/\BS p H H'/\H' l=some (.lst (ns.map V.str))/\(ns.length:Int)=m/\(∀ x∈ns,Nm x)/\ns.Nodup,?_,?_⟩
 ·refine ⟨_,rfl,m,rfl,by omega,by omega,cE (n:=m.toNat) (fun i σ' H'=>∃ (ns:List Str) (v:Option V),σ'=[some (.ref p),some (.int m),some (.ref l),v]/\BS p H H'/\H' l=some (.lst (ns.map V.str))/\ns.length=i/\(∀ x∈ns,Nm x)/\ns.Nodup) ?_ ?_ ?_⟩
  ·exact ⟨[],none,rfl,(BS.of hp (A9.refl H)).upd hl Ag,AN,rfl,fun x hx=>absurd hx (by simp),by simp⟩
  ·rintro i σ' H' hi ⟨ns,v,rfl,g,e,hlen,hN,nd⟩
   refine ⟨_,rfl,.inl ⟨rfl,_,AG.of e⟩,_,rfl,_,rfl,p,l,ns,rfl,g.AI,AG.of e,Ag,hN,by omega,fun x H2 nx hx s2=>?_⟩
   refine ⟨l,_,_,rfl,rfl,s2.at' e Ag,Oi (m:=100) (by rw [AJ];omega) (by decide +kernel),?_⟩
   refine ⟨ns++[x],_,rfl,(g.trans s2).upd hl Ag,by rw [AN,Dp];rfl,by rw [DL];simp [hlen],fun y hy=>?_,fW nd hx⟩
   rcases List.mem_append.mp hy with h | h
   ·exact hN y h
   ·have:y=x:=by simpa using h
    rw [this];exact nx
  ·rintro σ' H' ⟨ns,v,rfl,g,e,hlen,hN,nd⟩
   exact ⟨ns,v,rfl,g,e,by omega,hN,nd⟩
 rintro σ' H' ⟨ns,v,rfl,g,e,hlen,hN,nd⟩
 exact ⟨_,rfl,q l H' ns hl g e hlen hN nd⟩
def FG:Bq ["pot", "many", "words", "shape", "kinds", "k", "puts", "j", "where", "kind"] ["pot"] (As U8):=⟨rfl,rfl,rfl,by decide +kernel,rfl,by decide +kernel,by decide +kernel⟩
def Yy  : ∀ ss R,TB ss R->ss.length=1:=by rintro _ _ ⟨rfl,rfl⟩;rfl
def jC (F:Ad K "_law_kinds" "_law_kinds" U8 f fd) (m:mg "_law_kinds" = some (.ref f)) (Q0:Am P w K mg base "_law_names" 3 ["pot", "many"] (Pq)) (C5:Am P w K mg base "_law_take" 1 ["pot", "many"] (Lc)) (Sb:mg "max" = none) (Ip:mg "range" = none) (Em:mg "tuple" = none) :
  Am P w K mg base "_law_kinds" 4 ["pot"] (Cu TB):=by
 refine Am.mk F (F.binds (by walk_at "bD1")) m (F.DX (k:=3) FG (fun vs H Q E h=>Fz.J8 Yy h) (fun Ab A outer s H vs Q E hr h=>?_))
 refine ⟨_,(AL rfl (Aj 1 FG.nd (Ao GJ AH (B7 C5 hr (A1 (qv 0) (A1 AH A6)))))
   (AL rfl (Aj 2 FG.nd (B7 Q0 hr (A1 (qv 0) (A1 (qv 1) A6))))
   (AL rfl (Aj 3 FG.nd (B7 C5 hr (A1 (qv 0) (A1 AH A6))))
   (AL rfl (Aj 4 FG.nd (FO A6))
   (AL rfl (DD (FT Ez rfl (Pm rfl Ip (A1 (qv 1) A6)) (DA 5 FG.nd) (AL rfl (Aj 6 FG.nd (FO A6))
   (AL rfl (DD (FT Ez rfl (Pm rfl Ip (A1 (BH Cf (EF (A1 AH (A1 AH (A1 AH (A1 AH (A1 AH (A1 AH (A1 AH A6)))))))) (B7 C5 hr (A1 (qv 0) (A1 AH A6)))) A6)) (DA 7 FG.nd) (AL rfl (Aj 8 FG.nd (BH Cf (EF (A1 BZ (A1 BZ (A1 BZ (A1 BZ A6))))) (B7 C5 hr (A1 (qv 0) (A1 AH A6)))))
   (AL rfl (Aj 9 FG.nd (B7 C5 hr (A1 (qv 0) (A1 (qv 1) A6))))
   (AL rfl (DD (Bv (CD S6 (qv 3) AH) (AW rfl (Aj 9 FG.nd (Ao GJ (Ao GJ (qv 5) AH) (Ao Gi (qv 9) (BF (m9 rfl) Sb (A1 AH (A1 (Ao P7 (Ao P7 (qv 1) AH) (qv 5)) A6))))))) CA))
   (AW rfl (Bv (CD S6 (qv 9) (qv 1)) (AW rfl (DE (FN G8 Ht Hu GV (qv 6) (A1 (EF (A1 (qv 8) (A1 (BH EG (qv 2) (qv 9)) A6))) A6)))) CA)))))))
   (AW rfl (DE (FN G8 sJ PySem.F.type_list_insert qd (qv 4) (A1 (B7 C5 hr (A1 (qv 0) (A1 (Ao GJ (qv 5) AH) A6))) (A1 (EF (A1 (BH EG (qv 2) (qv 5)) (A1 (HX R8 Em (A1 (qv 6) A6)) (A1 (LJ HH (B7 C5 hr (A1 (qv 0) (A1 AH A6))) AH) A6)))) A6)))))))))
   (AW rfl (CM (qv 4)))))))),?_⟩
 refine Fz.Jj h Yy ?_
 rintro _ _ ⟨rfl,rfl⟩
 show Ws [_,.any,.any,.any,.any,.any,.any,.any,.any,.any] _ _ _
 walk_at "ww"
 refine ⟨by decide,by decide,fun r a1 b1=>⟨_,rfl,?_⟩⟩
 obtain ⟨m0,rfl⟩:=aR a1
 refine Ar (JW (lz rfl (AB rfl ⟨_,rfl,by omega,by omega,fun ws hl hN nd=>?_⟩)))
 refine NT 2 rfl ?_
 walk_at "ww"
 refine ⟨by decide,by decide,fun sh s0 s1=>?_⟩
 walk_at "ww"
 refine ⟨by decide,?_⟩
 refine Ar (GR (HA (fun _ i A8=>∃ (ks:List Kd) (s5 s6 s7 s8 s9:Slot),A8=[.AI,.is (.int (1+(m0:Int))),.is (.lst (ws.map .str)),.is (.int sh),.own (ks.map Kd.P),s5,s6,s7,s8,s9]/\(wk ks).Perm (ws.take i)/\∀ k∈ks,k.ps.length<=6/\∀ p∈k.ps,p.1∈WH/\p.2∈ws) ?_))
 walk_at "ww"
 rw [JS]
 refine ⟨by omega,by omega,⟨[],_,_,_,_,_,rfl,.refl _,fun k hk=>absurd hk Ay⟩,?_,?_⟩
 ·rintro k p A8 hp ⟨ks,s5,s6,s7,s8,s9,rfl,lk,ok⟩
  obtain ⟨hk,rfl⟩:=VX hp
  have mF:=lk.length_eq
  rw [AJ,EY] at mF
  refine K0 ?_
  walk_at "ww"
  refine ⟨by decide,?_⟩
  refine Ar (GR (HA (fun _ j A8=>∃ (qs:List (Str×Str)) (s7 s8 s9:Slot),A8=[.AI,.is (.int (1+(m0:Int))),.is (.lst (ws.map .str)),.is (.int sh),.own (ks.map Kd.P),.is (.int k),.own (qs.map Al),s7,s8,s9]/\qs.length<=j/\∀ q∈qs,q.1∈WH/\q.2∈ws) ?_))
  walk_at "ww"
  refine ⟨by decide,_,.inr ⟨rfl,rfl,?_⟩⟩
  walk_at "ww"
  refine ⟨by decide,by decide,fun t t0 t1=>?_⟩
  obtain ⟨m,hm,lm⟩:=mT t0 t1
  refine ⟨_,_,rfl,hm,_,rfl,by omega,by omega,?_⟩
  rw [JS,Iz]
  refine ⟨⟨[],_,_,_,rfl,AV _,fun q hq=>absurd hq Ay⟩,?_,?_⟩
  ·rintro j p A8 hp ⟨qs,s7,s8,s9,rfl,lq,oq⟩
   obtain ⟨hj,rfl⟩:=VX hp
   refine K0 ?_
   walk_at "ww"
   refine ⟨by decide,_,.inr ⟨rfl,rfl,?_⟩⟩
   walk_at "ww"
   refine ⟨by decide,by decide,fun t2 a2 b2=>?_⟩
   obtain ⟨wh,iO,cy⟩:=hX a2 b2
   refine ⟨_,_,rfl,cy,?_⟩
   walk_at "ww"
   refine ⟨by omega,YM (by omega),fun kd a3 b3=>?_⟩
   refine ZL (fun A8=>∃ kd:Int,A8=[.AI,.is (.int (1+(m0:Int))),.is (.lst (ws.map .str)),.is (.int sh),.own (ks.map Kd.P),.is (.int k),.own (qs.map Al),.is (.int j),.is (.str wh),.is (.int kd)]/\0<=kd) ?_ ?_
   ·walk_at "ww"
    refine Cc (fun c=>?_) (fun c=>DF ⟨kd,rfl,a3⟩)
    walk_at "ww"
    have Vl:0 < (if 1+(m0:Int) - 1 - k > 1 then 1+(m0:Int) - 1 - k else 1):=by split <;> omega
    have tT:=Hq kd (Int.ne_of_gt Vl)
    exact ⟨Vl,_,rfl,_,rfl,by omega⟩
   rintro _ ⟨kd,rfl,k0⟩
   walk_at "ww"
   refine Cc (fun c=>?_) (fun c=>DF ⟨qs,_,_,_,rfl,by omega,oq⟩)
   have c':=of_decide_eq_true c
   obtain ⟨kn,rfl⟩:=aR k0
   have NX:kn < ws.length:=by omega
   have aK:L2.BK (ws.map PV.str) (kn:Int)=some (.str ws[kn]):=Jn (by omega) (by rw [Iz,Ak,B4 NX];rfl)
   refine Vs rfl (Iw ?_)
   walk_at "ww"
   refine ⟨_,_,rfl,aK,?_⟩
   walk_at "ww"
   refine ⟨by show 2<=100000;decide,by rw [AJ];omega,qs++[(wh,ws[kn])],.is (.int j),.is (.str wh),.is (.int kn),?_,?_,?_⟩
   ·rw [Dp];rfl
   ·rw [DL,rh];omega
   ·intro q hq
    rcases List.mem_append.mp hq with z | z
    ·exact oq q z
    ·rw [List.mem_singleton.mp z];exact ⟨iO,Hr NX⟩
  ·rintro A8 ⟨qs,s7,s8,s9,rfl,lq,oq⟩
   have Ut:k < ws.length:=by omega
   have aK:L2.BK (ws.map PV.str) (k:Int)=some (.str ws[k]):=Jn (by omega) (by rw [Iz,Ak,B4 Ut];rfl)
   refine Xc rfl ?_
   walk_at "ww"
   refine ⟨by omega,YM (by omega),fun t9 a9 b9=>⟨_,rfl,a9,by rw [AJ];omega,?_⟩⟩
   refine Iw ?_
   walk_at "ww"
   refine ⟨_,_,rfl,aK,?_⟩
   walk_at "ww"
   refine ⟨by decide,by decide,fun r2 a2 b2=>?_⟩
   walk_at "ww"
   refine ⟨by show 3<=100000;decide,by rw [AJ];omega,ks.take t9.toNat++⟨ws[k],qs,alike (.int r2) (.int 1)⟩ :: ks.drop t9.toNat,.is (.int k),.own (qs.map Al),s7,s8,s9,?_,?_,?_⟩
   ·rw [<- Ua,<- aa,Dp];rfl
   ·rw [Oh Ut]
    show (List.map Kd.w (_++_ :: _)).Perm _
    rw [Dp,BV,Ua,aa]
    refine (List.perm_middle.trans (List.Perm.cons _ ?_)).trans (List.perm_append_comm (l₁:=[ws[k]]))
    rw [List.take_append_drop];exact lk
   ·intro kk iU
    rcases List.mem_append.mp iU with z | z
    ·exact ok kk (rm z)
    ·rcases List.mem_cons.mp z with z | z
     ·rw [z];exact ⟨by show qs.length<=6;omega,oq⟩
     ·exact ok kk (List.mem_of_mem_drop z)
 ·rintro A8 ⟨ks,s5,s6,s7,s8,s9,rfl,lk,ok⟩
  refine NT 4 rfl ?_
  have NI:(wk ks).Perm ws:=by
   have e:ws.take (1+(m0:Int)).toNat=ws:=Ue (by omega)
   rw [e] at lk;exact lk
  have ll:=NI.length_eq
  rw [AJ] at ll
  refine K2 (AB rfl ⟨ks,rfl,by omega,by omega,NI.nodup_iff.mpr nd,fun k hk=>hN _ (NI.mem_iff.mp (List.mem_map.mpr ⟨k,hk,rfl⟩)),fun k hk=>⟨(ok k hk).1,fun p hp=>⟨((ok k hk).2 p hp).1,NI.mem_iff.mpr ((ok k hk).2 p hp).2⟩⟩⟩)
def KO:Bq ["script", "k", "cell", "rest_here"] ["script", "k"] (As UQ):=⟨rfl,rfl,rfl,by decide +kernel,rfl,by decide +kernel,by decide +kernel⟩
def fc (F:Ad K "_law_pot" "_law_pot" UQ f fd) (m:mg "_law_pot" = some (.ref f)) (Dh:mg "len" = none) :
  Am P w K mg base "_law_pot" 1 ["script", "k"] (MH K):=by
 refine Am.mk F (F.binds (by walk_at "bD2")) m (F.DX (k:=0) KO (fun vs H Q E h=>?_) (fun Ab A outer s H vs Q E hr h=>?_))
 ·obtain ⟨a,ns,k,rfl,hS,k0,k1,q⟩:=h;rfl
 obtain ⟨a,ns,k,rfl,hS,k0,k1,q⟩:=h
 refine ⟨_,(AL rfl (Aj 2 KO.nd AH)
   (AL rfl (DD (Bv (CD S6 (qv 1) (BF Ob Dh (A1 (qv 0) A6))) (AW rfl (Aj 2 KO.nd (Ao Gi (BH EG (qv 0) (qv 1)) (Ao IJ (Ao IJ (Ao IJ (Ao Ji AH AH) (Ao Ji AH AH)) (Ao Ji AH AH)) (Ao Ji AH AH))))) CA))
   (AL rfl (Aj 3 KO.nd AH)
   (AL rfl (DD (Bv (CD jN (qv 2) (Ao Ji AH AH)) (AW rfl (Aj 3 KO.nd (qv 2))) CA))
   (AW rfl (CM (FO (A1 (qv 3) (A1 (Ao Gi (Ao IJ (Ao GJ (Ao GJ (Ao Gi (qv 2) AH) (Ao IJ AH (qv 1))) AH) AH) AH) A6))))))))),?_⟩
 have hl:(ns.map V.int).length=ns.length:=AJ _
 refine ⟨fun σ' H'=>∃ c:Int,σ'=[some (.ref a),some (.int k),some (.int c),none]/\H=H'/\0<=c/\c < 10 ^ 256,?_,?_⟩
 ·refine ⟨_,rfl,_,rfl,a,_,rfl,.inl hS,_,_,rfl,rfl,_,rfl,?_⟩
  refine Cc (fun c=>?_) (fun c=>?_)
  ·have c':k < (((ns.map V.int).length:Nat):Int):=of_decide_eq_true c
   rw [hl] at c'
   have hk:k.toNat < ns.length:=by omega
   have hv:BK (ns.map V.int) k=some (.int ns[k.toNat]):=Jn k0 (by rw [Ak,B4 hk] <;> rfl)
   refine ⟨_,rfl,_,rfl,a,_,_,_,rfl,rfl,hS,hv,_,_,rfl,rfl,⟨by decide,by decide,by decide +kernel⟩,_,_,rfl,rfl,⟨by decide,by decide,by decide +kernel⟩,_,_,rfl,rfl,⟨by decide +kernel,by decide +kernel⟩,_,_,rfl,rfl,⟨by decide,by decide,by decide +kernel⟩,_,_,rfl,rfl,⟨by decide +kernel,by decide +kernel⟩,
    _,_,rfl,rfl,⟨by decide,by decide,by decide +kernel⟩,_,_,rfl,rfl,⟨by decide +kernel,by decide +kernel⟩,_,_,rfl,rfl,(by show (0:Int) < _;decide +kernel),?_⟩
   exact ⟨_,rfl,rfl,Hq _ (by decide +kernel),Iy _ (by decide +kernel)⟩
  ·exact ⟨0,rfl,rfl,by decide,by decide +kernel⟩
 rintro σ' H' ⟨c,rfl,rfl,c0,c1⟩
 refine ⟨fun σ' H'=>∃ d:Int,σ'=[some (.ref a),some (.int k),some (.int c),some (.int d)]/\H=H'/\0<=d/\d < 10 ^ 256,?_,?_⟩
 ·refine ⟨_,rfl,_,_,rfl,rfl,⟨by decide,by decide,by decide +kernel⟩,_,_,rfl,rfl,_,rfl,?_⟩
  refine Cc (fun _=>?_) (fun _=>?_)
  ·exact ⟨_,rfl,c,rfl,rfl,c0,c1⟩
  ·exact ⟨0,rfl,rfl,by decide,by decide +kernel⟩
 rintro σ' H' ⟨d,rfl,rfl,d0,d1⟩
 have e0:0<=c % 2147483629:=Hq _ (by decide)
 have e1:c % 2147483629 < 2147483629:=Iy _ (by decide)
 refine ⟨_,rfl,_,rfl,_,_,rfl,rfl,(by show (0:Int) < 2147483629;decide),_,rfl,_,_,rfl,rfl,⟨by decide +kernel,Jg (by omega) (by omega)⟩,_,_,rfl,rfl,_,_,rfl,rfl,_,_,rfl,rfl,⟨Jg (by omega) (by omega),by decide +kernel⟩,_,_,rfl,rfl,(by show (0:Int) < 2147483647;decide),?_⟩
 refine ⟨(by show 2<=sizeLine;decide),fun p hp=>?_⟩
 exact q p _ hp (C8 hp _) ⟨d,_,AN,d0,d1,Hq _ (by decide),Iy _ (by decide)⟩
def bh:Bq ["self"] ["self"] (As QN):=⟨rfl,rfl,rfl,by decide +kernel,rfl,by decide +kernel,by decide +kernel⟩
def Vd {A5:Addr}:∀ ss R,(Q5 A5) ss R->ss.length=1:=by rintro _ _ ⟨ks,rfl,_,rfl⟩;rfl
def jq {A5:Addr}(F:Ad K "words" "Errands.words" QN f fd) (mt:Meth K A5 "words" f) (DS:mg "list" = none) (CO:CY K A5) (Fd:DV K A5 "puts_by_word") :
  Pr P w K mg base A5 "words" 1 ["self"] (Cu (Q5 A5)):=by
 refine ⟨f,fd,F.DX (k:=0) bh (fun vs H Q E h=>Fz.J8 Vd h) (fun Ab A outer s H vs Q E hr h=>?_),(F.binds (by walk_at "bD1")),mt,CO⟩
 refine ⟨_,(AW rfl (CM (HX (jc rfl) DS (A1 (IC (qv 0)) A6)))),?_⟩
 refine Fz.Jj h Vd ?_
 rintro _ _ ⟨ks,rfl,g,rfl⟩
 show Ws [_] _ _ _
 have l8:=g.l8
 refine SV (fT (MG (AB rfl ⟨A5,EN,_,0,_,rfl,CO,Fd,by decide +kernel,rfl,BL (wk ks),_,rfl,by unfold BL;rw [AJ,AJ];omega,bw _⟩)))
def m6:Bq ["self", "word"] ["self", "word"] (As Rf):=⟨rfl,rfl,rfl,by decide +kernel,rfl,by decide +kernel,by decide +kernel⟩
def ZU {A5:Addr}{AQ:Addr}:∀ ss R D,(Mw A5 AQ) ss R D->ss.length=2:=by rintro _ _ _ ⟨ks,x,rfl,_,_,rfl,rfl⟩;rfl
def gf {A5:Addr}{AQ:Addr}(F:Ad K "puts" "Errands.puts" Rf f fd) (mt:Meth K A5 "puts" f) (GX:GO P w K mg base "check_word" 3 ["words", "word"] (DO (Lo AQ))) (DS:mg "list" = none) (CO:CY K A5) (Fd:DV K A5 "puts_by_word") :
  Ie P w K mg base A5 "puts" 4 ["self", "word"] (DO (Mw A5 AQ)):=by
 refine ⟨f,fd,F.TZ (k:=3) m6 (fun vs H Q E h=>Fz.RX ZU h) (fun Ab A outer s H vs Q E hr h=>?_),(F.binds (by walk_at "bD2")),mt,CO⟩
 refine ⟨_,(AL rfl (DE (QH GX hr (by decide) Qs rfl (A1 (IC (qv 0)) (A1 (qv 1) A6))))
   (AW rfl (CM (HX OP DS (A1 (WN (Lh hr) (IC (qv 0)) (qv 1) (fun _ _=>rfl)) A6))))),?_⟩
 refine Fz.Sz h ZU ?_
 rintro _ _ _ ⟨ks,x,rfl,g,sx,rfl,rfl⟩
 intro i0
 show Ws [_,_] _ _ _
 have l8:=g.l8
 refine Ar (Iv (Sn (CG (MG (AB rfl ⟨A5,EN,_,0,_,rfl,CO,Fd,by decide +kernel,rfl,CG (AB rfl (DY ⟨_,_,⟨wk ks,_,x,rfl,.inr ⟨_,rfl⟩,by rw [AJ];omega,sx,rfl,rfl⟩,trivial,fun e h=>h,?_⟩))⟩)))))
 rintro _ ⟨rfl,hx⟩
 obtain ⟨k,ek,_,ep,_,_⟩:=g.at hx
 refine SV (MV rfl (Dw (ZD (MG (AB rfl ⟨A5,EN,_,0,_,rfl,CO,Fd,by decide +kernel,rfl,BL (wk ks),_,rfl,AB rfl ⟨.inr x,_,rfl,Pb hx (by rw [Ak,ek];rfl),_,.inr ⟨rfl,hx,?_⟩⟩⟩)))))
 rw [ep]
def pY:Bq ["self", "word"] ["self", "word"] (As Qr):=⟨rfl,rfl,rfl,by decide +kernel,rfl,by decide +kernel,by decide +kernel⟩
def Vz {A5:Addr}{AQ:Addr}:∀ ss R D,(LG A5 AQ) ss R D->ss.length=2:=by rintro _ _ _ ⟨ks,x,rfl,_,_,rfl,rfl⟩;rfl
def dN {A5:Addr}{AQ:Addr}(F:Ad K "goes" "Errands.goes" Qr f fd) (mt:Meth K A5 "goes" f) (GX:GO P w K mg base "check_word" 3 ["words", "word"] (DO (Lo AQ))) (CO:CY K A5) (HP:DV K A5 "goes_by_word") :
  Ie P w K mg base A5 "goes" 4 ["self", "word"] (DO (LG A5 AQ)):=by
 refine ⟨f,fd,F.TZ (k:=3) pY (fun vs H Q E h=>Fz.RX Vz h) (fun Ab A outer s H vs Q E hr h=>?_),(F.binds (by walk_at "bD2")),mt,CO⟩
 refine ⟨_,(AL rfl (DE (QH GX hr (by decide) Qs rfl (A1 (IC (qv 0)) (A1 (qv 1) A6))))
   (AW rfl (CM (WN (Lh hr) (IC (qv 0)) (qv 1) (fun _ _=>rfl))))),?_⟩
 refine Fz.Sz h Vz ?_
 rintro _ _ _ ⟨ks,x,rfl,g,sx,rfl,rfl⟩
 intro i0
 show Ws [_,_] _ _ _
 have l8:=g.l8
 refine Ar (Iv (Sn (CG (MG (AB rfl ⟨A5,EN,_,1,_,rfl,CO,HP,by decide +kernel,rfl,CG (AB rfl (DY ⟨_,_,⟨wk ks,_,x,rfl,.inr ⟨_,rfl⟩,by rw [AJ];omega,sx,rfl,rfl⟩,trivial,fun e h=>h,?_⟩))⟩)))))
 rintro _ ⟨rfl,hx⟩
 obtain ⟨k,ek,_,_,eg,_⟩:=g.at hx
 refine K2 (ZD (MG (AB rfl ⟨A5,EN,_,1,_,rfl,CO,HP,by decide +kernel,rfl,BL (wk ks),_,rfl,AB rfl ⟨.inr x,_,rfl,Pb hx (by rw [Ak,ek];rfl),hx,?_⟩⟩)))
 rw [eg]
def KA:Bq ["book", "kinds", "held", "words", "word", "puts", "goes", "found"] ["book", "kinds", "held"] (As JD):=⟨rfl,rfl,rfl,by decide +kernel,rfl,by decide +kernel,by decide +kernel⟩
def mn:Scope:={ kind:=.function,names:=[(".0", .local),("row", .local)],isGenerator:=false,isCoroutine:=false,more:=[] }
def gR:Dz ["book", "kinds", "held", "words", "word", "puts", "goes", "found"] (As JD) mn "row" [] []:=⟨rfl,by decide +kernel,by decide +kernel,rfl,rfl,by decide +kernel,by decide +kernel,by decide +kernel,by decide +kernel⟩
def bK:Scope:={ kind:=.function,names:=[(".0", .local),("put", .local),("isinstance", .globalImplicit),("tuple", .globalImplicit)],isGenerator:=false,isCoroutine:=false,more:=[] }
def gC:Dz ["book", "kinds", "held", "words", "word", "puts", "goes", "found"] (As JD) bK "put" [] []:=⟨rfl,by decide +kernel,by decide +kernel,rfl,rfl,by decide +kernel,by decide +kernel,by decide +kernel,by decide +kernel⟩
def jV:Scope:={ kind:=.function,names:=[(".0", .local),("row", .local)],isGenerator:=false,isCoroutine:=false,more:=[] }
def jO:Dz ["book", "kinds", "held", "words", "word", "puts", "goes", "found"] (As JD) jV "row" [] []:=⟨rfl,by decide +kernel,by decide +kernel,rfl,rfl,by decide +kernel,by decide +kernel,by decide +kernel,by decide +kernel⟩
def Vr {A5:Addr}:∀ ss R,(Te K A5) ss R->ss.length=3:=by rintro _ _ ⟨ks,l,hs,rfl,_,_,_,rfl⟩;rfl
def dw {A5:Addr}{AQ:Addr}(F:Ad K "_law_same" "_law_same" JD f fd) (m:mg "_law_same" = some (.ref f)) (Iq:Ie P w K mg base A5 "goes" 4 ["self", "word"] (DO (LG A5 AQ))) (JM:Ie P w K mg base A5 "puts" 4 ["self", "word"] (DO (Mw A5 AQ))) (TK:Pr P w K mg base A5 "words" 1 ["self"] (Cu (Q5 A5))) (Gb:mg "all" = none) (Tx:mg "bool" = none) (BW:mg "isinstance" = none) (DS:mg "list" = none) (Em:mg "tuple" = none) :
  Am P w K mg base "_law_same" 7 ["book", "kinds", "held"] (Gz (Te K A5)):=by
 refine Am.mk F (F.binds (by walk_at "bD3")) m (F.DX (k:=6) KA (fun vs H Q E h=>Fz.Ym Vr h) (fun Ab A outer s H vs Q E hr h=>?_))
 refine ⟨_,(AL rfl (Aj 3 KA.nd (eO TK hr (by decide) (qv 0)))
   (AL rfl (Bv (Lv (HN (Gg (BF Kk BW (A1 (qv 3) (A1 (JT "list" DS) A6))))) (M9 (CD (PH hr.Rt) (qv 3) (Np rfl gR (Ek (qv 1)) (fun _ _ _ _=>by exact ID) (fun _ _ _ _=>by exact (BH (show G5 _ (GF K) from Cf) (qv 0) AH)))))).pt (AW rfl (CM Fm)) CA)
   (AL rfl (DD (FT Ez rfl (Ek (qv 1)) (Nu rfl (Fc (DA 4 KA.nd) (Fc (DA 5 KA.nd) (Fc (DA 6 KA.nd) OQ)))) (AL rfl (Aj 7 KA.nd (LA JM hr (by decide) NR rfl (qv 0) (A1 (qv 4) A6)))
   (AL rfl (Bv (Lv (HN (Gg (BF Kk BW (A1 (qv 7) (A1 (JT "list" DS) A6))))) (M9 (CD (Fz.nr hr.units) (qv 7) (HX OP DS (A1 (qv 5) A6))))).pt (AW rfl (CM Fm)) CA)
   (AL rfl (Bv (Lv (HN (Gg (BF Kk BW (A1 (LA Iq hr (by decide) NR rfl (qv 0) (A1 (qv 4) A6)) (A1 (JT "bool" Tx) A6))))) (M9 (CD dm (LA Iq hr (by decide) NR rfl (qv 0) (A1 (qv 4) A6)) (qv 6)))).pt (AW rfl (CM Fm)) CA)
   (AL rfl (Bv (HN (Gg (BF (U7 rfl) Gb (A1 (Np rfl gC (Ek (qv 7)) (fun _ _ _ _=>by exact ID) (fun _ _ _ _=>by exact (BF (show D6 _ (.builtin "isinstance") (MQ K) from Kk) BW (A1 (qv 0) (A1 (JT "tuple" Em) A6))))) A6)))) (AW rfl (CM Fm)) CA)
   (AL rfl (DE (FN G8 Ht Hu GV (qv 2) (A1 (EF (A1 (qv 7) (A1 (Ao XB (HX OP DS (A1 (qv 5) A6)) (FO (A1 (qv 4) A6))) A6))) A6)))
   (AW rfl (DE (FN G8 Ht Hu GV (qv 7) (A1 (qv 4) A6)))))))))))
   (AL rfl (DE (FN G8 Ht Hu GV (qv 2) (A1 (EF (A1 (qv 3) (A1 (Ao XB (Np rfl jO (Ek (qv 1)) (fun _ _ _ _=>by exact ID) (fun _ _ _ _=>by exact (BH (show G5 _ (GF K) from Cf) (qv 0) AH))) (FO (A1 BZ A6))) A6))) A6)))
   (AL rfl (DE (FN G8 Ht Hu GV (qv 3) (A1 BZ A6)))
   (AW rfl (CM Fm))))))),?_⟩
 refine Fz.j7 h Vr ?_
 rintro _ _ ⟨ks,l,hs,rfl,g,ok,hn,rfl⟩
 show Ws [_,_,_,.any,.any,.any,.any,.any] _ _ _
 have l8:=g.l8
 have Xt:(ks.map fun k=>PV.str k.w)=(wk ks).map .str:=by unfold wk;rw [Ci];rfl
 refine Ar (JW (ku (AB rfl ⟨EN,_,rfl,by decide +kernel,DY ⟨_,⟨ks,rfl,g,rfl⟩,?_⟩⟩)))
 rintro _ rfl
 refine Ar (Dl (MC (Hf (FX (rK (LY rfl ⟨true,MS _ _,_,rfl,Dt (by decide) ?_⟩))))))
 refine Fg (Y1 (LY rfl ⟨wk ks,rfl,Dw (E4 (M5 Kd.P (fun _=>true) (fun k=>PV.str k.w) (EI (EC (AB rfl ⟨_,.inl ⟨rfl,ks,rfl,by omega,fun k _=>II rfl,fun k _ _=>Dc (Ct rfl ⟨rfl,Bg ⟨_,_,rfl,rfl,rfl⟩⟩),?_⟩⟩))) Kd.inj))⟩))
 rw [List.filter_eq_self.mpr fun _ _=>rfl,Xt]
 refine ⟨_,.inl ⟨rfl,rfl,wk ks,rfl,_,rfl,?_⟩⟩
 rw [decide_eq_true rfl]
 refine Dt (by decide) (DF ?_)
 refine Ar (GR (HA (fun xs i A8=>∃ (BE:List (Addr×List PV)) (s4 s5 s6 s7:Slot),A8=[.is (B2 A5 ks),.is (.lst (ks.map Kd.P)),.ow true (Bc l BE),.own ((wk ks).map .str),s4,s5,s6,s7]/\BE.length=hs.length+i/\Kz K BE) (EI (EC (AB rfl ⟨_,.inl ⟨rfl,⟨hs,_,_,_,_,rfl,rfl,ok⟩,?_,?_⟩⟩)))))
 ·rintro i q A8 hq ⟨BE,s4,s5,s6,s7,rfl,lh,QB⟩
  rw [Ak] at hq
  obtain ⟨k,ek,rfl⟩:=Option.map_eq_some_iff.mp hq
  have hi:=(List.getElem?_eq_some_iff.mp ek).1
  have km:=EZ ek
  have kw:k.w∈wk ks:=List.mem_map.mpr ⟨k,km,rfl⟩
  have ix:(wk ks).idxOf k.w=i:=Yv g.nd (by rw [Ak,ek];rfl)
  have ep:JY ks k.w=k.ps:=by unfold JY;rw [ix,ek]
  have eg:Ki ks k.w=k.g:=by unfold Ki;rw [ix,ek]
  have p6:=(g.ps k km).1
  have sy:=PU (g.nm k km)
  refine Zl ⟨_,_,_,rfl,?_⟩
  refine Ar (JW (Xn (AB rfl ⟨EN,_,rfl,by decide +kernel,CG (AB rfl (DY ⟨_,_,⟨ks,k.w,rfl,g,sy,rfl,rfl⟩,trivial,fun e h=>h.1 kw,?_⟩))⟩)))
  rintro _ ⟨_,rfl⟩
  rw [ep]
  show Ws [.is (B2 A5 ks),.is (.lst (ks.map Kd.P)),.ow true (Bc l BE),.own ((wk ks).map .str),.is (.str k.w),.is (.tup (k.ps.map Al)),.is (.bl k.g),.own (k.ps.map Al)] _ _ _
  have CH:List.map Df [.is (B2 A5 ks),.is (.lst (ks.map Kd.P)),.ow true (Bc l BE),.own ((wk ks).map .str),.is (.str k.w),.is (.tup (k.ps.map Al)),.is (.bl k.g),.own (k.ps.map Al)]=[.is (B2 A5 ks),.is (.lst (ks.map Kd.P)),.is (Bc l BE).pv,.is (.lst ((wk ks).map .str)),.is (.str k.w),.is (.tup (k.ps.map Al)),.is (.bl k.g),.is (.lst (k.ps.map Al))]:=rfl
  refine Ar (Dl (XX ?_))
  rw [CH]
  refine MC (Hf (FX (Mj (AB rfl ⟨true,MS _ _,_,rfl,Dt (by decide) ?_⟩))))
  refine Fg (YH (AB rfl (E4 (MV rfl (Ct rfl ⟨Rp _,Rp _,_,rfl,Dt (by rw [Zi 40 (Rp (K:=K) k.ps)];decide) (DF ?_)⟩)))))
  have go:∀ {ss:List Slot}{kk:PV->Prop},ss[0]?=some (.is (B2 A5 ks))->ss[4]?=some (.is (.str k.w))->kk (.bl k.g)->Wp ss (OM A5 "goes" (DO (LG A5 AQ)) Xw.e (BB 0) (AK (BB 4) AS)) kk:=fun h0 h4 hk=>YF (AB h0 ⟨EN,_,rfl,by decide +kernel,CG (AB h4 (DY ⟨_,_,⟨ks,k.w,rfl,g,sy,rfl,rfl⟩,trivial,fun e h=>h.1 kw,fun p h=>by rw [h.2,eg];exact hk⟩))⟩)
  refine Ar (Dl (MC (Hf (FX (Mj (go rfl rfl ⟨true,MS _ _,_,rfl,Dt (by decide) ?_⟩))))))
  refine Fg (Uw (go rfl rfl (AB rfl ⟨rfl,_,rfl,Dt (by simp [alike]) (DF ?_)⟩)))
  refine Ar (Dl (XX ?_))
  rw [CH]
  refine Hf (FX (TL rfl (Dw (E4 (M5 Al (fun _=>true) (fun _=>PV.bl true) (EI (EC (AB rfl ⟨_,.inl ⟨rfl,k.ps,rfl,by omega,fun _ _=>II rfl,fun p _ _=>Mj (AB rfl ⟨true,MS _ _,rfl⟩),?_⟩⟩))) jE)))))
  rw [List.filter_eq_self.mpr fun _ _=>rfl]
  refine ⟨_,.inl ⟨rfl,rfl,k.ps.map fun _=>true,by rw [Ci];rfl,_,rfl,?_⟩⟩
  rw [show (k.ps.map fun _=>true).all id=true from List.all_eq_true.mpr fun b hb=>by obtain ⟨_,_,rfl⟩:=List.mem_map.mp hb;rfl]
  refine Dt (by decide) (DF ?_)
  refine V8 7 rfl fun b=>?_
  show Ws [.is (B2 A5 ks),.is (.lst (ks.map Kd.P)),.ow true (Bc l BE),.own ((wk ks).map .str),.is (.str k.w),.is (.tup (k.ps.map Al)),.is (.bl k.g),.ow false (.nd .lst b ((k.ps.map Al).map .fz))] _ _ _
  refine Ar (aB (i:=2) (t:=Bc l BE) 7 (ptr b) (fun v F F' _ h=>h) (VN rfl) (Cg rfl ⟨true,l,_,rfl,rfl,by rw [AJ];omega,?_⟩))
  refine SU (Fi (VC rfl (Fi (Ee (E4 (QL (Dw (E4 (MV rfl (Ct rfl ⟨_,.inl ⟨rfl,rfl,Dw (E4 (L7 (ED (AB rfl (GH ⟨by show 1<=100000;decide,_,.inl ⟨rfl,rfl,?_⟩⟩)))))⟩⟩))))))))))
  refine ⟨by rw [AJ];show _+1<=_;omega,Ko ⟨(fun _ h=>by cases h),(fun _ _ h=>by cases h),(by show 2<=100000;decide),by decide,?_⟩⟩
  rw [OV.EA]
  show Ws [.is (B2 A5 ks),.is (.lst (ks.map Kd.P)),.ow true (.nd .lst l ((BE.map fun h=>.tp [.nd .lst h.1 (h.2.map .fz),.fz (.lst h.2)])++[.tp [.nd .lst b ((k.ps.map Al).map .fz),.fz (.lst (k.ps.map Al++[.str k.w]))]])),.own ((wk ks).map .str),.is (.str k.w),.is (.tup (k.ps.map Al)),.is (.bl k.g),.raw (ptr b)] _ _ _
  refine Kw (i:=2) (Na (i:=2) (p:=[BE.length,0]) rfl rfl (W6 l b BE (k.ps.map Al) _) ⟨true,b,_,rfl,rfl,by rw [AJ,AJ];omega,Ee (AB rfl ⟨by decide,?_⟩)⟩)
  rw [Wd]
  exact ⟨_,_,_,_,_,rfl,by rw [DL];show _+1=_;omega,Yp QB (aN _ _)⟩
 ·rintro A8 ⟨BE,s4,s5,s6,s7,rfl,lh,QB⟩
  rw [AJ] at lh
  refine V8 3 rfl fun b=>?_
  show Ws [.is (B2 A5 ks),.is (.lst (ks.map Kd.P)),.ow true (Bc l BE),.ow false (.nd .lst b (((wk ks).map .str).map .fz)),s4,s5,s6,s7] _ _ _
  refine Ar (aB (i:=2) (t:=Bc l BE) 3 (ptr b) (fun v F F' _ h=>h) (VN rfl) (Cg rfl ⟨true,l,_,rfl,rfl,by rw [AJ];omega,?_⟩))
  refine SU (Fi (VC rfl (Fi (Ee (E4 (QL (Dw (E4 (M5 Kd.P (fun _=>true) (fun k=>PV.str k.w) (EI (EC (AB rfl ⟨_,.inl ⟨rfl,ks,rfl,by omega,fun k _=>II rfl,fun k _ _=>Dc (Ct rfl ⟨rfl,Bg ⟨_,_,rfl,rfl,rfl⟩⟩),?_⟩⟩))) Kd.inj)))))))))
  rw [List.filter_eq_self.mpr fun _ _=>rfl,Xt]
  refine ⟨_,.inl ⟨rfl,rfl,Dw (E4 (L7 (ED (Gh (GH ⟨by show 1<=100000;decide,_,.inl ⟨rfl,rfl,?_⟩⟩)))))⟩⟩
  refine ⟨by rw [AJ,AJ];show _+1<=_;omega,Ko ⟨(fun _ h=>by cases h),(fun _ _ h=>by cases h),(by show 2<=100000;decide),by decide,?_⟩⟩
  rw [OV.EA]
  show Ws [.is (B2 A5 ks),.is (.lst (ks.map Kd.P)),.ow true (.nd .lst l ((BE.map fun h=>.tp [.nd .lst h.1 (h.2.map .fz),.fz (.lst h.2)])++[.tp [.nd .lst b (((wk ks).map .str).map .fz),.fz (.lst ((wk ks).map .str++[.str ""]))]])),.raw (ptr b),s4,s5,s6,s7] _ _ _
  refine Ar (Kw (i:=2) (Na (i:=2) (p:=[BE.length,0]) rfl rfl (W6 l b BE ((wk ks).map .str) _) ⟨true,b,_,rfl,rfl,by rw [AJ,AJ,AJ];omega,Ee (Gh ⟨by decide,?_⟩)⟩))
  rw [Wd]
  refine kC (i:=2) rfl (Jx ⟨rfl,_,rfl,by rw [DL];show _+1<=_;omega,Yp QB (bo _ _)⟩)
def VL:Bq ["e", "place", "some"] ["e", "place"] (As Sk):=⟨rfl,rfl,rfl,by decide +kernel,rfl,by decide +kernel,by decide +kernel⟩
def Zg {D7:Addr}{Cs:Addr}{Cw:Addr}{Cq:Addr}{D1:Addr}{AQ:Addr}{Cp:Addr}{Ck:Addr}{Cv:Addr}{Cn:Addr}{D5:Addr}{D4:Addr}{D2:Addr}{DB:Addr}{Bo:Addr}{Cr:Addr}{Co:Addr}:∀ ss R,(TJ K [AQ,Cr,Cw,Ck,Cn,Cq,DB,D2,D5,Cs,Co,D1,D4,D7,Cp,Cv] Bo) ss R->ss.length=2:=by rintro _ _ ⟨C,ms,xs,i,rfl,_,_,_,rfl⟩;rfl
def nZ {D7:Addr}{Cs:Addr}{Cw:Addr}{Cq:Addr}{D1:Addr}{AQ:Addr}{Cp:Addr}{Ck:Addr}{Cv:Addr}{Cn:Addr}{D5:Addr}{D4:Addr}{D2:Addr}{DB:Addr}{Bo:Addr}{Cr:Addr}{Co:Addr}(F:Ad K "_law_alone" "_law_alone" Sk f fd) (m:mg "_law_alone" = some (.ref f)) (UA:mg "ValueError" = none) (BW:mg "isinstance" = none) (QQ:mg "Endless" = some (.ref D7)) (Qd:mg "Full" = some (.ref Cs)) (Pc:mg "Gone" = some (.ref Cw)) (Q9:mg "NoLog" = some (.ref Cq)) (RG:mg "NoLoop" = some (.ref D1)) (Jv:mg "NoName" = some (.ref AQ)) (UL:mg "NoOrders" = some (.ref Cp)) (RQ:mg "NoPlace" = some (.ref Ck)) (RU:mg "NoRow" = some (.ref Cv)) (UC:mg "NoRule" = some (.ref Cn)) (QZ:mg "NoText" = some (.ref D5)) (Q7:mg "NoTicket" = some (.ref D4)) (UD:mg "NoWhere" = some (.ref D2)) (UO:mg "Stale" = some (.ref DB)) (IT:mg "StirError" = some (.ref Bo)) (Qc:mg "There" = some (.ref Cr)) (Rh:mg "TooMany" = some (.ref Co)) :
  Am P w K mg base "_law_alone" 1 ["e", "place"] (Cu (TJ K [AQ,Cr,Cw,Ck,Cn,Cq,DB,D2,D5,Cs,Co,D1,D4,D7,Cp,Cv] Bo)):=by
 refine Am.mk F (F.binds (by walk_at "bD2")) m (F.DX (k:=0) VL (fun vs H Q E h=>Fz.J8 Zg h) (fun Ab A outer s H vs Q E hr h=>?_))
 refine ⟨_,(AL rfl (Aj 2 VL.nd (FO (A1 (BF D8 BW (A1 (qv 0) (A1 (C0 (v:=.ref AQ) (by rfl) Jv rfl) A6))) (A1 (BF D8 BW (A1 (qv 0) (A1 (C0 (v:=.ref Cr) (by rfl) Qc rfl) A6))) (A1 (BF D8 BW (A1 (qv 0) (A1 (C0 (v:=.ref Cw) (by rfl) Pc rfl) A6))) (A1 (BF D8 BW (A1 (qv 0) (A1 (C0 (v:=.ref Ck) (by rfl) RQ rfl) A6))) (A1 (BF D8 BW (A1 (qv 0) (A1 (C0 (v:=.ref Cn) (by rfl) UC rfl) A6))) (A1 (BF D8 BW (A1 (qv 0) (A1 (C0 (v:=.ref Cq) (by rfl) Q9 rfl) A6))) (A1 (BF D8 BW (A1 (qv 0) (A1 (C0 (v:=.ref DB) (by rfl) UO rfl) A6))) (A1 (BF D8 BW (A1 (qv 0) (A1 (C0 (v:=.ref D2) (by rfl) UD rfl) A6))) (A1 (BF D8 BW (A1 (qv 0) (A1 (C0 (v:=.ref D5) (by rfl) QZ rfl) A6))) (A1 (BF D8 BW (A1 (qv 0) (A1 (C0 (v:=.ref Cs) (by rfl) Qd rfl) A6))) (A1 (BF D8 BW (A1 (qv 0) (A1 (C0 (v:=.ref Co) (by rfl) Rh rfl) A6))) (A1 (BF D8 BW (A1 (qv 0) (A1 (C0 (v:=.ref D1) (by rfl) RG rfl) A6))) (A1 (BF D8 BW (A1 (qv 0) (A1 (C0 (v:=.ref D4) (by rfl) Q7 rfl) A6))) (A1 (BF D8 BW (A1 (qv 0) (A1 (C0 (v:=.ref D7) (by rfl) QQ rfl) A6))) (A1 (BF D8 BW (A1 (qv 0) (A1 (C0 (v:=.ref Cp) (by rfl) UL rfl) A6))) (A1 (BF D8 BW (A1 (qv 0) (A1 (C0 (v:=.ref Cv) (by rfl) RU rfl) A6))) A6))))))))))))))))))
   (AL rfl (Bv (Lv (HN (Gg (BF D8 BW (A1 (qv 0) (A1 (C0 (v:=.ref Bo) (by rfl) IT rfl) A6))))) (M9 (HN (Gg (BF D8 BW (A1 (qv 0) (A1 (JT "ValueError" UA) A6))))))).pt (AW rfl (CM Fm)) CA)
   (AW rfl (CM (GP (LJ HH (FN G8 PySem.F.slot_list_count PySem.F.type_list_count p0 (qv 2) (A1 Fm A6)) AH) (Im (BH EG (qv 2) (qv 1)))))))),?_⟩
 refine Fz.Jj h Zg ?_
 rintro _ _ ⟨C,ms,xs,i,rfl,al,hi,_,rfl⟩
 show Ws [_,_,.any] _ _ _
 walk_at "ww"
 refine Cy (AB rfl ⟨⟨fun _ _ _ z=>(by cases z),fun _ _ z=>(by cases z)⟩,_,_,_,rfl,⟨rfl,al.ex⟩,al.at_ 0 (by show 0 < 16;decide),?_⟩)
 walk_at "ww"
 refine Cy (AB rfl ⟨⟨fun _ _ _ z=>(by cases z),fun _ _ z=>(by cases z)⟩,_,_,_,rfl,⟨rfl,al.ex⟩,al.at_ 1 (by show 1 < 16;decide),?_⟩)
 walk_at "ww"
 refine Cy (AB rfl ⟨⟨fun _ _ _ z=>(by cases z),fun _ _ z=>(by cases z)⟩,_,_,_,rfl,⟨rfl,al.ex⟩,al.at_ 2 (by show 2 < 16;decide),?_⟩)
 walk_at "ww"
 refine Cy (AB rfl ⟨⟨fun _ _ _ z=>(by cases z),fun _ _ z=>(by cases z)⟩,_,_,_,rfl,⟨rfl,al.ex⟩,al.at_ 3 (by show 3 < 16;decide),?_⟩)
 walk_at "ww"
 refine Cy (AB rfl ⟨⟨fun _ _ _ z=>(by cases z),fun _ _ z=>(by cases z)⟩,_,_,_,rfl,⟨rfl,al.ex⟩,al.at_ 4 (by show 4 < 16;decide),?_⟩)
 walk_at "ww"
 refine Cy (AB rfl ⟨⟨fun _ _ _ z=>(by cases z),fun _ _ z=>(by cases z)⟩,_,_,_,rfl,⟨rfl,al.ex⟩,al.at_ 5 (by show 5 < 16;decide),?_⟩)
 walk_at "ww"
 refine Cy (AB rfl ⟨⟨fun _ _ _ z=>(by cases z),fun _ _ z=>(by cases z)⟩,_,_,_,rfl,⟨rfl,al.ex⟩,al.at_ 6 (by show 6 < 16;decide),?_⟩)
 walk_at "ww"
 refine Cy (AB rfl ⟨⟨fun _ _ _ z=>(by cases z),fun _ _ z=>(by cases z)⟩,_,_,_,rfl,⟨rfl,al.ex⟩,al.at_ 7 (by show 7 < 16;decide),?_⟩)
 walk_at "ww"
 refine Cy (AB rfl ⟨⟨fun _ _ _ z=>(by cases z),fun _ _ z=>(by cases z)⟩,_,_,_,rfl,⟨rfl,al.ex⟩,al.at_ 8 (by show 8 < 16;decide),?_⟩)
 walk_at "ww"
 refine Cy (AB rfl ⟨⟨fun _ _ _ z=>(by cases z),fun _ _ z=>(by cases z)⟩,_,_,_,rfl,⟨rfl,al.ex⟩,al.at_ 9 (by show 9 < 16;decide),?_⟩)
 walk_at "ww"
 refine Cy (AB rfl ⟨⟨fun _ _ _ z=>(by cases z),fun _ _ z=>(by cases z)⟩,_,_,_,rfl,⟨rfl,al.ex⟩,al.at_ 10 (by show 10 < 16;decide),?_⟩)
 walk_at "ww"
 refine Cy (AB rfl ⟨⟨fun _ _ _ z=>(by cases z),fun _ _ z=>(by cases z)⟩,_,_,_,rfl,⟨rfl,al.ex⟩,al.at_ 11 (by show 11 < 16;decide),?_⟩)
 walk_at "ww"
 refine Cy (AB rfl ⟨⟨fun _ _ _ z=>(by cases z),fun _ _ z=>(by cases z)⟩,_,_,_,rfl,⟨rfl,al.ex⟩,al.at_ 12 (by show 12 < 16;decide),?_⟩)
 walk_at "ww"
 refine Cy (AB rfl ⟨⟨fun _ _ _ z=>(by cases z),fun _ _ z=>(by cases z)⟩,_,_,_,rfl,⟨rfl,al.ex⟩,al.at_ 13 (by show 13 < 16;decide),?_⟩)
 walk_at "ww"
 refine Cy (AB rfl ⟨⟨fun _ _ _ z=>(by cases z),fun _ _ z=>(by cases z)⟩,_,_,_,rfl,⟨rfl,al.ex⟩,al.at_ 14 (by show 14 < 16;decide),?_⟩)
 walk_at "ww"
 refine Cy (AB rfl ⟨⟨fun _ _ _ z=>(by cases z),fun _ _ z=>(by cases z)⟩,_,_,_,rfl,⟨rfl,al.ex⟩,al.at_ 15 (by show 15 < 16;decide),?_⟩)
 walk_at "ww"
 refine ⟨by simp,?_⟩
 refine Ar (Dl (MC (Hf (FX (Cy (AB rfl ⟨⟨fun _ _ _ z=>(by cases z),fun _ _ z=>(by cases z)⟩,_,_,_,rfl,⟨rfl,al.ex⟩,al.st,true,rfl,M4 ?_⟩))))))
 refine Hf (FX (Cy (AB rfl ⟨⟨fun _ _ _ z=>(by cases z),fun _ _ z=>(by cases z)⟩,_,_,_,rfl,⟨rfl,al.ex⟩,al.ve,true,rfl,M4 (DF ?_)⟩)))
 refine K2 (Jh (NH (cO (LY rfl ⟨rfl,[decide (0=i),decide (1=i),decide (2=i),decide (3=i),decide (4=i),decide (5=i),decide (6=i),decide (7=i),decide (8=i),decide (9=i),decide (10=i),decide (11=i),decide (12=i),decide (13=i),decide (14=i),decide (15=i)],rfl,Jx ⟨true,rfl,Bg ?_⟩⟩))))
 have Du:i < 16:=hi
 refine ⟨rfl,_,rfl,FE (by rw [lZ Du];rfl) (Tb (LY rfl ⟨rfl,AB rfl ⟨_,_,rfl,rA Du,rfl⟩⟩))⟩
def Nc:Bq ["book", "word", "puts", "found", "e"] ["book", "word", "puts"] (As RE):=⟨rfl,rfl,rfl,by decide +kernel,rfl,by decide +kernel,by decide +kernel⟩
def Z4 {A5:Addr}:∀ ss R,(RD A5) ss R->ss.length=3:=by rintro _ _ ⟨ks,x,b,rfl,_,_,_,rfl⟩;rfl
def jn {D7:Addr}{A5:Addr}{Cs:Addr}{Cw:Addr}{Cq:Addr}{D1:Addr}{AQ:Addr}{Cp:Addr}{Ck:Addr}{Cv:Addr}{Cn:Addr}{D5:Addr}{D4:Addr}{D2:Addr}{DB:Addr}{Bo:Addr}{Cr:Addr}{Co:Addr}(F:Ad K "_law_refused" "_law_refused" RE f fd) (m:mg "_law_refused" = some (.ref f)) (Iq:Ie P w K mg base A5 "goes" 4 ["self", "word"] (DO (LG A5 AQ))) (JM:Ie P w K mg base A5 "puts" 4 ["self", "word"] (DO (Mw A5 AQ))) (S7:Am P w K mg base "_law_alone" 1 ["e", "place"] (Cu (TJ K [AQ,Cr,Cw,Ck,Cn,Cq,DB,D2,D5,Cs,Co,D1,D4,D7,Cp,Cv] Bo))) (IT:mg "StirError" = some (.ref Bo)) (RN:PySem.W.exmOne K (.ref AQ) (.ref Bo)=some true) (JG:Nq K [AQ,Cr,Cw,Ck,Cn,Cq,DB,D2,D5,Cs,Co,D1,D4,D7,Cp,Cv] Bo AQ 0=true) (QC:PySem.W.hasDictIn K AQ=true) (UK:PySem.W.findIn K (.ref AQ) "name" = some none) :
  Am P w K mg base "_law_refused" 6 ["book", "word", "puts"] (Cu (RD A5)):=by
 refine Am.mk F (F.binds (by walk_at "bD3")) m (F.DX (k:=5) Nc (fun vs H Q E h=>Fz.J8 Z4 h) (fun Ab A outer s H vs Q E hr h=>?_))
 refine ⟨_,(AL rfl (Aj 3 Nc.nd md)
   (AL rfl (i4 (j:=4) rfl rfl Nc.nd rfl rfl (by rfl) IT (fun _ _ _ g1=>by exact (AW rfl (Bv (Gg (qv 2)) (AW rfl (DE (LA JM hr (by decide) g1 rfl (qv 0) (A1 (qv 1) A6)))) (AW rfl (DE (LA Iq hr (by decide) g1 rfl (qv 0) (A1 (qv 1) A6))))))) (fun _=>by exact (AW rfl (Aj 3 Nc.nd (qv 4)))))
   (AW rfl (CM (GP (B7 S7 hr (A1 (qv 3) (A1 AH A6))) (Im (LJ HH (ou (qv 3)) (qv 1)))))))),?_⟩
 refine Fz.Jj h Z4 ?_
 rintro _ _ ⟨ks,x,b,rfl,g,sx,nx,rfl⟩
 have JG:=pQ JG
 show Ws [_,_,_,.any,.any] _ _ _
 refine Ar (JF (Xv ?_))
 refine Ar (j4 (fun A8=>A8=[.is (B2 A5 ks),.is (.str x),.is (.bl b),.is .A4,.any]) (fun e=>x∉wk ks/\e=⟨AQ,["name"],[.str x]⟩) (fun E=>?_) (fun MB e hJ hD=>?_))
 ·letI:Xw:=K7 E (fun A8=>A8=[.is (B2 A5 ks),.is (.str x),.is (.bl b),.is .A4,.any]) (fun e=>x∉wk ks/\e=⟨AQ,["name"],[.str x]⟩)
  refine Dl (FX (AB rfl ⟨b,rfl,Cc (fun _=>?_) (fun _=>?_)⟩))
  ·refine Iv (E4 (Xn (AB rfl ⟨EN,_,rfl,by decide +kernel,CG (AB rfl (DY ⟨_,_,⟨ks,x,rfl,g,sx,rfl,rfl⟩,rfl,fun e h=>h,fun xs h=>absurd h.1 nx⟩))⟩)))
  ·refine Iv (YF (AB rfl ⟨EN,_,rfl,by decide +kernel,CG (AB rfl (DY ⟨_,_,⟨ks,x,rfl,g,sx,rfl,rfl⟩,rfl,fun e h=>h,fun p h=>absurd h.1 nx⟩))⟩))
 ·subst hJ
  obtain ⟨_,rfl⟩:=hD
  refine ⟨RN,JF (AB rfl ?_)⟩
  refine K2 (Jh (wp_call (CG (AB rfl (CG (Bg (DY ⟨_,⟨AQ,_,_,0,rfl,JG,by show 0 < 16;decide,rfl,rfl⟩,?_⟩)))))))
  rintro _ rfl
  refine ⟨_,rfl,FE rfl ?_⟩
  exact NH (om (AB rfl ⟨AQ,_,rfl,JG.ex.toExGet,QC,UK,AB rfl ⟨rfl,by simp [alike]⟩⟩))
def CN:Bq ["script", "kinds", "others", "pot", "handed", "word", "puts", "goes", "first", "second", "held", "good", "words"] ["script"] (As Hh):=⟨rfl,rfl,rfl,by decide +kernel,rfl,by decide +kernel,by decide +kernel⟩
def lG:Scope:={ kind:=.function,names:=[(".0", .local),("row", .local)],isGenerator:=false,isCoroutine:=false,more:=[] }
def iA:Dz ["script", "kinds", "others", "pot", "handed", "word", "puts", "goes", "first", "second", "held", "good", "words"] (As Hh) lG "row" [] []:=⟨rfl,by decide +kernel,by decide +kernel,rfl,rfl,by decide +kernel,by decide +kernel,by decide +kernel,by decide +kernel⟩
def bA:Scope:={ kind:=.function,names:=[(".0", .local),("found", .local),("due", .local)],isGenerator:=false,isCoroutine:=false,more:=[] }
def bY:Iu ["script", "kinds", "others", "pot", "handed", "word", "puts", "goes", "first", "second", "held", "good", "words"] (As Hh) bA ["found", "due"] [] []:=⟨rfl,by decide +kernel,by decide +kernel,by decide +kernel,rfl,by decide +kernel,by decide +kernel,by decide +kernel,by decide +kernel⟩
def p8 {D7:Addr}{A5:Addr}{Cs:Addr}{Cw:Addr}{Cq:Addr}{D1:Addr}{AQ:Addr}{Cp:Addr}{Ck:Addr}{Cv:Addr}{Cn:Addr}{D5:Addr}{D4:Addr}{D2:Addr}{DB:Addr}{Bo:Addr}{Cr:Addr}{Co:Addr}(F:Ad K "law" "law" Hh f fd) (m:mg "law" = some (.ref f)) (Kj:Td P w K mg base A5 6 ["self", "kinds"] (Gz (U3 A5))) (OI:Am P w K mg base "_law_kinds" 4 ["pot"] (Cu TB)) (Kv:Am P w K mg base "_law_pot" 1 ["script", "k"] (MH K)) (Ng:Am P w K mg base "_law_refused" 6 ["book", "word", "puts"] (Cu (RD A5))) (K5:Am P w K mg base "_law_same" 7 ["book", "kinds", "held"] (Gz (Te K A5))) (C5:Am P w K mg base "_law_take" 1 ["pot", "many"] (Lc)) (Gb:mg "all" = none) (BW:mg "isinstance" = none) (DS:mg "list" = none) (Em:mg "tuple" = none) (Ll:mg "Errands" = some (.ref A5)) :
  Ba P w K mg base DQ 9 f fd ["script"] (LW K):=by
 refine (F.DX (k:=8) CN (fun vs H Q E h=>by obtain ⟨a,ns,rfl,_⟩:=h;rfl) (fun Ab A outer s H vs Q E hr h=>?_))
 refine ⟨_,(AL rfl (Aj 1 CN.nd (B7 OI hr (A1 (B7 Kv hr (A1 (qv 0) (A1 AH A6))) A6)))
   (AL rfl (Aj 2 CN.nd (B7 OI hr (A1 (B7 Kv hr (A1 (qv 0) (A1 AH A6))) A6)))
   (AL rfl (Aj 3 CN.nd (B7 Kv hr (A1 (qv 0) (A1 AH A6))))
   (AL rfl (Aj 4 CN.nd (FO A6))
   (AL rfl (DD (FT Ez rfl (Ek (qv 1)) (Nu rfl (Fc (DA 5 CN.nd) (Fc (DA 6 CN.nd) (Fc (DA 7 CN.nd) OQ)))) (AW rfl (DE (FN G8 Ht Hu GV (qv 4) (A1 (EF (A1 (qv 5) (A1 (BH Cf (EF (A1 (HX OP DS (A1 (qv 6) A6)) (A1 (qv 6) A6))) (B7 C5 hr (A1 (qv 3) (A1 AH A6)))) (A1 (qv 7) A6)))) A6))))))
   (AL rfl (DD (Bv (CD HH (B7 C5 hr (A1 (qv 3) (A1 AH A6))) AH) (AW rfl (Aj 8 CN.nd (P1 Kj hr (by decide) Ll (A1 (HX R8 Em (A1 (qv 4) A6)) A6)))) (AW rfl (Aj 8 CN.nd (P1 Kj hr (by decide) Ll (A1 (qv 4) A6))))))
   (AL rfl (Aj 9 CN.nd (P1 Kj hr (by decide) Ll (A1 (qv 2) A6)))
   (AL rfl (Aj 10 CN.nd (FO A6))
   (AL rfl (Aj 11 CN.nd (GP (B7 K5 hr (A1 (qv 8) (A1 (qv 1) (A1 (qv 10) A6)))) (Im (B7 K5 hr (A1 (qv 9) (A1 (qv 2) (A1 (qv 10) A6)))))))
   (AL rfl (DD (FT Ez rfl (bg (qv 4)) (Nu rfl (Fc (DA 5 CN.nd) (Fc (DA 6 CN.nd) (Fc (DA 7 CN.nd) OQ)))) (AW rfl (Bv (Gg (BF Kk BW (A1 (qv 6) (A1 (JT "list" DS) A6)))) (AW rfl (DE (FN G8 Ht Hu GV (qv 6) (A1 (EF (A1 BZ (A1 (qv 5) A6))) A6)))) CA))))
   (AL rfl (DE (FN G8 Ht Hu GV (qv 4) (A1 (EF (A1 BZ (A1 (EF A6) (A1 Fm A6)))) A6)))
   (AL rfl (Zd (i:=12) CN.nd rfl (Or.inl rfl) rfl iA (Ek (qv 1)) (fun _ _ _ _=>by exact ID) (fun _ _ _ _=>by exact (BH (show G5 _ (GF K) from Cf) (qv 0) AH)))
   (AL rfl (DD (FT Ez rfl (Ek (EF (A1 BZ (A1 BZ (A1 BZ (A1 BZ (A1 (BH Cf (BH EG (qv 2) AH) AH) A6))))))) (DA 5 CN.nd) (AW rfl (Bv (CD PR (qv 5) (qv 12)) (AW rfl (Aj 11 CN.nd (GP (qv 11) (GP (B7 Ng hr (A1 (qv 8) (A1 (qv 5) (A1 Fm A6)))) (Im (B7 Ng hr (A1 (qv 8) (A1 (qv 5) (A1 Fm A6))))))))) CA))))
   (AL rfl (Aj 11 CN.nd (GP (qv 11) (GP (B7 K5 hr (A1 (qv 8) (A1 (qv 1) (A1 (qv 10) A6)))) (Im (B7 K5 hr (A1 (qv 9) (A1 (qv 2) (A1 (qv 10) A6))))))))
   (AW rfl (CM (GP (qv 11) (Im (BF (U7 rfl) Gb (A1 (bQ rfl bY (.cons (.cons .nil)) (fun _=>rfl) (fun _=>rfl) (Ek (qv 10)) (fun _ _ _ _=>by exact ID) (fun _ _ _ _=>by exact (LJ (show Aw _ (compareOp .Eq) (Fz.Ld K false) from (Fz.cw hr.units)) (qv 0) (qv 1)))) A6)))))))))))))))))))),?_⟩
 refine Fz.iS h ?_
 intro sc Yn
 show Ws [_,.any,.any,.any,.any,.any,.any,.any,.any,.any,.any,.any,.any] _ _ _
 refine Ar (JF (W0 rfl (Bg ⟨_,rfl,by decide,by decide,DY ⟨[],_,rfl,⟨rfl,rfl⟩,?_⟩⟩)))
 rintro _ ⟨ks,rfl,g⟩
 refine Ar (JF (W0 rfl (Bg ⟨_,rfl,by decide,by decide,DY ⟨[],_,rfl,⟨rfl,rfl⟩,?_⟩⟩)))
 rintro _ ⟨os,rfl,go⟩
 have l8:=g.l8
 have o1:=go.l1
 have o8:=go.l8
 refine Ar (Xk rfl (Bg ⟨_,rfl,by decide,by decide,?_⟩))
 refine Ar (KN (Tq (L7 (GH ⟨by decide,fun h=>?_⟩))))
 show Ws [.raw (Br K sc),.is (.lst (ks.map Kd.P)),.is (.lst (os.map Kd.P)),.AI,.ow false (.nd .lst h (([]:List (Option Addr×Kd)).map EL)),.any,.any,.any,.any,.any,.any,.any,.any] _ _ _
 refine Ar (GR (HA (fun xs i A8=>∃ (ps:List (Option Addr×Kd)) (s5 s6 s7:Slot),A8=[.raw (Br K sc),.is (.lst (ks.map Kd.P)),.is (.lst (os.map Kd.P)),.AI,.ow false (.nd .lst h (ps.map EL)),s5,s6,s7,.any,.any,.any,.any,.any]/\ps.map (·.2)=ks.take i) (EI (EC (AB rfl ⟨_,.inl ⟨rfl,⟨[],_,_,_,rfl,rfl⟩,?_,?_⟩⟩)))))
 ·rintro i q A8 hq ⟨ps,s5,s6,s7,rfl,ep⟩
  rw [Ak] at hq
  obtain ⟨k,ek,rfl⟩:=Option.map_eq_some_iff.mp hq
  have lp:ps.length<=8:=by
   have:=congrArg List.length ep
   rw [AJ,EY] at this;omega
  refine Zl ⟨_,_,_,rfl,?_⟩
  refine Kw (i:=4) (Cg rfl ⟨false,h,_,rfl,rfl,by rw [AJ];omega,?_⟩)
  refine SU (Fi (Ee (AB rfl (Fi (jl ?_)))))
  refine Fi (Tq (MV rfl (Ct rfl fun b=>Fi (Ee (AB rfl (Ko ⟨(fun _ h=>by cases h),(fun _ h=>by cases h),_,_,rfl,QJ rfl (Bg ⟨_,rfl,by decide,by decide,fun d d0 d1=>⟨d.toNat,by omega,by rw [rS d0],fun _=>?_,fun _=>?_⟩⟩)⟩))))))
  ·refine Fi (Ee (AB rfl (Ko ⟨(fun _ h=>by cases h),(fun _ h=>by cases h),(fun _ h=>by cases h),(by show 3<=100000;decide),by decide,ps++[(some b,k)],.is (.str k.w),.is (.tup (k.ps.map Al)),.is (.bl k.g),?_,?_⟩)))
   ·rw [OV.EA,Dp];rfl
   ·rw [Dp,ep,TU ek];rfl
  ·refine Fi (Ee (AB rfl (Ko ⟨(fun _ h=>by cases h),(fun _ h=>by cases h),(fun _ h=>by cases h),(by show 3<=100000;decide),by decide,ps++[(none,k)],.is (.str k.w),.is (.tup (k.ps.map Al)),.is (.bl k.g),?_,?_⟩)))
   ·rw [OV.EA,Dp];rfl
   ·rw [Dp,ep,TU ek];rfl
 rintro A8 ⟨ps,s5,s6,s7,rfl,ep⟩
 rw [AJ,J1] at ep
 have fY:ps.length=ks.length:=by
  have:=congrArg List.length ep
  rw [AJ] at this;exact this
 have gk:KG (Bk (ps.map Gy)):=by rw [aO,ep];exact g
 have Uo:Bk (ps.map Gy)=ks:=by rw [aO,ep]
 have CH:List.map Df [.raw (Br K sc),.is (.lst (ks.map Kd.P)),.is (.lst (os.map Kd.P)),.AI,.ow false (.nd .lst h (ps.map EL)),s5,s6,s7,.any,.any,.any,.any,.any]=[.raw (Br K sc),.is (.lst (ks.map Kd.P)),.is (.lst (os.map Kd.P)),.any,.is (C9 false ((ps.map Gy).map KdS)),Df s5,Df s6,Df s7,.any,.any,.any,.any,.any]:=by
  rw [show C9 false ((ps.map Gy).map KdS)=(OV.nd .lst h (ps.map EL)).pv from (gO h ps).symm];rfl
 refine ZL (fun A8=>∃ dx x b1 b2:Addr,A8=[.raw (Br K sc),.is (.lst (ks.map Kd.P)),.is (.lst (os.map Kd.P)),.AI,.ow false (.nd .lst h (ps.map EL)),s5,s6,s7,.ow false (Fj A5 dx x b1 b2 ks),.any,.any,.any,.any]) ?_ ?_
 ·refine GR (Dl (Fg (NH (QJ rfl (Bg ⟨_,rfl,by decide,by decide,fun d _ _=>Bg ⟨rfl,_,rfl,Cc (fun _=>?_) (fun _=>?_)⟩⟩)))))
  ·refine KN (Xs ?_)
   rw [CH]
   refine PD (RV (Ts rfl (Zm rfl (Hw fun x dx=>⟨_,⟨dx,x,true,ps.map Gy,rfl,gk,rfl⟩,?_⟩))))
   rintro _ _ ⟨rfl,b1,b2,rfl⟩
   rw [Uo]
   exact ⟨rfl,_,_,rfl,rfl,Vh _ _ _ _ _ _,dx,x,b1,b2,rfl⟩
  ·refine KN (Xs ?_)
   rw [CH]
   refine PD (RV (AB rfl (Hw fun x dx=>⟨_,⟨dx,x,false,ps.map Gy,rfl,gk,rfl⟩,?_⟩)))
   rintro _ _ ⟨rfl,b1,b2,rfl⟩
   rw [Uo]
   exact ⟨rfl,_,_,rfl,rfl,Vh _ _ _ _ _ _,dx,x,b1,b2,rfl⟩
 rintro _ ⟨dx,x,b1,b2,rfl⟩
 refine Wy 8 rfl ?_
 rw [X2]
 rw [ZC os]
 show Ws [.raw (Br K sc),.is (.lst (ks.map Kd.P)),.is (C9 false ((os.map fun k=>(true,k)).map KdS)),.AI,.ow false (.nd .lst h (ps.map EL)),s5,s6,s7,.is (B2 A5 ks),.any,.any,.any,.any] _ _ _
 refine Ar (KN (PD (RV (AB rfl (Hw fun x dx=>⟨_,⟨dx,x,false,os.map fun k=>(true,k),rfl,by rw [Zo];exact go,rfl⟩,?_⟩)))))
 rintro _ _ ⟨rfl,b1,b2,rfl⟩
 rw [Zo]
 refine ⟨rfl,_,_,rfl,?_⟩
 rw [show C9 false ((os.map fun k=>(true,k)).map KdS)=.lst (os.map Kd.P) from by rw [<- ZC];rfl]
 show Ws [.raw (Br K sc),.is (.lst (ks.map Kd.P)),.is (.lst (os.map Kd.P)),.AI,.ow false (.nd .lst h (ps.map EL)),s5,s6,s7,.is (B2 A5 ks),.ow false (Fj A5 dx x b1 b2 os),.any,.any,.any] _ _ _
 refine Wy 9 rfl ?_
 rw [X2]
 refine Ar (KN (Tq (L7 (GH ⟨by decide,fun l=>?_⟩))))
 show Ws [.raw (Br K sc),.is (.lst (ks.map Kd.P)),.is (.lst (os.map Kd.P)),.AI,.ow false (.nd .lst h (ps.map EL)),s5,s6,s7,.is (B2 A5 ks),.is (B2 A5 os),.ow false (Bc l []),.any,.any] _ _ _
 refine Ar (Ul (i:=10) (lt:=false) (t:=Bc l []) (N9 rfl (HK (AB rfl (HK (AB rfl (OY rfl (Hw ⟨_,⟨ks,l,[],rfl,g,fun _ h=>absurd h Ay,by decide,rfl⟩,?_⟩))))))))
 rintro _ _ ⟨rfl,V5,rfl,qS,SQ⟩
 refine ⟨_,_,rfl,_,rfl,FE rfl ?_⟩
 rw [UZ] at qS
 refine V2 (i:=10) (lt:=false) (t:=Bc l V5) (N9 rfl (HK (AB rfl (HK (AB rfl (OY rfl (Hw ⟨_,⟨os,l,V5,rfl,go,SQ,by omega,rfl⟩,?_⟩)))))))
 rintro _ _ ⟨rfl,BD,rfl,tR,Qt⟩
 refine ⟨_,_,rfl,?_⟩
 show Ws [.raw (Br K sc),.is (.lst (ks.map Kd.P)),.is (.lst (os.map Kd.P)),.AI,.ow false (.nd .lst h (ps.map EL)),s5,s6,s7,.is (B2 A5 ks),.is (B2 A5 os),.ow false (Bc l BD),.is (.bl true),.any] _ _ _
 refine Ar (GR (jy (i:=4) (a0:=h) ks.length (fun n A8=>∃ (us:List OV) (s5 s6 s7:Slot),A8=[.raw (Br K sc),.is (.lst (ks.map Kd.P)),.is (.lst (os.map Kd.P)),.AI,.ow false (.nd .lst h us),s5,s6,s7,.is (B2 A5 ks),.is (B2 A5 os),.ow false (Bc l BD),.is (.bl true),.any]/\us.length=ks.length/\∀ (j:Nat) u,us[j]?=some u->(∃ (x:Str) (b:Addr) (qs:List PV) (gg:Bool),u=.tp [.fz (.str x),.nd .lst b (qs.map .fz),.fz (.bl gg)]/\qs.length<=7/\(n<=j->qs.length<=6))∨∃ (x:Str) (qs:List PV) (gg:Bool),u=.tp [.fz (.str x),.fz (.tup qs),.fz (.bl gg)]) ⟨_,_,_,_,rfl,by rw [AJ];exact fY,fun j u hu=>?_⟩ (fun n A8 hn hI=>?_) ?_))
 ·rw [Ak] at hu
  obtain ⟨p,cB,rfl⟩:=Option.map_eq_some_iff.mp hu
  have pk:p.2∈ks:=by rw [<- ep];exact List.mem_map.mpr ⟨p,EZ cB,rfl⟩
  have p6:=(g.ps p.2 pk).1
  obtain ⟨o,k⟩:=p
  cases o with
  | some b=>exact .inl ⟨k.w,b,k.ps.map Al,k.g,rfl,by rw [AJ];exact sD p6,fun _=>by rw [AJ];exact p6⟩
  | none=>exact .inr ⟨k.w,k.ps.map Al,k.g,rfl⟩
 ·obtain ⟨us,s5,s6,s7,rfl,hl,hu⟩:=hI
  refine ⟨false,us,rfl,hl,fun AM=>?_⟩
  obtain ⟨u,eu⟩:∃ u,us[n]?=some u:=⟨_,B4 (by omega)⟩
  rcases hu n u eu with ⟨x,b,qs,gg,rfl,h7,h6⟩ | ⟨x,qs,gg,rfl⟩
  ·have h6:=h6 (AV _)
   refine ⟨_,eu,qW ?_⟩
   show Ws [.raw (Br K sc),.is (.lst (ks.map Kd.P)),.is (.lst (os.map Kd.P)),.AI,.ow false (.nd .lst h us),.is (.str x),.raw (ptr b),.is (.bl gg),.is (B2 A5 ks),.is (B2 A5 os),.ow false (Bc l BD),.is (.bl true),.any] _ _ _
   have at':(OV.nd .lst h us).at [n,1]=some (.nd .lst b (qs.map .fz)):=by rw [OV.HQ,eu];show OV.at _ [1]=_;rw [OV.GG];show OV.at _ []=_;rw [OV.FZ]
   refine Dl (FX (pA (i:=4) (Na (j:=6) (p:=[n,1]) rfl rfl at' ⟨b,_,rfl,true,MS _ _,_,rfl,FE rfl ?_⟩)))
   refine Kw (i:=4) (Na (j:=6) (p:=[n,1]) rfl rfl at' ⟨false,b,_,rfl,rfl,by rw [AJ];omega,Ee (Iw (ED (Gh (ED (AB rfl (GH ⟨by show 2<=100000;decide,?_⟩))))))⟩)
   refine ⟨Ay,us.set n (.tp [.fz (.str x),.nd .lst b ((qs++[PV.tup [.str "next", .str x]]).map .fz),.fz (.bl gg)]),.is (.str x),.raw (ptr b),.is (.bl gg),?_,by rw [HC];exact hl,fun j u hj=>?_⟩
   ·rw [OV.Hj eu,OV.JB (show _=some _ from rfl),OV.EA,Dp]
    rfl
   ·by_cases c:j=n
    ·subst c
     rw [C7 (by omega)] at hj
     cases hj
     exact .inl ⟨x,b,_,gg,rfl,by rw [DL];show _+1<=_;omega,fun z=>by omega⟩
    ·rw [Bd (Ah c)] at hj
     rcases hu j u hj with ⟨x',b',RY,g',e,h1,h2⟩ | e
     ·exact .inl ⟨x',b',RY,g',e,h1,fun z=>h2 (by omega)⟩
     ·exact .inr e
  ·refine ⟨_,eu,dr ?_⟩
   show Ws [.raw (Br K sc),.is (.lst (ks.map Kd.P)),.is (.lst (os.map Kd.P)),.AI,.ow false (.nd .lst h us),.is (.str x),.is (.tup qs),.is (.bl gg),.is (B2 A5 ks),.is (B2 A5 os),.ow false (Bc l BD),.is (.bl true),.any] _ _ _
   refine Dl (FX (Mj (AB rfl ⟨false,la _,_,rfl,Dt (by decide) (DF ⟨us,_,_,_,rfl,hl,fun j u hj=>?_⟩)⟩)))
   rcases hu j u hj with ⟨x',b',RY,g',e,h1,h2⟩ | e
   ·exact .inl ⟨x',b',RY,g',e,h1,fun z=>h2 (by omega)⟩
   ·exact .inr e
 rintro A8 ⟨us,s5,s6,s7,rfl,hl,hu⟩
 refine Ar (Kw (i:=4) (Cg rfl ⟨false,h,us,rfl,rfl,by omega,Ee (Iw (ED (Gh (ED (Iw (GH ⟨by decide,ED (Jx (GH ⟨by show 3<=100000;decide,by decide,?_⟩))⟩))))))⟩))
 rw [OV.EA]
 generalize us++[OV.fz (.tup [.str "", .tup [],.bl false])]=Ap
 show Ws [.raw (Br K sc),.is (.lst (ks.map Kd.P)),.is (.lst (os.map Kd.P)),.AI,.ow false (.nd .lst h Ap),s5,s6,s7,.is (B2 A5 ks),.is (B2 A5 os),.ow false (Bc l BD),.is (.bl true),.any] _ _ _
 refine Ar (JW (M5 Kd.P (fun _=>true) (fun k=>PV.str k.w) (EI (EC (AB rfl ⟨_,.inl ⟨rfl,ks,rfl,by omega,fun k _=>II rfl,fun k _ _=>Dc (Ct rfl ⟨rfl,Bg ⟨_,_,rfl,rfl,rfl⟩⟩),?_⟩⟩))) Kd.inj))
 rw [List.filter_eq_self.mpr fun _ _=>rfl,show (ks.map fun k=>PV.str k.w)=(wk ks).map .str from by unfold wk;rw [Ci];rfl]
 refine NT 12 rfl ?_
 have k0:L2.BK (os.map Kd.P) 0=some (os[0]'(by omega)).P:=(Qm (j:=0) (by rw [Ak,B4 (show 0 < os.length by omega)];rfl):L2.BK _ ((0:Nat):Int)=_)
 have s0:Gq (os[0]'(by omega)).w:=PU (go.nm _ (Hr _))
 refine Ar (GR (HA (fun xs i A8=>∃ (s5:Slot),A8=[.raw (Br K sc),.is (.lst (ks.map Kd.P)),.is (.lst (os.map Kd.P)),.AI,.ow false (.nd .lst h Ap),s5,s6,s7,.is (B2 A5 ks),.is (B2 A5 os),.ow false (Bc l BD),.is (.bl true),.is (.lst ((wk ks).map .str))]) (EI (EC (Iw (ED (Gh (ED (Gh (ED (Gh (ED (Gh (ED (Dc (Dw (Tb (Kn rfl ⟨rfl,Bg ⟨_,_,rfl,k0,_,.inr ⟨rfl,rfl,Bg ⟨_,_,rfl,rfl,GH ⟨by show 5<=100000;decide,_,.inr ⟨rfl,⟨_,rfl⟩,?_,?_⟩⟩⟩⟩⟩⟩))))))))))))))))))
 ·rintro i q A8 hq ⟨s5,rfl⟩
  have qs:∃ x,q=.str x/\Gq x:=by
   have qm:=EZ hq
   simp only [KL,Ay,or_false] at qm
   rcases qm with rfl | rfl | rfl | rfl | rfl
   ·exact ⟨_,rfl,by decide +kernel,by decide +kernel⟩
   ·exact ⟨_,rfl,by decide +kernel,by decide +kernel⟩
   ·exact ⟨_,rfl,by decide +kernel,by decide +kernel⟩
   ·exact ⟨_,rfl,by decide +kernel,by decide +kernel⟩
   ·exact ⟨_,rfl,s0⟩
  obtain ⟨x,rfl,sx⟩:=qs
  refine K0 ?_
  refine Dl (Fg (Pp (AB rfl ⟨x,rfl,Kn rfl ⟨wk ks,rfl,_,rfl,?_⟩⟩)))
  by_cases c:x∈wk ks
  ·rw [decide_eq_true c]
   exact Dt (by decide) (DF ⟨_,rfl⟩)
  rw [decide_eq_false c]
  refine FE rfl (JF (Jh (AB rfl ⟨_,rfl,FE rfl (Jh (wp_call (CG (AB rfl (CG (AB rfl (CG (Jx (DY ⟨_,⟨ks,x,true,rfl,g,sx,c,rfl⟩,?_⟩)))))))))⟩)))
  rintro _ rfl
  refine ⟨_,rfl,FE rfl (wp_call (CG (AB rfl (CG (AB rfl (CG (Jx (DY ⟨_,⟨ks,x,false,rfl,g,sx,c,rfl⟩,?_⟩))))))))⟩
  rintro _ rfl
  exact ⟨_,rfl⟩
 rintro A8 ⟨s5,rfl⟩
 refine Ar (cU (AB rfl ⟨_,rfl,FE rfl ?_⟩))
 refine Ul (i:=10) (lt:=false) (t:=Bc l BD) (N9 rfl (HK (AB rfl (HK (AB rfl (OY rfl (Hw ⟨_,⟨ks,l,BD,rfl,g,Qt,by omega,rfl⟩,?_⟩)))))))
 rintro _ _ ⟨rfl,Jm,rfl,si,iw⟩
 refine ⟨_,_,rfl,_,rfl,FE rfl ?_⟩
 refine V2 (i:=10) (lt:=false) (t:=Bc l Jm) (N9 rfl (HK (AB rfl (HK (AB rfl (OY rfl (Hw ⟨_,⟨os,l,Jm,rfl,go,iw,by omega,rfl⟩,?_⟩)))))))
 rintro _ _ ⟨rfl,O5,rfl,sY,Rz⟩
 refine ⟨_,_,rfl,?_⟩
 show Ws [.raw (Br K sc),.is (.lst (ks.map Kd.P)),.is (.lst (os.map Kd.P)),.AI,.ow false (.nd .lst h Ap),s5,s6,s7,.is (B2 A5 ks),.is (B2 A5 os),.ow false (Bc l O5),.is (.bl true),.is (.lst ((wk ks).map .str))] _ _ _
 refine K2 (qB ?_)
 rw [show List.map Df _=[.raw (Br K sc),.is (.lst (ks.map Kd.P)),.is (.lst (os.map Kd.P)),.any,.is (OV.nd .lst h Ap).pv,Df s5,Df s6,Df s7,.is (B2 A5 ks),.is (B2 A5 os),.is (Bc l O5).pv,.is (.bl true),.is (.lst ((wk ks).map .str))] from rfl,qO]
 refine Jh (AB rfl ⟨_,rfl,FE rfl ?_⟩)
 refine TL rfl (Dw (E4 (cX (fun _=>true) (fun _=>PV.bl true) (EI (EC (AB rfl ⟨_,.inl ⟨rfl,by rw [AJ];omega,fun z hz=>?_,?_⟩⟩))))))
 ·obtain ⟨e,hm,rfl⟩:=List.mem_map.mp hz
  refine ⟨_,rfl,rfl,II rfl,fun _=>Yo (AB rfl (AB rfl ⟨Rz e hm,Rz e hm,?_⟩))⟩
  rw [Zi 40 (Rz e hm)]
 ·rw [List.filter_eq_self.mpr fun _ _=>rfl]
  refine ⟨_,.inl ⟨rfl,rfl,O5.map fun _=>true,by rw [Ci,Ci];rfl,by rfl,?_⟩⟩
  rw [show (O5.map fun _=>true).all id=true from List.all_eq_true.mpr fun b hb=>by obtain ⟨_,_,rfl⟩:=List.mem_map.mp hb;rfl]
def all_mk {l:PySem.W.OpenLaw}{w:World}{K:tV}{h:Heap}{mg:tX}{fa f1 f2 f3 f4 f5 f6 f7 f8 f9 ZR VZ O3 NV Nv VU Ys V0 YY:Addr}{g1 g2 g3 g4 g5 g6 g7 g8 g9 gU gD pR kr lA i7 ig kS bc:FuncData}(X:K.In h) (G:h.Ns mainGlobals mg) (eJ:mg "law" = some (.ref fa))
  {Rc:Tok}{Rw:Tok}{PZ:Tok}{Tr:Tok}{Hm:Addr}
  {A5:Addr}(p7:PySem.W.nsIn K mainGlobals "Errands" = some (some (.ref A5)))
  (p9:PySem.W.plainGet K A5 Str.empty=true)
  (cR:PySem.W.hasDictIn K A5=true)
  (o7:PySem.W.plainOver K A5=true)
  (nQ:PySem.W.findIn K (.ref A5) "__setattr__" = some (some (.builtin "object.__setattr__")))
  (fQ:PySem.W.makesIn K A5=true)
  (oZ:PySem.W.keepIn K (.ref A5)=true)
  (HP:PySem.W.findIn K (.ref A5) "goes_by_word" = some none)
  (Fd:PySem.W.findIn K (.ref A5) "puts_by_word" = some none)
  (a1:nS K "check_word" (.ref f1)) (F1:Ad K "check_word" "check_word" Sy f1 g1)
  (a2:nS K "check_puts" (.ref f2)) (F2:Ad K "check_puts" "check_puts" Qy f2 g2)
  (a3:nS K "is_name" (.ref f3)) (F3:Ad K "is_name" "is_name" Nd f3 g3)
  (a4:nS K "check_kinds" (.ref f4)) (F4:Ad K "check_kinds" "check_kinds" OH f4 g4)
  (a5:PySem.W.findIn K (.ref A5) "__init__" = some (some (.ref f5))) (F5:Ad K "__init__" "Errands.__init__" RI f5 g5)
  (fj:PySem.W.isFn K (.ref f5)=true)
  (a6:nS K "_law_take" (.ref f6)) (F6:Ad K "_law_take" "_law_take" SY f6 g6)
  (a7:nS K "_law_letters" (.ref f7)) (F7:Ad K "_law_letters" "_law_letters" Pj f7 g7)
  (a8:nS K "_law_name" (.ref f8)) (F8:Ad K "_law_name" "_law_name" QX f8 g8)
  (a9:nS K "_law_names" (.ref f9)) (F9:Ad K "_law_names" "_law_names" P8 f9 g9)
  (eA:nS K "_law_kinds" (.ref ZR)) (ib:Ad K "_law_kinds" "_law_kinds" U8 ZR gU)
  (oN:nS K "_law_pot" (.ref VZ)) (cJ:Ad K "_law_pot" "_law_pot" UQ VZ gD)
  (jJ:PySem.W.findIn K (.ref A5) "words" = some (some (.ref O3))) (Uk:Ad K "words" "Errands.words" QN O3 pR)
  (dg:PySem.W.isFn K (.ref O3)=true)
  (eF:PySem.W.findIn K (.ref A5) "puts" = some (some (.ref NV))) (WQ:Ad K "puts" "Errands.puts" Rf NV kr)
  (l5:PySem.W.isFn K (.ref NV)=true)
  (cZ:PySem.W.findIn K (.ref A5) "goes" = some (some (.ref Nv))) (WX:Ad K "goes" "Errands.goes" Qr Nv lA)
  (dZ:PySem.W.isFn K (.ref Nv)=true)
  (jS:nS K "_law_same" (.ref VU)) (qg:Ad K "_law_same" "_law_same" JD VU i7)
  (iK:nS K "_law_alone" (.ref Ys)) (iG:Ad K "_law_alone" "_law_alone" Sk Ys ig)
  (ng:nS K "_law_refused" (.ref V0)) (jm:Ad K "_law_refused" "_law_refused" RE V0 kS)
  (Xy:nS K "law" (.ref YY)) (Yl:Ad K "law" "law" Hh YY bc)
  (br:nN K "ValueError")
  (lV:nN K "all")
  (dJ:nN K "bool")
  (dX:nN K "enumerate")
  (jv:nN K "isinstance")
  (ba:nN K "len")
  (oE:nN K "list")
  (fo:nN K "max")
  (mh:nN K "range")
  (lF:nN K "tuple")
  (fM:nS K "LETTERS" (.str "abcdefghijklmnopqrstuvwxyz" Rc))
  (eE:nS K "MOST_KINDS" (.int 8 Rw))
  (bB:nS K "MOST_LETTERS" (.int 8 PZ))
  (mI:nS K "MOST_PUTS" (.int 6 Tr))
  (m7:nS K "WHERES" (.ref Hm))
  {kB:Option Addr}{bN:Array (Option Value)}{ni:Nat}{qK ia kc qP:Tok}(l0:K.lookup Hm=some ⟨.type "tuple", kB,.seq #[.str "next" qK,.str "last" ia,.str "back" kc,.str "first" qP] ni,bN⟩)
  {D7:Addr}(mJ:nS K "Endless" (.ref D7))
  {Cs:Addr}(mB:nS K "Full" (.ref Cs))
  {Cw:Addr}(cI:nS K "Gone" (.ref Cw))
  {Cq:Addr}(b5:nS K "NoLog" (.ref Cq))
  {D1:Addr}(iD:nS K "NoLoop" (.ref D1))
  {AQ:Addr}(oK:nS K "NoName" (.ref AQ))
  {Cp:Addr}(dM:nS K "NoOrders" (.ref Cp))
  {Ck:Addr}(fq:nS K "NoPlace" (.ref Ck))
  {Cv:Addr}(fF:nS K "NoRow" (.ref Cv))
  {Cn:Addr}(qT:nS K "NoRule" (.ref Cn))
  {D5:Addr}(gF:nS K "NoText" (.ref D5))
  {D4:Addr}(iX:nS K "NoTicket" (.ref D4))
  {D2:Addr}(lC:nS K "NoWhere" (.ref D2))
  {DB:Addr}(kh:nS K "Stale" (.ref DB))
  {Bo:Addr}(oR:nS K "StirError" (.ref Bo))
  {Cr:Addr}(jM:nS K "There" (.ref Cr))
  {Co:Addr}(lX:nS K "TooMany" (.ref Co))
  (kj:PySem.W.specialIn K (.ref Bo) "__getattribute__" = some (some (.builtin "type.__getattribute__")))
  (qU:PySem.W.readsIn K Bo (.type "type")=true)
  (cf:PySem.W.findCls K (.ref Bo) (.type "type") "__init__" = some (.val (.builtin "ValueError.__init__")))
  {NP:Addr}{pI:FuncData}(tI:PySem.W.findIn K (.ref AQ) "__init__" = some (some (.ref NP))) (X7:Ad K "__init__" "NoName.__init__" UN NP pI)
  (ir:J9 K AQ (some (.ref NP))=true)
  (k9:PySem.W.findIn K (.ref AQ) "__setattr__" = some (some (.builtin "object.__setattr__")))
  (gs:N2 K AQ=true)
  (cT:PySem.W.takerIn K AQ "name" = some none)
  (pZ:PySem.W.hasDictIn K AQ=true)
  (c9:PySem.W.isFn K (.ref NP)=true)
  (qA:PySem.W.keepIn K (.ref AQ)=true)
  (RN:PySem.W.exmOne K (.ref AQ) (.ref Bo)=some true)
  (JG:Nq K [AQ,Cr,Cw,Ck,Cn,Cq,DB,D2,D5,Cs,Co,D1,D4,D7,Cp,Cv] Bo AQ 0=true)
  (QC:PySem.W.hasDictIn K AQ=true)
  (UK:PySem.W.findIn K (.ref AQ) "name" = some none)
  : ∃ fd:FuncData,(∀ (s:Shared) (v:Value),BindsTo s fd ⟨[v],[]⟩ [("script", v)])/\∀ base:Heap,K.In base->base.Ns mainGlobals mg->Ba l.prog w K mg base DQ 9 fa fd ["script"] (LW K):=by
 have e:=eJ.symm.trans (B6 X G Xy)
 cases e
 have CO:CY K A5:=⟨p9,cR,o7,nQ⟩
 have oA:Mk K A5 f5:=⟨fQ,a5,fj,oZ⟩
 have jX:Meth K A5 "words" O3:=⟨jJ,dg,Uk.kp⟩
 have k7:Meth K A5 "puts" NV:=⟨eF,l5,WQ.kp⟩
 have fO:Meth K A5 "goes" Nv:=⟨cZ,dZ,WX.kp⟩
 have UA:=HE X G br
 have Gb:=HE X G lV
 have Tx:=HE X G dJ
 have UM:=HE X G dX
 have BW:=HE X G jv
 have Dh:=HE X G ba
 have DS:=HE X G oE
 have Sb:=HE X G fo
 have Ip:=HE X G mh
 have Em:=HE X G lF
 have Ql:=B6 X G fM
 have U9:=B6 X G eE
 have Ou:=B6 X G bB
 have R7:=B6 X G mI
 have Ra:=B6 X G m7
 have Qh:∀ H,AU K H Hm [.str "next", .str "last", .str "back", .str "first"]:=fun H=>.inr ⟨_,_,_,l0,rfl,rfl,(by show 4<=sizeLine;decide +kernel),(.cons ⟨_,rfl⟩ (.cons ⟨_,rfl⟩ (.cons ⟨_,rfl⟩ (.cons ⟨_,rfl⟩ .nil))))⟩
 have QQ:=B6 X G mJ
 have Ll:=B6 X G p7
 have Qd:=B6 X G mB
 have Pc:=B6 X G cI
 have Q9:=B6 X G b5
 have RG:=B6 X G iD
 have Jv:=B6 X G oK
 have UL:=B6 X G dM
 have RQ:=B6 X G fq
 have RU:=B6 X G fF
 have UC:=B6 X G qT
 have QZ:=B6 X G gF
 have Q7:=B6 X G iX
 have UD:=B6 X G lC
 have UO:=B6 X G kh
 have IT:=B6 X G oR
 have Qc:=B6 X G jM
 have Rh:=B6 X G lX
 obtain ⟨_,_,kV,dc,pm,an,cd,ct,_,rfl,_,_⟩:=id Yl.ex
 refine ⟨PySem.W.fnOf "law" "law" (LP Hh) (HW Hh) (As Hh) .none kV dc pm an cd ct,fun s v=>.of_eq rfl,fun base _ _=>?_⟩
 have T7:=o6 (P:=l.prog) (w:=w) (base:=base) X7 (X7.binds (ps:=["self", "name"]) (by walk_at "bD2")) ⟨ir,k9,gs,cT,pZ,c9,qA⟩ ⟨kj,qU,cf,rfl⟩ IT
 have GX:=iZ (P:=l.prog) (w:=w) (base:=base) (AQ:=AQ) F1  (B6 X G a1) Jv T7
 have Ti:=bJ (P:=l.prog) (w:=w) (base:=base)  F2  (B6 X G a2) GX Ra Qh
 have Rq:=e7 (P:=l.prog) (w:=w) (base:=base)  F3  (B6 X G a3) Gb Dh Ql Ou
 have Tj:=nD (P:=l.prog) (w:=w) (base:=base)  F4  (B6 X G a4) Ti Rq UM Dh U9 R7
 have Kj:=eD (P:=l.prog) (w:=w) (mg:=mg) (base:=base) (A5:=A5) F5  oA Tj Em CO HP Fd
 have C5:=nj (P:=l.prog) (w:=w) (base:=base)  F6  (B6 X G a6)
 have MJ:=kf (P:=l.prog) (w:=w) (base:=base)  F7  (B6 X G a7)
 have PY:=eZ (P:=l.prog) (w:=w) (base:=base)  F8  (B6 X G a8) MJ C5 Dh
 have Q0:=d9 (P:=l.prog) (w:=w) (base:=base)  F9  (B6 X G a9) PY Ip
 have OI:=jC (P:=l.prog) (w:=w) (base:=base)  ib  (B6 X G eA) Q0 C5 Sb Ip Em
 have Kv:=fc (P:=l.prog) (w:=w) (base:=base)  cJ  (B6 X G oN) Dh
 have TK:=jq (P:=l.prog) (w:=w) (mg:=mg) (base:=base) (A5:=A5) Uk  jX DS CO Fd
 have JM:=gf (P:=l.prog) (w:=w) (mg:=mg) (base:=base) (A5:=A5) (AQ:=AQ) WQ  k7 GX DS CO Fd
 have Iq:=dN (P:=l.prog) (w:=w) (mg:=mg) (base:=base) (A5:=A5) (AQ:=AQ) WX  fO GX CO HP
 have K5:=dw (P:=l.prog) (w:=w) (base:=base) (A5:=A5) (AQ:=AQ) qg  (B6 X G jS) Iq JM TK Gb Tx BW DS Em
 have S7:=nZ (P:=l.prog) (w:=w) (base:=base) (D7:=D7) (Cs:=Cs) (Cw:=Cw) (Cq:=Cq) (D1:=D1) (AQ:=AQ) (Cp:=Cp) (Ck:=Ck) (Cv:=Cv) (Cn:=Cn) (D5:=D5) (D4:=D4) (D2:=D2) (DB:=DB) (Bo:=Bo) (Cr:=Cr) (Co:=Co) iG  (B6 X G iK) UA BW QQ Qd Pc Q9 RG Jv UL RQ RU UC QZ Q7 UD UO IT Qc Rh
 have Ng:=jn (P:=l.prog) (w:=w) (base:=base) (D7:=D7) (A5:=A5) (Cs:=Cs) (Cw:=Cw) (Cq:=Cq) (D1:=D1) (AQ:=AQ) (Cp:=Cp) (Ck:=Ck) (Cv:=Cv) (Cn:=Cn) (D5:=D5) (D4:=D4) (D2:=D2) (DB:=DB) (Bo:=Bo) (Cr:=Cr) (Co:=Co) jm  (B6 X G ng) Iq JM S7 IT RN JG QC UK
 exact p8 (P:=l.prog) (w:=w) (base:=base) (D7:=D7) (A5:=A5) (Cs:=Cs) (Cw:=Cw) (Cq:=Cq) (D1:=D1) (AQ:=AQ) (Cp:=Cp) (Ck:=Ck) (Cv:=Cv) (Cn:=Cn) (D5:=D5) (D4:=D4) (D2:=D2) (DB:=DB) (Bo:=Bo) (Cr:=Cr) (Co:=Co) Yl  (B6 X G Xy) Kj OI Kv Ng K5 C5 Gb BW DS Em Ll
def walk {l:PySem.W.OpenLaw}{q:Program}{loose:List Str}{XP:(tX)->Heap->Prop}{YP:World->Heap->Prop}{d:DefRec}{K:Params->tV}(hn:l.most=some 63) (KU:d.params.defaults=[])
  (hY:∀ (w:World) (h:Heap),YP w h->(K w.params).In h)
  (F:∀ (w:World) (mg:tX) (fa:Addr) (h:Heap),(K w.params).In h->h.Ns mainGlobals mg->mg d.name=some (.ref fa)->
   ∃ fd:FuncData,(∀ (s:Shared) (u:Value),BindsTo s fd ⟨[u],[]⟩ [("script", u)])/\∀ base:Heap,(K w.params).In base->base.Ns mainGlobals mg->Ba l.prog w (K w.params) mg base DQ 9 fa fd ["script"] (LW (K w.params))) :
  PySem.W.WalkO q loose XP YP l.row.toRowW d [] (fun f vs=>PySem.call f vs):=
 L2.kT (n:=63) (k:=9) (x := "script") (CX:=fun _=>DQ) (sp:=fun w=>LW (K w.params)) hn (by decide) KU ⟨rfl,by decide,by decide⟩ hY F (fun _ _ a ns hl _ hS=>⟨a,ns,rfl,hS,hl,fun _=>rfl⟩) fun _ _ _ _ _ z=>z
end Pf
open PySem.W
local macro_rules | `(tactic| walk_at "kF")=>`(tactic| (refine' L2.eB ?_ ?_ ?_;all_goals try k_is;all_goals k_is))
set_option maxRecDepth 100000 in
set_option maxHeartbeats 0 in
theorem PySem.Challenge.cw_stirround_k71_errands_told_holds : PySem.Challenge.rw_stirround_k71_errands_told.Holds := by
 w_on;o_law;k_head;(case hw=>w_witness2)
 k_fill
 refine Pf.walk (l:=PySem.Challenge.rw_stirround_k71_errands_told) rfl rfl (fun w h Y=>PySem.W.kIn_of Y) ?F
 case F=>
  intro w mg fa h KX G KW
  refine' Pf.all_mk KX G KW ?_ ?_ ?_ ?_ ?_ ?_ ?_ ?_ ?_ ?_ ?_ ?_ ?_ ?_ ?_ ?_ ?_ ?_ ?_ ?_ ?_ ?_ ?_ ?_ ?_ ?_ ?_ ?_ ?_ ?_ ?_ ?_ ?_ ?_ ?_ ?_ ?_ ?_ ?_ ?_ ?_ ?_ ?_ ?_ ?_ ?_ ?_ ?_ ?_ ?_ ?_ ?_ ?_ ?_ ?_ ?_ ?_ ?_ ?_ ?_ ?_ ?_ ?_ ?_ ?_ ?_ ?_ ?_ ?_ ?_ ?_ ?_ ?_ ?_ ?_ ?_ ?_ ?_ ?_ ?_ ?_ ?_ ?_ ?_ ?_ ?_ ?_ ?_ ?_ ?_ ?_ ?_ ?_ ?_ ?_ ?_ ?_ ?_
  any_goals first | k_is | (show _=_;k_is) | kernel_rfl | walk_at "kF"
#print axioms PySem.Challenge.cw_stirround_k71_errands_told_holds
