import PyProof.Rows.All
import Wide.All
import OpenK.AllK
import PySem.Challenge.RW_stirround_k73_loops_that_run
set_option genSizeOf false
set_option linter.all false
set_option compiler.extract_closed false
set_option bootstrap.genMatcherCode false
noncomputable section
def gG:=@PySem.wpAny_bind
def gp:=@if_neg
def hZ:=@if_pos
def iG:=@PySem.wpAny_pure
def iN:=@decide_eq_true
def ib:=@of_decide_eq_true
def ij:=@decide_eq_false
def j3:=@beq_self_eq_true
def jF:=@PySem.wpAny_truthy_bool
def jH:=@PySem.wpAny_mono
def jL:=@congrArg
def jU:=@PySem.wpAny_newObj_type
def jn:=@PySem.wpAny_callSpecial?_slot
def jo:=@PySem.wpAny_passesOwn
def kN:=@PySem.wpAny_Call_Name_kw
def kR:=@decide_eq_true_iff
def ka:=@PySem.wpAny_field
def l7:=@PySem.lookup_relabel_local
def lJ:=@PySem.wpAny_call_entry
def mC:=@PySem.wpAny_holding
def nR:=@PySem.wpAny_pyIter_list
def nT:=@PySem.wpAny_pyIter_enum
def o5:=@PySem.call_meets
def oM:=@PySem.wpAny_execs_nil
def oS:=@PySem.wpAny_typeOf
def oh:=@PySem.wpAny_pyIter_tuple
def p8:=@PySem.tupleKind_room_in1
def pL:=@PySem.wpAny_letOwnedTupleGo_enum
def pM:=@PySem.wpAny_comprehension_free
def pd:=@PySem.codeAny_mono
def pf:=@PySem.wpAny_updateSeq
def qM:=@or_false
def qw:=@PySem.wpAny_seqItems
def rK:=@if_true
def sQ:=@PySem.wpAny_standAt
def sj:=@if_false
def AF:=@List.length_map
def Aa:=@List.getElem?_map
def Aj:=@Nat.le_refl
def Am:=@List.getElem?_eq_getElem
def An:=@List.not_mem_nil
def Ap:=@List.map_cons
def B8:=@PySem.Heap.lt_size
def B9:=@Option.some.inj
def BY:=@List.append_assoc
def BZ:=@List.nodup_append
def Be:=@PySem.W.mg_of
def Bj:=@List.size_toArray
def Bk:=@Ne.symm
def C5:=@List.length_append
def CA:=@List.map_map
def CM:=@List.mem_cons_of_mem
def CN:=@Nat.zero_le
def CU:=@PySem.Heap.get?_push_of_some
def Cb:=@List.getElem?_set_ne
def Cc:=@List.map_append
def Co:=@Bool.false_ne_true
def Cp:=@Nat.ne_of_lt
def D0:=@List.append_nil
def D1:=@List.length_cons
def D2:=@List.mem_cons_self
def DC:=@PySem.Heap.get?_push_size
def DD:=@List.getElem?_set_self
def DO:=@List.length_take
def DP:=@Nat.lt_of_lt_of_le
def Dn:=@List.mem_of_getElem?
def Dp:=@PySem.F.plainAttrs_list
def E2:=@List.getElem?_append_left
def ER:=@List.getElem?_append_right
def ES:=@Nat.le_trans
def ET:=@PySem.PassesOwn.never
def En:=@Bool.and_eq_true
def Eo:=@List.getD_eq_getElem?_getD
def Ep:=@List.mem_append_right
def Fb:=@List.nil_append
def Gm:=@List.all_eq_true
def Gn:=@List.lookup_cons
def Gp:=@List.map_nil
def Gq:=@PySem.F.slot_list_append
def Gr:=@PySem.F.type_list_append
def HM:=@Int.toNat_natCast
def HN:=@List.map_drop
def HP:=@List.mem_append
def HQ:=@PySem.W.kia_one
def HR:=@PySem.W.mg_none_of
def IT:=@List.getElem_mem
def IU:=@List.mem_cons
def IV:=@List.take_length
def JQ:=@Bool.eq_iff_iff
def JR:=@Int.emod_nonneg
def JS:=@List.length_drop
def JT:=@List.length_set
def JU:=@List.map_take
def JV:=@List.mem_append_left
def JW:=@List.nodup_nil
def JX:=@List.zip_cons_cons
def JY:=@Nat.le_succ
def Kh:=@Int.emod_lt_of_pos
def Ki:=@List.any_cons
def Kj:=@List.getElem_map
def Kk:=@List.replicate_succ
def Kl:=@PySem.mem_of_lookup
def Ll:=@PySem.Heap.size_push
def Lm:=@List.flatten_cons
def Ln:=@List.take_succ_eq_append_getElem
def Lo:=@Nat.lt_irrefl
def Lp:=@Nat.lt_of_le_of_lt
def Lq:=@Nat.succ.inj
def NZ:=@List.drop_zero
def Na:=@List.find?_cons
def Nb:=@List.set_cons_succ
def Nc:=@List.set_set
def Nd:=@Nat.ne_of_gt
def Nf:=@Nat.sub_self
def Qc:=@Array.length_toList
def Qd:=@PySem.Heap.get?_update_other
def Qe:=@PySem.Heap.get?_update_self
def Qf:=@List.all_cons
def Qg:=@List.length_filter_le
def Qh:=@List.length_range
def Qi:=@List.take_of_length_le
def Qj:=@Nat.lt_succ_self
def Qk:=@Nat.succ_pos
def Ql:=@PySem.F.slot_list_insert
def WN:=@Bool.and_false
def WO:=@PySem.F.slot_tuple_iterator_next
def WQ:=@Int.eq_ofNat_of_zero_le
def WR:=@List.Sublist.refl
def WS:=@List.any_eq_true
def WT:=@List.cons_append
def WU:=@List.getElem?_range
def WV:=@List.getElem?_set
def WW:=@List.getElem_of_mem
def WX:=@List.length_nil
def WY:=@List.length_singleton
def WZ:=@List.length_zip
def Wc:=@List.mem_of_mem_take
def Wd:=@List.take_zero
def Wf:=@Nat.le_total
def Wh:=@Nat.min_eq_left
def Wj:=@Nat.min_eq_right
def Wk:=@Nat.sub_zero
def Wr:=@Option.map_some
def Wu:=@PyProof.Rows.callWith_type1
def Wv:=@PyProof.Rows.slot_tuple_getitem
def Ww:=@PySem.F.type_list_insert
def eh:=@Array.getElem?_toList
def ez:=@Bool.and_true
def fA:=@Bool.true_and
def fB:=@Int.lt_of_le_of_lt
def fD:=@Int.toNat_of_nonneg
def fE:=@List.Sublist.append
def fF:=@List.ext_getElem?
def fG:=@List.filterMap_cons
def fH:=@List.filter_append
def fJ:=@List.foldl_cons
def fK:=@List.forIn_nil
def fL:=@List.getElem?_modify
def fM:=@List.getElem?_replicate
def fN:=@List.getElem_idxOf
def fO:=@List.getElem_take
def fP:=@List.idxOf_cons
def fQ:=@List.length_replicate
def fR:=@List.mem_of_mem_drop
def fS:=@List.of_mem_zip
def fT:=@List.set_append_right
def fU:=@List.set_cons_zero
def fV:=@List.take_append_drop
def fW:=@List.take_sublist
def fX:=@Nat.le_of_eq
def fY:=@Nat.le_of_lt
def fZ:=@Nat.le_of_lt_succ
def fb:=@Nat.lt_trans
def fc:=@Nat.min_self
def fe:=@Option.isSome_map
def fg:=@PySem.Paired.length
def fj:=@PySem.W.callWith_K
def fk:=@PySem.W.plainGet_of
def xa:=@PySem.Calls.Name_function_global
def xb:=@PySem.Calls.callWith_builtin
def xf:=@PySem.F.args_tuple_iterator_next_1
def xg:=@PySem.F.entry_tuple_iterator_next
def xh:=@List.drop_eq_getElem_cons
def xi:=@List.ext_getElem
def xk:=@List.getElem?_drop
def xl:=@List.getElem_drop
def xm:=@List.getElem_inj
def xn:=@List.map_congr_left
def xo:=@List.mem_map_of_mem
def xp:=@List.modify_succ_cons
def xq:=@List.not_of_lt_findIdx
def xr:=@Nat.add_sub_cancel
def xu:=@Nat.le_of_not_lt
def xv:=@Nat.lt_succ_of_lt
def xw:=@Nat.min_le_right
def xx:=@Nat.not_lt_of_le
def xy:=@Option.getD_none
def y2:=@Option.isSome_some
def y3:=@PySem.F.slot_list_index
def y4:=@PySem.F.slot_list_pop
def y6:=@PySem.F.type_list_pop
def y8:=@PySem.W.cellsFrom_some
def y9:=@PySem.W.kitx_dict
def yA:=@PySem.W.kitx_list
def yB:=@PySem.W.methodCall_KW
open PySem PySem.Spec PyProof.Rows
abbrev yo:=PySem.W.Frag
abbrev yp:=(List (Addr×Obj))
abbrev yq:=(Str->Option Value)
namespace PySem.W.Fast
def t:=Nat
def tw12871758070599891326:=t
def tw6610531873905687507:=t
def tw1773603616080454985:=t
def tw14555989221075243215:=t
def tw18198522249025683246:=t
def tw15523652515599962274:=t
def tw10286313199947655123:=t
def tw14967649509234595137:=t
def tw9848320132415006087:=t
def tw1934287725413947380:=t
def tw11691804691124082995:=t
def tw10349836117686763653:=t
def tw1568367850814827436:=t
def tw4235525167206737183:=t
def tw6532151155140415635:=t
def tw832141821977725105:=t
def tw17252701249727658485:=t
def tw8758117810060585941:=t
def tw5021434830064085280:=t
def tw16009322804496261043:=t
def tw15202830926634061241:=t
def tw17836386662467426399:=t
def tw13600990054448658162:=t
def tw7057614883249911379:=t
def tw5754738371215797062:=t
def tw13033626653230399154:=t
def tw7489190327284480411:=t
def tw11982447960291994455:=t
def tw10009062136249344699:=t
def tw8307197061581156659:=t
def tw4024890863523581662:=t
def tw1530264700679484423:=t
def tw9867667211204254235:=t
def tw6416992959448692268:=t
def tw1405390193174293363:=t
def tw10714035045490143632:=t
def tw14644881318245766458:=t
def tw8005372848305083675:=t
def tw404229276717010640:=t
def tw10872487072616955981:=t
def tw11168116374211706384:=t
def tw10133856867859623319:=t
def tw5229247252250653451:=t
def tw13303462732319536577:=t
def tw8015971713111291270:=t
def tw2627228430717730730:=t
def tw7722074085790835379:=t
def tw17386951871023678383:=t
def tw14277192276486284970:=t
def tw1329432619415774506:=t
def tw15991083410548908409:=t
def tw3999162406957130474:=t
def tw14108813558252263591:=t
def tw8987856538504638936:=t
def tw4322316547991523600:=t
def tw6839160949378652612:=t
def tw11541147138753412285:=t
def tw2497870362447042343:=t
def tw13910150492861294440:=t
def tw17266129369457379101:=t
def tw8907278072268917022:=t
def tw17353385305923509662:=t
def tw13052730099242447717:=t
def tw8011397357180199488:=t
def tw13506168569743623262:=t
def tw4617267386986234145:=t
def tw8300653182957824591:=t
def tw14161305034814189630:=t
def tw10677914897177617666:=t
def tw5390560864257156031:=t
def tw17084122347664757624:=t
def tw3906010486648000652:=t
def tw14096965351810324394:=t
def tw15499502445096593421:=t
def tw10294426298392438096:=t
def tw12351487797625962289:=t
def tw4498958311971595942:=t
def tw2515817985516524736:=t
def tw6077742179997354831:=t
def tw10930397744877558553:=t
def tw12421942554255956661:=t
def tw17410322754667024589:=t
def tw13390240335559470875:=t
def tw3496782635682704359:=t
def tw9250915182706264647:=t
def tw12240651722151561063:=t
def tw16353548319838368054:=t
def tw7528924856563885121:=t
def tw4546478519019724379:=t
def tw11604209315113530570:=t
def tw12351558433843137470:=t
def tw17102003898624333046:=t
def tw16628198731795431170:=t
def tw3705368761465209747:=t
def tw6234090070714109411:=t
def tw7060553013352490159:=t
def tw16841364975341605990:=t
def tw14109701952595474179:=t
def tw13683030734599410796:=t
def tw1395583162068844605:=t
def tw2071488288330448842:=t
def tw11333389404333108051:=t
def tw16742358127249254934:=t
def tw17669412125406998986:=t
def tw2112367943733277781:=t
def tw14325934047610819475:=t
def tw8303104092030047562:=t
def tw15855735869047453224:=t
def tw15487492351616782164:=t
def tw15860484230270454830:=t
def tw6967506310649936479:=t
def tw7080710918389424151:=t
def tw16860432593913699710:=t
def tw5831197589404470864:=t
def tw12933047468647974104:=t
def tw7055709044119364291:=t
def tw4489682480985314175:=t
def tw13898233517565510759:=t
def tw3452555869164784141:=t
def tw2132337854814798151:=t
def tw10572294274318808774:=t
def tw12748542718934225052:=t
def tw8205887478364993574:=t
end PySem.W.Fast
set_option Elab.async false
set_option maxRecDepth 100000
namespace L2
variable{α κ:Type}{C a b dx it:Addr}{c cd u:Value}{w:World}{ZB h h':Heap}{m name qual x:Str}{e tg:Expr}{X0 Zn:yp}{s s':Shared}{g':Array GenState}{i j n t' tk:Nat}{d':Drawn}{ch fp:List Addr}{N ks ns ps:List Str}{M:Model}{A:Around}{E Q:Value->Shared->Prop}{pos yY:Pos}{op:CmpOp}{es rest:List Expr}{f:Value->Value->Sem Value}{pl:Sem Bool}{ds us:List Value}{mA mg:yq}{prog:Program}{kw:List (Str×Value)}{fd:FuncData}{outer:List Env}{sc scope:Scope}
abbrev Key:=Sum Int Str
noncomputable def K8:Key->Value->Bool
 | .inl k,v=>Value.isInt k v
 | .inr x,v=>Value.isStrOf x v
noncomputable def lL(w:World):Key->Int
 | .inl k=>hashInt k
 | .inr x=>hashStr w x
theorem HL:∀{k:Key}{v:Value},K8 k v=true->(∃i t,k=Sum.inl i/\v=Value.int i t)∨(∃x t,k=Sum.inr x/\v=Value.str x t)
 | .inl i,v,h=>by
  obtain⟨t,e⟩:=Value.isInt_shape (k:=i) (v:=v) h;exact .inl ⟨i,t,rfl,e⟩
 | .inr x,v,h=>by
  obtain⟨t,e⟩:=Value.isStrOf_shape (x:=x) (v:=v) h;exact .inr ⟨x,t,rfl,e⟩
theorem rY(i:Int)(t:Tok):K8 (.inl i) (.int i t)=true:=by simp[K8,Value.isInt]
theorem gB(x:Str)(t:Tok):K8 (.inr x) (.str x t)=true:=by simp[K8,Value.isStrOf]
theorem uO(a b:Int):decide ((Sum.inl a:Key)=Sum.inl b)=(a == b):=by
 by_cases e:a=b
 .subst e;simp
 .have h:¬ (Sum.inl a:Key)=Sum.inl b:=λq=>e (Sum.inl.inj q);rw[ij h];exact(beq_eq_false_iff_ne.mpr e).symm
theorem lQ(a b:Str):decide ((Sum.inr a:Key)=Sum.inr b)=decide (a=b):=by
 by_cases e:a=b
 .subst e;simp
 .have h:¬ (Sum.inr a:Key)=Sum.inr b:=λq=>e (Sum.inr.inj q);rw[ij h,ij e]
theorem mx(a:Int)(b:Str):decide ((Sum.inl a:Key)=Sum.inr b)=false:=ij (λq=>nomatch q)
theorem qg(a:Str)(b:Int):decide ((Sum.inr a:Key)=Sum.inl b)=false:=ij (λq=>nomatch q)
def Dk(prog:Program)(w:World):PySem.KeyKind prog w Key where
 is:=K8
 hash:=lL w
 inj:=λv a b g d=>by
  rcases HL g with⟨i,t,rfl,rfl⟩|⟨x,t,rfl,rfl⟩
  .rcases HL d with⟨j,u,rfl,e⟩|⟨y,u,rfl,e⟩
   .injection e with e1 _;rw[e1]
   .exact nomatch e
  .rcases HL d with⟨j,u,rfl,e⟩|⟨y,u,rfl,e⟩
   .exact nomatch e
   .injection e with e1 _;rw[e1]
 byValue:=λk v h=>by
  rcases HL h with⟨i,t,rfl,rfl⟩|⟨x,t,rfl,rfl⟩ <;> rfl
 pyHash:=λc h=>by
  rcases HL c with⟨i,t,rfl,rfl⟩|⟨x,t,rfl,rfl⟩
  .exact wpAny_pyHash_int h
  .exact wpAny_pyHash_str h
 eqBool:=λf c h=>by
  rcases HL f with⟨i,t,rfl,rfl⟩|⟨x,t,rfl,rfl⟩
  .rcases HL c with⟨j,u,rfl,rfl⟩|⟨y,u,rfl,rfl⟩
   .rw[uO]at h;exact wpAny_eqBool_int h
   .rw[mx]at h;exact SeqAt.EqAt.int_str i t y u _ _ _ _ h
  .rcases HL c with⟨j,u,rfl,rfl⟩|⟨y,u,rfl,rfl⟩
   .rw[qg]at h;exact SeqAt.EqAt.str_int x t j u _ _ _ _ h
   .rw[lQ]at h;exact wpAny_eqBool_str h
 «strs»:=λk x t v h=>by
  rcases HL h with⟨i,u,rfl,e⟩|⟨y,u,rfl,e⟩
  .exact nomatch e
  .injection e with e1 _
   subst e1;cases v <;> rfl
theorem qH(prog:Program)(w:World)(i:Int)(t:Tok):(Dk prog w).is (.inl i) (.int i t)=true:=rY i t
theorem i5(prog:Program)(w:World)(x:Str)(t:Tok):(Dk prog w).is (.inr x) (.str x t)=true:=gB x t
inductive V where
 |AA|bl (b:Bool)|int (i:Int)|str (x:Str)|Fl (b:Array UInt8)|JI (b:UInt64)|ref (a:Addr)|ty (n:String)
 deriving DecidableEq
variable{v y:V}{DM vs:List V}
def RelV:V->Value->Prop
 | .AA,u=>u=Value.none
 | .bl b,u=>u=Value.bool b
 | .int i,u=>∃t,u=Value.int i t
 | .str x,u=>∃t,u=Value.str x t
 | .Fl b,u=>∃t,u=Value.bytes b t
 | .JI b,u=>∃t,u=Value.float b t
 | .ref a,u=>u=Value.ref a
 | .ty n,u=>u=Value.type n
abbrev Vals:List V->List Value->Prop:=Paired RelV
theorem Vals.length{xs:List V}{us:List Value}(r:Vals xs us):xs.length=us.length:=fg r
theorem Vals.get:∀{xs:List V}{us:List Value}{i:Nat}{x:V},Vals xs us->xs[i]?=some x->∃u,us[i]?=some u/\RelV x u
 |_,_,_,_,.nil,e=>by simp at e
 |_,_,0,_,.cons r _,e=>by simp at e;subst e;exact⟨_,rfl,r⟩
 |_,_,i+1,x,.cons _ t,e=>by
  obtain⟨u,h1,h2⟩:=Vals.get (i:=i) (x:=x) t (by simpa using e)
  exact⟨u,by simpa using h1,h2⟩
theorem Vals.set{x:V}{u:Value}(r:RelV x u):∀{xs:List V}{us:List Value}(i:Nat),Vals xs us->Vals (xs.set i x) (us.set i u)
 |_,_,_,.nil=>.nil
 |_,_,0,.cons _ t=>.cons r t
 |_,_,i+1,.cons q t=>.cons q (Vals.set r i t)
theorem Vals.append:∀{xs ys:List V}{us ws:List Value},Vals xs us->Vals ys ws->Vals (xs++ys) (us++ws)
 |_,_,_,_,.nil,s=>s
 |_,_,_,_,.cons r t,s=>.cons r (Vals.append t s)
theorem Vals.take:∀{xs:List V}{us:List Value}(n:Nat),Vals xs us->Vals (xs.take n) (us.take n)
 |_,_,0,_=>.nil
 |_,_,_+1,.nil=>.nil
 |_,_,n+1,.cons r t=>.cons r (Vals.take n t)
theorem Vals.drop:∀{xs:List V}{us:List Value}(n:Nat),Vals xs us->Vals (xs.drop n) (us.drop n)
 |_,_,0,r=>r
 |_,_,_+1,.nil=>.nil
 |_,_,n+1,.cons _ t=>Vals.drop n t
def EC:Option V->Option Value->Prop
 |some v,some u=>RelV v u
 |none,none=>True
 |_,_=>False
def KV:List (κ×V)->List (κ×Value)->Prop:=Paired λ(p:κ×V)(q:κ×Value)=>p.1=q.1/\RelV p.2 q.2
noncomputable def kV:Key->V
 | .inl i=>.int i
 | .inr x=>.str x
inductive HO where
 /-- a list -/
 |lst (xs:List V)
 /-- a tuple (never changes) -/
 |tup (xs:List V)
 /-- a dict rZ keys are ints and texts;one rZ keys are tuples of ints and texts (Gf empty one is both) -/
 |dK (A6:List (Key×V))|dT (A6:List (List Key×V))
 /-- a set of ints: A1 members,A1 size -/
 |set (S:Int->Bool) (n:Nat)
 /-- an instance of Gf class at C,A1 dict at dx,A1 attributes -/
 |ins (C dx:Addr) (fs:List (Str×V))
 /-- Gf dict of Gf instance at x -/
 |own (x:Addr)
 /-- Gf dict of an exception -/
 |xd (fs:List (Str×V))
 /-- a bound method,f of x -/
 |met (f x:Addr)
 /-- a range object lo,lo+1,.. below hi -/
 |V1 (lo hi:Int)
 /-- a ph yJ is known to Gf object (Gf Xp;a dict while a loop walks it): read,never written while it is so -/
 |Du (o:Obj) (u:HO)
 /-- a code yW table -/
 |KD (ps:Array Value)
 /-- any other ph,by k6 is true of A1 one object (a def of yk own: vC a S n:=HO.ext λh=>..) -/
 |ext (φ:Heap->Prop)
variable{o o':HO}
abbrev Hp:=Addr->Option HO
variable{H H':Hp}
noncomputable def upd(H:Hp)(a:Addr)(o:HO):Hp:=λb=>if b=a then some o else H b
theorem Ay:upd H a o a=some o:=by unfold upd;rw[hZ rfl]
theorem Ab(h:b≠a):upd H a o b=H b:=by unfold upd;rw[gp h]
theorem uH{u:HO}(h:H a=some o)(h':H b=some u)(d:o≠u):a≠b:=by
 intro e;subst e;rw[h]at h';exact d (B9 h')
theorem DS(h:H a=some o)(h':H b=none):a≠b:=by
 intro e;subst e;rw[h]at h';cases h'
section
variable(P:Program)(w:World)
def CC(H:Hp)(h:Heap)(a:Addr):HO->Prop
 | .lst xs=>xs.length<=sizeLine/\∃(A1:List Value)(n:Nat),Vals xs A1/\h.get? a=some { cls:=.type "list", data:=.seq A1.toArray n }
 | .tup xs=>xs.length<=sizeLine/\∃A1:List Value,Vals xs A1/\(IsTup h a A1.toArray/\∀ob,h.get? a=some ob->ob.dict=none)
 | .dK A6=>A6.length<=sizeLine/\(a == sysModules)=false/\∃vs,KV A6 vs/\h.DictOf (Dk P w) a vs
 | .dT A6=>A6.length<=sizeLine/\(a == sysModules)=false/\∃xs:List (List Key×Addr×Value),
   Paired (λ(p:List Key×V)(q:List Key×Addr×Value)=>p.1=q.1/\H q.2.1=some (.tup (p.1.map kV))/\RelV p.2 q.2.2) A6 xs/\
   ∃o es b,h.get? a=some o/\o.ExactDict/\o.data=.dict es b/\es.toList=xs.map (entryOfKey (tupleKind (Dk P w)))/\(xs.map (·.1)).Nodup
 | .set S n=>h.SetOf (intKind P w) a S n
 | .ins C dx fs=>H dx=some (.own a)/\fs.length<=1000/\dx≠a/\h.get? a=some (PySem.W.instObj C dx)/\
   ∃mA,h.Ns1 dx mA/\(∀f,EC (fs.lookup f) (mA f))/\PySem.Within mA (fs.map (·.1))
 | .own _=>∃o,h.get? a=some o
 | .xd fs=>∃mA,h.Ns1 a mA/\∀f,EC (fs.lookup f) (mA f)
 | .V1 lo hi=>∃t u v,h.get? a=some { cls:=.type "range", data:=.fields #[.int lo t,.int hi u,.int 1 v] }
 | .Du o u=>h.get? a=some o/\CC H h a u
 | .KD ps=>h.get? a=some { cls:=.none,data:=.fields ps }
 | .met f x=>h.get? a=some (PySem.W.methodObj (.ref f) (.ref x))
 | .ext φ=>φ h/\(∃o,h.get? a=some o)/\∀h1 h2:Heap,φ h1->(∀o,h1.get? a=some o->h2.get? a=some o)->φ h2
def C0(H:Hp)(h:Heap):Prop:=∀a o,H a=some o->CC P w H h a o
end
section
variable{P:Program}
theorem CC.lt(x:CC P w H h a o):a<h.objs.size:=by
 cases o with
 |lst xs=>obtain⟨_,_,_,_,e⟩:=x;exact B8 e
 |tup xs=>obtain⟨_,_,_,p⟩:=x;exact p.1.lt
 |dK A6=>obtain⟨_,_,_,_,o,_,_,e,_⟩:=x;exact B8 e
 |dT A6=>obtain⟨_,_,_,_,o,_,_,e,_⟩:=x;exact B8 e
 |set S n=>obtain⟨o,_,_,_,e,_⟩:=x;exact B8 e
 |ins C dx fs=>obtain⟨_,_,_,e,_⟩:=x;exact B8 e
 |own y=>obtain⟨_,e⟩:=x;exact B8 e
 |xd fs=>obtain⟨_,⟨_,_,_,e,_⟩,_⟩:=x;exact B8 e
 |V1 lo hi=>obtain⟨_,_,_,e⟩:=x;exact B8 e
 |Du ob u=>obtain⟨e,_⟩:=x;exact B8 e
 |KD ps=>exact B8 (show h.get? a=some _ from x)
 |met f y=>exact B8 (show h.get? a=some _ from x)
 |ext φ=>obtain⟨_,⟨_,e⟩,_⟩:=x;exact B8 e
theorem Paired.Tj{α β:Type}{F G:α->β->Prop}:∀{l₁:List α}{c:List β},Paired F l₁ c->(∀a b,F a b->G a b)->Paired G l₁ c
 |_,_,.nil,_=>.nil
 |_,_,.cons r t,f=>.cons (f _ _ r) (Paired.Tj t f)
theorem CC.Jh(x:CC P w H h a o)(k:∀b u,(b=a∨H b=some (.own a))->h.get? b=some u->h'.get? b=some u)
  (ho:∀b,H b=some (.own a)->H' b=some (.own a)) (m:∀b xs,H b=some (.tup xs)->H' b=some (.tup xs)):CC P w H' h' a o:=by
 induction o with
 |lst xs=>obtain⟨z,A1,n,r,e⟩:=x;exact⟨z,A1,n,r,k _ _ (.inl rfl) e⟩
 |tup xs=>obtain⟨z,A1,r,⟨ob,e,c⟩,A⟩:=x;exact⟨z,A1,r,⟨ob,k _ _ (.inl rfl) e,c⟩,λRi j=>by rw[k _ _ (.inl rfl) e]at j;cases j;exact A _ e⟩
 |dK A6=>obtain⟨z,y,vs,r,ob,es,g,e,c⟩:=x;exact⟨z,y,vs,r,ob,es,g,k _ _ (.inl rfl) e,c⟩
 |dT A6=>
  obtain⟨z,y,xs,r,ob,es,g,e,c⟩:=x;exact⟨z,y,xs,Paired.Tj r λp q z=>⟨z.1,m _ _ z.2.1,z.2.2⟩,ob,es,g,k _ _ (.inl rfl) e,c⟩
 |set S n=>obtain⟨ob,es,g,t,e,c⟩:=x;exact⟨ob,es,g,t,k _ _ (.inl rfl) e,c⟩
 |ins C dx fs=>
  obtain⟨d,z,ne,e,mA,⟨i,es,g,s,c⟩,r⟩:=x;exact⟨ho _ d,z,ne,k _ _ (.inl rfl) e,mA,⟨i,es,g,k _ _ (.inr d) s,c⟩,r⟩
 |own y=>obtain⟨ob,e⟩:=x;exact⟨ob,k _ _ (.inl rfl) e⟩
 |xd fs=>obtain⟨mA,⟨i,es,g,e,c⟩,r⟩:=x;exact⟨mA,⟨i,es,g,k _ _ (.inl rfl) e,c⟩,r⟩
 |V1 lo hi=>obtain⟨t,u,v,e⟩:=x;exact⟨t,u,v,k _ _ (.inl rfl) e⟩
 |Du ob u l=>obtain⟨e,q⟩:=x;exact⟨k _ _ (.inl rfl) e,l q⟩
 |KD ps=>
  have e:h.get? a=some { cls:=.none,data:=.fields ps }:=x;show h'.get? a=some { cls:=.none,data:=.fields ps };exact k a _ (.inl rfl) e
 |met f y=>
  have e:h.get? a=some (PySem.W.methodObj (.ref f) (.ref y)):=x;show h'.get? a=some (PySem.W.methodObj (.ref f) (.ref y));exact k a _ (.inl rfl) e
 |ext φ=>obtain⟨p,⟨o,e⟩,st⟩:=x;exact⟨st _ _ p λo q=>k _ _ (.inl rfl) q,⟨o,k _ _ (.inl rfl) e⟩,st⟩
theorem C0.lt(x:C0 P w H h)(e:H a=some o):a<h.objs.size:=(x a o e).lt
theorem C0.fresh(x:C0 P w H h)(e:h.objs.size<=a):H a=none:=by
 cases q:H a with
 |none=>rfl
 |some u=>exact absurd (DP (x.lt q) e) (Lo _)
theorem C0.kept(x:C0 P w H h)(k:∀b u,h.get? b=some u->h'.get? b=some u):C0 P w H h':=λa o e=>
 (x a o e).Jh (λb u _ q=>k b u q) (λ_ q=>q) λ_ _ q=>q
theorem C0.laid(x:C0 P w H h)(k:∀b u,h.get? b=some u->h'.get? b=some u)(i:h.objs.size<=a)(d:CC P w (upd H a o) h' a o):C0 P w (upd H a o) h':=λb u e=>by
 have f:=x.fresh i
 by_cases g:b=a
 .subst g;rw[Ay]at e;cases e;exact d
 .rw[Ab g]at e;exact(x b u e).Jh (λc v _ q=>k c v q) (λc q=>by rw[Ab (DS q f)];exact q) λc xs q=>by rw[Ab (DS q f)];exact q
end
def Rd(H:Hp)(a:Addr)(u:HO):Prop:=H a=some u∨∃o,H a=some (.Du o u)
theorem Rd.ok{P:Program}{u:HO}(r:Rd H a u)(x:C0 P w H h):CC P w H h a u:=by
 rcases r with r|⟨o,r⟩
 .exact x a u r
 .obtain⟨_,q⟩:=x a _ r;exact q
def M4:Option HO->Prop
 |some (.lst _)=>True
 |some (.dK _)=>True
 |some (.dT _)=>True
 |some (.set _ _)=>True
 |some (.ins _ _ _)=>True
 |some (.ext _)=>True
 |_=>False
section
variable{P:Program}{x e:Addr}
theorem C0.write(ok:C0 P w H h)(a:M4 (H x))(l:e=x∨H e=some (.own x))(k:∀b u,b≠e->h.get? b=some u->h'.get? b=some u)(HH:∃u,h'.get? e=some u)
  (i:CC P w (upd H x o') h' x o'):C0 P w (upd H x o') h':=λb u q=>by
 have m:∀c y,H c=some (.own y)->c≠x:=λc y r z=>by subst z;rw[r]at a;exact a
 have n:∀c xs,H c=some (.tup xs)->c≠x:=λc xs r z=>by subst z;rw[r]at a;exact a
 by_cases f:b=x
 .subst f;rw[Ay]at q;cases q;exact i
 .rw[Ab f]at q
  by_cases g:b=e
  .have j:H b=some (.own x):=by
    rcases l with z|z
    .exact absurd (g.trans z) f
    .rw[g];exact z
   rw[q]at j;cases j;obtain⟨v,o⟩:=HH;exact⟨v,by rw[g];exact o⟩
  .refine(ok b u q).Jh (λc v d r=>k c v ?_ r) (λc r=>by rw[Ab (m c b r)];exact r) λc xs r=>by rw[Ab (n c xs r)];exact r
   rcases d with rfl|d
   .exact g
   .rintro rfl;rcases l with z|z
    .exact m c b d z
    .rw[d]at z;cases z;exact f rfl
end
structure Un (fs ex:List Addr) (H H':Hp) (h h':Heap):Prop where
 keep:∀b o,h.get? b=some o->H b=none->b∉fs->b∉ex->h'.get? b=some o
 slot:∀b o,h.get? b=some o->H b=none->b∈fs->b∉ex->∃sl,h'.get? b=some { o with slots:=sl }
 free:∀b o,h.get? b=some o->H b=none->b∉ex->H' b=none
 there:∀b o,h.get? b=some o->b∉ex->∃o',h'.get? b=some o'
 JB:∀b xs,H b=some (.tup xs)->H' b=some (.tup xs)
 IF:∀b o u,H b=some (.Du o u)->H' b=some (.Du o u)
 Ip:∀b ps,H b=some (.KD ps)->∃more,H' b=some (.KD (ps++more))
section
variable{fs Kt ex yd:List Addr}{H1 H2:Hp}{h1 h2:Heap}{x e:Addr}
theorem Un.any(u:Un fs ex H H1 h h1){ob:Obj}(q:h.get? b=some ob)(n:H b=none)(hx:b∉ex):∃sl,h1.get? b=some { ob with slots:=sl }:=by
 by_cases a:b∈fs
 .exact u.slot b ob q n a hx
 .exact⟨ob.slots,u.keep b ob q n a hx⟩
theorem Un.kept(k:∀b u,h.get? b=some u->h'.get? b=some u):Un fs ex H H h h':=
 ⟨λb ob q _ _ _=>k b ob q,λb ob q _ _ _=>⟨ob.slots,k b ob q⟩,λ_ _ _ n _=>n,λb ob q _=>⟨ob,k b ob q⟩,λ_ _ q=>q,λ_ _ _ q=>q,λ_ ps q=>⟨#[],by rw[q];simp⟩⟩
theorem Un.refl:Un fs ex H H h h:=Un.kept λ_ _ q=>q
theorem Un.laid(k:∀b u,h.get? b=some u->h'.get? b=some u)(d:h.objs.size<=a)(c:H a=none):Un fs ex H (upd H a o) h h' where
 keep:=λb u q _ _ _=>k b u q
 slot:=λb u q _ _ _=>⟨u.slots,k b u q⟩
 free:=λb u q n _=>by rw[Ab (Cp (DP (B8 q) d))];exact n
 there:=λb u q _=>⟨u,k b u q⟩
 JB:=λb xs q=>by rw[Ab (DS q c)];exact q
 IF:=λb u xs q=>by rw[Ab (DS q c)];exact q
 Ip:=λb ps q=>⟨#[],by rw[Ab (DS q c),q];simp⟩
theorem Un.write(a:M4 (H x))(f:e=x∨H e=some (.own x))(k:∀b u,b≠e->h.get? b=some u->h'.get? b=some u)(HH:∃u,h'.get? e=some u):Un fs ex H (upd H x o) h h':=by
 have hx:∀b,H b=none->b≠x:=λb n z=>by subst z;rw[n]at a;exact a
 have c:∀b,H b=none->b≠e:=λb n z=>by
  subst z;rcases f with r|r
  .exact hx b n r
  .rw[n]at r;cases r
 have hm:∀b u,H b=some u->¬ M4 (some u)->b≠x:=λb u q nm z=>by subst z;rw[q]at a;exact nm a
 refine⟨λb u q n _ _=>k b u (c b n) q,λb u q n _ _=>⟨u.slots,k b u (c b n) q⟩,λb u q n _=>by rw[Ab (hx b n)];exact n,λb u q _=>?_,
  λb xs q=>by rw[Ab (hm b _ q λz=>z)];exact q,λb u xs q=>by rw[Ab (hm b _ q λz=>z)];exact q,λb ps q=>⟨#[],by rw[Ab (hm b _ q λz=>z),q];simp⟩⟩
 by_cases d:b=e
 .subst d;exact HH
 .exact⟨u,k b u d q⟩
end
def QR(h:Heap)(H:Hp):List Addr:=(List.range h.objs.size).filter λa=>(H a).isSome
def Hr(h:Heap)(H:Hp):Heap:=PySem.W.hideAll h (QR h H)
theorem kU(h:Heap)(H:Hp):(Hr h H).objs.size=h.objs.size:=PySem.W.hideAll_size _ _
theorem wH{o:Obj}(e:h.get? b=some o)(n:H b=none):(Hr h H).get? b=some o:=
 PySem.W.hideAll_get _ e λhm=>by
  have q:(H b).isSome=true:=(List.mem_filter.mp hm).2;rw[n]at q;simp at q
theorem x9{o:Obj}(e:(Hr h H).get? b=some o):h.get? b=some o/\H b=none:=by
 have a:h.get? b=some o:=PySem.W.of_hideAll (QR h H) e;refine⟨a,?_⟩;cases q:H b with
 |none=>rfl
 |some x=>
  have hm:b∈QR h H:=List.mem_filter.mpr ⟨List.mem_range.mpr (B8 a),by simp[q]⟩;have z:(Hr h H).get? b=none:=PySem.W.hideAll_none (QR h H) hm;rw[z]at e;cases e
structure Mod (K:yo) (mg:yq) (ZB:Heap):Prop where
 NN:K.In ZB
 glob:ZB.Ns mainGlobals mg
 blt:∃mb,ZB.Ns builtinsNs mb/\∀x:Str,x ≠"__name__" -> mb x=bootBuiltins x
 nolimit:ZB.NoLimit
structure Cx where
 prog:Program
 w:World
 K:yo
 mg:yq
 base:Heap
 A:Around
 N:List Str
 s₀:Shared
 H₀:Hp
 env:Env
 outer:List Env
 stack:List Env
 ex:List Addr
 fn:Str->Bool
 calm:Bool
 pn:yp
 xe:Value->Shared->Prop
variable{X:Cx}
noncomputable def Gi(l:List Env):List Addr:=l.filterMap (·.frame)
abbrev Cx.fs(X:Cx):List Addr:=Gi X.outer
def Nj(sc:Scope)(x:Str):Prop:=sc.names.lookup x=some .local∨sc.names.lookup x=some .cell∨sc.names.lookup x=some .free
def Loc(sc:Scope)(x:Str):Prop:=sc.names.lookup x=some .local∨sc.names.lookup x=some .cell
def Look(env:Env)(h:Heap)(m:yq)(x:Str)(u:Value):Prop:=
 (env.kindOf x=some .local/\m x=some u)∨((env.kindOf x=some .cell∨env.kindOf x=some .free)/\∃c,env.cells.lookup x=some c/\h.IsCell c (some u))
structure Cx.Ok (X:Cx):Prop where
 mod:Mod X.K X.mg X.base
 kind:X.env.scope.kind=.function
 glob:X.env.globals=mainGlobals
 blt:X.env.builtins=builtinsNs
 above:X.s₀.heap.objs.size<=X.env.locals
 inj:∀x y c,X.env.cells.lookup x=some c->X.env.cells.lookup y=some c->x=y
 has:∀x,(X.env.kindOf x=some .cell∨X.env.kindOf x=some .free)->∃c,X.env.cells.lookup x=some c
 NM:∀x c,X.fn x=true->X.env.cells.lookup x=some c->X.s₀.heap.objs.size<=c
 hd:X.calm=true->X.A.handled=none
 frames:X.A.frames=some X.stack
 ON:X.stack=X.outer∨(X.stack=X.env::X.outer/\X.env.frame=some X.env.locals)
 Oc:∀b∈X.ex,b≠X.env.locals/\∀x c,X.env.cells.lookup x=some c->c≠b
 bs:∀b o,X.base.get? b=some o->X.s₀.heap.get? b=some o/\X.H₀ b=none
 IH:X.base.objs.size<=X.s₀.heap.objs.size
 NP:∀b o,X.base.get? b=some o->b∉X.ex
 M8:∀b∈X.ex,b∉X.fs
 Fy:X.s₀.heap.FunFrames X.base X.outer
 Jn:∀b∈X.fs,X.H₀ b=none
structure Inv (X:Cx) (Zn:yp) (O:List (Option V)) (H:Hp) (s:Shared):Prop where
 ok:X.Ok
 os:s.os=X.s₀.os
 bare:AllBare s.gens
 base:Un X.fs X.ex X.H₀ H X.s₀.heap s.heap
 loc:∃m,s.heap.Ns X.env.locals m/\∀(i:Nat)(x:Str)(v:V),X.N[i]?=some x->O[i]?=some (some v)->Nj X.env.scope x->∃u,RelV v u/\Look X.env s.heap m x u
 cell:∀x c,X.env.cells.lookup x=some c->∃v,s.heap.IsCell c v
 free:H X.env.locals=none
 HK:∀x c,X.env.cells.lookup x=some c->H c=none
 pin:∀p∈X.pn++Zn,s.heap.get? p.1=some p.2/\H p.1=none/\p.1≠X.env.locals/\p.1∉X.fs/\∀v,p.2.data≠.cell v
 AN:C0 X.prog X.w H s.heap
 len:O.length=X.N.length
section
variable{O:List (Option V)}
theorem Cx.Ok.lC(ok:X.Ok){o:Obj}(e:X.base.get? b=some o):b∉X.fs:=λa=>by
 have:=(ok.Fy.mem a).1;rw[e]at this;cases this
theorem Inv.bs(I:Inv X Zn O H s):∀b o,X.base.get? b=some o->s.heap.get? b=some o/\H b=none:=λb o e=>
 ⟨I.base.keep b o (I.ok.bs b o e).1 (I.ok.bs b o e).2 (I.ok.lC e) (I.ok.NP b o e),I.base.free b o (I.ok.bs b o e).1 (I.ok.bs b o e).2 (I.ok.NP b o e)⟩
theorem Inv.bk(I:Inv X Zn O H s):∀b o,X.base.get? b=some o->s.heap.get? b=some o:=λb o e=>(I.bs b o e).1
theorem Inv.mod(I:Inv X Zn O H s):Mod X.K X.mg X.base:=I.ok.mod
theorem Inv.CY(I:Inv X Zn O H s):X.K.In s.heap:=I.ok.mod.NN.keeps I.bk
theorem Inv.lt(I:Inv X Zn O H s):X.env.locals<s.heap.objs.size:=let ⟨_,hn,_⟩:=I.loc;hn.lt
theorem Inv.sz(I:Inv X Zn O H s):X.s₀.heap.objs.size<=s.heap.objs.size:=ES I.ok.above (fY I.lt)
theorem Inv.qz(I:Inv X Zn O H s)(h:s.heap.objs.size<=a):a∉X.fs:=λb=>by
 obtain⟨_,o,ho,_⟩:=I.ok.Fy.mem b;exact absurd (DP (B8 ho) (ES I.sz h)) (Lo _)
theorem Inv.Jk(I:Inv X Zn O H s):∀x c,X.env.cells.lookup x=some c->c≠X.env.locals:=λx c e z=>by
 obtain⟨v,o,ho,hd⟩:=I.cell x c e;obtain⟨m,⟨o',es,a,EW,VL,_⟩,_⟩:=I.loc;rw[z,EW]at ho;cases ho;rw[VL]at hd;cases hd
theorem Inv.Fy(I:Inv X Zn O H s):s.heap.FunFrames X.base X.outer:=by
 have all:∀(l:List Env),(∀b∈Gi l,b∈X.fs)->X.s₀.heap.FunFrames X.base l->s.heap.FunFrames X.base l:=by
  intro l
  induction l with
  |nil=>intro _ _;trivial
  |cons env r f=>
   intro hs h;obtain⟨i,⟨L,o,a,g,ho,hd⟩,hr⟩:=h;have d:L∈X.fs:=hs L (by unfold Gi;rw[fG,a];exact D2);obtain⟨sl,e⟩:=I.base.slot L o ho (I.ok.Jn L d) d λz=>I.ok.M8 L z d;exact⟨i,⟨L,_,a,g,e,hd⟩,f (λb c=>hs b (by unfold Gi;rw[fG,a];exact CM _ c)) hr⟩
 exact all X.outer (λ_ c=>c) I.ok.Fy
theorem Inv.stack(I:Inv X Zn O H s):s.heap.FunFrames X.base X.stack:=by
 rcases I.ok.ON with e|⟨e,hf⟩
 .rw[e];exact I.Fy
 .rw[e];obtain⟨m,a,_⟩:=I.loc;refine .cons (by rw[I.ok.kind];decide) hf a ?_ I.Fy;exact Heap.get?_none_of_le (ES I.ok.IH I.ok.above)
theorem Inv.V9(I:Inv X Zn O H s):∀b∈Gi X.stack,b∈X.env.locals::X.fs:=λb a=>by
 rcases I.ok.ON with e|⟨e,hf⟩
 .rw[e]at a;exact CM _ a
 .rw[e]at a;unfold Gi at a;rw[fG,hf]at a;exact a
theorem Inv.dG(I:Inv X Zn O H s):∀b∈Gi X.stack,H b=none:=λb a=>by
 rcases List.mem_cons.mp (I.V9 b a)with e|a
 .rw[e];exact I.free
 .obtain⟨_,o,ho,_⟩:=I.ok.Fy.mem a;exact I.base.free b o ho (I.ok.Jn b a) λz=>I.ok.M8 b z a
theorem Inv.step(I:Inv X Zn O H s)
  (HG:∀b∈ch,(b∈X.ex∨X.s₀.heap.objs.size<=b)/\b≠X.env.locals/\(∀x c,X.env.cells.lookup x=some c->c≠b)/\∀p∈X.pn++Zn,p.1≠b)
  (keep:∀b o,b≠X.env.locals->b∉X.fs->b∉ch->s.heap.get? b=some o->H b=none->h'.get? b=some o)
  (slot:∀b o,b≠X.env.locals->b∈X.fs->b∉ch->s.heap.get? b=some o->H b=none->∃sl,h'.get? b=some { o with slots:=sl }) (free:∀b o,b∉ch->s.heap.get? b=some o->H b=none->H' b=none)
  (there:∀b o,b∉ch->s.heap.get? b=some o->∃o',h'.get? b=some o')
  (JB:∀b xs,H b=some (.tup xs)->H' b=some (.tup xs)) (IF:∀b o u,H b=some (.Du o u)->H' b=some (.Du o u)) (Ip:∀b ps,H b=some (.KD ps)->∃more,H' b=some (.KD (ps++more)))
  (ns:∀m,s.heap.Ns X.env.locals m->h'.Ns X.env.locals m) (AN:C0 X.prog X.w H' h') (hg:AllBare g') :
  Inv X Zn O H' { s with heap:=h',gens:=g',drawn:=d',toks:=t' }:=by
 have C:∀b o,X.s₀.heap.get? b=some o->b≠X.env.locals:=λb o e=>Cp (DP (B8 e) I.ok.above);have t:∀b o,X.s₀.heap.get? b=some o->b∉X.ex->b∉ch:=λb o e hx g=>by
  rcases(HG b g).1 with z|z
  .exact hx z
  .exact absurd (DP (B8 e) z) (Lo _)
 have a:∀x c,X.env.cells.lookup x=some c->∀v,s.heap.IsCell c v->h'.IsCell c v:=λx c e v AE=>by
  obtain⟨o,ho,hd⟩:=AE;have j:c∉ch:=λz=>(HG c z).2.2.1 x c e rfl
  by_cases B:c∈X.fs
  .obtain⟨sl,q⟩:=slot c o (I.Jk x c e) B j ho (I.HK x c e);exact⟨_,q,hd⟩
  .exact⟨o,keep c o (I.Jk x c e) B j ho (I.HK x c e),hd⟩
 refine⟨I.ok,I.os,hg,⟨λb o e n g hx=>?_,λb o e n g hx=>?_,λb o e n hx=>?_,λb o e hx=>?_,λb xs e=>JB b xs (I.base.JB b xs e),λb o xs e=>IF b o xs (I.base.IF b o xs e),λb ps e=>?_⟩,?_,λx c e=>?_,?_,λx c e=>?_,λp A=>?_,AN,I.len⟩
 .exact keep b o (C b o e) g (t b o e hx) (I.base.keep b o e n g hx) (I.base.free b o e n hx)
 .obtain⟨sl,f⟩:=I.base.slot b o e n g hx;obtain⟨D,h⟩:=slot b _ (C b o e) g (t b o e hx) f (I.base.free b o e n hx);exact⟨D,h⟩
 .obtain⟨o',f⟩:=I.base.there b o e hx;exact free b o' (t b o e hx) f (I.base.free b o e n hx)
 .obtain⟨o',f⟩:=I.base.there b o e hx;exact there b o' (t b o e hx) f
 .obtain⟨F,f⟩:=I.base.Ip b ps e;obtain⟨E,h⟩:=Ip b _ f;exact⟨F++E,by rw[h,Array.append_assoc]⟩
 .obtain⟨m,G,J⟩:=I.loc;refine⟨m,ns m G,λi x v f h K=>?_⟩;obtain⟨u,r,l⟩:=J i x v f h K;refine⟨u,r,?_⟩;rcases l with l|⟨k,c,e,z⟩
  .exact .inl l
  .exact .inr ⟨k,c,e,a x c e _ z⟩
 .obtain⟨v,z⟩:=I.cell x c e;exact⟨v,a x c e v z⟩
 .obtain⟨m,⟨o,_,_,ho,_⟩,_⟩:=I.loc;exact free _ o (λz=>(HG _ z).2.1 rfl) ho I.free
 .obtain⟨v,o,ho,hd⟩:=I.cell x c e;exact free c o (λz=>(HG c z).2.2.1 x c e rfl) ho (I.HK x c e)
 .obtain⟨e,n,ne,y,d⟩:=I.pin p A;have j:p.1∉ch:=λz=>(HG p.1 z).2.2.2 p A rfl;exact⟨keep p.1 p.2 ne y j e n,free p.1 p.2 j e n,ne,y,d⟩
theorem Inv.un(I:Inv X Zn O H s)(u:Un X.fs [] H H' s.heap h')(AN:C0 X.prog X.w H' h'):Inv X Zn O H' { s with heap:=h',toks:=t' }:=by
 obtain⟨m,⟨o,es,g,ho,r⟩,_⟩:=id I.loc;obtain⟨sl,d⟩:=u.any ho I.free (by simp);exact I.step (g':=s.gens) (d':=s.drawn) (ch:=[]) (λ_ z=>nomatch z) (λb o _ a _ e n=>u.keep b o e n a (by simp)) (λb o _ a _ e n=>u.slot b o e n a (by simp)) (λb o _ e n=>u.free b o e n (by simp)) (λb o _ e=>u.there b o e (by simp)) u.JB u.IF u.Ip (λf hm=>by
  obtain⟨o',RZ,SH,EW,c⟩:=hm;rw[ho]at EW;cases EW;exact⟨_,RZ,SH,d,c⟩) AN I.bare
theorem Inv.call(I:Inv X Zn O H s)(u:Un (Gi X.stack) ch H H' s.heap h')(AN:C0 X.prog X.w H' h')(g:AllBare g')
  (HG:∀b∈ch,(b∈X.ex∨X.s₀.heap.objs.size<=b)/\b≠X.env.locals/\(∀x c,X.env.cells.lookup x=some c->c≠b)/\∀p∈X.pn++Zn,p.1≠b) :
  Inv X Zn O H' { s with heap:=h',gens:=g',drawn:=d',toks:=t' }:=by
 obtain⟨m,⟨o,es,j,ho,r⟩,_⟩:=id I.loc;obtain⟨sl,d⟩:=u.any ho I.free λz=>(HG _ z).2.1 rfl;exact I.step (ch:=ch) HG (λb o d h a e n=>u.keep b o e n (λz=>(List.mem_cons.mp (I.V9 b z)).elim d h) a) (λb o _ _ a e n=>u.any e n a) (λb o a e n=>u.free b o e n a) (λb o a e=>u.there b o e a) u.JB u.IF u.Ip (λi hm=>by
  obtain⟨o',RZ,SH,EW,f⟩:=hm;rw[ho]at EW;cases EW;exact⟨_,RZ,SH,d,f⟩) AN g
theorem Inv.turned(I:Inv X Zn O H s)(k:∀b o,b≠it->s.heap.get? b=some o->h'.get? b=some o)(g:H it=none)(d:it≠X.env.locals)
  (h1:it∈X.ex∨X.s₀.heap.objs.size<=it) (h2:∀x c,X.env.cells.lookup x=some c->c≠it) (i:∀p∈X.pn++Zn,p.1≠it):Inv X Zn O H { s with heap:=h',toks:=t' }:=by
 have f:∀b u,H b=some u->b≠it:=λb u e z=>by rw[z,g]at e;cases e
 refine I.step (g':=s.gens) (d':=s.drawn) (ch:=[it]) (λb h=>?_) (λb o _ _ a e _=>k b o (λz=>a (by simp[z])) e) (λb o _ _ a e _=>⟨o.slots,k b o (λz=>a (by simp[z])) e⟩) (λ_ _ _ _ n=>n)
  (λb o a e=>⟨o,k b o (λz=>a (by simp[z])) e⟩) (λ_ _ e=>e) (λ_ _ _ e=>e) (λb ps e=>⟨#[],by rw[e];simp⟩) (λm hm=>?_) (λb u e=>?_) I.bare
 .have e:b=it:=by simpa using h
  subst e;exact⟨h1,d,h2,i⟩
 .obtain⟨o,es,j,ho,r⟩:=hm;exact⟨o,es,j,k _ o (Bk d) ho,r⟩
 .refine(I.AN b u e).Jh (λc v a q=>k c v ?_ q) (λ_ q=>q) λ_ _ q=>q;rcases a with z|z
  .rw[z];exact f b u e
  .exact f c _ z
theorem Inv.tok(I:Inv X Zn O H s)(t:Nat):Inv X Zn O H { s with toks:=t }:=I.un (h':=s.heap) (t':=t) Un.refl I.AN
theorem Inv.kept(I:Inv X Zn O H s)(k:∀b u,s.heap.get? b=some u->h'.get? b=some u):Inv X Zn O H { s with heap:=h',toks:=t' }:=I.un (Un.kept k) (I.AN.kept k)
theorem Inv.laid(I:Inv X Zn O H s)(k:∀b u,s.heap.get? b=some u->h'.get? b=some u)(d:s.heap.objs.size<=a)(c:CC X.prog X.w (upd H a o) h' a o):
  Inv X Zn O (upd H a o) { s with heap:=h',toks:=t' }:=I.un (Un.laid k d (I.AN.fresh d)) (I.AN.laid k d c)
theorem Inv.write{x e:Addr}(I:Inv X Zn O H s)(c:M4 (H x))(d:e=x∨H e=some (.own x))(k:∀b u,b≠e->s.heap.get? b=some u->h'.get? b=some u)(HH:∃u,h'.get? e=some u)
  (a:CC X.prog X.w (upd H x o) h' x o):Inv X Zn O (upd H x o) { s with heap:=h',toks:=t' }:=I.un (Un.write c d k HH) (I.AN.write c d k HH a)
theorem Inv.ZV(I:Inv X Zn O H s)(h:∀p∈X0,s.heap.get? p.1=some p.2/\H p.1=none/\p.1≠X.env.locals/\p.1∉X.fs/\∀v,p.2.data≠.cell v):Inv X X0 O H s:=
 ⟨I.ok,I.os,I.bare,I.base,I.loc,I.cell,I.free,I.HK,λp a=>(List.mem_append.mp a).elim (λz=>I.pin p (JV _ z)) (h p),I.AN,I.len⟩
theorem Yj(c:N.Nodup)(a:N[i]?=some x)(b:N[j]?=some x):i=j:=by
 obtain⟨h1,e⟩:=List.getElem?_eq_some_iff.mp a;obtain⟨h2,d⟩:=List.getElem?_eq_some_iff.mp b;exact(xm c).mp (e.trans d.symm)
theorem bo{Q:Unit->Shared->Prop}(I:Inv X Zn O H s)(V:X.N.Nodup)(hi:X.N[i]?=some x)(hx:Loc X.env.scope x)(r:RelV v u)
  (h:∀s',Inv X Zn (O.set i (some v)) H s'->(∃a,Heap.SameBut a s.heap s'.heap/\(a=X.env.locals∨X.env.cells.lookup x=some a))->Q () s') (hf:X.fn x=true∨X.env.scope.names.lookup x=some .local:=by first|exact .inl rfl|exact .inr rfl|assumption):wpAny M A (storeName X.env x u) Q E s:=by
 obtain⟨m,P,U⟩:=id I.loc;have qE:(X.env.scope.kind == .class || (X.env.scope.kind == .module && X.env.locals != X.env.globals))=false:=by rw[I.ok.kind];rfl
 have hiσ:i<O.length:=by rw[I.len];exact(List.getElem?_eq_some_iff.mp hi).1
 have Jk:=I.Jk;have f:∀{a:Addr}{h':Heap},(∃o,s.heap.get? a=some o/\H a=none)->Heap.SameBut a s.heap h'->C0 X.prog X.w H h':=λ{a h'}ha hs b ob e=>by
  obtain⟨_,_,Yk⟩:=ha;refine(I.AN b ob e).Jh (λc D l q=>(hs.2 c ?_).trans q) (λ_ q=>q) λ_ _ q=>q;rintro rfl;rcases l with rfl|l
  .rw[Yk]at e;cases e
  .rw[Yk]at l;cases l
 rcases hx with hk|hk
 .refine wpAny_storeName_local hk P (λh' KI hs=>?_) qE;obtain⟨oL,_,_,rJ,_⟩:=id P;refine h _ ⟨I.ok,I.os,I.bare,⟨λb o e n C hx=>?_,λb o e n C hx=>?_,I.base.free,λb o e hx=>?_,I.base.JB,I.base.IF,I.base.Ip⟩,⟨_,KI,λj y G g t R=>?_⟩,λy c e=>?_,I.free,I.HK,λp σ=>?_,f ⟨oL,rJ,I.free⟩ hs,by simpa using I.len⟩ ⟨_,hs,.inl rfl⟩
  .exact(hs.2 b (Cp (DP (B8 e) I.ok.above))).trans (I.base.keep b o e n C hx)
  .obtain⟨sl,g⟩:=I.base.slot b o e n C hx;exact⟨sl,(hs.2 b (Cp (DP (B8 e) I.ok.above))).trans g⟩
  .obtain⟨o',g⟩:=I.base.there b o e hx;exact⟨o',(hs.2 b (Cp (DP (B8 e) I.ok.above))).trans g⟩
  .by_cases B:j=i
   .subst B;rw[hi]at g;cases g;rw[DD hiσ]at t;cases t;exact⟨u,r,.inl ⟨hk,by simp⟩⟩
   .rw[Cb (Bk B)]at t;obtain⟨J,K,q⟩:=U j y G g t R;refine⟨J,K,?_⟩;rcases q with⟨k,e⟩|⟨k,c,e,z⟩
    .refine .inl ⟨k,?_⟩;have:y≠x:=λe=>B (Yj V g (e▸hi));simp[this,e]
    .exact .inr ⟨k,c,e,z.sameBut hs (Jk y c e)⟩
  .obtain⟨D,z⟩:=I.cell y c e;exact⟨D,z.sameBut hs (Jk y c e)⟩
  .obtain⟨e,n,ne,L,d⟩:=I.pin p σ;exact⟨(hs.2 p.1 ne).trans e,n,ne,L,d⟩
 .have S:X.fn x=true:=by
   rcases hf with z|z
   .exact z
   .rw[z]at hk;cases hk
  obtain⟨c,l⟩:=I.ok.has x (.inl hk);obtain⟨D,z⟩:=I.cell x c l;refine wpAny_storeName_cell I.ok.kind hk l z (λh' Hy hs=>?_);obtain⟨T,W,xI⟩:=id z;refine h { s with heap:=h' } ⟨I.ok,I.os,I.bare,⟨λb o e n C hx=>?_,λb o e n C hx=>?_,I.base.free,λb o e hx=>?_,I.base.JB,I.base.IF,I.base.Ip⟩,⟨m,P.sameBut hs (Bk (Jk x c l)),λj y G g t R=>?_⟩,λy F e=>?_,I.free,I.HK,λp σ=>?_,f ⟨T,W,I.HK x c l⟩ hs,by simpa using I.len⟩ ⟨c,hs,.inr l⟩
  .exact(hs.2 b (Cp (DP (B8 e) (I.ok.NM x c S l)))).trans (I.base.keep b o e n C hx)
  .obtain⟨sl,g⟩:=I.base.slot b o e n C hx;exact⟨sl,(hs.2 b (Cp (DP (B8 e) (I.ok.NM x c S l)))).trans g⟩
  .obtain⟨o',g⟩:=I.base.there b o e hx;exact⟨o',(hs.2 b (Cp (DP (B8 e) (I.ok.NM x c S l)))).trans g⟩
  .by_cases B:j=i
   .subst B;rw[hi]at g;cases g;rw[DD hiσ]at t;cases t;exact⟨u,r,.inr ⟨.inl hk,c,l,Hy⟩⟩
   .rw[Cb (Bk B)]at t;obtain⟨J,K,q⟩:=U j y G g t R;refine⟨J,K,?_⟩;rcases q with q|⟨k,F,e,z'⟩
    .exact .inl q
    .refine .inr ⟨k,F,e,z'.sameBut hs ?_⟩;rintro rfl;exact B (Yj V g (I.ok.inj _ _ _ e l▸hi))
  .by_cases Y:F=c
   .subst Y;exact⟨_,Hy⟩
   .obtain⟨w2,Z⟩:=I.cell y F e;exact⟨w2,Z.sameBut hs Y⟩
  .obtain⟨e,n,ne,L,d⟩:=I.pin p σ;refine⟨(hs.2 p.1 ?_).trans e,n,ne,L,d⟩;intro q;rw[q,W]at e;have q':T=p.2:=B9 e;exact d D (by rw[<- q'];exact xI)
theorem Uj{Q:Unit->Shared->Prop}(I:Inv X Zn O H s)(b:X.N.Nodup)(hi:X.N[i]?=some x)(hx:Loc X.env.scope x)(r:RelV v u)
  (h:∀s',Inv X Zn (O.set i (some v)) H s'->Q () s') (a:X.fn x=true∨X.env.scope.names.lookup x=some .local:=by first|exact .inl rfl|exact .inr rfl|assumption):wpAny M A (storeName X.env x u) Q E s:=
 bo I b hi hx r (λs' I' _=>h s' I') a
theorem Inv.kX(I:Inv X Zn O H s)(ho:s'.os=s.os)(u:Un (Gi X.stack) ch H H' s.heap s'.heap)(AN:C0 X.prog X.w H' s'.heap)(a:AllBare s'.gens)
  (HG:∀b∈ch,(b∈X.ex∨X.s₀.heap.objs.size<=b)/\b≠X.env.locals/\(∀x c,X.env.cells.lookup x=some c->c≠b)/\∀p∈X.pn++Zn,p.1≠b):Inv X Zn O H' s':=by
 obtain⟨h',g',d',t',o'⟩:=s';have e:o'=s.os:=ho;subst e;exact I.call (g':=g') (t':=t') (d':=d') u AN a HG
end
abbrev XK:=Value->Option Addr->Hp->Prop
abbrev St:=List (Option V)
variable{O:St}
abbrev VK:=V->Hp->Prop
abbrev TE:=St->Hp->VK->Prop
variable{ta tb tc te:TE}
abbrev TT:=St->Hp->(Bool->Hp->Prop)->Prop
abbrev TA:=St->Hp->(List V->Hp->Prop)->Prop
structure Ends where
 nx:St->Hp->Prop
 rt:VK
 bk:St->Hp->Prop:=λ_ _=>False
 ct:St->Hp->Prop:=λ_ _=>False
abbrev TS:=Ends->St->Hp->Prop
def EP(X:Cx)(Zn:yp)(O:St)(Q:VK)(u:Value)(s':Shared):Prop:=∃v H',Inv X Zn O H' s'/\RelV v u/\Q v H'
def TP(X:Cx)(Zn:yp)(O:St)(Q:Bool->Hp->Prop)(b:Bool)(s':Shared):Prop:=∃H',Inv X Zn O H' s'/\Q b H'
def AP(X:Cx)(Zn:yp)(O:St)(Q:List V->Hp->Prop)(us:List Value)(s':Shared):Prop:=∃vs H',Inv X Zn O H' s'/\Vals vs us/\Q vs H'
def SP(X:Cx)(Zn:yp)(D:Ends)(f:Flow)(s':Shared):Prop:=
 match f with
 | .next=>∃ σ' H',Inv X Zn σ' H' s'/\D.nx σ' H'
 | .brk=>∃ σ' H',Inv X Zn σ' H' s'/\D.bk σ' H'
 | .cont=>∃ σ' H',Inv X Zn σ' H' s'/\D.ct σ' H'
 | .ret u=>∃v σ' H',Inv X Zn σ' H' s'/\RelV v u/\D.rt v H'
def PE(X:Cx)(e:Expr)(t:TE):Prop:=
 ∀(Zn:yp)(s:Shared)(O:St)(H:Hp)(Q:VK),Inv X Zn O H s->t O H Q->wpAny (model X.prog X.w) X.A (eval e X.env) (EP X Zn O Q) X.xe s
def PT(X:Cx)(e:Expr)(t:TT):Prop:=
 ∀(Zn:yp)(s:Shared)(O:St)(H:Hp)(Q:Bool->Hp->Prop),Inv X Zn O H s->t O H Q->wpAny (model X.prog X.w) X.A (isTrue e X.env (eval e X.env)) (TP X Zn O Q) X.xe s
def PW(X:Cx)(e:Expr)(t:TT):Prop:=
 ∀(a:Sem Value)(Zn:yp)(s:Shared)(O:St)(H:Hp)(Q:Bool->Hp->Prop),Inv X Zn O H s->t O H Q->wpAny (model X.prog X.w) X.A (isTrue e X.env a) (TP X Zn O Q) X.xe s
theorem PW.pt{t:TT}(h:PW X e t):PT X e t:=h _
def PA(X:Cx)(es:List Expr)(t:TA):Prop:=
 ∀(pos:Pos)(Zn:yp)(s:Shared)(O:St)(H:Hp)(Q:List V->Hp->Prop),Inv X Zn O H s->t O H Q->wpAny (model X.prog X.w) X.A (spliced (backTo pos (starEach es X.env))) (AP X Zn O Q) X.xe s
def PS(X:Cx)(st:Stmt)(t:TS):Prop:=
 ∀(Zn:yp)(s:Shared)(O:St)(H:Hp)(D:Ends),Inv X Zn O H s->t D O H->wpAny (model X.prog X.w) X.A (exec st X.env) (SP X Zn D) X.xe s
def EA(X:Cx)(st:List Stmt)(t:TS):Prop:=
 ∀(Zn:yp)(s:Shared)(O:St)(H:Hp)(D:Ends),Inv X Zn O H s->t D O H->wpAny (model X.prog X.w) X.A (execs st X.env) (SP X Zn D) X.xe s
theorem AJ{t:Sem α}{Q Q':α->Shared->Prop}(h:wpAny M A t Q E s)(b:∀a s,Q a s->Q' a s):wpAny M A t Q' E s:=jH h b λ_ _ x=>x
section
def BF(i:Nat):TE:=λO H Q=>∃v,O[i]?=some (some v)/\Q v H
def tC(v:V):TE:=λ_ H Q=>Q v H
def Gl(X:Cx)(x:Str):Prop:=X.env.kindOf x=some .globalImplicit
theorem UW(I:Inv X Zn O H s)(a:Gl X x)(hm:X.mg x=some u)(h:Q u s)
  (hd:(x == ("__debug__":Str))=false:=by decide):wpAny (model X.prog X.w) X.A (eval (.Name x pos) X.env) Q E s:=
 xa I.ok.kind a (Calls.loadGlobal_global (by rw[I.ok.glob];exact I.mod.glob.keeps I.bk) hm h) hd
theorem LJ(I:Inv X Zn O H s)(c:Gl X x)(hm:X.mg x=none)(a:bootBuiltins x=some u)(h:Q u s)
  (b:x ≠"__name__" := by decide) (hd:(x == ("__debug__":Str))=false:=by decide):wpAny (model X.prog X.w) X.A (eval (.Name x pos) X.env) Q E s:=by
 obtain⟨d,h1,h2⟩:=I.mod.blt;exact xa I.ok.kind c (Calls.loadGlobal_builtin (by rw[I.ok.glob];exact I.mod.glob.keeps I.bk) hm (by rw[I.ok.blt];exact h1.keeps I.bk) ((h2 x b).trans a) h) hd
theorem si(c:Gl X x)(hm:X.mg x=none)(a:bootBuiltins x=some u)(r:RelV v u)(b:x ≠"__name__" := by decide)(hd:(x == ("__debug__":Str))=false:=by decide):PE X (.Name x pos) (tC v):=
 λ_ _ _ H _ I h=>LJ I c hm a ⟨v,H,I,r,h⟩ b hd
variable{a b:Expr}
def PC(X:Cx)(op:CmpOp)(a b:Expr)(t:TE):Prop:=
 ∀(Zn:yp)(s:Shared)(O:St)(H:Hp)(Q:VK),Inv X Zn O H s->t O H Q->
  wpAny (model X.prog X.w) X.A (eval a X.env) (λv d=>wpAny (model X.prog X.w) X.A (eval b X.env) (λu c=>wpAny (model X.prog X.w) X.A (compareOp op v u) (EP X Zn O Q) X.xe c) X.xe d) X.xe s
theorem xP(b:Expr)(h:op≠.In)(h2:op≠.NotIn):behindInMarks op b=false:=by
 have c:(op == CmpOp.In)=false:=by cases op <;> first|rfl|exact absurd rfl h
 have a:(op == CmpOp.NotIn)=false:=by cases op <;> first|rfl|exact absurd rfl h2
 cases b <;> simp[behindInMarks,c,a]
def tB(t:TE):TT:=λO H Q=>t O H λx H1=>∃c,x=.bl c/\Q c H1
theorem wB{t:TE}(h:PC X op a b t)(h1:behindInMarks op b=false:=by first|exact xP _ (by decide) (by decide)|rfl):PT X (.Compare a [op] [b] pos) (tB t):=by
 intro Zn s O H Q I hw;refine wpAny_isTrue_Compare1 (AJ (h Zn s O H _ I hw) λv i h1=>AJ h1 λu s2 h2=>AJ h2 λc g⟨x,H1,I1,e,f⟩=>?_) h1;obtain⟨d,rfl,q⟩:=f;cases e;exact jF ⟨H1,I1,q⟩
variable{tA IE:TT}
def RG(t u:TT):TT:=λO H Q=>t O H λc H1=>if c=true then u O H1 Q else Q false H1
def OH(t u:TT):TT:=λO H Q=>t O H λc H1=>if c=true then Q true H1 else u O H1 Q
def Oa(t:TT):TT:=λO H Q=>t O H λc H1=>Q (!c) H1
def VN(ta tb:TE):TE:=λO H Q=>ta O H λx H1=>∃c,x=.bl c/\if c=true then tb O H1 Q else Q (.bl false) H1
def T6(ta tb:TE):TE:=λO H Q=>ta O H λx H1=>∃c,x=.bl c/\if c=true then Q (.bl true) H1 else tb O H1 Q
def Qp(ta:TE):TE:=λO H Q=>ta O H λx H1=>∃c,x=.bl c/\Q (.bl (!c)) H1
def Qy(t:TT)(ta tb:TE):TE:=λO H Q=>t O H λc H1=>if c=true then ta O H1 Q else tb O H1 Q
end
def AS(K:yo)(H:Hp)(a:Addr)(xs:List V):Prop:=
 Rd H a (.lst xs)∨
  ∃(o:Obj)(A1:Array Value)(n:Nat),K.lookup a=some o/\o.cls=.type "list" /\ o.dict=none/\o.data=.seq A1 n/\A1.size<=sizeLine/\Vals xs A1.toList
def Ao(K:yo)(H:Hp)(a:Addr)(xs:List V):Prop:=
 Rd H a (.tup xs)∨
  ∃(o:Obj)(A1:Array Value)(n:Nat),K.lookup a=some o/\o.cls=.type "tuple" /\ o.data=.seq A1 n/\A1.size<=sizeLine/\Vals xs A1.toList
noncomputable def tI:Value->Option V
 | .none=>some .AA
 | .bool b=>some (.bl b)
 | .int i _=>some (.int i)
 | .str x _=>some (.str x)
 | .bytes b _=>some (.Fl b)
 | .float b _=>some (.JI b)
 | .ref a=>some (.ref a)
 | .type n=>some (.ty n)
 |_=>none
theorem RelV.abs{x:V}(r:RelV x u):tI u=some x:=by
 cases x with
 |AA=>cases r;rfl
 |bl _=>cases r;rfl
 |int _=>obtain⟨t,rfl⟩:=r;rfl
 |str _=>obtain⟨t,rfl⟩:=r;rfl
 |Fl _=>obtain⟨t,rfl⟩:=r;rfl
 |JI _=>obtain⟨t,rfl⟩:=r;rfl
 |ref _=>cases r;rfl
 |ty _=>cases r;rfl
theorem RelV.inj{x y:V}{u:Value}(r:RelV x u)(q:RelV y u):x=y:=B9 (r.abs.symm.trans q.abs)
theorem Vals.inj:∀{xs ys:List V}{us:List Value},Vals xs us->Vals ys us->xs=ys
 |_,_,_,.nil,.nil=>rfl
 |_,_,_,.cons r t,.cons r' t'=>by rw[r.inj r',Vals.inj t t']
section
variable{xs ys:List V}
theorem AS.of{K:yo}(h:H a=some (.lst xs)):AS K H a xs:=.inl (.inl h)
theorem Ao.of{K:yo}(h:H a=some (.tup xs)):Ao K H a xs:=.inl (.inl h)
theorem Inv.list(I:Inv X Zn O H s)(h:AS X.K H a xs):∃A1:List Value,Vals xs A1/\PlainL s.heap a A1.toArray/\xs.length<=sizeLine:=by
 rcases h with h|⟨o,A1,n,hk,hc,hd,hs,hz,r⟩
 .obtain⟨z,A1,n,r,e⟩:=h.ok I.AN;exact⟨A1,r,⟨_,n,e,rfl,rfl,rfl⟩,z⟩
 .refine⟨A1.toList,r,⟨o,n,I.CY a o hk,hc,hd,by simpa using hs⟩,?_⟩
  have e:=r.length;simp only[Qc]at e;omega
theorem Inv.tuple(I:Inv X Zn O H s)(h:Ao X.K H a xs):∃A1:List Value,Vals xs A1/\IsTup s.heap a A1.toArray/\xs.length<=sizeLine:=by
 rcases h with h|⟨o,A1,n,hk,hc,hs,hz,r⟩
 .obtain⟨z,A1,r,p⟩:=h.ok I.AN;exact⟨A1,r,p.1,z⟩
 .refine⟨A1.toList,r,⟨o,I.CY a o hk,hc,n,by simpa using hs⟩,?_⟩
  have e:=r.length;simp only[Qc]at e;omega
theorem Inv.dP(I:Inv X Zn O H s)(h:AS X.K H a xs)(h':AS X.K H a ys):xs=ys:=by
 obtain⟨A1,r,⟨o,n,e,_,_,d⟩,_⟩:=I.list h;obtain⟨its',c,⟨o',f,b,_,_,d'⟩,_⟩:=I.list h';rw[e]at b;cases b;rw[d]at d';injection d' with d1 _
 have:A1=its':=by simpa using jL Array.toList d1
 subst this;exact r.inj c
theorem Inv.ME(I:Inv X Zn O H s)(h:Ao X.K H a xs)(h':Ao X.K H a ys):xs=ys:=by
 obtain⟨A1,r,⟨o,e,_,n,d⟩,_⟩:=I.tuple h;obtain⟨its',c,⟨o',b,_,f,d'⟩,_⟩:=I.tuple h';rw[e]at b;cases b;rw[d]at d';injection d' with d1 _
 have:A1=its':=by simpa using jL Array.toList d1
 subst this;exact r.inj c
end
noncomputable abbrev Cx.HI(X:Cx)(E:Value->Shared->Prop):Cx:={ X with xe:=E }
noncomputable abbrev Cx.MB(X:Cx):Cx:=X.HI λ_ _=>False
theorem Cx.Ok.HI(ok:X.Ok)(E:Value->Shared->Prop):(X.HI E).Ok:=
 ⟨ok.mod,ok.kind,ok.glob,ok.blt,ok.above,ok.inj,ok.has,ok.NM,ok.hd,ok.frames,ok.ON,ok.Oc,ok.bs,ok.IH,ok.NP,ok.M8,ok.Fy,ok.Jn⟩
theorem Cx.Ok.Ib(ok:(X.HI E).Ok):X.Ok:=
 ⟨ok.mod,ok.kind,ok.glob,ok.blt,ok.above,ok.inj,ok.has,ok.NM,ok.hd,ok.frames,ok.ON,ok.Oc,ok.bs,ok.IH,ok.NP,ok.M8,ok.Fy,ok.Jn⟩
section
theorem Inv.HI(I:Inv X Zn O H s)(E:Value->Shared->Prop):Inv (X.HI E) Zn O H s:=⟨I.ok.HI E,I.os,I.bare,I.base,I.loc,I.cell,I.free,I.HK,I.pin,I.AN,I.len⟩
theorem Inv.Ib(I:Inv (X.HI E) Zn O H s):Inv X Zn O H s:=⟨I.ok.Ib,I.os,I.bare,I.base,I.loc,I.cell,I.free,I.HK,I.pin,I.AN,I.len⟩
theorem SP.Ib{D:Ends}{f:Flow}(h:SP (X.HI E) Zn D f s'):SP X Zn D f s':=by
 cases f with
 |next=>obtain⟨σ',H',I,q⟩:=h;exact⟨σ',H',I.Ib,q⟩
 |brk=>obtain⟨σ',H',I,q⟩:=h;exact⟨σ',H',I.Ib,q⟩
 |cont=>obtain⟨σ',H',I,q⟩:=h;exact⟨σ',H',I.Ib,q⟩
 |ret u=>obtain⟨v,σ',H',I,r,q⟩:=h;exact⟨v,σ',H',I.Ib,r,q⟩
theorem EA.MB{st:List Stmt}{t:TS}(h:EA X.MB st t):EA X st t:=λZn s O H D I hw=>
 jH (h Zn s O H D (I.HI _) hw) (λ_ _ q=>q.Ib) λ_ _ z=>False.elim z
variable{st:Stmt}{rest:List Stmt}{t u:TS}
def VQ:TS:=λD O H=>D.nx O H
def NH(t u:TS):TS:=λD O H=>t { D with nx:=u D } O H
theorem gY(h1:PS X st t)(h2:EA X rest u):EA X (st::rest) (NH t u):=by
 intro Zn s O H D I h;refine wpAny_execs_cons (AJ (h1 Zn s O H { D with nx:=u D } I h) λf a q=>?_)
 cases f with
 |next=>
  obtain⟨σ',H',I',q⟩:=q;exact h2 Zn a σ' H' D I' q
 |ret v=>exact q
 |brk=>exact q
 |cont=>exact q
theorem x8(h1:PS X st t):EA X [st] t:=by
 intro Zn s O H D I h;refine wpAny_execs_cons (AJ (h1 Zn s O H D I h) λf a q=>?_);cases f with
 |next=>exact oM q
 |ret v=>exact q
 |brk=>exact q
 |cont=>exact q
theorem Inv.quiet(I:Inv X Zn O H s):interactive X.env=false:=by simp[interactive,I.ok.kind]
def Ff(te:TE):TS:=λD O H=>te O H λ_ H1=>D.nx O H1
def LV(te:TE):TS:=λD O H=>te O H D.rt
def Li(c:TT)(t u:TS):TS:=λD O H=>c O H λb H1=>if b=true then t D O H1 else u D O H1
def Y6:TS:=λ_ _ _=>False
end
abbrev TG:=V->St->Hp->(St->Hp->Prop)->Prop
abbrev GA:=List V->St->Hp->(St->Hp->Prop)->Prop
def PG(X:Cx)(a:Expr)(t:TG):Prop:=
 ∀(Zn:yp)(s:Shared)(O:St)(H:Hp)(v:V)(u:Value)(Q:St->Hp->Prop),Inv X Zn O H s->RelV v u->t v O H Q->
  wpAny (model X.prog X.w) X.A (assign a X.env u) (λ_ s'=>∃ σ' H',Inv X Zn σ' H' s'/\Q σ' H') X.xe s
def LR(X:Cx)(ts:List Expr)(t:GA):Prop:=
 ∀(Zn:yp)(s:Shared)(O:St)(H:Hp)(vs:List V)(us:List Value)(Q:St->Hp->Prop),Inv X Zn O H s->Vals vs us->t vs O H Q->
  wpAny (model X.prog X.w) X.A (assignInOrder ((assignEach ts X.env).map (·.2)) us) (λ_ s'=>∃ σ' H',Inv X Zn σ' H' s'/\Q σ' H') X.xe s
abbrev Px:=V->V->V->Hp->(Hp->Prop)->Prop
def R6(X:Cx)(t:Px):Prop:=
 ∀(Zn:yp)(s:Shared)(O:St)(H:Hp)(o i v:V)(a b u:Value)(Q:Hp->Prop),Inv X Zn O H s->RelV o a->RelV i b->RelV v u->t o i v H Q->
  wpAny (model X.prog X.w) X.A (setItem a b u) (λ_ s'=>∃H',Inv X Zn O H' s'/\Q H') X.xe s
abbrev Ls:=V->V->Hp->VK->Prop
def R0(X:Cx)(op:Operator)(t:Ls):Prop:=
 ∀(Zn:yp)(s:Shared)(O:St)(H:Hp)(x y:V)(v u:Value)(Q:VK),Inv X Zn O H s->RelV x v->RelV y u->t x y H Q->
  wpAny (model X.prog X.w) X.A (inplaceOp op v u) (EP X Zn O Q) X.xe s
def Bt(i:Nat):TG:=λv O H Q=>Q (O.set i (some v)) H
theorem Qt(b:X.N.Nodup)(hi:X.N[i]?=some x)(hx:Loc X.env.scope x)(a:X.fn x=true∨X.env.scope.names.lookup x=some .local:=by first|exact .inl rfl|exact .inr rfl|assumption):PG X (.Name x pos) (Bt i):=by
 intro Zn s O H v u Q I r h;exact wpAny_assign_Name (Uj I b hi hx r (λs' I'=>⟨_,H,I',h⟩) a)
def KZ:GA:=λvs O H Q=>vs=[]/\Q O H
def FP(t:TG)(u:GA):GA:=λvs O H Q=>∃v r,vs=v::r/\t v O H λσ' H'=>u r σ' H' Q
theorem Xk:LR X [] KZ:=by
 intro Zn s O H vs us Q I r h;obtain⟨e,h⟩:=h;subst e;cases r;exact assignInOrder_nil ⟨O,H,I,h⟩
theorem aV{t:TG}{u:GA}(h1:PG X e t)(h2:LR X es u)
  (hs:(assignEach (e::es) X.env).map (·.2)=assign e X.env::(assignEach es X.env).map (·.2):=by rfl):LR X (e::es) (FP t u):=by
 intro Zn s O H vs us Q I r h;obtain⟨v,g,f,h⟩:=h;subst f;cases r with
 |cons r b=>
  rw[hs];refine assignInOrder_cons (AJ (h1 Zn s O H _ _ _ I r h) λ_ a d=>?_);obtain⟨σ1,H1,I1,c⟩:=d;exact h2 Zn a σ1 H1 _ _ Q I1 b c
def JL(K:yo)(n:Nat)(t:GA):TG:=λv O H Q=>∃a xs,v=.ref a/\Ao K H a xs/\xs.length=n/\t xs O H Q
theorem cz{k:Nat}{t:GA}(j:X.calm=true)(h:LR X es t)
  (g:(assignEach es X.env).length=n:=by rfl) (FJ:(assignEach es X.env).findIdx? (·.1)=none:=by rfl):PG X (.Tuple es k pos) (JL X.K n t):=by
 intro Zn s O H v u Q I r hw;obtain⟨a,xs,l,f,i,hw⟩:=hw;subst l;cases r;obtain⟨A1,c,d,p⟩:=I.tuple f;refine assign_Tuple_tuple (I.ok.hd j) d (by simp[g,<- i,c.length]) FJ λh' hx=>?_;have m:Inv X Zn O H { s with heap:=h' }:=I.kept (t':=s.toks) λb o e=>hx b o (Cp (B8 e)) e
 exact h Zn _ O H xs _ Q m (by simpa using c) hw
def V0(to ti:TE)(t:Px):TG:=λv O H Q=>to O H λo H1=>ti O H1 λi H2=>t o i v H2 λH3=>Q O H3
def Dq(te:TE)(g:TG):TS:=λD O H=>te O H λx H1=>g x O H1 D.nx
def RF(i:Nat)(te:TE)(ti:Ls):TS:=λD O H=>∃x,O[i]?=some (some x)/\te O H λy H1=>ti x y H1 λz H2=>D.nx (O.set i (some z)) H2
def NY(f:Int->Int->Int):Ls:=λx y H Q=>∃i j,x=.int i/\y=.int j/\Q (.int (f i j)) H
theorem cy:R0 X .Add (NY λi j=>i+j):=by
 intro Zn s O H x y v u Q I b a h;obtain⟨i,j,d,c,q⟩:=h;subst d;subst c;obtain⟨t,rfl⟩:=b;obtain⟨t',rfl⟩:=a;exact iadd_int ⟨.int _,H,I.tok _,⟨_,rfl⟩,q⟩
def VV(c:TT)(tb:TS):TS:=λD O H=>∃W:Nat->St->Hp->Prop,(∃m,W m O H)/\∀m O H,W m O H->
 c O H λb H1=>if b=true then ∃N:St->Hp->Prop,(∀ σ' H',N σ' H'->∃a,a < m/\W a σ' H')/\tb { D with nx:=N,ct:=N,bk:=D.nx } O H1 else D.nx O H1
structure It where
 go:Nat->Hp->Prop
 E7:Nat->Hp->V->Hp->Prop
 stop:Nat->Hp->Prop
def EB(X:Cx)(Zn:yp)(H:Hp)(b:Addr):Prop:=
 H b=none/\b≠X.env.locals/\b∉X.fs/\(b∈X.ex∨X.s₀.heap.objs.size<=b)/\(∀x c,X.env.cells.lookup x=some c->c≠b)/\∀p∈X.pn++Zn,p.1≠b
theorem Inv.LW(I:Inv X Zn O H s)(a:s.heap.objs.size<=b)(f:H' b=none):EB X Zn H' b:=by
 refine⟨f,Nd (DP I.lt a),I.qz a,.inr (ES I.sz a),λx c e z=>?_,λp d z=>?_⟩
 .obtain⟨v,q⟩:=I.cell x c e;exact absurd (DP q.lt (by rw[z];exact a)) (Lo _)
 .exact absurd (DP (B8 (I.pin p d).1) (by rw[z];exact a)) (Lo _)
structure Turn (P:Program) (w:World) (K:yo) (tg:Expr) (J:It) (fp:List Addr) (it:Addr) (tn:Nat->Heap->Prop):Prop where
 mem:it∈fp
 obj:∀i h,tn i h->∀b∈fp,∃o,h.get? b=some o/\∀v,o.data≠.cell v
 keep:∀i h h',tn i h->(∀b∈fp,∀o,h.get? b=some o->h'.get? b=some o)->tn i h'
 item:∀(X:Cx),X.prog=P->X.w=w->X.K=K->X.calm=true->∀(i:Nat)(Zn:yp)(s:Shared)(O:St)(H:Hp)(E:Value->Shared->Prop),Inv X Zn O H s->(∀b∈fp,EB X Zn H b)->tn i s.heap->J.go i H->
  wpAny (model P w) X.A (pyNext (.ref it)) (λr s1=>∃u,r=some u/\
   wpAny (model P w) X.A (letOwnedTupleGo tg (.ref it) u) (λ_ s2=>∃x H',Inv X Zn O H' s2/\RelV x u/\J.E7 i H x H'/\tn (i+1) s2.heap/\∀b∈fp,H' b=none) E s1) E s
 done:∀(X:Cx),X.prog=P->X.w=w->X.K=K->X.calm=true->∀(i:Nat)(Zn:yp)(s:Shared)(O:St)(H:Hp)(E:Value->Shared->Prop),Inv X Zn O H s->(∀b∈fp,EB X Zn H b)->tn i s.heap->J.stop i H->
  wpAny (model P w) X.A (pyNext (.ref it)) (λr s1=>r=none/\Inv X Zn O H s1) E s
 self:∀(A:Around)(i:Nat)(s:Shared)(Q:Value->Shared->Prop)(E:Value->Shared->Prop),tn i s.heap->Q (.ref it) s->wpAny (model P w) A (pyIter (.ref it)) Q E s
abbrev TI:=St->Hp->(It->Hp->Prop)->Prop
def dY(X:Cx)(Zn:yp)(O:St)(tg:Expr)(R:It->Hp->Prop)(OT:Value)(s2:Shared):Prop:=
 ∃(it:Addr)(fp:List Addr)(tn:Nat->Heap->Prop)(J:It)(H':Hp),OT=.ref it/\Inv X Zn O H' s2/\Turn X.prog X.w X.K tg J fp it tn/\tn 0 s2.heap/\(∀b∈fp,EB X Zn H' b)/\R J H'
def PI(X:Cx)(tg iter:Expr)(wi:TI):Prop:=
 ∀(Zn:yp)(s:Shared)(O:St)(H:Hp)(R:It->Hp->Prop),Inv X Zn O H s->wi O H R->
  wpAny (model X.prog X.w) X.A (eval iter X.env) (λv a=>wpAny (model X.prog X.w) X.A (pyIter v) (dY X Zn O tg R) X.xe a) X.xe s
theorem P6{o:Obj}{n:String}{vs:Array Value}{Q:Unit->Shared->Prop}(ho:s.heap.get? it=some o)(c:o.cls=.type n)(hd:o.data=.fields vs)
  (b:["enumerate","zip","dict_itemiterator","dict_reverseitemiterator","odict_iterator","itertools.zip_longest","itertools.pairwise"].contains n=false) (a:Q () s):wpAny M A (letOwnedTupleGo tg (.ref it) u) Q E s:=by
 unfold letOwnedTupleGo;cases tg <;> first
  |exact iG a
  | (cases u <;> first
    |exact iG a
    | (
      refine gG (wpAny_load ho ?_);rw[c,hd];show wpAny M A (if(["enumerate","zip","dict_itemiterator","dict_reverseitemiterator","odict_iterator","itertools.zip_longest","itertools.pairwise"].contains n && vs[0]? == some (rawInt _))=true then _ else _) Q E s
      rw[gp (by intro h;rw[b,Bool.false_and]at h;cases h)];exact iG a))
noncomputable def X9(K:yo)(a:Addr):It:=
 ⟨λi H=>∃xs x,AS K H a xs/\xs[i]?=some x,λi H x H'=>H'=H/\∀xs,AS K H a xs->xs[i]?=some x,λi H=>∃xs,AS K H a xs/\xs.length<=i⟩
noncomputable def v9(K:yo)(a:Addr):It:=
 ⟨λi H=>∃xs x,Ao K H a xs/\xs[i]?=some x,λi H x H'=>H'=H/\∀xs,Ao K H a xs->xs[i]?=some x,λi H=>∃xs,Ao K H a xs/\xs.length<=i⟩
noncomputable def Kf(lo:Int)(n:Nat):It:=⟨λi _=>i<n,λi H x H'=>H'=H/\x=.int (lo+i),λi _=>n<=i⟩
theorem Lk{P:Program}{K:yo}(a it:Addr):Turn P w K tg (X9 K a) [it] it (λi h=>h.IsListIter it a i) where
 mem:=by simp
 obj:=λi h st b f=>by
  have e:b=it:=by simpa using f
  subst e;obtain⟨o,e,c,d⟩:=st;exact⟨o,e,λv z=>by rw[d]at z;cases z⟩
 keep:=λi h h' st k=>st.at λo e=>k it (by simp) o e
 item:=by
  intro X n hw q B i Zn s O H E I j st m;subst n hw q;obtain⟨xs,x,g,hx⟩:=m;obtain⟨A1,l,p,F⟩:=I.list g;obtain⟨u,J,D⟩:=l.get hx;obtain⟨f0,A,L,y,t,r⟩:=j it (by simp);refine wpAny_pyNext_list_item st p.isList (x:=u) (by simpa using J) λh' Dw C=>?_
  have N:Inv X Zn O H { s with heap:=h' }:=I.turned (t':=s.toks) (λb o f e=>(C.2 b f).trans e) f0 A y t r
  obtain⟨o,e,c,d⟩:=id Dw;exact⟨u,rfl,P6 (s:={ s with heap:=h' }) e c d (by decide) ⟨x,H,N,D,⟨rfl,λys G=>by rw[I.dP G g];exact hx⟩,Dw,λb f=>(j b f).1⟩⟩
 done:=by
  intro X n hw q B i Zn s O H E I j st m;subst n hw q;obtain⟨xs,g,hx⟩:=m;obtain⟨A1,l,p,F⟩:=I.list g;obtain⟨f0,A,L,y,t,r⟩:=j it (by simp);have σ:=l.length;exact wpAny_pyNext_list_end (I.ok.hd B) st p.isList (by simp;omega) λh' M=>⟨rfl,I.turned (t':=s.toks) (λb o f e=>M b o f e) f0 A y t r⟩
 self:=λ_ _ _ _ _ st h=>wpAny_pyIter_listiter st h
theorem Mz{P:Program}{K:yo}(a it:Addr):Turn P w K tg (v9 K a) [it] it (λi h=>h.IsTupleIter it a i) where
 mem:=by simp
 obj:=λi h st b f=>by
  have e:b=it:=by simpa using f
  subst e;obtain⟨o,e,c,d⟩:=st;exact⟨o,e,λv z=>by rw[d]at z;cases z⟩
 keep:=λi h h' st k=>st.at λo e=>k it (by simp) o e
 item:=by
  intro X n hw q B i Zn s O H E I j st m;subst n hw q;obtain⟨xs,x,g,hx⟩:=m;obtain⟨A1,l,p,F⟩:=I.tuple g;obtain⟨u,J,D⟩:=l.get hx;obtain⟨f0,A,L,y,t,r⟩:=j it (by simp);refine wpAny_pyNext_tuple_item st (show s.heap.IsTuple a A1.toArray from p) (x:=u) (by simpa using J) λh' Dw C=>?_
  have N:Inv X Zn O H { s with heap:=h' }:=I.turned (t':=s.toks) (λb o f e=>(C.2 b f).trans e) f0 A y t r
  obtain⟨o,e,c,d⟩:=id Dw;exact⟨u,rfl,P6 (s:={ s with heap:=h' }) e c d (by decide) ⟨x,H,N,D,⟨rfl,λys G=>by rw[I.ME G g];exact hx⟩,Dw,λb f=>(j b f).1⟩⟩
 done:=by
  intro X n hw q B i Zn s O H E I j st m;subst n hw q;obtain⟨xs,g,hx⟩:=m;obtain⟨A1,l,p,F⟩:=I.tuple g;obtain⟨f0,A,L,y,t,r⟩:=j it (by simp);have σ:=l.length;exact wpAny_pyNext_tuple_end (I.ok.hd B) st (show s.heap.IsTuple a A1.toArray from p) (by simp;omega) λh' M=>⟨rfl,I.turned (t':=s.toks) (λb o f e=>M b o f e) f0 A y t r⟩
 self:=λ_ _ _ _ _ st h=>wpAny_pyIter_tupleiter st h
theorem vU{P:Program}{K:yo}(it:Addr)(lo:Int)(n:Nat):Turn P w K tg (Kf lo n) [it] it (λi h=>IsRangeIter h it (lo+(i:Nat) * 1) ((n:Int) - (i:Nat)) 1) where
 mem:=by simp
 obj:=λi h st b a=>by
  have e:b=it:=by simpa using a
  subst e;exact⟨_,st,λv z=>by
   have r:Data.fields _=Data.cell v:=z;cases r⟩
 keep:=λi h h' st k=>k it (by simp) _ st
 item:=by
  intro X g hw j f i Zn s O H E I c st d;subst g hw j;obtain⟨f0,q,x,p,m,l⟩:=c it (by simp);have W:=Walks.range (prog:=X.prog) (w:=X.w) (I.ok.hd f) it lo 1 n;refine W.item i s _ _ d st λv h' tk u Dw kk=>?_;obtain⟨t,rfl⟩:=u;have A:Inv X Zn O H { s with heap:=h',toks:=tk }:=I.turned (λb o a e=>kk b o (by simpa using a) e) f0 q p m l
  refine⟨_,rfl,P6 (s:={ s with heap:=h',toks:=tk }) (n:="range_iterator") Dw rfl rfl (by decide) ⟨.int (lo+i),H,A,⟨t,?_⟩,⟨rfl,rfl⟩,Dw,λb a=>(c b a).1⟩⟩
  rw[Int.mul_one]
 done:=by
  intro X g hw j f i Zn s O H E I c st d;subst g hw j;obtain⟨f0,q,x,p,m,l⟩:=c it (by simp);exact wpAny_pyNext_range_end (I.ok.hd f) st (by have:n<=i:=d;omega) λh' y=>⟨rfl,I.turned (t':=s.toks) (λb o a e=>y b o a e) f0 q p m l⟩
 self:=λ_ _ _ _ _ st h=>wpAny_pyIter_rangeiter st h
def Ro(K:yo)(tl:TE):TI:=λO H R=>tl O H λx H1=>∃a,x=.ref a/\(∃xs,AS K H1 a xs)/\R (X9 K a) H1
theorem Y2{R:It->Hp->Prop}{lo hi:Int}{t u v:Tok}(I:Inv X Zn O H s)(h1:-(2 ^ 62)<=lo)(h2:lo<2 ^ 62)(f:-(2 ^ 62)<=hi)(d:hi<2 ^ 62)
  (q:R (Kf lo (hi - lo).toNat) H):wpAny (model X.prog X.w) X.A (pyIter (.ref s.heap.objs.size)) (dY X Zn O tg R) E { s with heap:=s.heap.push { cls:=.type "range", data:=.fields #[.int lo t,.int hi u,.int 1 v] },toks:=tk }:=by
 refine wpAny_pyIter_range (IsRange.new ..) (small_one h1 h2 f d) ?_;have a:Inv X Zn O H { s with heap:=s.heap.push { cls:=.type "range", data:=.fields #[.int lo t,.int hi u,.int 1 v] },toks:=tk }:=I.kept λb o e=>CU _ e
 refine⟨(s.heap.push { cls:=.type "range", data:=.fields #[.int lo t,.int hi u,.int 1 v] }).objs.size,[(s.heap.push { cls:=.type "range", data:=.fields #[.int lo t,.int hi u,.int 1 v] }).objs.size],_,_,H,rfl,
  a.kept (t':=tk) λb o e=>CU _ e,vU _ lo (hi - lo).toNat,?_,λb c=>?_,q⟩
 .have h:lo+((0:Nat):Int) * 1=lo:=by simp
  have g:(((hi - lo).toNat:Nat):Int) - ((0:Nat):Int)=Builtin.Range.rangeSize lo hi 1:=by rw[rangeSize_one];split <;> omega
  show IsRangeIter _ _ (lo+((0:Nat):Int) * 1) ((((hi - lo).toNat:Nat):Int) - ((0:Nat):Int)) 1;rw[h,g];exact DC _ rfl
 .have e:b=(s.heap.push { cls:=.type "range", data:=.fields #[.int lo t,.int hi u,.int 1 v] }).objs.size:=by simpa using c
  subst e;exact a.LW (Aj _) (a.AN.fresh (Aj _))
def RT(ta:TA):TI:=λO H R=>ta O H λvs H1=>∃j:Int,vs=[.int j]/\-(2 ^ 62)<=j/\j<2 ^ 62/\R (Kf 0 j.toNat) H1
def U2(ta:TA):TI:=λO H R=>ta O H λvs H1=>∃i j:Int,vs=[.int i,.int j]/\(-(2 ^ 62)<=i/\i<2 ^ 62/\-(2 ^ 62)<=j/\j<2 ^ 62)/\R (Kf i (j - i).toNat) H1
def Oo(wi:TI)(g:TG)(tb:TS):TS:=λD O H=>wi O H λJ H1=>∃W:Nat->Nat->St->Hp->Prop,(∃m,W 0 m O H1)/\∀i m O H,W i m O H->
 (J.stop i H/\D.nx O H)∨(J.go i H/\∃N:St->Hp->Prop,(∀ σ' H',N σ' H'->∃a,a < m/\W (i+1) a σ' H')/\∀x H',J.E7 i H x H'->g x O H' λσ2 H2=>tb { D with nx:=N,ct:=N,bk:=D.nx } σ2 H2)
noncomputable def NG(fp:List Addr)(h:Heap):yp:=fp.filterMap λb=>(h.get? b).map λo=>(b,o)
theorem Ol{o:Obj}(a:b∈fp)(e:h.get? b=some o):(b,o)∈NG fp h:=List.mem_filterMap.mpr ⟨b,a,by rw[e];rfl⟩
theorem o4{p:Addr×Obj}(a:p∈NG fp h):p.1∈fp/\h.get? p.1=some p.2:=by
 obtain⟨b,c,e⟩:=List.mem_filterMap.mp a;cases q:h.get? b with
 |none=>rw[q]at e;cases e
 |some o=>
  rw[q]at e;have d:(b,o)=p:=B9 e;subst d;exact⟨c,q⟩
theorem Inv.pinned(I:Inv X Zn O H s)(g:∀b∈fp,EB X Zn H b)(ho:∀b∈fp,∃o,s.heap.get? b=some o/\∀v,o.data≠.cell v):Inv X (Zn++NG fp s.heap) O H s:=
 I.ZV λp f=>(List.mem_append.mp f).elim (λz=>I.pin p (Ep _ z)) λz=>by
  obtain⟨a,e⟩:=o4 z;obtain⟨f0,i,h,_⟩:=g p.1 a;obtain⟨o,c,d⟩:=ho p.1 a;rw[e]at c;cases c;exact⟨e,f0,i,h,d⟩
theorem Inv.NX{pl:yp}(I:Inv X (Zn++pl) O H s):Inv X Zn O H s:=I.ZV λp a=>I.pin p (Ep _ (JV _ a))
theorem um{lo:Int}{g:TG}{tb:TS}{D:Ends}(Pv:Nat->St->Hp->Prop)(d:Pv 0 O H)
  (hs:∀i O H,i<n->Pv i O H->g (.int (lo+i)) O H λσ2 H2=>tb { D with nx:=Pv (i+1),ct:=Pv (i+1),bk:=D.nx } σ2 H2) (hd:∀ O H,Pv n O H->D.nx O H) :
  ∃W:Nat->Nat->St->Hp->Prop,(∃m,W 0 m O H)/\∀i m O H,W i m O H->
   ((Kf lo n).stop i H/\D.nx O H)∨((Kf lo n).go i H/\∃N:St->Hp->Prop,(∀ σ' H',N σ' H'->∃b,b < m/\W (i+1) b σ' H')/\∀x H',(Kf lo n).E7 i H x H'->g x O H' λσ2 H2=>tb { D with nx:=N,ct:=N,bk:=D.nx } σ2 H2):=by
 refine⟨λi m O H=>m=n - i/\i<=n/\Pv i O H,⟨n,by simp,CN _,d⟩,?_⟩;rintro i m O H⟨rfl,hi,p⟩
 by_cases a:i<n
 .refine .inr ⟨a,Pv (i+1),λσ' H' c=>⟨n - (i+1),by omega,rfl,a,c⟩,λx H' y=>?_⟩;obtain⟨e,y⟩:=y;subst e y;exact hs i O _ a p
 .have e:i=n:=by omega
  subst e;exact .inl ⟨Aj _,hd O H p⟩
abbrev R2:=V->V->Hp->VK->Prop
def B7(X:Cx)(f:Value->Value->Sem Value)(r:R2):Prop:=
 ∀(Zn:yp)(s:Shared)(O:St)(H:Hp)(x y:V)(v u:Value)(Q:VK),Inv X Zn O H s->RelV x v->RelV y u->r x y H Q->
  wpAny (model X.prog X.w) X.A (f v u) (EP X Zn O Q) X.xe s
def DF(X:Cx)(f:Value)(r:List V->Hp->VK->Prop):Prop:=
 ∀(Zn:yp)(s:Shared)(O:St)(H:Hp)(xs:List V)(us:List Value)(Q:VK),Inv X Zn O H s->Vals xs us->r xs H Q->
  wpAny (model X.prog X.w) X.A (call f us) (EP X Zn O Q) X.xe s
def BB(r:R2)(ta tb:TE):TE:=λO H Q=>ta O H λx H1=>tb O H1 λy H2=>r x y H2 Q
def rI(C:Int->Int->Prop)(g:Int->Int->V):R2:=λx y H Q=>∃i j,x=.int i/\y=.int j/\C i j/\Q (g i j) H
def G5(g:Int->Int->V):R2:=λx y H Q=>∃i j,x=.int i/\y=.int j/\Q (g i j) H
section
variable{a b c:Expr}
theorem RQ(n:PE X a ta)(m:PE X b tb){R:V->V->Hp->Prop}(I:Inv X Zn O H s)
  (h:ta O H λx H1=>tb O H1 λy H2=>R x y H2)
  (l:∀v u s2 x y H2,Inv X Zn O H2 s2->RelV x v->RelV y u->R x y H2->wpAny (model X.prog X.w) X.A (f v u) Q X.xe s2) :
  wpAny (model X.prog X.w) X.A (eval a X.env) (λv d=>wpAny (model X.prog X.w) X.A (eval b X.env) (λu c=>wpAny (model X.prog X.w) X.A (f v u) Q X.xe c) X.xe d) X.xe s:=by
 refine AJ (n Zn s O H _ I h) λv e Mt=>?_;obtain⟨x,H1,I1,i,k⟩:=Mt;refine AJ (m Zn e O H1 _ I1 k) λu s2 Vq=>?_;obtain⟨y,H2,I2,g,j⟩:=Vq;exact l v u s2 x y H2 I2 i g j
theorem Of{C:Int->Int->Prop}{g:Int->Int->Int}
  (a:∀(i j:Int)(t u:Tok)(s:Shared)(Q:Value->Shared->Prop)(E:Value->Shared->Prop),C i j->Q (.int (g i j) s.toks) { s with toks:=s.toks+1 }->wpAny (model X.prog X.w) X.A (f (.int i t) (.int j u)) Q E s) :
  B7 X f (rI C λi j=>.int (g i j)):=by
 intro Zn s O H x y v u Q I c b h;obtain⟨i,j,rfl,rfl,d,q⟩:=h;obtain⟨t,rfl⟩:=c;obtain⟨t',rfl⟩:=b;exact a i j t t' s _ _ d ⟨.int (g i j),H,I.tok _,⟨_,rfl⟩,q⟩
theorem dQ{g:Int->Int->Int}
  (a:∀(i j:Int)(t u:Tok)(s:Shared)(Q:Value->Shared->Prop)(E:Value->Shared->Prop),Q (.int (g i j) s.toks) { s with toks:=s.toks+1 }->wpAny (model X.prog X.w) X.A (f (.int i t) (.int j u)) Q E s) :
  B7 X f (G5 λi j=>.int (g i j)):=by
 intro Zn s O H x y v u Q I c b h;obtain⟨i,j,rfl,rfl,q⟩:=h;obtain⟨t,rfl⟩:=c;obtain⟨t',rfl⟩:=b;exact a i j t t' s _ _ ⟨.int (g i j),H,I.tok _,⟨_,rfl⟩,q⟩
theorem Pb{g:Int->Int->Bool}
  (a:∀(i j:Int)(t u:Tok)(s:Shared)(Q:Value->Shared->Prop)(E:Value->Shared->Prop),Q (.bool (g i j)) s->wpAny (model X.prog X.w) X.A (f (.int i t) (.int j u)) Q E s) :
  B7 X f (G5 λi j=>.bl (g i j)):=by
 intro Zn s O H x y v u Q I c b h;obtain⟨i,j,rfl,rfl,q⟩:=h;obtain⟨t,rfl⟩:=c;obtain⟨t',rfl⟩:=b;exact a i j t t' s _ _ ⟨.bl (g i j),H,I,rfl,q⟩
def mS(i j:Int):Prop:=0<=j/\j<=1000000/\i.natAbs<2 ^ 64
theorem Dy:B7 X (binaryOp .Add) (G5 λi j=>.int (i+j)):=dQ λ_ _ _ _ _ _ _ q=>add_int q
theorem Jo:B7 X (binaryOp .Sub) (G5 λi j=>.int (i - j)):=dQ λ_ _ _ _ _ _ _ q=>sub_int q
theorem IP:B7 X (binaryOp .Mod) (rI (λ_ j=>0<j) λi j=>.int (i % j)):=Of λi j _ _ _ _ _ a q=>by
 have h1:(0:Int)<j:=a;exact mod_int' (by omega) (by rw[Int.fmod_eq_emod_of_nonneg i (by omega)];exact q)
theorem Lb:B7 X (binaryOp .Pow) (rI mS λi j=>.int (i ^ j.toNat)):=Of λ_ _ _ _ _ _ _ a q=>pow_int_small a.1 a.2.1 a.2.2 q
end
noncomputable def WL:V->V->Bool
 | .AA,.AA=>true | .AA,.int _=>true | .int _,.AA=>true | .AA,.bl _=>true | .bl _,.AA=>true | .AA,.str _=>true | .str _,.AA=>true
 | .int _,.int _=>true | .bl _,.bl _=>true | .str _,.str _=>true | .Fl _,.Fl _=>true
 | .int _,.str _=>true | .str _,.int _=>true | .bl _,.str _=>true | .str _,.bl _=>true
 |_,_=>false
def dm:R2:=λx y H Q=>WL x y=true/\Q (.bl (decide (x=y))) H
def ZO:R2:=λx y H Q=>WL x y=true/\Q (.bl (!decide (x=y))) H
theorem ZE{i j:Int}:decide (V.int i=V.int j)=(i == j):=by
 rw[JQ];simp
theorem du{i j:Bool}:decide (V.bl i=V.bl j)=(i == j):=by
 rw[JQ];simp
theorem cW{i j:Str}:decide (V.str i=V.str j)=(i == j):=by
 rw[JQ];simp
theorem Xu{i j:Array UInt8}:decide (V.Fl i=V.Fl j)=(i.toList == j.toList):=by
 rw[JQ];cases i;cases j;simp
section
variable{a b c:Expr}
theorem Bu{Q:VK}{k a:Bool}(I:Inv X Zn O H s)(q:Q (.bl k) H)(e:k=a):EP X Zn O Q (.bool a) s:=by
 subst e;exact⟨.bl k,H,I,rfl,q⟩
theorem DG:B7 X (compareOp .Eq) dm:=by
 intro Zn s O H x y v u Q I b a h;obtain⟨hs,q⟩:=h;cases x with
 |AA=>
  cases b;cases y with
  |AA=>cases a;exact PySem.EqNone.eq_none_none (Bu I q (by simp))
  |bl j=>cases a;exact PySem.EqNone.eq_none_bool (Bu I q (by simp))
  |int j=>obtain⟨t',rfl⟩:=a;exact PySem.EqNone.eq_none_int (Bu I q (by simp))
  |str j=>obtain⟨t',rfl⟩:=a;exact PySem.EqNone.eq_none_str (Bu I q (by simp))
  |_=>exact absurd (show false=true from hs) Co
 |bl i=>
  cases b;cases y with
  |AA=>cases a;exact PySem.EqNone.eq_bool_none (Bu I q (by simp))
  |bl j=>cases a;exact eq_bool (Bu I q du)
  |str j=>obtain⟨t',rfl⟩:=a;exact PySem.EqMixed.eq_bool_str (Bu I q (by simp))
  |_=>exact absurd (show false=true from hs) Co
 |int i=>
  obtain⟨t,rfl⟩:=b;cases y with
  |AA=>cases a;exact PySem.EqNone.eq_int_none (Bu I q (by simp))
  |int j=>obtain⟨t',rfl⟩:=a;exact eq_int (Bu I q ZE)
  |str j=>obtain⟨t',rfl⟩:=a;exact PySem.EqMixed.eq_int_str (Bu I q (by simp))
  |_=>exact absurd (show false=true from hs) Co
 |str i=>
  obtain⟨t,rfl⟩:=b;cases y with
  |AA=>cases a;exact PySem.EqNone.eq_str_none (Bu I q (by simp))
  |bl j=>cases a;exact PySem.EqMixed.eq_str_bool (Bu I q (by simp))
  |int j=>obtain⟨t',rfl⟩:=a;exact PySem.EqMixed.eq_str_int (Bu I q (by simp))
  |str j=>obtain⟨t',rfl⟩:=a;exact eq_str (Bu I q cW)
  |_=>exact absurd (show false=true from hs) Co
 |Fl i=>
  obtain⟨t,rfl⟩:=b;cases y with
  |Fl j=>obtain⟨t',rfl⟩:=a;exact PySem.W.eq_bytes (Bu I q Xu)
  |_=>exact absurd (show false=true from hs) Co
 |_=>cases y <;> exact absurd (show false=true from hs) Co
theorem Ru:B7 X (compareOp .NotEq) ZO:=by
 intro Zn s O H x y v u Q I b a h;obtain⟨hs,q⟩:=h;cases x with
 |AA=>
  cases b;cases y with
  |AA=>cases a;exact PySem.EqNone.ne_none_none (Bu I q (by simp))
  |bl j=>cases a;exact PySem.EqNone.ne_none_bool (Bu I q (by simp))
  |int j=>obtain⟨t',rfl⟩:=a;exact PySem.EqNone.ne_none_int (Bu I q (by simp))
  |str j=>obtain⟨t',rfl⟩:=a;exact PySem.EqNone.ne_none_str (Bu I q (by simp))
  |_=>exact absurd (show false=true from hs) Co
 |bl i=>
  cases b;cases y with
  |AA=>cases a;exact PySem.EqNone.ne_bool_none (Bu I q (by simp))
  |bl j=>cases a;exact ne_bool (Bu I q (jL not du))
  |str j=>obtain⟨t',rfl⟩:=a;exact PySem.EqMixed.ne_bool_str (Bu I q (by simp))
  |_=>exact absurd (show false=true from hs) Co
 |int i=>
  obtain⟨t,rfl⟩:=b;cases y with
  |AA=>cases a;exact PySem.EqNone.ne_int_none (Bu I q (by simp))
  |int j=>obtain⟨t',rfl⟩:=a;exact ne_int (Bu I q (jL not ZE))
  |str j=>obtain⟨t',rfl⟩:=a;exact PySem.EqMixed.ne_int_str (Bu I q (by simp))
  |_=>exact absurd (show false=true from hs) Co
 |str i=>
  obtain⟨t,rfl⟩:=b;cases y with
  |AA=>cases a;exact PySem.EqNone.ne_str_none (Bu I q (by simp))
  |bl j=>cases a;exact PySem.EqMixed.ne_str_bool (Bu I q (by simp))
  |int j=>obtain⟨t',rfl⟩:=a;exact PySem.EqMixed.ne_str_int (Bu I q (by simp))
  |str j=>obtain⟨t',rfl⟩:=a;exact ne_str (Bu I q (jL not cW))
  |_=>exact absurd (show false=true from hs) Co
 |Fl i=>
  obtain⟨t,rfl⟩:=b;cases y with
  |Fl j=>obtain⟨t',rfl⟩:=a;exact PySem.W.ne_bytes (Bu I q (jL not Xu))
  |_=>exact absurd (show false=true from hs) Co
 |_=>cases y <;> exact absurd (show false=true from hs) Co
theorem Jf:B7 X (compareOp .Lt) (G5 λi j=>.bl (decide (i<j))):=Pb λ_ _ _ _ _ _ _ q=>lt_int q
theorem Qa:B7 X (compareOp .LtE) (G5 λi j=>.bl (decide (i<=j))):=Pb λ_ _ _ _ _ _ _ q=>le_int q
theorem PF:B7 X (compareOp .Gt) (G5 λi j=>.bl (decide (j<i))):=Pb λ_ _ _ _ _ _ _ q=>gt_int q
theorem Z2:B7 X (compareOp .GtE) (G5 λi j=>.bl (decide (j<=i))):=Pb λ_ _ _ _ _ _ _ q=>ge_int q
theorem uu:B7 X (compareOp .In) (λx y H Q=>∃i j,x=.str i/\y=.str j/\Q (.bl (!(Builtin.Str.occurrences j i 0 j.length 1).isEmpty)) H):=by
 intro Zn s O H x y v u Q I b a h;obtain⟨i,j,rfl,rfl,q⟩:=h;obtain⟨t,rfl⟩:=b;obtain⟨t',rfl⟩:=a;exact in_str (Bu I q rfl)
theorem cg(b:Expr)(h:op≠.In:=by decide)(h2:op≠.NotIn:=by decide):behindInMarks op b=false:=by
 have c:(op == CmpOp.In)=false:=by cases op <;> first|rfl|exact absurd rfl h
 have a:(op == CmpOp.NotIn)=false:=by cases op <;> first|rfl|exact absurd rfl h2
 cases b <;> simp[behindInMarks,c,a]
def LN(t:TE):TT:=λO H Q=>t O H λx H'=>∃k,x=.bl k/\Q k H'
theorem iK{r:R2}(ho:B7 X (compareOp op) r)(o:PE X a ta)(n:PE X b tb)(hm:behindInMarks op b=false):PT X (.Compare a [op] [b] pos) (LN (BB r ta tb)):=by
 intro Zn s O H Q I h;refine wpAny_isTrue_Compare1 (AJ (o Zn s O H _ I h) λv d⟨x,H1,I1,i,m⟩=>AJ (n Zn d O H1 _ I1 m) λu s2⟨y,H2,I2,g,l⟩=>
  AJ (ho Zn s2 O H2 x y v u _ I2 i g l) λc p⟨z,H3,I3,f,k,e,j⟩=>?_) hm
 subst e;cases f;exact jF ⟨H3,I3,j⟩
def N2(r b:R2)(ta tb tc:TE):TE:=λO H Q=>ta O H λx H1=>tb O H1 λy H2=>r x y H2 λz H3=>∃k,z=.bl k/\
 (if k=true then tc O H3 λa H4=>b y a H4 Q else Q (.bl false) H3)
theorem JF:(sizeLine:Nat)<2 ^ 63:=by rw[sizeLine_eq];decide
theorem eV:B7 X (binaryOp .Add) (λx y H Q=>∃i j,x=.str i/\y=.str j/\i.length+j.length<=sizeLine/\Q (.str (i++j)) H):=by
 intro Zn s O H x y v u Q I b a h;obtain⟨i,j,rfl,rfl,c,q⟩:=h;obtain⟨t,rfl⟩:=b;obtain⟨t',rfl⟩:=a;exact add_str (λt' tk=>⟨.str (i++j),H,I.tok _,⟨_,rfl⟩,q⟩) c
theorem vals1{x:V}(r:Vals [x] us):∃u,us=[u]/\RelV x u:=by
 cases r with
 |cons b a=>cases a;exact⟨_,rfl,b⟩
theorem vals2{x:V}(r:Vals [x,y] us):∃u a,us=[u,a]/\RelV x u/\RelV y a:=by
 cases r with
 |cons e d=>
  cases d with
  |cons c b=>cases b;exact⟨_,_,rfl,e,c⟩
theorem wz(b:X.calm=true):DF X (.builtin "max") (λxs H Q=>∃i j,xs=[.int i,.int j]/\Q (.int (if j > i then j else i)) H):=by
 intro Zn s O H xs us Q I r h;obtain⟨i,j,rfl,q⟩:=h;obtain⟨u,c,rfl,⟨t,rfl⟩,⟨t',rfl⟩⟩:=vals2 r;refine max_two_ints (I.ok.hd b) λh' tk k=>⟨_,H,I.kept k,?_,q⟩
 by_cases a:j > i
 .rw[hZ a,hZ a];exact⟨_,rfl⟩
 .rw[gp a,gp a];exact⟨_,rfl⟩
theorem Tc:DF X (.type "int") (λxs H Q=>(∃i,xs=[.int i]/\Q (.int i) H)∨∃k,xs=[.bl k]/\Q (.int (if k then 1 else 0)) H):=by
 intro Zn s O H xs us Q I r h;rcases h with⟨i,rfl,q⟩|⟨k,rfl,q⟩
 .obtain⟨u,rfl,t,rfl⟩:=vals1 r;exact call_int_int ⟨.int i,H,I,⟨_,rfl⟩,q⟩
 .obtain⟨u,rfl,a⟩:=vals1 r;cases a;exact call_int_bool ⟨.int (if k then 1 else 0),H,I.tok _,⟨_,rfl⟩,q⟩
end
structure K5 (h:Heap) (x dx C:Addr) (mA:yq):Prop where
 obj:h.get? x=some (PySem.W.instObj C dx)
 ns:h.Ns1 dx mA
 ne:dx≠x
theorem mO(n:h.Ns1 dx mA):∃b,h.get? dx=some b/\∀name,PySem.W.lookIn name b=some (mA name):=by
 obtain⟨o,es,i,ho,hd,d,_,hm⟩:=n;refine⟨o,ho,λname=>?_⟩;have e:=hm name;unfold nsFind findBy at e;rw[<- Array.find?_toList]at e;unfold PySem.W.lookIn;rw[hd];dsimp only;split
 .rename_i y q;rw[q]at e;exact jL some e
 .rename_i q;rw[q]at e;have a:es.toList.any (·.refKey)=false:=by
   rw[List.any_eq_false];intro y c;obtain⟨z,t,f⟩:=d y (Array.mem_toList_iff.mp c);simp[DictEntry.refKey,f]
  have g:¬ es.toList.any (·.refKey)=true:=by rw[a];exact Co
  rw[gp g];exact jL some e
theorem K5.look{x:Addr}(I:K5 h x dx C mA):∃a,PySem.W.InstAt h x (PySem.W.instObj C dx) C (some a)/\∀name,PySem.W.lookIn name a=some (mA name):=
 let ⟨a,ho,hl⟩:=mO I.ns
 ⟨a,⟨I.obj,rfl,rfl,ho⟩,hl⟩
section
variable{K:yo}{x f:Addr}{v:Value}
theorem get_map{a:Bool}(X:K.In s.heap)(I:K5 s.heap x dx C mA)(d:PySem.W.plainGet K C name=true)(hh:PySem.W.hasDictIn K C=true)
  (e:PySem.W.findIn K (.ref C) name=some none) (b:mA name=some v) (Hx:PySem.W.handedIn v=true) (h:Q v { s with toks:=s.toks+1 }) :
  wpAny (model prog w) A (getAttr (.ref x) name a) Q E s:=by
 obtain⟨f,J,c⟩:=I.look;exact PySem.W.get_value X J (fk d).1 (PySem.W.findObj_own hh e rfl (by rw[c,b])) Hx h
theorem pW{Q:Value×List Value->Shared->Prop}(X:K.In s.heap)(I:K5 s.heap x dx C mA)(a:PySem.W.plainGet K C name=true)
  (g:PySem.W.findIn K (.ref C) name=some (some (.ref f))) (d:PySem.W.isFn K (.ref f)=true) (c:mA name=none) (h:Q (.ref f,[.ref x]) s) :
  wpAny (model prog w) A (getMethod (.ref x) name pl) Q E s:=by
 obtain⟨b,J,e⟩:=I.look;exact PySem.W.method_fn X J (fk a).1 (fk a).2 g (beq_iff_eq.mp d) (by show(PySem.W.lookIn name b).map (·.isSome)=some false;rw[e,c];rfl) h
theorem vh{Q:Unit->Shared->Prop}(X:K.In s.heap)(I:K5 s.heap x dx C mA)
  (hs:PySem.W.findIn K (.ref C) "__setattr__"=some (some (.builtin "object.__setattr__"))) (g:PySem.W.plainOver K C=true) (f:PySem.W.takerIn K C name=some none) (hh:PySem.W.hasDictIn K C=true)
  (hw:PySem.Within mA ns) (hsz:ns.length<=sizeLine)
  (h:∀h',K5 h' x dx C (λy=>if y=name then some v else mA y)->Heap.SameBut dx s.heap h'->Q () { s with heap:=h',toks:=s.toks+2 }) :
  wpAny (model prog w) A (setAttr (.ref x) name v) Q E s:=by
 obtain⟨l,J,n⟩:=I.look;refine PySem.W.set_plain X J hs (PySem.W.osa_open (s:={ s with toks:=s.toks+1 }) (r:=none) X J g f λb=>?_)
 obtain⟨cd,i,VL⟩:=PySem.W.any_some hh;have hx:s.heap.get? x=some ⟨.ref C,some dx,.plain,#[]⟩:=I.obj;refine gG (iG (gG (gG (wpAny_loadPart hx (gG (PySem.W.Looks.here (s:={ s with toks:=s.toks+1 }) (PySem.W.looks_clsIn X i) ?_))))))
 rw[VL];refine iG (a:=some dx) (gG (iG (gG ?_)));refine wpAny_nsSet1 (s:={ s with toks:=s.toks+1 }) I.ns λh' FD BE=>?_
 obtain⟨m,k,j,d,c,e⟩:=FD.count (PySem.Within.cons name v hw);refine gG (wpAny_lookBehind d (by rw[c];exact pastItsLine_dict (ES e (by rw[D1];omega))) ?_);exact iG (h _ ⟨(BE.2 _ (Bk I.ne)).trans I.obj,FD,I.ne⟩ BE)
theorem n8{R:Result->Shared->Prop}{vs:List Value}(X:K.In s.heap)(hm:PySem.W.makesIn K C=true)
  (hi:PySem.W.findIn K (.ref C) "__init__"=some (some (.ref f))) (a:PySem.W.typeIn K (.ref f)=some (.type "function"))
  (h:codeAny (model prog w) (A.under (.builtin "type.__call__" ⟨.ref C::vs,kw⟩)) (.call (.ref f) ⟨.ref (s.heap.objs.size+1)::vs,kw⟩) (PySem.W.InitBack (s.heap.objs.size+1) R)
   { s with heap:=(s.heap.push PySem.W.emptyDict).push (PySem.W.instObj C s.heap.objs.size) }) :
  codeAny (model prog w) A (.call (.ref C) ⟨vs,kw⟩) R s:=by
 obtain⟨hh,g,d,t,os⟩:=s;exact PySem.W.make_core (PySem.W.makes_of X hm) (PySem.W.looks_findIn X hi) (λself=>PySem.W.bind_fn X self a) (.inl rfl) h
end
noncomputable def DI(f:Str)(v:V):List (Str×V)->List (Str×V)
 | []=>[(f,v)]
 | (g,x)::r=>if g=f then(g,v)::r else(g,x)::DI f v r
theorem YG(f g:Str)(v:V):∀fs:List (Str×V),(DI f v fs).lookup g=if g=f then some v else fs.lookup g
 | []=>by
  show List.lookup g [(f,v)]=_
  by_cases h:g=f
  .have a:(g == f)=true:=beq_iff_eq.mpr h;simp only[List.lookup,a,hZ h]
  .have a:(g == f)=false:=beq_eq_false_iff_ne.mpr h;simp only[List.lookup,a,gp h]
 | (k,x)::r=>by
  have c:=YG f g v r;rw[show DI f v ((k,x)::r)=(if k=f then(k,v)::r else(k,x)::DI f v r)from rfl]
  by_cases b:k=f
  .rw[hZ b]
   by_cases h:g=k
   .have a:(g == k)=true:=beq_iff_eq.mpr h;simp only[List.lookup,a,hZ (h.trans b)]
   .have a:(g == k)=false:=beq_eq_false_iff_ne.mpr h;simp only[List.lookup,a,gp (λe:g=f=>h (e.trans b.symm))]
  .rw[gp b]
   by_cases h:g=k
   .have a:(g == k)=true:=beq_iff_eq.mpr h;simp only[List.lookup,a,gp (λe:g=f=>b (h.symm.trans e))]
   .have a:(g == k)=false:=beq_eq_false_iff_ne.mpr h;simp only[List.lookup,a];exact c
theorem VU(f:Str)(v:V):∀fs:List (Str×V),f∈(DI f v fs).map (·.1)/\∀g,g∈fs.map (·.1)->g∈(DI f v fs).map (·.1)
 | []=>⟨by simp[DI],λg h=>by simp at h⟩
 | (k,x)::r=>by
  obtain⟨i1,i2⟩:=VU f v r;rw[show DI f v ((k,x)::r)=(if k=f then(k,v)::r else(k,x)::DI f v r)from rfl]
  by_cases a:k=f
  .rw[hZ a];subst a;exact⟨by simp,λg h=>by simpa using h⟩
  .rw[gp a];refine⟨?_,λg h=>?_⟩
   .rw[Ap];exact CM _ i1
   .rw[Ap]at h ⊢;rcases List.mem_cons.mp h with e|e
    .exact List.mem_cons.mpr (.inl e)
    .exact CM _ (i2 g e)
theorem cG(f:Str)(v:V):∀fs:List (Str×V),(DI f v fs).length<=fs.length+1
 | []=>by simp[DI]
 | (k,x)::r=>by
  have b:=cG f v r;rw[show DI f v ((k,x)::r)=(if k=f then(k,v)::r else(k,x)::DI f v r)from rfl]
  by_cases a:k=f
  .rw[hZ a,D1,D1];omega
  .rw[gp a,D1,D1];omega
theorem EC.some_of{o:Option Value}(r:EC (some v) o):∃u,o=some u/\RelV v u:=by
 cases o with
 |none=>exact(show False from r).elim
 |some u=>exact⟨u,rfl,r⟩
theorem EC.none_of{o:Option Value}(r:EC none o):o=none:=by
 cases o with
 |none=>rfl
 |some u=>exact(show False from r).elim
theorem o3(r:RelV v u):PySem.W.handedIn u=true:=by
 cases v with
 |AA=>cases(show u=Value.none from r);rfl
 |bl b=>cases(show u=Value.bool b from r);rfl
 |int i=>obtain⟨t,e⟩:=(show ∃t,u=Value.int i t from r);cases e;rfl
 |str x=>obtain⟨t,e⟩:=(show ∃t,u=Value.str x t from r);cases e;rfl
 |Fl b=>obtain⟨t,e⟩:=(show ∃t,u=Value.bytes b t from r);cases e;rfl
 |JI b=>obtain⟨t,e⟩:=(show ∃t,u=Value.float b t from r);cases e;rfl
 |ref a=>cases(show u=Value.ref a from r);rfl
 |ty n=>cases(show u=Value.type n from r);rfl
section
variable{P:Program}{fs Kt:List (Str×V)}
theorem Nq(AN:C0 P w H h)(e:H a=some (.ins C dx fs)):∃mA,K5 h a dx C mA/\(∀f,EC (fs.lookup f) (mA f))/\PySem.Within mA (fs.map (·.1))/\fs.length<=1000/\H dx=some (.own a):=by
 obtain⟨d,z,ne,ob,mA,n,r,q⟩:=(show CC P w H h a (.ins C dx fs)from AN a _ e);exact⟨mA,⟨ob,n,ne⟩,r,q,z,d⟩
end
structure BK (K:yo) (C:Addr):Prop where
 pg:PySem.W.plainGet K C Str.empty=true
 hd:PySem.W.hasDictIn K C=true
 po:PySem.W.plainOver K C=true
 sa:PySem.W.findIn K (.ref C) "__setattr__"=some (some (.builtin "object.__setattr__"))
theorem BK.get{K:yo}{C:Addr}(c:BK K C)(f:Str):PySem.W.plainGet K C f=true:=c.pg
def B0(K:yo)(C:Addr)(f:Str):Prop:=PySem.W.findIn K (.ref C) f=some none
theorem B0.kf{K:yo}{f:Str}(n:B0 K C f):PySem.W.takerIn K C f=some none:=by
 unfold PySem.W.takerIn;rw[show PySem.W.findIn K (.ref C) f=some none from n];rfl
structure JC (K:yo) (C:Addr) (f:Str) (v:V) (u:Value):Prop where
 at_:PySem.W.findIn K (.ref C) f=some (some u)
 rel:RelV v u
 get:PySem.W.specialIn K u "__get__"=some none
 cp:PySem.W.copiedNames.contains f=false
structure Meth (K:yo) (C:Addr) (m:Str) (f:Addr):Prop where
 at_:PySem.W.findIn K (.ref C) m=some (some (.ref f))
 fn:PySem.W.isFn K (.ref f)=true
 kp:PySem.W.keepIn K (.ref f)=true
section
variable{fs:List (Str×V)}{f:Str}
theorem af{b:Bool}(I:Inv X Zn O H s)(e:H a=some (.ins C dx fs))(c:BK X.K C)(n:B0 X.K C f)(l:fs.lookup f=some v)
  (h:∀u s',Inv X Zn O H s'->RelV v u->Q u s'):wpAny (model X.prog X.w) A (getAttr (.ref a) f b) Q E s:=by
 obtain⟨mA,σ,r,_,_,_⟩:=Nq I.AN e;obtain⟨u,g,d⟩:=EC.some_of (v:=v) (o:=mA f) (by rw[<- l];exact r f);exact get_map I.CY σ (c.get f) c.hd n g (o3 d) (h u _ (I.tok _) d)
theorem Zr{g:Addr}{Q:Value×List Value->Shared->Prop}(I:Inv X Zn O H s)(e:H a=some (.ins C dx fs))(c:BK X.K C)(k:Meth X.K C m g)(l:fs.lookup m=none)
  (h:Q (.ref g,[.ref a]) s):wpAny (model X.prog X.w) A (getMethod (.ref a) m pl) Q E s:=by
 obtain⟨mA,σ,r,_,_,_⟩:=Nq I.AN e;have b:mA m=none:=EC.none_of (by rw[<- l];exact r m);exact pW I.CY σ (c.get m) k.at_ k.fn b h
theorem Yp{Q:Unit->Shared->Prop}(I:Inv X Zn O H s)(e:H a=some (.ins C dx fs))(c:BK X.K C)(n:B0 X.K C f)(m:fs.length<1000)(i:RelV y u)
  (h:∀s',Inv X Zn O (upd H a (.ins C dx (DI f y fs))) s'->Q () s'):wpAny (model X.prog X.w) A (setAttr (.ref a) f u) Q E s:=by
 obtain⟨mA,σ,r,wi,_,ho⟩:=Nq I.AN e;have j:(fs.map (·.1)).length<=sizeLine:=by rw[AF,sizeLine_eq];omega
 refine vh I.CY σ c.sa c.po n.kf c.hd wi j λh' O' d=>h _ ?_;have hd:∃o,h'.get? dx=some o:=let ⟨o,_,_,e',_⟩:=O'.ns;⟨o,e'⟩;refine I.write (x:=a) (e:=dx) (by rw[e];exact True.intro) (.inr ho) (λb q l z=>(d.2 b l).trans z) hd ?_;refine⟨by rw[Ab σ.ne];exact ho,?_,σ.ne,O'.obj,_,O'.ns,λg=>?_,λg k=>?_⟩
 .have:=cG f y fs;omega
 .show EC ((DI f y fs).lookup g) (if g=f then some u else mA g)
  rw[YG]
  by_cases q:g=f
  .rw[hZ q,hZ q];exact i
  .rw[gp q,gp q];exact r g
 .by_cases q:g=f
  .rw[q];exact(VU f y fs).1
  .refine(VU f y fs).2 g (wi g λz=>k ?_);show(if g=f then some u else mA g)=none
   rw[gp q];exact z
theorem Inv.made(I:Inv X Zn O H s):Inv X Zn O (upd (upd H s.heap.objs.size (.own (s.heap.objs.size+1))) (s.heap.objs.size+1) (.ins C s.heap.objs.size []))
  { s with heap:=(s.heap.push PySem.W.emptyDict).push (PySem.W.instObj C s.heap.objs.size) }:=by
 have c:(s.heap.push PySem.W.emptyDict).get? s.heap.objs.size=some PySem.W.emptyDict:=DC s.heap rfl;have h:((s.heap.push PySem.W.emptyDict).push (PySem.W.instObj C s.heap.objs.size)).get? (s.heap.objs.size+1)=some (PySem.W.instObj C s.heap.objs.size):=by
  have:=DC (s.heap.push PySem.W.emptyDict) (o:=PySem.W.instObj C s.heap.objs.size) rfl
  rwa [Ll]at this
 have g:(s.heap.push PySem.W.emptyDict).Ns s.heap.objs.size (λ_=>none):=⟨PySem.W.emptyDict,#[],_,c,rfl,(λe f=>absurd f (by simp)),λ_=>rfl⟩;have i:=I.laid (a:=s.heap.objs.size) (o:=.own (s.heap.objs.size+1)) (h':=s.heap.push PySem.W.emptyDict) (t':=s.toks) (λb u q=>CU _ q) (Aj _) ⟨_,c⟩;refine i.laid (a:=s.heap.objs.size+1) (o:=.ins C s.heap.objs.size []) (t':=s.toks) (λb u q=>CU _ q) (fX (Ll _ _)) ?_;have ne:s.heap.objs.size≠s.heap.objs.size+1:=Cp (Qj _);refine⟨by rw[Ab ne,Ay],CN _,ne,h,λ_=>none,(Heap.Ns1.of_empty g).at λo q=>CU _ q,λ_=>True.intro,λy d=>absurd rfl d⟩
theorem il{env:Env}(b:attributeBase e f env (eval e env)=eval e env)
  (h:wpAny (model prog w) A (eval e env) (λo a=>wpAny (model prog w) A (getAttr o f true) Q E a) E s):wpAny (model prog w) A (eval (.Attribute e f pos) env) Q E s:=
 Attribute_any_ h (by rw[arm_eval_Attribute,b])
end
def Ht(K:yo)(ta:TE)(f:Str):TE:=λO H Q=>ta O H λx H1=>∃a C dx fs v,x=.ref a/\H1 a=some (.ins C dx fs)/\BK K C/\B0 K C f/\fs.lookup f=some v/\Q v H1
def Nl(K:yo)(ta tv:TE)(f:Str):TS:=λD O H=>tv O H λy H1=>ta O H1 λx H2=>∃a C dx fs,x=.ref a/\H2 a=some (.ins C dx fs)/\BK K C/\B0 K C f/\fs.length<1000/\
 D.nx O (upd H2 a (.ins C dx (DI f y fs)))
def Ye(X:Cx)(op:Operator)(a:V->V->Hp->VK->Prop):Prop:=
 ∀(Zn:yp)(s:Shared)(O:St)(H:Hp)(x y:V)(u v:Value)(Q:VK),Inv X Zn O H s->RelV x u->RelV y v->a x y H Q->wpAny (model X.prog X.w) X.A (inplaceOp op u v) (EP X Zn O Q) X.xe s
def Mp(K:yo)(ta tv:TE)(b:V->V->Hp->VK->Prop)(f:Str):TS:=λD O H=>ta O H λx H1=>∃a C dx fs v,x=.ref a/\H1 a=some (.ins C dx fs)/\BK K C/\B0 K C f/\fs.lookup f=some v/\
 tv O H1 λy H2=>b v y H2 λz H3=>∃Ir Kt,H3 a=some (.ins C Ir Kt)/\Kt.length<1000/\D.nx O (upd H3 a (.ins C Ir (DI f z Kt)))
section
variable{o value:Expr}{f:Str}{pos' NO:Pos}{tv:TE}
variable{b:Bool}
inductive EZ (K:yo) (H:Hp):V->Value->Prop where
 |AA:EZ K H .AA (.type "NoneType")
 |bl (x:Bool):EZ K H (.bl x) (.type "bool")
 |int (i:Int):EZ K H (.int i) (.type "int")
 |str (x:Str):EZ K H (.str x) (.type "str")
 |JI (x:UInt64):EZ K H (.JI x) (.type "float")
 |lst {a:Addr}{xs:List V}(e:H a=some (.lst xs)):EZ K H (.ref a) (.type "list")
 |Du {a:Addr}{o:Obj}{xs:List V}(e:H a=some (.Du o (.lst xs))):EZ K H (.ref a) (.type "list")
 |tup {a:Addr}{xs:List V}(e:H a=some (.tup xs)):EZ K H (.ref a) (.type "tuple")
 |dK {a:Addr}{A6:List (Key×V)}(e:H a=some (.dK A6)):EZ K H (.ref a) (.type "dict")
 |dT {a:Addr}{A6:List (List Key×V)}(e:H a=some (.dT A6)):EZ K H (.ref a) (.type "dict")
 |ins {a C dx:Addr}{fs:List (Str×V)}(e:H a=some (.ins C dx fs)) (cl:BK K C) (ha:PySem.W.findIn K (.ref C) "__class__"=some (some (.builtin "object.__class__")))
   (hn:PySem.W.specialIn K (.builtin "object.__class__") "__get__"=some (some (.builtin "getset_descriptor.__get__"))) (Ik:PySem.W.takesIn K (.builtin "object.__class__")=some true)
   (hm:PySem.W.mroIn K C (.type "object")=some true):EZ K H (.ref a) (.ref C)
theorem iz{x:V}{t:Value}(I:Inv X Zn O H s)(d:RelV x u)(ty:EZ X.K H x t)(e:PySem.W.kitOne X.K t c=some b)(h:∀tk,Q (.bool b) { s with toks:=tk }):
  wpAny (model X.prog X.w) A (call (.builtin "isinstance") [u,c]) Q E s:=by
 cases ty with
 |AA=>cases(show u=Value.none from d);exact HQ PySem.W.kitx_none I.CY True.intro e (λz=>nomatch z) h
 |bl y=>cases(show u=Value.bool y from d);exact HQ PySem.W.kitx_bool I.CY True.intro e (λz=>nomatch z) h
 |int i=>obtain⟨t,q⟩:=(show ∃t,u=Value.int i t from d);cases q;exact HQ PySem.W.kitx_int I.CY True.intro e (λz=>nomatch z) h
 |str y=>obtain⟨t,q⟩:=(show ∃t,u=Value.str y t from d);cases q;exact HQ PySem.W.kitx_str I.CY True.intro e (λz=>nomatch z) h
 |JI y=>obtain⟨t,q⟩:=(show ∃t,u=Value.float y t from d);cases q;exact HQ PySem.W.kitx_float I.CY True.intro e (λz=>nomatch z) h
 |@lst a xs ea=>
  cases(show u=Value.ref a from d);obtain⟨_,_,n,_,h1⟩:=(show CC X.prog X.w H s.heap a (.lst xs)from I.AN a _ ea);exact HQ yA I.CY ⟨_,h1,rfl⟩ e (λz=>nomatch z) h
 |@Du a ob xs ea=>
  cases(show u=Value.ref a from d);obtain⟨_,_,_,n,_,h1⟩:=(show CC X.prog X.w H s.heap a (.Du ob (.lst xs))from I.AN a _ ea);exact HQ yA I.CY ⟨_,h1,rfl⟩ e (λz=>nomatch z) h
 |@tup a xs ea=>
  cases(show u=Value.ref a from d);obtain⟨_,_,_,p⟩:=(show CC X.prog X.w H s.heap a (.tup xs)from I.AN a _ ea);obtain⟨o,h1,h2,_⟩:=p.1;exact HQ PySem.W.kitx_tuple I.CY ⟨o,h1,h2⟩ e (λz=>nomatch z) h
 |@dK a A6 ea=>
  cases(show u=Value.ref a from d);obtain⟨_,_,vs,_,p⟩:=(show CC X.prog X.w H s.heap a (.dK A6)from I.AN a _ ea);obtain⟨o,es,j,h1,h2,_⟩:=p;exact HQ y9 I.CY ⟨o,h1,h2.1⟩ e (λz=>nomatch z) h
 |@dT a A6 ea=>
  cases(show u=Value.ref a from d);obtain⟨_,_,xs,_,o,es,j,h1,h2,_⟩:=(show CC X.prog X.w H s.heap a (.dT A6)from I.AN a _ ea);exact HQ y9 I.CY ⟨o,h1,h2.1⟩ e (λz=>nomatch z) h
 |@ins a C dx fs ea cl g f Ik hm=>
  cases(show u=Value.ref a from d);obtain⟨mA,σ,_⟩:=Nq I.AN ea;obtain⟨k,J,_⟩:=σ.look;exact HQ (PySem.W.kitx_own (cl.get _) cl.hd g f Ik hm) I.CY J e (λz=>nomatch z) h
end
structure Ba (k:Nat) (A:Around):Prop where
 hd:A.handled=none
 dp:A.depth+3 * k+5<recursionLimit
 un:A.units+16 * k+200<cLine
theorem Ba.mono{k:Nat}(r:Ba k A)(h:j<=k):Ba j A:=⟨r.hd,by have:=r.dp;omega,by have:=r.un;omega⟩
theorem Ba.deeper{k:Nat}(r:Ba (k+1) A)(env:Env):Ba k (A.deeper env):=
 ⟨r.hd,by have:=r.dp;show A.depth+1+3 * k+5<_;omega,by have:=r.un;show A.units+3+16 * k+200<_;omega⟩
theorem qL:(A.under (.builtin "type.__call__" ⟨.ref C::us,kw⟩)).depth=A.depth+1:=by
 first|rfl|simp[Around.under,Code.weight,Code.isCreation,Code.isGuard,Code.isCaller,Code.frames,Code.isFrame,guardIds]
theorem sC:(A.under (.builtin "type.__call__" ⟨.ref C::us,kw⟩)).units=A.units+1:=by
 first|rfl|simp[Around.under,Code.cUnits,Code.frames,Code.isFrame]
theorem Ba.make{k:Nat}(r:Ba (k+1) A)(C:Addr)(us:List Value)(kw:List (Str×Value)):Ba k (A.under (.builtin "type.__call__" ⟨.ref C::us,kw⟩)):=
 ⟨r.hd,by have:=r.dp;rw[qL];omega,by have:=r.un;rw[sC];omega⟩
theorem Ba.depth{k:Nat}(r:Ba k A):A.depth<recursionLimit:=by have:=r.dp;omega
theorem Ba.units{k:Nat}(r:Ba k A):A.units+64<cLine:=by have:=r.un;omega
theorem Ba.Ny{k:Nat}(r:Ba k A):A.units<cLine:=by have:=r.un;omega
def BW:TA:=λ_ H Q=>Q [] H
def Au(ta:TE)(tr:TA):TA:=λO H Q=>ta O H λx H1=>tr O H1 λxs H2=>Q (x::xs) H2
section
variable{t:TA}
theorem nA(g:PE X e te)(hr:PA X es t)(hs:starEach (e::es) X.env=(false,eval e X.env)::starEach es X.env:=by rfl):PA X (e::es) (Au te t):=by
 intro pos Zn s O H Q I h;rw[hs];show wpAny _ _ (spliced ((false,eval e X.env)::backTo pos (starEach es X.env))) _ _ s;refine Calls.spliced_cons (AJ (g Zn s O H _ I h) λu a Mt=>?_);obtain⟨x,H1,I1,c,f⟩:=Mt;exact AJ (hr pos Zn a O H1 _ I1 f) λus s2 AE=>by obtain⟨xs,H2,I2,b,d⟩:=AE;exact⟨x::xs,H2,I2,.cons c b,d⟩
def QZ(t:TA):TE:=λO H Q=>t O H λxs H1=>xs.length<=sizeLine/\∀p,H1 p=none->Q (.ref p) (upd H1 p (.tup xs))
def OI(t:TA):TE:=λO H Q=>t O H λxs H1=>xs.length<=sizeLine/\∀p,H1 p=none->Q (.ref p) (upd H1 p (.lst xs))
theorem kh{x1}(h:PA X es t):PE X (.Tuple es x1 pos) (QZ t):=by
 intro Zn s O H Q I d;refine wpAny_Tuple_spliced (AJ (h pos Zn s O H _ I d) λus a⟨xs,H1,I1,r,z,q⟩=>⟨by rw[<- r.length];exact z,?_⟩);have f:H1 a.heap.objs.size=none:=I1.AN.fresh (Aj _);refine⟨.ref a.heap.objs.size,upd H1 a.heap.objs.size (.tup xs),I1.laid (t':=a.toks) (λb u e=>CU _ e) (Aj _) ?_,rfl,q _ f⟩;exact⟨z,us,r,⟨_,DC _ rfl,rfl,_,rfl⟩,λRi c=>by rw[DC _ rfl]at c;cases c;rfl⟩
theorem kP(h:PA X es t):PE X (.List es pos) (OI t):=by
 intro Zn s O H Q I c;refine wpAny_List_spliced (AJ (h pos Zn s O H _ I c) λus a⟨xs,H1,I1,r,z,q⟩=>⟨by rw[<- r.length];exact z,?_⟩);have d:H1 a.heap.objs.size=none:=I1.AN.fresh (Aj _);refine⟨.ref a.heap.objs.size,upd H1 a.heap.objs.size (.lst xs),I1.laid (t':=a.toks) (λb u e=>CU _ e) (Aj _) ?_,rfl,q _ d⟩;exact⟨z,us,0,r,DC _ rfl⟩
end
abbrev Sp:=List V->Hp->VK->XK->Prop
abbrev Fs:=List Env->Hp->Shared->XK->Value->Shared->Prop
variable{CX:Fs}
structure Jy (P:Program) (w:World) (K:yo) (mg:yq) (ZB:Heap) (A:Around) (outer:List Env) (s:Shared) (H:Hp):Prop where
 frames:A.frames=some outer
 mod:Mod K mg ZB
 bs:∀b o,ZB.get? b=some o->s.heap.get? b=some o/\H b=none
 IH:ZB.objs.size<=s.heap.objs.size
 Fy:s.heap.FunFrames ZB outer
 Jn:∀b∈Gi outer,H b=none
 AN:C0 P w H s.heap
 bare:AllBare s.gens
def CE(outer:List Env)(P:Program)(w:World)(H:Hp)(s:Shared)(Q:VK)(u:Value)(s':Shared):Prop:=
 ∃v H',s'.os=s.os/\AllBare s'.gens/\Un (Gi outer) [] H H' s.heap s'.heap/\C0 P w H' s'.heap/\RelV v u/\Q v H'
def CR(CX:Fs)(outer:List Env)(P:Program)(w:World)(H:Hp)(s:Shared)(Q:VK)(E:XK)(r:Result)(s':Shared):Prop:=
 match r with
 | .ok (.ret u)=>CE outer P w H s Q u s'
 | .ok _=>False
 | .error e=>CX outer H s E e s'
structure DN (P:Program) (w:World) (K:yo) (mg:yq) (ZB:Heap) (CX:Fs) (k:Nat) (f:Addr) (fd:FuncData) (ps:List Str) (sp:Sp):Prop where
 len:∀vs H Q E,sp vs H Q E->vs.length=ps.length
 run:∀(A:Around)(outer:List Env)(s:Shared)(H:Hp)(args:Args)(us:List Value)(vs:List V)(Q:VK)(E:XK),Ba k A->Jy P w K mg ZB A outer s H->BindsTo s fd args (ps.zip us)->Vals vs us->sp vs H Q E->
  codeAny (model P w) A (.call (.ref f) args) (CR CX outer P w H s Q E) s
theorem DN.mono{P:Program}{K:yo}{k:Nat}{f:Addr}{sp:Sp}(F:DN P w K mg ZB CX j f fd ps sp)(h:j<=k):
  DN P w K mg ZB CX k f fd ps sp:=⟨F.len,λA outer s H args us vs Q E hr=>F.run A outer s H args us vs Q E (hr.mono h)⟩
theorem Jy.make{P:Program}{K:yo}(e:Jy P w K mg ZB A outer s H)(C:Addr)(us:List Value)(kw:List (Str×Value)):
  Jy P w K mg ZB (A.under (.builtin "type.__call__" ⟨.ref C::us,kw⟩)) outer s H:=⟨by first|exact e.frames|(simpa[Around.under,Code.envs,Code.isFrame,pushEnvs]using e.frames),e.mod,e.bs,e.IH,e.Fy,e.Jn,e.AN,e.bare⟩
theorem Inv.aF(I:Inv X Zn O H s):Jy X.prog X.w X.K X.mg X.base X.A X.stack s H:=
 ⟨I.ok.frames,I.ok.mod,I.bs,ES I.ok.IH I.sz,I.stack,I.dG,I.AN,I.bare⟩
theorem Inv.after{Q:VK}(I:Inv X Zn O H s)(h:CE X.stack X.prog X.w H s Q u s'):EP X Zn O Q u s':=by
 obtain⟨v,H',os,bare,un,AN,r,q⟩:=h;obtain⟨hh,g,d,t,a⟩:=s';obtain rfl:a=s.os:=os;exact⟨v,H',I.call (h':=hh) (g':=g) (d':=d) (t':=t) (ch:=[]) un AN bare (λb z=>absurd z (by simp)),r,q⟩
def EU(sp:Sp)(DM:List V)(E:XK)(t:TA):TE:=λO H Q=>t O H λvs H1=>sp (vs++DM) H1 Q E
def J2(C:Addr)(m:Str)(sp:Sp)(DM:List V)(E:XK)(ta:TE)(t:TA):TE:=λO H Q=>ta O H λx H1=>∃a dx fs,x=.ref a/\H1 a=some (.ins C dx fs)/\fs.lookup m=none/\
 t O H1 λvs H2=>sp (x::(vs++DM)) H2 Q E
def Tx(C:Addr)(sp:Sp)(DM:List V)(E:XK)(t:TA):TE:=λO H Q=>t O H λvs H1=>∀x dx,H1 x=none->H1 dx=none->dx≠x->
 sp (.ref x::(vs++DM)) (upd (upd H1 dx (.own x)) x (.ins C dx [])) (λv H2=>v=.AA/\Q (.ref x) H2) E
def Binds(K:yo)(fd:FuncData)(ps:List Str)(ds:List Value):Prop:=
 ∀(s:Shared)(us:List Value),K.In s.heap->(us++ds).length=ps.length->BindsTo s fd ⟨us,[]⟩ (ps.zip (us++ds))
theorem Binds.all{K:yo}(h:∀us:List Value,us.length=ps.length->bindArgs fd ⟨us,[]⟩=pure (ps.zip us)):Binds K fd ps []:=λs us _ a=>by
 rw[D0]at a ⊢;exact .of_eq (h us a)
def Passes(CX:Fs)(X:Cx)(E:XK):Prop:=∀(Zn:yp)(O:St)(H:Hp)(s:Shared)(e:Value)(s':Shared),Inv X Zn O H s->CX X.stack H s E e s'->X.xe e s'
section
variable{k:Nat}{f:Addr}{sp:Sp}{E:XK}{p apos:Pos}{o:Expr}{t:TA}
theorem TH{Q:VK}(F:DN X.prog X.w X.K X.mg X.base CX k f fd ps sp)(hr:Ba k X.A)(d:Binds X.K fd ps ds)(hd:Vals DM ds)(hx:Passes CX X E)
  (I:Inv X Zn O H s) (r:Vals vs us) (h:sp (vs++DM) H Q E):wpAny (model X.prog X.w) X.A (call (.ref f) us) (EP X Zn O Q) X.xe s:=by
 have b:Vals (vs++DM) (us++ds):=r.append hd;have c:(us++ds).length=ps.length:=by rw[<- b.length];exact F.len _ _ _ _ h
 refine wpAny_call (pd (F.run X.A X.stack s H ⟨us,[]⟩ (us++ds) (vs++DM) Q E hr I.aF (d s us I.CY c) b h) λr s' a=>?_);cases r with
 |error e=>exact hx Zn O H s e s' I a
 |ok g=>
  cases g with
  |ret u=>exact I.after a
  |next=>exact False.elim a
  |brk=>exact False.elim a
  |cont=>exact False.elim a
theorem lg(F:DN X.prog X.w X.K X.mg X.base CX k f fd ps sp)(hr:Ba k X.A)(b:Gl X x)(hm:X.mg x=some (.ref f))(a:PySem.W.keepIn X.K (.ref f)=true)(c:Binds X.K fd ps ds)(hd:Vals DM ds)(hx:Passes CX X E)
  (d:PA X (e::es) t) (Cs:(x == ("__debug__":Str))=false:=by decide) (he:starEach (e::es) X.env=(false,eval e X.env)::starEach es X.env:=by rfl) (CB:(backTo pos (starEach es X.env)).any (·.1)=false:=by rfl) :
  PE X (.Call (.Name x p) (e::es) [] pos) (EU sp DM E t):=by
 intro Zn s O H Q I h;refine kN (UW I b hm ?_ Cs);refine fj (h₀:=X.base) I.ok.mod.NN a (AJ (d pos Zn s O H _ I h) λus g⟨vs,H1,I1,r,q⟩=>⟨I1.CY,?_⟩) he CB;exact TH F hr c hd hx I1 r q
theorem wK(i:PE X o ta)(c:BK X.K C)(hm:Meth X.K C m f)(F:DN X.prog X.w X.K X.mg X.base CX k f fd ps sp)(hr:Ba k X.A)(j:Binds X.K fd ps ds)(hd:Vals DM ds)(hx:Passes CX X E)(n:PA X (e::es) t)
  (FJ:starEach (e::es) X.env=(false,eval e X.env)::starEach es X.env:=by rfl) (CB:(backTo pos (starEach es X.env)).any (·.1)=false:=by rfl)
  (ht:eval (.Call (.Attribute o m apos) (e::es) [] pos) X.env=(do
   let ov <- eval o X.env
   standAt apos.atName
   let (f,first) <- holding [ov] (getMethod ov m pl)
   callWith pos f first (backTo pos (starEach (e::es) X.env)) (backToKw pos (keywordEach [] X.env))):=by rfl) :
  PE X (.Call (.Attribute o m apos) (e::es) [] pos) (J2 C m sp DM E ta t):=by
 intro Zn s O H Q I h;refine yB (pl:=pl) (AJ (i Zn s O H _ I h) λu b⟨x,H1,I1,d,a,dx,fs,ex,ea,l,q⟩=>?_) ht;subst ex;obtain rfl:u=Value.ref a:=d;refine Zr I1 ea c hm l ?_;refine fj (first:=[.ref a]) (h₀:=X.base) I.ok.mod.NN hm.kp (AJ (n pos Zn b O H1 _ I1 q) λus s2⟨vs,H2,I2,r,g⟩=>⟨I2.CY,?_⟩) FJ CB
 exact TH (us:=.ref a::us) (vs:=.ref a::vs) F hr j hd hx I2 (.cons rfl r) g
theorem vD(e:PE X o ta)(c:BK X.K C)(hm:Meth X.K C m f)(F:DN X.prog X.w X.K X.mg X.base CX k f fd ps sp)(hr:Ba k X.A)(g:Binds X.K fd ps ds)(hd:Vals DM ds)(hx:Passes CX X E)
  (d:eval (.Call (.Attribute o m apos) [] [] pos) X.env=(do
   let ov <- eval o X.env
   standAt apos.atName
   let (f,first) <- holding [ov] (getMethod ov m pl)
   callWith pos f first (backTo pos (starEach [] X.env)) (backToKw pos (keywordEach [] X.env))):=by rfl) :
  PE X (.Call (.Attribute o m apos) [] [] pos) (J2 C m sp DM E ta BW):=by
 intro Zn s O H Q I h;refine yB (pl:=pl) (AJ (e Zn s O H _ I h) λu i⟨x,H1,I1,b,a,dx,fs,ex,ea,l,q⟩=>?_) d;subst ex;obtain rfl:u=Value.ref a:=b;refine Zr I1 ea c hm l ?_;exact PySem.W.callWith_K0 (first:=[.ref a]) I1.CY hm.kp (TH (us:=[.ref a]) (vs:=[.ref a]) F hr g hd hx I1 (.cons rfl .nil) q)
structure Mk (K:yo) (C f:Addr):Prop where
 makes:PySem.W.makesIn K C=true
 init:PySem.W.findIn K (.ref C) "__init__"=some (some (.ref f))
 fn:PySem.W.isFn K (.ref f)=true
 kp:PySem.W.keepIn K (.ref C)=true
theorem jP{Q:VK}(M:Mk X.K C f)(F:DN X.prog X.w X.K X.mg X.base CX k f fd ps sp)(hr:Ba (k+1) X.A)(j:Binds X.K fd ps ds)(hd:Vals DM ds)
  (hx:Passes CX X E) (I:Inv X Zn O H s) (r:Vals vs us)
  (h:∀x dx,H x=none->H dx=none->dx≠x->sp (.ref x::(vs++DM)) (upd (upd H dx (.own x)) x (.ins C dx [])) (λv H2=>v=.AA/\Q (.ref x) H2) E) :
  wpAny (model X.prog X.w) X.A (call (.ref C) us) (EP X Zn O Q) X.xe s:=by
 have c:=h (s.heap.objs.size+1) s.heap.objs.size (I.AN.fresh (JY _)) (I.AN.fresh (Aj _)) (Cp (Qj _));have a:=Inv.made (C:=C) I;have b:Vals (V.ref (s.heap.objs.size+1)::(vs++DM)) (Value.ref (s.heap.objs.size+1)::(us++ds)):=.cons rfl (r.append hd);have i:(Value.ref (s.heap.objs.size+1)::us++ds).length=ps.length:=by
  have e:=b.length;rw[F.len _ _ _ _ c]at e;exact e.symm
 refine wpAny_call (n8 (f:=f) I.CY M.makes M.init (beq_iff_eq.mp M.fn) (pd (F.run _ X.stack _ _ ⟨Value.ref (s.heap.objs.size+1)::us,[]⟩ (Value.ref (s.heap.objs.size+1)::(us++ds)) _ _ E (hr.make C us [])
  (a.aF.make C us []) (j _ (Value.ref (s.heap.objs.size+1)::us) a.CY i) b c) λr s' HS=>?_))
 cases r with
 |error e=>exact hx Zn O _ _ e s' a HS
 |ok l=>
  cases l with
  |ret u=>
   obtain⟨v,H',I3,d,m,g⟩:=a.after HS;subst m;exact⟨d,⟨V.ref (s.heap.objs.size+1),H',I3,rfl,g⟩⟩
  |next=>exact False.elim HS
  |brk=>exact False.elim HS
  |cont=>exact False.elim HS
theorem sf(M:Mk X.K C f)(F:DN X.prog X.w X.K X.mg X.base CX k f fd ps sp)(hr:Ba (k+1) X.A)(a:Gl X x)(hm:X.mg x=some (.ref C))(b:Binds X.K fd ps ds)(hd:Vals DM ds)(hx:Passes CX X E)
  (c:PA X (e::es) t) (Cs:(x == ("__debug__":Str))=false:=by decide) (he:starEach (e::es) X.env=(false,eval e X.env)::starEach es X.env:=by rfl) (CB:(backTo pos (starEach es X.env)).any (·.1)=false:=by rfl) :
  PE X (.Call (.Name x p) (e::es) [] pos) (Tx C sp DM E t):=by
 intro Zn s O H Q I h;refine kN (UW I a hm ?_ Cs);refine fj (h₀:=X.base) I.ok.mod.NN M.kp (AJ (c pos Zn s O H _ I h) λus d⟨vs,H1,I1,r,q⟩=>⟨I1.CY,?_⟩) he CB;exact jP M F hr b hd hx I1 r q
variable{ym:List Keyword}{tk:TA}{nm:Option Str}{g:List Value->List Value->List Value}{gV:List V->List V->List V}
end
structure BA (N P:List Str) (sc:Scope):Prop where
 kind:sc.kind=.function
 co:sc.isCoroutine=false
 gen:sc.isGenerator=false
 nd:N.Nodup
 pre:N.take P.length=P
 par:∀x∈P,sc.names.lookup x=some .local∨sc.names.lookup x=some .cell
 i7:∀y∈sc.names,y.2≠.free
theorem Zz{a:Str->Option NameKind}{x:Str}:∀{binds:List (Str×Value)}{m:yq},(∀v,(x,v)∉binds)->bindL a binds m x=m x
 | [],_,_=>rfl
 | (n,v)::r,m,h=>by
  unfold bindL;rw[Zz λw hw=>h w (CM _ hw)];split
  .have:x≠n:=by rintro rfl;exact h v D2
   simp[this]
  .rfl
theorem XD{a:Str->Option NameKind}{x:Str}:∀{binds:List (Str×Value)}{m:yq},(∀v,(x,v)∉binds)->bindC a binds m x=m x
 | [],_,_=>rfl
 | (n,v)::r,m,h=>by
  unfold bindC;rw[XD λw hw=>h w (CM _ hw)];split
  .rfl
  .have:x≠n:=by rintro rfl;exact h v D2
   simp[this]
theorem cF{a:Str->Option NameKind}{x:Str}{v:Value}:∀{P:List Str}{vs:List Value}{i:Nat}{m:yq},P.Nodup->P[i]?=some x->vs[i]?=some v->a x=some .local->
  bindL a (P.zip vs) m x=some v
 | [],_,_,_,_,h,_,_=>by simp at h
 |_::_,[],_,_,_,_,h,_=>by simp at h
 |p::P,w::vs,0,m,nd,h1,h2,hk=>by
  simp at h1 h2;subst h1;subst h2;show bindL a ((p,w)::P.zip vs) m p=_;unfold bindL;rw[Zz λv b=>(List.nodup_cons.mp nd).1 (fS b).1,hZ hk];simp
 |p::P,w::vs,i+1,m,nd,h1,h2,hk=>by
  show bindL a ((p,w)::P.zip vs) m x=_;unfold bindL;exact cF (i:=i) (List.nodup_cons.mp nd).2 (by simpa using h1) (by simpa using h2) hk
theorem Zm{a:Str->Option NameKind}{x:Str}{v:Value}:∀{P:List Str}{vs:List Value}{i:Nat}{m:yq},P.Nodup->P[i]?=some x->vs[i]?=some v->a x≠some .local->
  bindC a (P.zip vs) m x=some v
 | [],_,_,_,_,h,_,_=>by simp at h
 |_::_,[],_,_,_,_,h,_=>by simp at h
 |p::P,w::vs,0,m,nd,h1,h2,hk=>by
  simp at h1 h2;subst h1;subst h2;show bindC a ((p,w)::P.zip vs) m p=_;unfold bindC;rw[XD λv b=>(List.nodup_cons.mp nd).1 (fS b).1,gp hk];simp
 |p::P,w::vs,i+1,m,nd,h1,h2,hk=>by
  show bindC a ((p,w)::P.zip vs) m x=_;unfold bindC;exact Zm (i:=i) (List.nodup_cons.mp nd).2 (by simpa using h1) (by simpa using h2) hk
noncomputable def start(N:List Str)(vs:List V):St:=vs.map some++List.replicate (N.length - vs.length) none
noncomputable def Jt(CX:Fs)(P:Program)(w:World)(K:yo)(mg:yq)(ZB:Heap)(N:List Str)(qual:Str)(scope:Scope)(f:Addr)(cd:Value)(A:Around)(outer:List Env)(s:Shared)(H:Hp)(E:XK):Cx where
 prog:=P
 w:=w
 K:=K
 mg:=mg
 base:=ZB
 A:=A.deeper (envOfC qual scope s.heap.objs.size f cd)
 N:=N
 s₀:=s
 H₀:=H
 env:=envOfC qual scope s.heap.objs.size f cd
 outer:=outer
 stack:=envOfC qual scope s.heap.objs.size f cd::outer
 ex:=[]
 calm:=true
 fn:=λ_=>true
 pn:=[]
 xe:=λe s'=>wpAny (model P w) (A.deeper (envOfC qual scope s.heap.objs.size f cd)) (leaving (envOfC qual scope s.heap.objs.size f cd) e) (λ_ MD=>CX outer H s E e MD) (λa MD=>CX outer H s E a MD) s'
theorem Zq(h:sc.names.lookup x=some .cell):∃c,(cellsFrom n sc.names []).lookup x=some c:=by
 have q:=y8 sc.names n [] (.inl h);exact Option.isSome_iff_exists.mp q
theorem tD{P:Program}{K:yo}{f:Addr}{l:Shared}{E:XK}
  (S:BA N ps scope) (hd:A.handled=none) (e0:Jy P w K mg ZB A outer s H) (D:vs.length=ps.length) (r:Vals vs us)
  (x:InCallC s s.heap.objs.size (bindL (envOfC qual scope s.heap.objs.size f cd).kindOf (ps.zip us) λ_=>none) (cellsFrom (s.heap.objs.size+1) scope.names []) (bindC (envOfC qual scope s.heap.objs.size f cd).kindOf (ps.zip us) λ_=>none) l) :
  Inv (Jt CX P w K mg ZB N qual scope f cd A outer s H E) [] (start N vs) H l:=by
 have G:ps.length<=N.length:=by have:=jL List.length S.pre;rw[DO]at this;omega
 obtain⟨h1,tk,rfl,o⟩:=x.done;have j:∀b:Addr,b∉(Jt CX P w K mg ZB N qual scope f cd A outer s H E).ex:=λb z=>absurd (show b∈([]:List Addr)from z) (by simp);refine⟨⟨e0.mod,S.kind,rfl,rfl,Aj _,λy z c h1 h2=>?_,λy d=>?_,λy c _ h=>?_,λ_=>hd,Around.frames_deeper e0.frames,.inr ⟨rfl,rfl⟩,λb z=>absurd z (j b),e0.bs,e0.IH,λb _ _=>j b,λb z=>absurd z (j b),e0.Fy,e0.Jn⟩,
  rfl,e0.bare,Un.kept o,⟨_,x.toInCall.ns,λi y v h1 h2 F=>?_⟩,λy c h=>⟨_,x.cell y c h⟩,e0.AN.fresh (Aj _),λy c h=>?_,λp g=>absurd (show p∈([]:yp)from g) (by simp),e0.AN.kept o,?_⟩
 .exact name_of_addr x.apart (Kl h1) (Kl h2)
 .have d:scope.names.lookup y=some .cell∨scope.names.lookup y=some .free:=d;rcases d with d|d
  .exact Zq d
  .exact absurd rfl (S.i7 _ (Kl d))
 .exact fY (x.above y c (Kl h))
 .have hi:i<vs.length:=by
   unfold start at h2
   by_cases hi:i<vs.length
   .exact hi
   .rw[ER (by simpa using hi)]at h2
    rw[fM]at h2;split at h2 <;> cases h2
  have C:vs[i]?=some v:=by
   unfold start at h2;rw[E2 (by simpa using hi),Aa]at h2
   cases e:vs[i]? with
   |none=>rw[e]at h2;cases h2
   |some a=>rw[e]at h2;cases h2;rfl
  obtain⟨u,m,B⟩:=r.get C;have g:ps[i]?=some y:=by
   rw[<- S.pre,List.getElem?_take_of_lt (by omega)];exact h1
  have t:ps.Nodup:=by rw[<- S.pre];exact S.nd.sublist (fW _ _)
  refine⟨u,B,?_⟩;rcases S.par y (Dn g)with k|k
  .exact .inl ⟨k,cF t g m k⟩
  .obtain⟨c,e⟩:=Zq (n:=s.heap.objs.size+1) k;refine .inr ⟨.inl k,c,e,?_⟩;have q:=x.cell y c e;rw[Zm t g m (by show scope.names.lookup y≠_;rw[k];decide)]at q;exact q
 .exact e0.AN.fresh (fY (x.above y c (Kl h)))
 .unfold start;show _=N.length;rw[C5,AF,fQ];omega
theorem gX{P:Program}{K:yo}{k:Nat}{f:Addr}{a:Arguments}{body:List Stmt}{j kV c i Ad ct z:Value}{l p:Option Addr}
  {Ig:Array (Option Value)}{sp:Sp}(B:K.lookup f=some ⟨z,p,.func (PySem.W.fnOf name qual a body scope j kV c i l Ad ct),Ig⟩) (GL:PySem.W.codeIn K Ad qual=true) (S:BA N ps scope)
  (len:∀vs H Q E,sp vs H Q E->vs.length=ps.length)
  (NV:∀(A:Around)(outer:List Env)(s:Shared)(H:Hp)(vs:List V)(Q:VK)(E:XK),Ba k (A.deeper (envOfC qual scope s.heap.objs.size f Ad))->sp vs H Q E->
   ∃t,EA (Jt CX P w K mg ZB N qual scope f Ad A outer s H E) body t/\t { nx:=λ_ H'=>Q .AA H',rt:=Q } (start N vs) H) :
  DN P w K mg ZB CX (k+1) f (PySem.W.fnOf name qual a body scope j kV c i l Ad ct) ps sp:=by
 refine⟨len,λA outer s H args us vs Q E hr e0 σ r GR=>?_⟩;have L:=len _ _ _ _ GR;have m:K.In s.heap:=e0.mod.NN.keeps λb o e=>(e0.bs b o e).1;have g:s.heap.NoLimit:=e0.mod.nolimit.keeps λb o e=>(e0.bs b o e).1;have C:∀y∈ps.zip us,scope.names.lookup y.1=some .local∨(scope.names.lookup y.1=some .cell/\((cellsFrom (s.heap.objs.size+1) scope.names []).lookup y.1).isSome=true):=λ⟨n,v⟩D=>by
  rcases S.par n (fS D).1 with q|q
  .exact .inl q
  .exact .inr ⟨q,y8 _ _ _ (.inl q)⟩
 refine codeAny_call_function hr.depth (m _ _ B) rfl S.co S.gen rfl (PySem.W.codeRec_of m GL) (σ _ _ _ _ ?_);refine wpAny_newFunctionEnv_cells S.kind C λenv M h x=>?_;subst M;refine⟨g.keeps x.toInCall.keep,codeAny_func ?_⟩;obtain⟨t,F,G⟩:=NV A outer s H vs Q E (hr.deeper _) GR;have I:Inv (Jt CX P w K mg ZB N qual scope f Ad A outer s H E) [] (start N vs) H h:=tD S hr.hd e0 L r x;refine jH (F [] h (start N vs) H _ I G) (λR s' hs=>?_) λe s' hs=>hs;have fin:∀{σ':St}{H':Hp}{v:V}{u:Value},Inv (Jt CX P w K mg ZB N qual scope f Ad A outer s H E) [] σ' H' s'->RelV v u->Q v H'->CE outer P w H s Q u s':=
  λ{σ' H' v u}J d q=>⟨v,H',J.os,J.bare,J.base,J.AN,d,q⟩
 cases R with
 |ret u=>
  obtain⟨v,σ',H',J,d,q⟩:=hs;exact fin J d q
 |next=>
  obtain⟨σ',H',J,q⟩:=hs;exact fin (v:=V.AA) (u:=Value.none) J rfl q
 |brk=>
  obtain⟨_,_,_,q⟩:=hs;exact False.elim q
 |cont=>
  obtain⟨_,_,_,q⟩:=hs;exact False.elim q
section
variable{p:Pos}{t:TA}{id T:String}{r:List V->Hp->VK->Prop}
def ED(r:List V->Hp->VK->Prop)(t:TA):TE:=λO H Q=>t O H λvs H1=>r vs H1 Q
end
end L2
namespace HT
variable{v vl vu:Value}{hi o:Option Int}{sl:Addr}
section
open PySem.SeqAt
open PySem.AutoSeq1 (wpAny_loadPart')
open PySem.MeetsSeq PySem.MeetsSeq2 PySem.MeetsSeq3
end
section
variable{prog:Program}{w:World}{A:Around}{E:Value->Shared->Prop}{s:Shared}
def AY(n d:Nat):Option Int->Nat
 |none=>d
 |some v=>if v<0 then(v+(n:Int)).toNat else min v.toNat n
theorem d5(n d:Nat):AY n d none=d:=rfl
theorem aX(n d k:Nat):AY n d (some (k:Int))=min k n:=by
 show(if(k:Int)<0 then((k:Int)+(n:Int)).toNat else min (k:Int).toNat n)=min k n
 rw[gp (by omega),HM]
theorem iW(n d:Nat)(hd:d<=n)(o:Option Int):AY n d o<=n:=by
 cases o with
 |none=>exact hd
 |some v=>
  show(if v<0 then(v+(n:Int)).toNat else min v.toNat n)<=n
  by_cases a:v<0
  .rw[hZ a];omega
  .rw[gp a];exact xw _ _
theorem Zl(v:Int)(n d:Nat):(if v<0 then max (v+(n:Int)) 0 else min v (n:Int))=((AY n d (some v):Nat):Int):=by
 show(if v<0 then max (v+(n:Int)) 0 else min v (n:Int))=(((if v<0 then(v+(n:Int)).toNat else min v.toNat n):Nat):Int)
 by_cases a:v<0
 .simp only[hZ a];omega
 .simp only[gp a];omega
theorem k8(lo hi:Option Int)(n:Nat):Builtin.Slice.sliceAdjust lo hi 1 (n:Int)=(((AY n 0 lo:Nat):Int),((AY n n hi:Nat):Int)):=by
 have h1:¬ ((1:Int)<0):=by omega
 unfold Builtin.Slice.sliceAdjust;simp only[h1,sj];refine Prod.ext ?_ ?_
 .cases lo with
  |none=>rfl
  |some v=>exact Zl v n 0
 .cases hi with
  |none=>rfl
  |some v=>exact Zl v n n
theorem kF(i j:Nat):Builtin.Slice.slicePlaces (i:Int) (j:Int) 1=j - i:=by
 unfold Builtin.Slice.slicePlaces;have h1:(1:Int) > 0:=by omega
 simp only[h1,rK,Int.ediv_one];split <;> omega
theorem ZL{Q:Option Int->Shared->Prop}(p:IsPart v o)(h:Q o s):wpAny (model prog w) A (Builtin.Slice.slicePartIndex v) Q E s:=by
 cases p with
 |none=>exact slicePart_none h
 |int i t=>exact slicePart_int h
theorem cu{lo:Option Int}{n:Nat}{Q:Int×Int×Nat->Shared->Prop}(hs:s.heap.IsSliceOf sl vl vu .none)(pl:IsPart vl lo)(a:IsPart vu hi)
  (h:Q (((AY n 0 lo:Nat):Int),1,AY n n hi - AY n 0 lo) s):wpAny (model prog w) A (Builtin.Slice.sliceApplied (.ref sl) (pure (n:Int))) Q E s:=by
 obtain⟨os,Js,PU,MZ⟩:=id hs;unfold Builtin.Slice.sliceApplied Builtin.Slice.sliceFields;refine gG (gG (ka Js MZ (x:=vl) rfl (gG (ka Js MZ (x:=vu) rfl (gG (ka Js MZ (x:=.none) rfl (iG ?_)))))));refine gG (slicePart_none ?_);show wpAny _ _ (if((1:Int) == 0)=true then _ else _) _ _ s
 rw[gp (by decide)];refine gG (ZL pl (gG (ZL a (gG (iG ?_)))));show wpAny _ _ (match Builtin.Slice.sliceAdjust lo hi 1 (n:Int)with|(lo,hi)=>pure (lo,(1:Int),Builtin.Slice.slicePlaces lo hi 1)) _ _ s
 rw[k8 lo hi n];show wpAny _ _ (pure (((AY n 0 lo:Nat):Int),(1:Int),Builtin.Slice.slicePlaces ((AY n 0 lo:Nat):Int) ((AY n n hi:Nat):Int) 1)) _ _ s;rw[kF];exact iG h
theorem kl(xs:Array Value)(i k:Nat):((List.range k).filterMap λ(m:Nat)=>xs[((i:Int)+(m:Int) * 1).toNat]?).toArray=((xs.toList.drop i).take k).toArray:=by
 have e:(λ(m:Nat)=>xs[((i:Int)+(m:Int) * 1).toNat]?)=λm=>xs[i+m]?:=by
  funext m
  have:((i:Int)+(m:Int) * 1).toNat=i+m:=by omega
  rw[this]
 rw[e];have:=pick_run xs i k;rw[List.filterMap_map]at this;have a:((λx=>xs[x]?) ∘ λx=>i+x)=λm=>xs[i+m]?:=rfl;rw[a]at this;rw[this]
theorem iD{t:Addr}{a:Array Value}{lo:Option Int}{Q:Value->Shared->Prop}(b:IsTup s.heap t a)(hs:s.heap.IsSliceOf sl vl vu .none)(pl:IsPart vl lo)(d:IsPart vu hi)
  (hw:¬ (AY a.size 0 lo=0/\AY a.size a.size hi=a.size))
  (h:Q (.ref s.heap.objs.size) { s with heap:=s.heap.push { cls:=.type "tuple", data:=.seq ((a.toList.drop (AY a.size 0 lo)).take (AY a.size a.size hi - AY a.size 0 lo)).toArray } })
  (hsz:a.size<=sizeLine):wpAny (model prog w) A (getItem (.ref t) (.ref sl)) Q E s:=by
 have c:sizeOk (.seq ((a.toList.drop (AY a.size 0 lo)).take (AY a.size a.size hi - AY a.size 0 lo)).toArray):=by
  show((a.toList.drop (AY a.size 0 lo)).take (AY a.size a.size hi - AY a.size 0 lo)).toArray.size<=sizeLine;rw[Bj,DO,JS,Qc];omega
 have j:AY a.size a.size hi<=a.size:=iW _ _ (Aj _) hi;obtain⟨os,Js,PU,MZ⟩:=id hs;have f:s.TypeIs (.ref sl) "slice" := ⟨os,Js,PU⟩;unfold getItem
 try with_reducible refine mC ?_
 first|refine gG (iG ?_)|skip
 refine gG (wpAny_sequenceKey b.typeIs (by decide) ?_);refine gG (jn (name:=Str.ofString "__getitem__") b.typeIs Wv
  (lJ Wv b.typeIs entry_tuple_getitem ?_ (args_tuple_getitem _ _)))
 show wpAny _ _ (Builtin.Tuple.tupleItemsOf (.ref t) >>= _) _ _ s;refine gG (tupleItemsOf_ b ?_);refine gG (oS f ?_);rw[hZ (by decide)];refine gG (cu hs pl d ?_);have e:¬ ((((AY a.size 0 lo:Nat):Int) == 0 && (1:Int) == 1 && (AY a.size a.size hi - AY a.size 0 lo) == a.size)=true):=by
  intro q;rw[En,En]at q;have i:((AY a.size 0 lo:Nat):Int)=0:=eq_of_beq q.1.1;have g:AY a.size a.size hi - AY a.size 0 lo=a.size:=eq_of_beq q.2;exact hw ⟨by omega,by omega⟩
 show wpAny _ _ (if(((AY a.size 0 lo:Nat):Int) == 0 && (1:Int) == 1 && (AY a.size a.size hi - AY a.size 0 lo) == a.size)=true then _ else _) _ _ s
 rw[gp e,kl]
 first
  |exact gG (m:=Builtin.Tuple.tupleExact _) (jU (iG ⟨_,rfl,iG h⟩) c)
  |exact gG (m:=Builtin.Tuple.tupleExact _) (jU (gG (iG (iG ⟨_,rfl,iG h⟩))) c)
  |exact gG (gG (m:=Builtin.Tuple.tupleExact _) (jU (iG (iG ⟨_,rfl,iG h⟩)) c))
  |exact gG (gG (m:=Builtin.Tuple.tupleExact _) (jU (iG ⟨_,rfl,iG h⟩) c))
end
end HT
namespace L2
variable{X:Cx}{pos:Pos}{α:Type}{j n t':Nat}{i:Int}{Zn:yp}{O:St}{H:Hp}{s:Shared}{xs ys:List V}{A1 its':List Value}{A:Around}{x y:V}{u v:Value}{T:String}
abbrev TO:=St->Hp->(Option Int->Hp->Prop)->Prop
def PO(X:Cx)(e:Option Expr)(t:TO):Prop:=
 ∀(Zn:yp)(s:Shared)(O:St)(H:Hp)(Q:Option Int->Hp->Prop),Inv X Zn O H s->t O H Q->
  wpAny (model X.prog X.w) X.A (evalPart e X.env) (λu s'=>∃o H',Inv X Zn O H' s'/\IsPart u o/\Q o H') X.xe s
def Ud:TO:=λ_ H Q=>Q none H
def Vs(t:TE):TO:=λO H Q=>t O H λx H1=>∃i,x=.int i/\Q (some i) H1
section
variable{e:Expr}{te:TE}{lo hi:Option Expr}{tl th:TO}{p2:Pos}
def Iz(X:Cx)(r:V->Option Int->Option Int->Hp->VK->Prop):Prop:=
 ∀(Zn:yp)(s:Shared)(O:St)(H:Hp)(x:V)(v vl vu:Value)(lo hi:Option Int)(sl:Addr)(Q:VK),Inv X Zn O H s->RelV x v->s.heap.IsSliceOf sl vl vu .none->IsPart vl lo->IsPart vu hi->r x lo hi H Q->
  ∃T id,typeLookup (.type T) "__getitem__"=pure (some (.builtin id))/\s.TypeIs v T/\wpAny (model X.prog X.w) X.A (getItem v (.ref sl)) (EP X Zn O Q) X.xe s
def QL(r:V->Option Int->Option Int->Hp->VK->Prop)(te:TE)(tl th:TO):TE:=λO H Q=>te O H λx H1=>tl O H1 λl H2=>th O H2 λu H3=>r x l u H3 Q
noncomputable def Fj(xs:List V)(lo hi:Option Int):List V:=(xs.drop (HT.AY xs.length 0 lo)).take (HT.AY xs.length xs.length hi - HT.AY xs.length 0 lo)
theorem dE(xs:List V)(lo hi:Option Int):(Fj xs lo hi).length<=xs.length:=by
 unfold Fj;rw[DO,JS];omega
def mh(K:yo):V->Option Int->Option Int->Hp->VK->Prop:=λx lo hi H Q=>∃a xs,x=.ref a/\Ao K H a xs/\
 ¬ (HT.AY xs.length 0 lo=0/\HT.AY xs.length xs.length hi=xs.length)/\∀p,H p=none->Q (.ref p) (upd H p (.tup (Fj xs lo hi)))
theorem p5:Iz X (mh X.K):=by
 intro Zn s O H x v vl vu lo hi sl Q I g hs pl i h;obtain⟨a,xs,rfl,hx,hw,q⟩:=h;cases g;obtain⟨A1,r,e,d⟩:=I.tuple hx;have c:A1.toArray.size=xs.length:=by rw[Bj];exact r.length.symm
 refine⟨"tuple", _,PyProof.Rows.slot_tuple_getitem.lookup,e.typeIs,?_⟩;refine HT.iD e hs pl i (by rw[c];exact hw) ?_ (by rw[c];exact d);rw[c];refine⟨.ref s.heap.objs.size,_,I.laid (t':=s.toks) (o:=.tup (Fj xs lo hi)) (λb ob q=>CU _ q) (Aj _) ?_,rfl,q _ (I.AN.fresh (Aj _))⟩;exact⟨ES (dE xs lo hi) d,_,(r.drop (HT.AY xs.length 0 lo)).take (HT.AY xs.length xs.length hi - HT.AY xs.length 0 lo),⟨IsTup.new _ _,λRi f=>by rw[DC _ rfl]at f;cases f;rfl⟩⟩
end
noncomputable def Fn(n:Nat)(i:Int):Option Nat:=if 0<=i then(if i<n then some i.toNat else none)else if -(n:Int)<=i then some (i+n).toNat else none
def BS(xs:List α)(i:Int):Option α:=(Fn xs.length i).bind λj=>xs[j]?
theorem XX(h:Fn n i=some j):seqIndex? i n=some j/\j<n/\-(n:Int)<=i/\i<n:=by
 unfold Fn at h
 by_cases a:0<=i
 .rw[hZ a]at h
  by_cases h1:i<n
  .rw[hZ h1]at h;have e:i.toNat=j:=B9 h;exact⟨by rw[seqIndex_of a h1,e],by omega,by omega,h1⟩
  .rw[gp h1]at h;cases h
 .rw[gp a]at h
  by_cases h1:-(n:Int)<=i
  .rw[hZ h1]at h;have e:(i+n).toNat=j:=B9 h;exact⟨by rw[seqIndex_neg (by omega) h1,e],by omega,h1,by omega⟩
  .rw[gp h1]at h;cases h
theorem TK{xs:List α}{v:α}(h:BS xs i=some v):∃j,seqIndex? i xs.length=some j/\xs[j]?=some v/\j<xs.length/\-(xs.length:Int)<=i/\i<xs.length:=by
 unfold BS at h;cases e:Fn xs.length i with
 |none=>rw[e]at h;cases h
 |some j=>
  rw[e]at h;obtain⟨h1,h2,b,a⟩:=XX e;exact⟨j,h1,h,h2,b,a⟩
theorem CV{xs:List α}{v:α}(h:xs[j]?=some v):BS xs (j:Int)=some v:=by
 have a:j<xs.length:=(List.getElem?_eq_some_iff.mp h).1;have e:Fn xs.length (j:Int)=some j:=by
  unfold Fn;rw[hZ (by omega),hZ (by omega)];simp
 unfold BS;rw[e];exact h
def RP(b:Expr):Prop:=∀o i,subscripted b false o i=operate [o,i] (getItem o i)
def DK(X:Cx)(r:R2):Prop:=
 ∀(value a:Expr)(Zn:yp)(s:Shared)(O:St)(H:Hp)(x y:V)(v u:Value)(Q:VK),Inv X Zn O H s->RelV x v->RelV y u->r x y H Q->
  subscripted a false v u=operate [v,u] (getItem v u)->wpAny (model X.prog X.w) X.A (subscriptTail value a v u) (EP X Zn O Q) X.xe s
def Hl(X:Cx)(id:String)(r:V->List V->Hp->VK->Prop):Prop:=
 ∀(Zn:yp)(s:Shared)(O:St)(H:Hp)(x:V)(xs:List V)(v:Value)(us:List Value)(Q:VK),Inv X Zn O H s->RelV x v->Vals xs us->r x xs H Q->
  wpAny (model X.prog X.w) X.A (call (.builtin id) (v::us)) (EP X Zn O Q) X.xe s
section
variable{a b:Expr}{ta tb:TE}
def FT(K:yo):R2:=λx y H Q=>∃p xs i v,x=.ref p/\y=.int i/\AS K H p xs/\BS xs i=some v/\Q v H
def FE(K:yo):R2:=λx y H Q=>∃p xs i v,x=.ref p/\y=.int i/\Ao K H p xs/\BS xs i=some v/\Q v H
def sU:R2:=λx y H Q=>∃z i c,x=.str z/\y=.int i/\z.length<=sizeLine/\BS z.cps.toList i=some c/\Q (.str ⟨#[c]⟩) H
theorem BG:DK X (FT X.K):=by
 intro value a Zn s O H x y v u Q I f e h hs;obtain⟨p,xs,i,z,rfl,rfl,g,l,q⟩:=h;cases f;obtain⟨t,rfl⟩:=e;obtain⟨A1,r,pl,o⟩:=I.list g;obtain⟨j,h1,h2,B,n,m⟩:=TK l;obtain⟨w,d,GO⟩:=r.get h2;have k:=r.length;have A:=JF;have fin:EP X Zn O Q w s:=⟨z,H,I,GO,q⟩
 by_cases c:0<=i
 .have b:i.toNat=j:=by
   rw[seqIndex_of c m]at h1;exact B9 h1
  exact item_listR pl.isList c (by omega) (by rw[b];simpa using d) fin hs
 .have b:(i+(A1.toArray.size:Int)).toNat=j:=by
   rw[seqIndex_neg (by omega) n]at h1;rw[Bj,<- k];exact B9 h1
  exact subscriptTail_builtinR (x:=w) pl.isList.typeIs slot_list_getitem.lookup
   (wpAny_getItem_list_neg (Q:=λr s'=>r=w/\EP X Zn O Q r s') pl.isList (by omega) (by rw[Bj] <;> omega) (by omega) (by rw[b];simpa using d) ⟨rfl,fin⟩) hs
theorem Ar:DK X (FE X.K):=by
 intro value a Zn s O H x y v u Q I c b h hs;obtain⟨p,xs,i,z,rfl,rfl,d,f,q⟩:=h;cases c;obtain⟨t,rfl⟩:=b;obtain⟨A1,r,pl,k⟩:=I.tuple d;obtain⟨j,h1,h2,o,n,m⟩:=TK f;obtain⟨w,g,GO⟩:=r.get h2;have e:=r.length;have l:=JF;have fin:EP X Zn O Q w s:=⟨z,H,I,GO,q⟩;exact subscriptTail_builtinR (x:=w) pl.typeIs slot_tuple_getitem.lookup
  (getItem_tuple (j:=j) (Q:=λr s'=>r=w/\EP X Zn O Q r s') pl (by omega) (by omega) (by rw[Bj,<- e];exact h1) (by simpa using g) ⟨rfl,fin⟩) hs
theorem gD:DK X sU:=by
 intro value a Zn s O H x y v u Q I d b h hs;obtain⟨z,i,c,rfl,rfl,n,f,q⟩:=h;obtain⟨t,rfl⟩:=d;obtain⟨t',rfl⟩:=b;obtain⟨j,h1,h2,p,k,g⟩:=TK f;have e:z.cps.toList.length=z.length:=by simp[Str.length]
 rw[e]at h1 k g;have o:=JF;exact tail_any (typeIs_str s z t) slot_str_getitem.lookup (getItem_str (c:=c) (by
  have m:decide (i < -(2 ^ 63:Int))=false:=ij (by omega);have l:decide (i>=2 ^ 63)=false:=ij (by omega);rw[m,l,Bool.or_false]) (by rw[h1];simpa using h2) ⟨.str ⟨#[c]⟩,H,I.tok _,⟨_,rfl⟩,q⟩) hs
theorem ky(A1:List Value)(n j:Nat)(u:Value):Obj.mapSeq (·.setIfInBounds j u) { cls:=.type "list", data:=.seq A1.toArray n }={ cls:=.type "list", data:=.seq (A1.set j u).toArray n }:=by
 simp[Obj.mapSeq]
theorem Inv.lst{Zn:yp}{O:St}{H:Hp}{s:Shared}{p:Addr}{xs:List V}(I:Inv X Zn O H s)(h:H p=some (.lst xs)):
  ∃(A1:List Value)(n:Nat),Vals xs A1/\s.heap.get? p=some { cls:=.type "list", data:=.seq A1.toArray n }/\xs.length<=sizeLine:=by
 obtain⟨z,A1,n,r,e⟩:=I.AN p _ h;exact⟨A1,n,r,e,z⟩
theorem Inv.qe{p:Addr}{a:Nat}{f:Obj->Obj}(I:Inv X Zn O H s)(h:H p=some (.lst xs))
  (ho:s.heap.get? p=some { cls:=.type "list", data:=.seq A1.toArray n }) (hf:f { cls:=.type "list", data:=.seq A1.toArray n }={ cls:=.type "list", data:=.seq its'.toArray a }) (r:Vals ys its') (hz:ys.length<=sizeLine) (t:Nat) :
  Inv X Zn O (upd H p (.lst ys)) { s with heap:=s.heap.update p f,toks:=t }:=by
 have e:(s.heap.update p f).get? p=some { cls:=.type "list", data:=.seq its'.toArray a }:=by
  rw[Qe f ho (by rw[hf] <;> rfl),hf]
 refine I.write (x:=p) (e:=p) (by rw[h];trivial) (.inl rfl) (λb u c q=>(Qd _ _ (Bk c)).trans q) ⟨_,e⟩ ?_;exact⟨hz,its',a,r,e⟩
def Yt:V->V->V->Hp->(Hp->Prop)->Prop:=λo i v H Q=>∃p xs k j,o=.ref p/\i=.int k/\H p=some (.lst xs)/\Fn xs.length k=some j/\Q (upd H p (.lst (xs.set j v)))
theorem set_list:R6 X Yt:=by
 intro Zn s O H o i v z A u Q I m w l h;obtain⟨p,xs,k,j,rfl,rfl,c,y,q⟩:=h;cases m;obtain⟨t,rfl⟩:=w;obtain⟨A1,n,r,ho,x⟩:=I.lst c;obtain⟨h1,h2,e,d⟩:=XX y;have a:=r.length;have B:=JF;have g:Inv X Zn O (upd H p (.lst (xs.set j v))) { s with heap:=s.heap.update p (Obj.mapSeq (·.setIfInBounds j u)) }:=
  I.qe c ho (ky A1 n j u) (r.set l j) (by rw[JT];exact x) s.toks
 by_cases f:0<=k
 .have b:k.toNat=j:=by
   rw[seqIndex_of f d]at h1;exact B9 h1
  exact PySem.W.ki_setAt ho f (by omega) (by rw[Bj,<- a];exact d) (by rw[b];exact⟨_,g,q⟩)
 .have b:(k+(A1.toArray.size:Int)).toNat=j:=by
   rw[seqIndex_neg (by omega) e]at h1;rw[Bj,<- a];exact B9 h1
  exact PySem.W.ki_setBack ho (by omega) (by rw[Bj,<- a];exact e) (by omega) (by rw[b];exact⟨_,g,q⟩)
theorem kY(lo hi:Option Int)(n:Nat):(sliceBounds lo hi none n).1=((HT.AY n 0 lo:Nat):Int)/\(sliceBounds lo hi none n).2.1=((HT.AY n n hi:Nat):Int)/\(sliceBounds lo hi none n).2.2=1:=by
 refine⟨?_,?_,rfl⟩
 .cases lo with
  |none=>simp[sliceBounds,HT.AY]
  |some i=>
   simp only[sliceBounds,HT.AY,xy,show(1:Int) > 0 by decide,rK]
   by_cases h:i<0
   .simp only[h,rK] <;> omega
   .simp only[h,sj] <;> omega
 .cases hi with
  |none=>simp[sliceBounds,HT.AY]
  |some i=>
   simp only[sliceBounds,HT.AY,xy,show(1:Int) > 0 by decide,rK]
   by_cases h:i<0
   .simp only[h,rK] <;> omega
   .simp only[h,sj] <;> omega
theorem qV(A1:List Value)(lo hi:Option Int):slicePick A1.toArray lo hi none=((A1.drop (HT.AY A1.length 0 lo)).take (HT.AY A1.length A1.length hi - HT.AY A1.length 0 lo)).toArray:=by
 obtain⟨h1,h2,a⟩:=kY lo hi A1.toArray.size;unfold slicePick;rw[h1,h2,a];simp only[sliceRange_one,pick_run,Bj] <;> rfl
def UX(K:yo):V->Option Int->Option Int->Hp->VK->Prop:=λx lo hi H Q=>∃a xs,x=.ref a/\AS K H a xs/\∀p,H p=none->Q (.ref p) (upd H p (.lst (Fj xs lo hi)))
theorem Kw:Iz X (UX X.K):=by
 intro Zn s O H x v vl vu lo hi sl Q I e hs pl f h;obtain⟨a,xs,rfl,hx,q⟩:=h;cases e;obtain⟨A1,r,d,g⟩:=I.list hx;have c:=r.length;refine⟨"list", _,slot_list_getitem.lookup,d.isList.typeIs,?_⟩;refine wpAny_getItem_list_slice d.isList hs pl f .none (by simp) ?_ (by rw[Bj] <;> omega)
 rw[qV,<- c];refine⟨.ref s.heap.objs.size,_,I.laid (t':=s.toks) (o:=.lst (Fj xs lo hi)) (λb ob q=>CU _ q) (Aj _) ?_,rfl,q _ (I.AN.fresh (Aj _))⟩;exact⟨ES (dE xs lo hi) g,_,0,(r.drop (HT.AY xs.length 0 lo)).take (HT.AY xs.length xs.length hi - HT.AY xs.length 0 lo),DC _ rfl⟩
noncomputable def Dr:V->Bool
 | .AA=>true
 | .bl _=>true
 | .int _=>true
 | .str _=>true
 |_=>false
noncomputable def DR:V->V->Bool
 | .AA,.AA=>true
 | .bl a,.bl b=>a == b
 | .bl a,.int b=>(if a then 1 else 0) == b
 | .int a,.bl b=>a == (if b then 1 else 0)
 | .int a,.int b=>a == b
 | .str a,.str b=>a == b
 |_,_=>false
theorem Pw(d:RelV y u)(c:RelV x v)(f:Dr y=true)(e:Dr x=true):SeqAt.EqAt A s u v (DR y x):=by
 cases y with
 |AA=>
  cases d;cases x with
  |AA=>cases c;exact SeqAt.EqAt.same _
  |bl b=>cases c;exact SeqAt.EqAt.none_bool b
  |int b=>obtain⟨t,rfl⟩:=c;exact SeqAt.EqAt.none_int b t
  |str b=>obtain⟨t,rfl⟩:=c;exact SeqAt.EqAt.none_str b t
  |_=>exact absurd (show false=true from e) Co
 |bl a=>
  cases d;cases x with
  |AA=>cases c;exact SeqAt.EqAt.bool_none a
  |bl b=>cases c;exact SeqAt.EqAt.bool_bool a b
  |int b=>obtain⟨t,rfl⟩:=c;exact SeqAt.EqAt.bool_int a b t
  |str b=>obtain⟨t,rfl⟩:=c;exact SeqAt.EqAt.bool_str a b t
  |_=>exact absurd (show false=true from e) Co
 |int a=>
  obtain⟨t',rfl⟩:=d;cases x with
  |AA=>cases c;exact SeqAt.EqAt.int_none a t'
  |bl b=>cases c;exact SeqAt.EqAt.int_bool a t' b
  |int b=>obtain⟨t,rfl⟩:=c;exact SeqAt.EqAt.int_int a t' b t
  |str b=>obtain⟨t,rfl⟩:=c;exact SeqAt.EqAt.int_str a t' b t
  |_=>exact absurd (show false=true from e) Co
 |str a=>
  obtain⟨t',rfl⟩:=d;cases x with
  |AA=>cases c;exact SeqAt.EqAt.str_none a t'
  |bl b=>cases c;exact SeqAt.EqAt.str_bool a t' b
  |int b=>obtain⟨t,rfl⟩:=c;exact SeqAt.EqAt.str_int a t' b t
  |str b=>obtain⟨t,rfl⟩:=c;exact SeqAt.EqAt.str_str a t' b t
  |_=>exact absurd (show false=true from e) Co
 |_=>exact absurd (show false=true from f) Co
def EN(x:V)(u:Value):Bool:=match u with
 | .none=>DR .AA x
 | .bool b=>DR (.bl b) x
 | .int i _=>DR (.int i) x
 | .str z _=>DR (.str z) x
 |_=>false
theorem bQ(r:RelV y u)(f:Dr y=true):EN x u=DR y x:=by
 cases y with
 |AA=>cases r;rfl
 |bl b=>cases r;rfl
 |int i=>obtain⟨t,rfl⟩:=r;rfl
 |str z=>obtain⟨t,rfl⟩:=r;rfl
 |_=>exact absurd (show false=true from f) Co
theorem ND{x:V}:∀{xs:List V}{us:List Value},Vals xs us->xs.all Dr=true->us.any (EN x)=xs.any λy=>DR y x
 |_,_,.nil,_=>rfl
 |y::xs,u::us,.cons r t,f=>by
  rw[Qf,En]at f;rw[Ki,Ki,bQ r f.1,ND t f.2]
theorem L5{A:Around}{s:Shared}{x:V}{v:Value}(b:RelV x v)(c:Dr x=true):∀{xs:List V}{us:List Value},Vals xs us->xs.all Dr=true->∀u∈us,SeqAt.EqAt A s u v (EN x u)
 |_,_,.nil,_=>λu a=>by cases a
 |y::xs,u::us,.cons r t,f=>λd a=>by
  rw[Qf,En]at f;rcases List.mem_cons.mp a with rfl|a
  .rw[bQ r f.1];exact Pw r b f.1 c
  .exact L5 b c t f.2 d a
def Kg(x:V)(xs:List V):Bool:=xs.any λy=>DR y x
def Ke(K:yo)(neg:Bool):R2:=λx y H Q=>∃p xs,y=.ref p/\(AS K H p xs∨Ao K H p xs)/\Dr x=true/\xs.all Dr=true/\Q (.bl (if neg then !Kg x xs else Kg x xs)) H
theorem UG:B7 X (compareOp .In) (Ke X.K false):=by
 intro Zn s O H x y v u Q I b d h;obtain⟨p,xs,rfl,a,c,fs,q⟩:=h;cases d;rcases a with a|a
 .obtain⟨A1,r,pl,e⟩:=I.list a;refine SeqAt.in_listAt (EN x) pl.isList (λw hw=>L5 b c r fs w (by simpa using hw)) ⟨.bl _,H,I,rfl,?_⟩
  rw[show A1.toArray.any (EN x)=A1.any (EN x) by simp,ND r fs];exact q
 .obtain⟨A1,r,pl,e⟩:=I.tuple a;refine SeqAt.in_tupleAt (EN x) pl (λw hw=>L5 b c r fs w (by simpa using hw)) ⟨.bl _,H,I,rfl,?_⟩
  rw[show A1.toArray.any (EN x)=A1.any (EN x) by simp,ND r fs];exact q
theorem OR:B7 X (compareOp .NotIn) (Ke X.K true):=by
 intro Zn s O H x y v u Q I b d h;obtain⟨p,xs,rfl,a,c,fs,q⟩:=h;cases d;rcases a with a|a
 .obtain⟨A1,r,pl,e⟩:=I.list a;refine SeqAt.notIn_listAt (EN x) pl.isList (λw hw=>L5 b c r fs w (by simpa using hw)) ⟨.bl _,H,I,rfl,?_⟩
  rw[show A1.toArray.any (EN x)=A1.any (EN x) by simp,ND r fs];exact q
 .obtain⟨A1,r,pl,e⟩:=I.tuple a;refine SeqAt.notIn_tupleAt (EN x) pl (λw hw=>L5 b c r fs w (by simpa using hw)) ⟨.bl _,H,I,rfl,?_⟩
  rw[show A1.toArray.any (EN x)=A1.any (EN x) by simp,ND r fs];exact q
theorem P5:DF X (.builtin "len") (λxs H Q=>∃p ys,xs=[.ref p]/\(AS X.K H p ys∨Ao X.K H p ys)/\Q (.int ys.length) H):=by
 intro Zn s O H xs us Q I r h;obtain⟨p,ys,rfl,b,q⟩:=h;obtain⟨u,rfl,d⟩:=vals1 r;cases d;have f:=JF;rcases b with b|b
 .obtain⟨A1,c,pl,e⟩:=I.list b;have a:=c.length;exact Calls.call_len_list pl.isList (by simp only[Bj] <;> omega) ⟨.int ys.length,H,I.tok _,⟨s.toks+1,by rw[Bj,a]⟩,q⟩
 .obtain⟨A1,c,pl,e⟩:=I.tuple b;have a:=c.length;exact len_tuple pl (by simp only[Bj] <;> omega) ⟨.int ys.length,H,I.tok _,⟨s.toks+1,by rw[Bj,a]⟩,q⟩
theorem Z8:DF X (.builtin "len") (λxs H Q=>∃z,xs=[.str z]/\z.length<=sizeLine/\Q (.int z.length) H):=by
 intro Zn s O H xs us Q I r h;obtain⟨z,rfl,a,q⟩:=h;obtain⟨u,rfl,t,rfl⟩:=vals1 r;have b:=JF;exact len_str (by omega) ⟨.int z.length,H,I.tok _,⟨_,rfl⟩,q⟩
theorem OK:DF X (.type "list") (λxs H Q=>∃p ys,xs=[.ref p]/\(AS X.K H p ys∨Ao X.K H p ys)/\∀l,H l=none->Q (.ref l) (upd H l (.lst ys))):=by
 intro Zn s O H xs us Q I r h;obtain⟨p,ys,rfl,f,q⟩:=h;obtain⟨u,rfl,j⟩:=vals1 r;cases j;have fin:∀(A1:List Value),Vals ys A1->ys.length<=sizeLine->∀(h':Heap)(c:Nat),(∀b o',s.heap.get? b=some o'->h'.get? b=some o')->
   h'.get? s.heap.objs.size=some { cls:=.type "list", dict:=none,data:=.seq A1.toArray c,slots:=#[] }->EP X Zn O Q (.ref s.heap.objs.size) { s with heap:=h' }:=λA1 a d h' c kp e=>
  ⟨.ref s.heap.objs.size,_,I.laid (t':=s.toks) kp (Aj _) (show CC X.prog X.w _ h' _ (.lst ys)from⟨d,A1,c,a,e⟩),rfl,q _ (I.AN.fresh (Aj _))⟩
 rcases f with f|f
 .obtain⟨A1,a,pl,d⟩:=I.list f;have g:=a.length;obtain⟨o,ho,i,n,hd⟩:=pl.isList;exact call_list_seq p (.inl rfl) ho i hd (λh' c kp e=>fin A1 a d h' c kp e) (by simp only[Bj] <;> omega)
 .obtain⟨A1,a,pl,d⟩:=I.tuple f;have g:=a.length;obtain⟨o,ho,i,n,hd⟩:=pl;exact call_list_seq p (.inr rfl) ho i hd (λh' c kp e=>fin A1 a d h' c kp e) (by simp only[Bj] <;> omega)
theorem RO:DF X (.type "tuple") (λxs H Q=>∃p ys,xs=[.ref p]/\((AS X.K H p ys/\∀l,H l=none->Q (.ref l) (upd H l (.tup ys)))∨(Ao X.K H p ys/\Q (.ref p) H))):=by
 intro Zn s O H xs us Q I r h;obtain⟨p,ys,rfl,h⟩:=h;obtain⟨u,rfl,j⟩:=vals1 r;cases j;rcases h with⟨c,q⟩|⟨c,q⟩
 .obtain⟨A1,a,pl,d⟩:=I.list c;have f:=a.length;refine call_tuple_list pl.isList (λh' kp=>?_) (by simp only[Bj] <;> omega)
  have i:Inv X Zn O H { s with heap:=h' }:=I.kept (t':=s.toks) kp
  have k:Inv X Zn O (upd H h'.objs.size (.tup ys)) { s with heap:=h'.push { cls:=.type "tuple", data:=.seq A1.toArray } }:=
   i.laid (t':=s.toks) (λb o e=>CU _ e) (Aj _) (show CC X.prog X.w _ _ _ (.tup ys)from⟨d,A1,a,⟨IsTup.new _ _,λRi g=>by rw[DC _ rfl]at g;cases g;rfl⟩⟩)
  exact⟨.ref h'.objs.size,_,k,rfl,q _ (i.AN.fresh (Aj _))⟩
 .obtain⟨A1,a,pl,d⟩:=I.tuple c;exact call_tuple_same pl ⟨.ref p,H,I,rfl,q⟩
def K3(K:yo)(T:String)(x:V)(H:Hp):Prop:=match x with
 | .str _=>T="str"
 | .int _=>T="int"
 | .ref p=>(T="list" /\ ∃xs,AS K H p xs)∨(T="tuple" /\ ∃o,K.lookup p=some o/\o.cls=.type "tuple" /\ o.dict=none)∨
   (T="dict" /\ ((∃A6,H p=some (.dK A6))∨∃A6,H p=some (.dT A6)))∨(T="set" /\ ∃S n,H p=some (.set S n))∨(T="tuple" /\ ∃xs,H p=some (.tup xs))
 |_=>False
theorem bB(I:Inv X Zn O H s)(r:RelV x v)(ty:K3 X.K T x H):
  s.TypeIs v T/\∀a,v=.ref a->∃ob,s.heap.get? a=some ob/\ob.dict=none:=by
 cases x with
 |str z=>
  obtain⟨t,rfl⟩:=r;cases(show T="str" from ty);exact⟨typeIs_str s z t,λ_ e=>nomatch e⟩
 |int i=>
  obtain⟨t,rfl⟩:=r;cases(show T="int" from ty);exact⟨typeIs_int s i t,λ_ e=>nomatch e⟩
 |ref p=>
  cases r;rcases ty with⟨rfl,xs,f⟩|⟨rfl,o,b,g,hd⟩|⟨rfl,b⟩|⟨rfl,S,n,b⟩|⟨rfl,xs,b⟩
  .obtain⟨A1,_,pl,_⟩:=I.list f;refine⟨pl.isList.typeIs,λa e=>?_⟩;cases e;obtain⟨o,n,e,c,hd,_⟩:=pl;exact⟨o,e,hd⟩
  .refine⟨⟨o,I.CY p o b,g⟩,λa e=>?_⟩;cases e;exact⟨o,I.CY _ o b,hd⟩
  .have z:∃o,s.heap.get? p=some o/\o.ExactDict:=by
    rcases b with⟨A6,b⟩|⟨A6,b⟩
    .obtain⟨_,_,_,_,o,_,_,e,ex,_⟩:=I.AN p _ b;exact⟨o,e,ex⟩
    .obtain⟨_,_,_,_,o,_,_,e,ex,_⟩:=I.AN p _ b;exact⟨o,e,ex⟩
   obtain⟨o,e,ex⟩:=z;refine⟨⟨o,e,ex.1⟩,λa d=>?_⟩;cases d;exact⟨o,e,ex.2.1⟩
  .obtain⟨o,_,_,_,e,ex,_⟩:=I.AN p _ b;refine⟨⟨o,e,ex.1⟩,λa d=>?_⟩;cases d;exact⟨o,e,ex.2.1⟩
  .obtain⟨_,A1,_,⟨o,e,c,_⟩,h⟩:=I.AN p _ b;refine⟨⟨o,e,c⟩,λa d=>?_⟩;cases d;exact⟨o,e,h o e⟩
 |_=>exact False.elim ty
def TB(K:yo)(T:String)(r:V->List V->Hp->VK->Prop)(to:TE):TE:=λO H Q=>to O H λx H1=>K3 K T x H1/\r x [] H1 Q
def Gv(K:yo)(T:String)(r:V->List V->Hp->VK->Prop)(to:TE)(t:TA):TE:=λO H Q=>to O H λx H1=>K3 K T x H1/\t O H1 λxs H2=>r x xs H2 Q
variable{o e:Expr}{es:List Expr}{to:TE}{t:TA}{name:Str}{apos Cd:Pos}{id:String}{r:V->List V->Hp->VK->Prop}
end
def O6(X:Cx)(id:String)(r:V->List V->Hp->VK->Prop):Prop:=
 ∀(Zn:yp)(s:Shared)(O:St)(H:Hp)(x:V)(xs:List V)(v:Value)(us:List Value)(Q:VK),Inv X Zn O H s->RelV x v->Vals xs us->r x xs H Q->
  wpAny (model X.prog X.w) X.A (call (.builtin id) (v::us)) (EP X Zn O Q) X.xe s
theorem Vals.one:∀{x:V}{us:List Value},Vals [x] us->∃u,us=[u]/\RelV x u:=λr=>vals1 r
theorem Vals.two:∀{x y:V}{us:List Value},Vals [x,y] us->∃u v,us=[u,v]/\RelV x u/\RelV y v:=λr=>vals2 r
theorem Vals.zero:∀{us:List Value},Vals [] us->us=[]
 |_,.nil=>rfl
theorem Vals.eraseIdx:∀{xs:List V}{us:List Value}(i:Nat),Vals xs us->Vals (xs.eraseIdx i) (us.eraseIdx i)
 |_,_,_,.nil=>.nil
 |_,_,0,.cons _ t=>t
 |_,_,i+1,.cons r t=>.cons r (Vals.eraseIdx i t)
theorem Vals.rep{xs:List V}{us:List Value}(h:Vals xs us):∀k:Nat,Vals (List.replicate k xs).flatten (List.replicate k us).flatten
 | 0=>.nil
 |k+1=>by
  rw[Kk,Kk,Lm,Lm];exact Vals.append h (Vals.rep h k)
theorem YZ{α:Type}:∀(l:List α)(i:Nat),(l.eraseIdx i).length<=l.length
 | [],_=>Aj _
 |_::_,0=>JY _
 |_::r,i+1=>Nat.succ_le_succ (YZ r i)
theorem foldl_rep(A1:List Value):∀(k:Nat)(acc:List Value),
  List.foldl (λb a=>b++a) acc.toArray (List.replicate k A1.toArray)=(acc++(List.replicate k A1).flatten).toArray
 | 0,acc=>by simp
 |k+1,acc=>by
  have e:acc.toArray++A1.toArray=(acc++A1).toArray:=by simp
  have c:(acc++A1)++(List.replicate k A1).flatten=acc++(List.replicate (k+1) A1).flatten:=by
   rw[Kk,Lm,BY]
  rw[<- c,<- foldl_rep A1 k (acc++A1),<- e,Kk,fJ]
section
variable{l b:Addr}{zs:List V}
theorem Inv.QK{f:Array Value->Array Value}(I:Inv X Zn O H s)(c:H l=some (.lst xs))
  (e:s.heap.get? l=some { cls:=.type "list", data:=.seq A1.toArray n }) (hf:f A1.toArray=its'.toArray) (hv:Vals ys its') (hz:ys.length<=sizeLine) :
  Inv X Zn O (upd H l (.lst ys)) { s with heap:=s.heap.update l (Obj.mapSeq f),toks:=t' }:=by
 have q:=PySem.IsL.update e f;rw[hf]at q;refine I.write (x:=l) (e:=l) (by rw[c];exact trivial) (.inl rfl) (λd u b a=>(Qd s.heap (Obj.mapSeq f) (Bk b)).trans a) ⟨_,q⟩ ?_;exact⟨hz,its',_,hv,q⟩
theorem Inv.VE(I:Inv X Zn O H s)(b:Vals ys A1)(a:ys.length<=sizeLine):
  Inv X Zn O (upd H s.heap.objs.size (.lst ys)) { s with heap:=s.heap.push { cls:=.type "list", data:=.seq A1.toArray },toks:=t' }:=
 I.laid (λ_ _ q=>CU _ q) (Aj _) ⟨a,A1,0,b,DC _ rfl⟩
theorem Inv.fresh(I:Inv X Zn O H s):H s.heap.objs.size=none:=I.AN.fresh (Aj _)
theorem Inv.K7(I:Inv X Zn O H s)(a:H l=some (.lst xs)):xs.length<=sizeLine/\∃(A1:List Value)(n:Nat),Vals xs A1/\xs.length=A1.length/\s.heap.get? l=some { cls:=.type "list", data:=.seq A1.toArray n }:=by
 obtain⟨z,A1,n,r,e⟩:=I.AN l _ a;exact⟨z,A1,n,r,r.length,e⟩
theorem j5(h:n<=sizeLine):Builtin.List.listTooLong n=false:=by
 unfold Builtin.List.listTooLong;exact ij (by omega)
def Mu:V->List V->Hp->VK->Prop:=λx vs H Q=>∃l xs y,x=.ref l/\vs=[y]/\H l=some (.lst xs)/\xs.length<sizeLine/\Q .AA (upd H l (.lst (xs++[y])))
theorem ZQ:O6 X "list.append" Mu:=by
 intro Zn s O H x vs v us Q I b c h;obtain⟨l,xs,y,rfl,rfl,a,f,q⟩:=h;cases b;obtain⟨u,rfl,d⟩:=c.one;obtain⟨z,A1,n,r,g,e⟩:=I.K7 a;refine o5 F.slot_list_append ⟨_,e,rfl⟩ F.entry_list_append (F.args_list_append_2 _ _) (PySem.list_append l A1.toArray n u (by rw[Bj];omega)) ⟨e,?_⟩;refine⟨.AA,_,I.QK (its':=A1++[u]) a e (by simp) (r.append (.cons d .nil)) ?_,rfl,q⟩;rw[C5,WY];omega
def Si:V->List V->Hp->VK->Prop:=λx vs H Q=>∃l xs i k y,x=.ref l/\vs=[.int i]/\H l=some (.lst xs)/\-(2 ^ 63)<=i/\i<2 ^ 63/\seqIndex? i xs.length=some k/\xs[k]?=some y/\Q y (upd H l (.lst (xs.eraseIdx k)))
theorem gI:O6 X "list.pop" Si:=by
 intro Zn s O H x vs v us Q I b c h;obtain⟨l,xs,i,k,y,rfl,rfl,a,h1,h2,j,f,q⟩:=h;cases b;obtain⟨u,rfl,d⟩:=c.one;obtain⟨t,rfl⟩:=d;obtain⟨z,A1,n,r,g,e⟩:=I.K7 a;obtain⟨w,hw,GO⟩:=r.get f;refine o5 F.slot_list_pop ⟨_,e,rfl⟩ F.entry_list_pop (F.args_list_pop_2 _ _)
  (MeetsSeq.list_pop_at l A1.toArray n i t k w (fitsIndex_both h1 h2) (by rw[Bj,<- g];exact j) (by rw[<- eh];exact hw) (by rw[Bj];omega)) ⟨e,?_⟩
 refine⟨y,_,I.QK (its':=A1.eraseIdx k) a e ?_ (r.eraseIdx k) ?_,GO,q⟩
 .show A1.toArray.eraseIdxIfInBounds k=(A1.eraseIdx k).toArray;rw[List.eraseIdxIfInBounds_toArray]
 .have:=YZ xs k;omega
def R3:V->List V->Hp->VK->Prop:=λx vs H Q=>∃l xs,x=.ref l/\vs=[]/\H l=some (.lst xs)/\Q .AA (upd H l (.lst []))
theorem sD:O6 X "list.clear" R3:=by
 intro Zn s O H x vs v us Q I b c h;obtain⟨l,xs,rfl,rfl,a,q⟩:=h;cases b;have d:=c.zero;subst d;obtain⟨z,A1,n,r,f,e⟩:=I.K7 a;refine o5 F.slot_list_clear ⟨_,e,rfl⟩ F.entry_list_clear (F.args_list_clear_1 _) (AutoSeq1.list_clear_list_0 l A1.toArray n (by rw[Bj];omega)) ⟨e,?_⟩;exact⟨.AA,_,I.QK (its':=[]) (ys:=[]) a e rfl .nil (CN _),rfl,q⟩
def Vg:R2:=λx y H Q=>∃l b xs zs,x=.ref l/\y=.ref b/\H l=some (.lst xs)/\H b=some (.lst zs)/\xs.length+zs.length<=sizeLine/\∀p,H p=none->Q (.ref p) (upd H p (.lst (xs++zs)))
theorem LK:B7 X (binaryOp .Add) Vg:=by
 intro Zn s O H x y v u Q I c a h;obtain⟨l,b,xs,zs,rfl,rfl,f,g,m,q⟩:=h;cases c;cases a;obtain⟨z,A1,n,r,o,e⟩:=I.K7 f;obtain⟨j,Bl,k,d,DY,i⟩:=I.K7 g;refine PySem.P.add_list e i ?_ (by rw[Bj,Bj];omega);have ea:A1.toArray++Bl.toArray=(A1++Bl).toArray:=by simp
 rw[ea];exact⟨.ref _,_,I.VE (t':=s.toks) (r.append d) (by rw[C5];omega),rfl,q _ I.fresh⟩
def Y4:R2:=λx y H Q=>∃l k xs,x=.ref l/\y=.int k/\H l=some (.lst xs)/\-(2 ^ 63)<=k/\k<2 ^ 63/\xs.length * k.toNat<=sizeLine/\
 ∀p,H p=none->Q (.ref p) (upd H p (.lst (List.replicate k.toNat xs).flatten))
theorem len_rep(xs:List α)(k:Nat):(List.replicate k xs).flatten.length=k * xs.length:=by
 induction k with
 |zero=>simp
 |succ k a=>rw[Kk,Lm,C5,a,Nat.succ_mul,Nat.add_comm]
theorem nC:B7 X (binaryOp .Mult) Y4:=by
 intro Zn s O H x y v u Q I j i h;obtain⟨l,k,xs,rfl,rfl,p,h1,h2,f,q⟩:=h;cases j;obtain⟨t,rfl⟩:=i;obtain⟨z,A1,n,r,o,e⟩:=I.K7 p;have b:A1.toArray.size * k.toNat<=sizeLine:=by rw[Bj,<- o];exact f
 have g:¬ A1.toArray.size * k.toNat > (2 ^ 63 - 1) / 8:=by
  have:(sizeLine:Nat)<=(2 ^ 63 - 1) / 8:=by decide
  omega
 have A:¬ (!Builtin.List.listFitsIndex k)=true:=by
  rw[fitsIndex_both h1 h2];exact Co
 have w:¬ Builtin.List.listTooLong (A1.toArray.size * k.toNat)=true:=by
  rw[j5 b];exact Co
 have B:List.foldl (λd c=>d++c) #[] (List.replicate (if A1.toArray.isEmpty=true then 0 else k.toNat) A1.toArray)=(List.replicate k.toNat A1).flatten.toArray:=by
  have f0:∀m:Nat,List.foldl (λd c=>d++c) #[] (List.replicate m A1.toArray)=(List.replicate m A1).flatten.toArray:=λm=>by
   have:=foldl_rep A1 m [];rw[Fb]at this;exact this
  rw[f0];cases A1 with
  |nil=>simp
  |cons a C=>rw[gp (by simp)]
 refine wpAny_binaryOp_repeat_ref (T:="list") (U:="int") (by decide) ⟨_,e,rfl⟩ (λs'=>typeIs_int s' k t) noFill_list_mul F.fills_int_mul F.slot_int_rmul repeat_list F.slot_int_index.lookup
  (o5 F.slot_int_rmul (typeIs_int s k t) F.entry_int_rmul (F.args_int_rmul_2 _ _) (int___rmul___int_list k t l A1.toArray n)
   ⟨e,rfl,⟨_,e,rfl⟩,o5 F.slot_list_mul ⟨_,e,rfl⟩ F.entry_list_mul (F.args_list_mul_2 _ _) (AutoListH.list___mul___list_int_3 l A1.toArray n k t A g w) ⟨e,?_⟩⟩)
 rw[B];exact⟨.ref _,_,I.VE (t':=s.toks) (r.rep k.toNat) (by rw[len_rep,Nat.mul_comm];exact f),rfl,q _ I.fresh⟩
variable{prog:Program}{w:World}{E:Value->Shared->Prop}
set_option maxRecDepth 100000 in
end
end L2
namespace ZP
open PySem.W PySem.Calls
variable{h:Heap}{l:OpenLaw}{n:Nat}
theorem xF{P:Params}:∀(ns:List Int)(vs:List Value),WellAll P h vs (ns.map WData.int)->IntsAre vs ns:=by
 intro ns
 induction ns with
 |nil=>
  intro vs w;rw[Gp]at w;cases w;exact .nil
 |cons n ns c=>
  intro vs w;rw[Ap]at w;cases w with
  |cons a b=>
   cases a;exact .cons _ _ (c _ b)
theorem qW(m:l.most=some n){P:Params}{args:List WData}{vals:List Value}
  (Iy:l.row.toRowW.claim.pre args=true) (Th:WellAll P h vals args) :
  ∃a vs ns,vals=[Value.ref a]/\args=[WData.list (ns.map WData.int)]/\h.get? a=some { cls:=.type "list", data:=.seq vs.toArray }/\IntsAre vs ns/\ns.length<=n:=by
 have k:WShape.hasAll [] args [.list .int]=true:=(pre_splitW Iy).1;have f:l.pre.holds [] { args:=args }=true:=(pre_splitW Iy).2;obtain⟨d,r,rfl,h1,h2⟩:=hasAllW_cons k;obtain rfl:=hasAllW_nil h2;obtain⟨xs,rfl,o⟩:=hasW_list h1;obtain⟨ns,rfl⟩:=items_int o;have b:ns.length<=n:=by
  unfold OpenLaw.pre at f;have e:(WTm.not (.lt (.lit (.int (n:Int))) (.len (.arg 0)))).holds [] { args:=[.list (ns.map .int)] }=true:=by
   have e:=(holds_andW f).1;rw[m]at e;exact e
  have c:=condW_of e (w_not (w_lt w_lit (w_len_list (w_arg rfl))));rw[AF]at c;refine xu λq=>?_;have j:(n:Int)<((ns.length:Nat):Int):=by omega
  first
   | (rw[iN j]at c;exact absurd c (by decide))
   | (simp at c;omega)
 cases Th with
 |cons i g=>
  cases g;cases i with
  |list ho QJ=>exact⟨_,_,ns,rfl,rfl,ho,xF ns _ QJ,b⟩
theorem vF(l:OpenLaw)(args:List WData):l.row.toRowW.claim.post args (.bool true) args=true:=
 postW_of (r:=l.row.toRowW) (X:=(true == true))
  (show WShape.has [] (.bool true) .bool=true by first|rfl|decide|simp[WShape.has,WShape.arms,WShape.armsAll])
  (show(WTm.eq .res (.lit (.bool true))).value [] { args:=args,res:=some (.bool true),after:=args }=some (.bool (true == true))from w_eq_bool (w_res rfl) w_lit) rfl
theorem xK{q:Program}{loose:List Str}{XP:(yq)->Heap->Prop}{YP:World->Heap->Prop}{d:DefRec}
  (p:l.most=some n) (N5:d.params.defaults=[])
  (call:∀(w:World)(s₀ b:Shared)(mg j:yq)(h:Addr)(o:Obj)(i cd e:Value)(a:Addr)(vs:List Value)(ns:List Int),
   Ground q loose [] XP w s₀ mg j b.heap->YP w b.heap->
   b.heap.get? h=some o->o.data=.func (docDef d.name d.params d.body d.scope i cd e)->b.heap.CodeRec cd d.name->mg d.name=some (.ref h)->
   b.heap.get? a=some { cls:=.type "list", data:=.seq vs.toArray }->IntsAre vs ns->ns.length<=n->b.gens=#[]->
   codeAny (model l.prog w) callerA (.call (.ref h) ⟨[.ref a],[]⟩) (λr s'=>r=.ok (.ret (.bool true))/\OldK b.heap s'.heap/\s'.os=b.os/\AllBare s'.gens) b) :
  WalkO q loose XP YP l.row.toRowW d [] (λf vs=>PySem.call f vs):=by
 intro w s₀ b mg j G Y h o i cd e v kV ho hd GL k Lu s args vals as Iy y Vj Th x;obtain rfl:v=.none:=Dflts.none k N5;obtain rfl:kV=.none:=Dflts.noKw k;obtain⟨a,vs,ns,rfl,rfl,VH,c,g⟩:=qW p Iy Th;refine enter_call (pd (call w s₀ b mg j h o i cd e a vs ns G Y ho (fd_plain hd) GL Lu VH c g s) λr s' m=>?_);obtain⟨rfl,h2,u,t⟩:=m;exact⟨.inl ⟨.bool true,.bool true,[],rfl,λ_=>rfl,.bool true,vF l _,λ_=>⟨List.Pairwise.nil,λ_ hm=>(nomatch hm)⟩⟩,h2,u,t⟩
end ZP
namespace L2
variable{w:World}{fd:FuncData}{qual x:Str}{sp:Sp}{loose ps:List Str}{X:Cx}{f:Addr}{A B:Prop}
theorem aM:∀{vs:List Value}{ns:List Int},IntsAre vs ns->Vals (ns.map V.int) vs
 |_,_,.nil=>.nil
 |_,_,.cons n t h=>.cons ⟨t,rfl⟩ (aM h)
def Tt(H:Hp):Prop:=∀b,H b=none∨∃o xs,H b=some (.Du o (.lst xs))
theorem lG{P:Program}{K:yo}{mg t:yq}{CX:Fs}{k:Nat}{A a:Addr}{c:Shared}{vs:List Value}{ns:List Int}
  (KX:K.In c.heap) (Km:c.heap.Ns mainGlobals mg) (f:c.heap.Ns builtinsNs t) (R:∀x:Str,x ≠"__name__" -> t x=bootBuiltins x) (N:c.heap.NoLimit) (T:c.gens=#[])
  (l:c.heap.get? a=some { cls:=.type "list", data:=.seq vs.toArray }) (hi:IntsAre vs ns) (hl:ns.length<=sizeLine) (hr:Ba k callerA)
  (F:∀ZB:Heap,K.In ZB->ZB.Ns mainGlobals mg->DN P w K mg ZB CX k A fd [x] sp) (jA:∀(s:Shared)(u:Value),BindsTo s fd ⟨[u],[]⟩ [(x,u)])
  (GR:∀H:Hp,Tt H->AS K H a (ns.map V.int)->sp [.ref a] H (λv _=>v=.bl true) λ_ _ _=>False)
  (RC:∀H e s',CX [] H c (λ_ _ _=>False) e s'->False) :
  codeAny (model P w) callerA (.call (.ref A) ⟨[.ref a],[]⟩) (λr s'=>r=.ok (.ret (.bool true))/\OldK c.heap s'.heap/\s'.os=c.os/\AllBare s'.gens) c:=by
 have C:=aM hi;have S:=hi.length
 -- from an abstract heap in yU nothing but Gf Xp may be tracked
 have g:∀H:Hp,Tt H->AS K H a (ns.map V.int)->C0 P w H c.heap->(∀b,H b≠none->b=a)->(H a≠none->K.lookup a=none)->
   codeAny (model P w) callerA (.call (.ref A) ⟨[.ref a],[]⟩) (λr s'=>r=.ok (.ret (.bool true))/\OldK c.heap s'.heap/\s'.os=c.os/\AllBare s'.gens) c:=by
  intro H D U AN E X;have J:∀{b:Addr}{o:Obj},c.heap.get? b=some o->H b=none->(Hr c.heap H).get? b=some o:=λe n=>wH e n;have NC:∀{b:Addr}{o:Obj}{es:Array DictEntry}{j:Nat},c.heap.get? b=some o->o.data=.dict es j->H b=none:=λ{b o es j}e d=>by
   cases q:H b with
   |none=>rfl
   |some u=>
    have B:b=a:=E b (by rw[q];simp);subst B;rw[l]at e;cases e;have d':Data.seq vs.toArray _=Data.dict es j:=d;cases d'
  have p:∀{b:Addr}{m:yq},c.heap.Ns b m->(Hr c.heap H).Ns b m:=λ{b m}AE=>by obtain⟨o,es,j,e,d,r⟩:=AE;exact⟨o,es,j,J e (NC e d),d,r⟩
  have I:K.In (Hr c.heap H):=λb o e=>J (KX b o e) (by
   cases q:H b with
   |none=>rfl
   |some u=>
    have B:b=a:=E b (by rw[q];simp);subst B;rw[X (by rw[q];simp)]at e;cases e)
  have W:Mod K mg (Hr c.heap H):=⟨I,p Km,⟨t,p f,R⟩,let ⟨mc,h1,h2⟩:=N;⟨mc,p h1,h2⟩⟩;have e0:Jy P w K mg (Hr c.heap H) callerA [] c H:=⟨rfl,W,λb o e=>x9 e,fX (kU _ _),trivial,λb f=>absurd (show b∈([]:List Addr)from f) (by simp),AN,.of_eq T⟩;refine pd ((F _ I (p Km)).run callerA [] c H ⟨[.ref a],[]⟩ [.ref a] [.ref a] _ _ hr e0 (jA c (.ref a)) (.cons rfl .nil) (GR H D U)) λr s' h=>?_;cases r with
  |error e=>exact(RC H e s' h).elim
  |ok Y=>
   cases Y with
   |next=>exact False.elim h
   |brk=>exact False.elim h
   |cont=>exact False.elim h
   |ret u=>
    obtain⟨v,H',os,bare,un,M,σ,q⟩:=h;have Q:v=.bl true:=q;subst Q;obtain rfl:u=Value.bool true:=σ;refine⟨rfl,OldK.of_keep λb o e=>?_,os,bare⟩;cases q:H b with
    |none=>exact un.keep b o e q (by intro z;exact absurd (show b∈([]:List Addr)from z) (by simp)) (by simp)
    |some u=>
     rcases D b with z|⟨ob,xs,z⟩
     .rw[q]at z;cases z
     .have L:=un.IF b ob _ z;obtain⟨G,_⟩:=AN b _ z;obtain⟨Z,_⟩:=M b _ L;rw[e]at G;cases G;exact Z
 cases y:K.lookup a with
 |some o=>
  -- Gf Xp is one of Gf yQ own objects
  have e:=KX a o y;rw[l]at e;cases e;refine g (λ_=>none) (λ_=>.inl rfl) (.inr ⟨_,vs.toArray,_,y,rfl,rfl,rfl,by rw[Bj,S];exact hl,by simpa using C⟩) (λb u z=>by have i:(none:Option HO)=some u:=z;cases i) (λb z=>absurd rfl z) λz=>absurd rfl z
 |none=>
  refine g (λb=>if b=a then some (.Du { cls:=.type "list", data:=.seq vs.toArray } (.lst (ns.map V.int)))else none) (λb=>?_) (.inl (.inr ⟨{ cls:=.type "list", data:=.seq vs.toArray },hZ rfl⟩)) (λb u z=>?_) (λb z=>?_) λ_=>y
  .by_cases f:b=a
   .exact .inr ⟨_,_,hZ f⟩
   .exact .inl (gp f)
  .by_cases f:b=a
   .have i:=(hZ f).symm.trans z;cases i;subst f;exact⟨l,by rw[AF];exact hl,vs,_,C,l⟩
   .have i:=(gp f).symm.trans z;cases i
  .by_cases f:b=a
   .exact f
   .exact absurd (gp f) z
theorem qN{l:PySem.W.OpenLaw}{n k:Nat}{q:Program}{XP:(yq)->Heap->Prop}{YP:World->Heap->Prop}{d:DefRec}{K:Params->yo}{CX:World->Fs}{sp:World->Sp}
  (r:l.most=some n) (FD:n<=sizeLine) (N5:d.params.defaults=[]) (hr:Ba k callerA)
  (z:∀(w:World)(h:Heap),YP w h->(K w.params).In h)
  (F:∀(w:World)(mg:yq)(j:Addr)(h:Heap),(K w.params).In h->h.Ns mainGlobals mg->mg d.name=some (.ref j)->
   ∃fd:FuncData,(∀(s:Shared)(u:Value),BindsTo s fd ⟨[u],[]⟩ [(x,u)])/\
    ∀ZB:Heap,(K w.params).In ZB->ZB.Ns mainGlobals mg->DN l.prog w (K w.params) mg ZB (CX w) k j fd [x] (sp w))
  (GR:∀(w:World)(H:Hp)(a:Addr)(ns:List Int),ns.length<=n->Tt H->AS (K w.params) H a (ns.map V.int)->sp w [.ref a] H (λv _=>v=.bl true) λ_ _ _=>False)
  (RC:∀(w:World)(H:Hp)(s:Shared)(e:Value)(s':Shared),CX w [] H s (λ_ _ _=>False) e s'->False) :
  PySem.W.WalkO q loose XP YP l.row.toRowW d [] (λf vs=>PySem.call f vs):=by
 refine ZP.xK r N5 λw s₀ p mg I j o E cd D a vs ns G Y ho hd GL Lu VH i c t=>?_;have m:=z w _ Y;obtain⟨fd,y,C⟩:=F w mg j _ m G.T.g Lu;exact lG m G.T.g G.T.b G.T.builtins G.T.nolimit t VH i (ES c FD) hr C y (λH B A=>GR w H a ns c B A) λH e s'=>RC w H p e s'
noncomputable def Mo(s:Stmt):Arguments:=match s with
 | .FunctionDef _ a _ _ _ _ _ _ _ _=>a
 |_=>{ posonlyargs:=[],args:=[],vararg:=none,kwonlyargs:=[],kw_defaults:=[],kwarg:=none,defaults:=[] }
noncomputable def Jc(s:Stmt):List Stmt:=match s with
 | .FunctionDef _ _ b _ _ _ _ _ _ _=>b
 |_=>[]
noncomputable def Af(s:Stmt):Scope:=match s with
 | .FunctionDef _ _ _ _ _ _ sc _ _ _=>sc
 |_=>{ kind:=.function,names:=[],isGenerator:=false,isCoroutine:=false }
abbrev FZ:Fs:=λ_ _ _ _ _ _=>False
abbrev E0:XK:=λ_ _ _=>False
theorem PM:Passes FZ X E0:=λ_ _ _ _ _ _ _ h=>h.elim
structure AV (K:yo) (x qual:Str) (st:Stmt) (f:Addr) (fd:FuncData):Prop where
 ex:∃(oc:Value)(od:Option Addr)(kV doc pm:Value)(an:Option Addr)(Ad ct:Value)(Ig:Array (Option Value)),
  fd=PySem.W.fnOf x qual (Mo st) (Jc st) (Af st) .none kV doc pm an Ad ct/\K.lookup f=some ⟨oc,od,.func fd,Ig⟩/\PySem.W.codeIn K Ad qual=true
 kp:PySem.W.keepIn K (.ref f)=true
section
variable{P:Program}{K:yo}{mg:yq}{ZB:Heap}
theorem AV.ok{st:Stmt}{N:List Str}{k:Nat}(F:AV K x qual st f fd)(S:BA N ps (Af st))(len:∀vs H Q E,sp vs H Q E->vs.length=ps.length)
  (NV:∀(Ad:Value)(A:Around)(outer:List Env)(s:Shared)(H:Hp)(vs:List V)(Q:VK)(E:XK),Ba k (A.deeper (envOfC qual (Af st) s.heap.objs.size f Ad))->sp vs H Q E->
   ∃t,EA (Jt FZ P w K mg ZB N qual (Af st) f Ad A outer s H E).MB (Jc st) t/\t { nx:=λ_ H'=>Q .AA H',rt:=Q } (start N vs) H):DN P w K mg ZB FZ (k+1) f fd ps sp:=by
 obtain⟨e,d,kV,b,c,g,Ad,ct,Ig,rfl,a,GL⟩:=F.ex;refine gX a GL S len λA outer s H vs Q E hr GR=>?_;obtain⟨t,h,q⟩:=NV Ad A outer s H vs Q E hr GR;exact⟨t,h.MB,q⟩
theorem AV.binds{st:Stmt}(F:AV K x qual st f fd)
  (h:∀(kV a b:Value)(c:Option Addr)(Ad ct:Value)(us:List Value),us.length=ps.length->bindArgs (PySem.W.fnOf x qual (Mo st) (Jc st) (Af st) .none kV a b c Ad ct) ⟨us,[]⟩=pure (ps.zip us)):Binds K fd ps []:=by
 obtain⟨e,d,kV,a,b,c,Ad,ct,Ig,rfl,g,GL⟩:=F.ex;exact .all (h kV a b c Ad ct)
theorem uV{st:Stmt}{g:Value}{e d:Option Addr}{Ig:Array (Option Value)}{kV a b Ad ct:Value}(l:K.lookup f=some ⟨g,e,.func (PySem.W.fnOf x qual (Mo st) (Jc st) (Af st) .none kV a b d Ad ct),Ig⟩)
  (c:PySem.W.codeIn K Ad qual=true) (k:PySem.W.keepIn K (.ref f)=true):AV K x qual st f (PySem.W.fnOf x qual (Mo st) (Jc st) (Af st) .none kV a b d Ad ct):=⟨⟨g,e,kV,a,b,d,Ad,ct,Ig,rfl,l,c⟩,k⟩
end
theorem KR{A:Around}{k:Nat}(hr:Ba k A):A.units+1<cLine:=Lp (Nat.add_le_add_left (by decide:1<=64) _) hr.units
theorem Qw(h:B):if false=true then A else B:=by
 rw[gp Co];exact h
theorem eN(h:A):if true=true then A else B:=by
 rw[hZ rfl];exact h
theorem BL{c:Prop}[Decidable c](h1:c->A)(h2:¬ c->B):if c then A else B:=by
 by_cases h:c
 .rw[hZ h];exact h1 h
 .rw[gp h];exact h2 h
def AI(H H':Hp):Prop:=∀b o,H b=some o->H' b=some o
theorem AI.refl(H:Hp):AI H H:=λ_ _ h=>h
theorem AI.trans{H H1 H2:Hp}(a:AI H H1)(b:AI H1 H2):AI H H2:=λc o h=>b c o (a c o h)
end L2
set_option maxHeartbeats 4000000
namespace L2
variable{α κ:Type}{A6:List (List Key×V)}{o:Option V}{u v:Value}{y:V}{w:World}{H H' H1 H2 H4:Hp}{xs:List (List Key×Addr×Value)}{C a acc b it n:Addr}{h h' h1:Heap}{X Y:Cx}{Zn:yp}{ws O:St}{s s2 s4:Shared}{A:Around}{E Q:Value->Shared->Prop}{i j n0 t' tk:Nat}{prog:Program}{env:Env}{c e elt tg value:Expr}{Es pos px py:Pos}{td te:TE}{outer scope:Scope}{cl closure:List (Str×Addr)}{qual x z:Str}{ce:Option Str}{es ifs:List Expr}{R:Result->Shared->Prop}{js:List Nat}{tt:TT}{J:It}{tn:Nat->Heap->Prop}{wi:TI}{CW:It->St->Hp->Addr->VK->Prop}{N:List Str}{ys:List V}{A1:List Value}
section
variable[DecidableEq κ]
noncomputable def EG(A6:List (κ×V))(k:κ):Option V:=(A6.find? λa=>decide (a.1=k)).map (·.2)
def putK(A6:List (κ×V))(k:κ)(v:V):List (κ×V):=
 if(A6.any λa=>decide (a.1=k))=true then A6.map (λa=>if a.1=k then(a.1,v)else a)else A6++[(k,v)]
theorem Me{p:κ×V}{r:List (κ×V)}{k:κ}(e:p.1=k):EG (p::r) k=some p.2:=by simp[EG,Na,e]
theorem NT{p:κ×V}{r:List (κ×V)}{k:κ}(e:¬ p.1=k):EG (p::r) k=EG r k:=by simp[EG,Na,e]
theorem Po(k:κ):∀A6:List (κ×V),(A6.any λa=>decide (a.1=k))=(EG A6 k).isSome
 | []=>rfl
 |p::r=>by
  rw[Ki]
  by_cases e:p.1=k
  .simp only[Me e,iN e,Bool.true_or,y2]
  .rw[NT e,ij e,Bool.false_or];exact Po k r
theorem YY(A6:List (κ×V))(k:κ)(v:V):(putK A6 k v).length<=A6.length+1:=by
 unfold putK;split
 .rw[AF];omega
 .rw[C5,D1,WX];omega
theorem Q5{A6:List (κ×V)}{k:κ}(v:V)(h:EG A6 k=none):putK A6 k v=A6++[(k,v)]:=by
 unfold putK;rw[Po,h];exact gp (by decide)
theorem EC.VY{u:Option Value}(r:EC o u):o.isSome=u.isSome:=by
 cases o with
 |none=>cases u with
  |none=>rfl
  |some _=>exact(show False from r).elim
 |some _=>cases u with
  |none=>exact(show False from r).elim
  |some _=>rfl
theorem KV.val{A6:List (κ×V)}{vs:List (κ×Value)}(r:KV A6 vs)(k:κ):EC (EG A6 k) (valueAt vs k):=by
 unfold KV at r
 induction r with
 |nil=>exact True.intro
 |@cons p q ps a h t d=>
  obtain⟨h1,h2⟩:=h
  by_cases e:p.1=k
  .have c:q.1=k:=h1.symm.trans e;have b:valueAt (q::a) k=some q.2:=by simp[valueAt,Na,c]
   rw[Me e,b];exact h2
  .have c:¬ q.1=k:=λz=>e (h1.trans z);have b:valueAt (q::a) k=valueAt a k:=by simp[valueAt,Na,c]
   rw[NT e,b];exact d
theorem KV.any{A6:List (κ×V)}{vs:List (κ×Value)}(r:KV A6 vs)(k:κ):(A6.any λa=>decide (a.1=k))=vs.any λa=>decide (a.1=k):=by
 unfold KV at r
 induction r with
 |nil=>rfl
 |cons h t b=>rw[Ki,Ki,b,h.1]
theorem KV.VJ{A6:List (κ×V)}{vs:List (κ×Value)}(r:KV A6 vs)(k:κ)(b:RelV y u):
  KV (A6.map λa=>if a.1=k then(a.1,y)else a) (vs.map λa=>if a.1=k then(a.1,u)else a):=by
 unfold KV at r ⊢
 induction r with
 |nil=>exact .nil
 |@cons p q ps d h t c=>
  rw[Ap,Ap];refine .cons ?_ c;obtain⟨h1,h2⟩:=h
  by_cases e:p.1=k
  .rw[hZ e,hZ (h1.symm.trans e)];exact⟨h1,b⟩
  .rw[gp e,gp (λz=>e (h1.trans z))];exact⟨h1,h2⟩
theorem KV.put{A6:List (κ×V)}{vs:List (κ×Value)}(r:KV A6 vs)(k:κ)(a:RelV y u):KV (putK A6 k y) (stored vs k u):=by
 unfold putK stored;rw[r.any k]
 by_cases e:(vs.any λb=>decide (b.1=k))=true
 .rw[hZ e,hZ e];exact r.VJ k a
 .rw[gp e,gp e];exact Paired.snoc r ⟨rfl,a⟩
theorem KV.keys{A6:List (κ×V)}{vs:List (κ×Value)}(r:KV A6 vs):A6.map (·.1)=vs.map (·.1):=by
 unfold KV at r
 induction r with
 |nil=>rfl
 |cons h t a=>rw[Ap,Ap,a,h.1]
theorem KV.length{A6:List (κ×V)}{vs:List (κ×Value)}(r:KV A6 vs):A6.length=vs.length:=fg r
end
theorem Ot{P:Program}{k:Key}(r:RelV (kV k) u):(Dk P w).is k u=true:=by
 cases k with
 |inl i=>obtain⟨t,e⟩:=(show ∃t,u=Value.int i t from r);subst e;exact qH P w i t
 |inr x=>obtain⟨t,e⟩:=(show ∃t,u=Value.str x t from r);subst e;exact i5 P w x t
theorem Ze{P:Program}{w:World}:∀{ks:List Key}{us:List Value},Vals (ks.map kV) us->ItemsAre (Dk P w) ks us
 | [],_,r=>by rw[Gp]at r;cases r;exact .nil
 |k::ks,_,r=>by
  rw[Ap]at r;cases r with
  |cons h t=>exact .cons (Ot h) (Ze t)
abbrev KT(H:Hp):List (List Key×V)->List (List Key×Addr×Value)->Prop:=Paired λp q=>p.1=q.1/\H q.2.1=some (.tup (p.1.map kV))/\RelV p.2 q.2.2
theorem KT.val(r:KT H A6 xs)(k:List Key):EC (EG A6 k) ((atKey xs k).map (·.2)):=by
 induction r with
 |nil=>exact True.intro
 |@cons p q ps a h t d=>
  obtain⟨h1,_,h2⟩:=h
  by_cases e:p.1=k
  .have c:q.1=k:=h1.symm.trans e;have b:atKey (q::a) k=some q.2:=by simp[atKey,Na,c]
   rw[Me e,b];exact h2
  .have c:¬ q.1=k:=λz=>e (h1.trans z);have b:atKey (q::a) k=atKey a k:=by simp[atKey,Na,c]
   rw[NT e,b];exact d
theorem KT.VJ(r:KT H A6 xs)(k:List Key)(b:RelV y u):
  KT H (A6.map λa=>if a.1=k then(a.1,y)else a) (xs.map (putAt k u)):=by
 induction r with
 |nil=>exact .nil
 |@cons p q ps f h t c=>
  rw[Ap,Ap];refine .cons ?_ c;obtain⟨h1,h2,d⟩:=h;unfold putAt
  by_cases e:p.1=k
  .rw[hZ e,hZ (h1.symm.trans e)];exact⟨h1,h2,b⟩
  .rw[gp e,gp (λz=>e (h1.trans z))];exact⟨h1,h2,d⟩
theorem KT.put(r:KT H A6 xs)(k:List Key)(d:H b=some (.tup (k.map kV)))(a:RelV y u):
  KT H (putK A6 k y) (storedH xs k b u):=by
 have e:(A6.any λc=>decide (c.1=k))=(atKey xs k).isSome:=by
  rw[Po,(r.val k).VY,fe]
 unfold putK storedH;rw[e]
 by_cases q:(atKey xs k).isSome=true
 .rw[hZ q,hZ q];exact r.VJ k a
 .rw[gp q,gp q];exact Paired.snoc r ⟨rfl,d,a⟩
theorem KT.keeps(r:KT H A6 xs)(a:∀b ys,H b=some (.tup ys)->H' b=some (.tup ys)):KT H' A6 xs:=
 Paired.Tj r λ_ _ z=>⟨z.1,a _ _ z.2.1,z.2.2⟩
section
variable{P:Program}
theorem aU{u:HO}(ok:C0 P w H h)(e:Rd H a u):CC P w H h a u:=e.ok ok
theorem N1{A6:List (Key×V)}(ok:C0 P w H h)(e:Rd H a (.dK A6)):A6.length<=sizeLine/\(a == sysModules)=false/\∃vs,KV A6 vs/\h.DictOf (Dk P w) a vs:=
 show CC P w H h a (.dK A6)from aU ok e
theorem wD{A6:List (Key×V)}(ok:C0 P w H h)(e:H a=some (.dK A6)):A6.length<=sizeLine/\(a == sysModules)=false/\∃vs,KV A6 vs/\h.DictOf (Dk P w) a vs:=N1 ok (.inl e)
theorem OJ{ks:List Key}(ok:C0 P w H h)(e:H a=some (.tup (ks.map kV))):(tupleKind (Dk P w)).is h ks a:=by
 obtain⟨_,A1,r,⟨o,h1,h2,n,b⟩,_⟩:=(show CC P w H h a (.tup (ks.map kV))from ok a _ e);exact⟨o,A1.toArray,n,h1,h2,b,by simpa using Ze r⟩
theorem Ob(ok:C0 P w H h)(e:Rd H a (.dT A6)):A6.length<=sizeLine/\(a == sysModules)=false/\
  ∃xs,KT H A6 xs/\h.DictOfH (tupleKind (Dk P w)) a xs:=by
 obtain⟨z,y,xs,r,o,es,i,h1,h2,g,f,d⟩:=(show CC P w H h a (.dT A6)from aU ok e);refine⟨z,y,xs,r,o,es,i,h1,h2,g,f,λx hx=>?_,d⟩;have all:∀{l:List (List Key×V)}{m:List (List Key×Addr×Value)},KT H l m->∀x∈m,(tupleKind (Dk P w)).is h x.1 x.2.1:=by
  intro l m q
  induction q with
  |nil=>intro x hx;exact nomatch hx
  |@cons p q ps j b t c=>
   intro x hx;rcases List.mem_cons.mp hx with e|hx
   .subst e;exact OJ ok (by rw[<- b.1];exact b.2.1)
   .exact c x hx
 exact all r x hx
theorem lH(ok:C0 P w H h)(e:H a=some (.dT A6)):A6.length<=sizeLine/\(a == sysModules)=false/\
  ∃xs,KT H A6 xs/\h.DictOfH (tupleKind (Dk P w)) a xs:=Ob ok (.inl e)
end
def HD(H:Hp)(a:Addr)(y:V)(r:Option V):Prop:=
 (∃A6 k,Rd H a (.dK A6)/\y=kV k/\r=EG A6 k)∨∃A6 k b,Rd H a (.dT A6)/\y=.ref b/\H b=some (.tup (k.map kV))/\r=EG A6 k
def Ly(H:Hp)(a:Addr)(y v:V)(H':Hp):Prop:=
 (∃A6 k,H a=some (.dK A6)/\y=kV k/\A6.length<sizeLine/\H'=upd H a (.dK (putK A6 k v)))∨
 ∃A6 k b,H a=some (.dT A6)/\y=.ref b/\H b=some (.tup (k.map kV))/\A6.length<sizeLine/\H'=upd H a (.dT (putK A6 k v))
theorem HD.k{A6:List (Key×V)}{k:Key}(e:H a=some (.dK A6)):HD H a (kV k) (EG A6 k):=.inl ⟨A6,k,.inl e,rfl,rfl⟩
theorem Ly.k{A6:List (Key×V)}{k:Key}{v:V}(e:H a=some (.dK A6))(b:A6.length<sizeLine):Ly H a (kV k) v (upd H a (.dK (putK A6 k v))):=.inl ⟨A6,k,e,rfl,b,rfl⟩
section
variable{v:V}{r:Value}
theorem Inv.big(I:Inv X Zn O H s):sysModules<s.heap.objs.size:=by
 have h:mainGlobals<s.heap.objs.size:=(I.mod.glob.keeps I.bk).lt;exact fb (by decide) h
theorem nJ(i:A.units+1<cLine)(I:Inv X Zn O H s)(g:HD H a y (some v))(f:RelV y u)(h:∀c s',Inv X Zn O H s'->RelV v c->Q c s'):
  wpAny (model X.prog X.w) A (getItem (.ref a) u) Q E s:=by
 rcases g with⟨A6,k,e,d,l⟩|⟨A6,k,b,e,d,m,l⟩
 .subst d;obtain⟨z,hd,vs,rel,dd⟩:=N1 I.AN e;obtain⟨c,hw,GO⟩:=EC.some_of (v:=v) (o:=valueAt vs k) (by rw[l];exact rel.val k);exact wpAny_getItem_of (Ot f) dd.mapOf hw (h c _ (I.tok _) GO)
 .subst d;cases(show u=Value.ref b from f);obtain⟨z,hd,xs,rel,dd⟩:=Ob I.AN e;obtain⟨c,hw,GO⟩:=EC.some_of (v:=v) (o:=(atKey xs k).map (·.2)) (by rw[l];exact rel.val k)
  obtain⟨p,j,Tn⟩:=Option.map_eq_some_iff.mp hw;refine wpAny_getItem_heap (p8 i) (OJ I.AN m) dd j ?_;rw[Tn];exact h c _ (I.tok _) GO
theorem iw(f:A.units+1<cLine)(I:Inv X Zn O H s)(g:HD H a y o)(d:RelV y u)(h:∀s',Inv X Zn O H s'->Q (.bool (!o.isSome)) s'):
  wpAny (model X.prog X.w) A (compareOp .NotIn u (.ref a)) Q E s:=by
 rcases g with⟨A6,k,e,c,l⟩|⟨A6,k,b,e,c,i,l⟩
 .subst c;obtain⟨z,hd,vs,rel,dd⟩:=N1 I.AN e;refine wpAny_notIn_of (Ot d) hd dd.mapOf ?_;rw[<- (rel.val k).VY,<- l];exact h _ (I.tok _)
 .subst c;cases(show u=Value.ref b from d);obtain⟨z,hd,xs,rel,dd⟩:=Ob I.AN e;refine wpAny_notIn_heap (p8 f) (OJ I.AN i) hd dd ?_;have q:=(rel.val k).VY;rw[fe]at q;rw[<- q,<- l];exact h _ (I.tok _)
theorem eY{ob:HO}(I:Inv X Zn O H s)(d:M4 (H a))(hs:Heap.SameBut a s.heap h')(f:∃q,h'.get? a=some q)(c:CC X.prog X.w (upd H a ob) h' a ob):
  Inv X Zn O (upd H a ob) { s with heap:=h',toks:=t' }:=
 I.write (x:=a) (e:=a) d (.inl rfl) (λb q g z=>(hs.2 b g).trans z) f c
theorem mZ{P:Program}{A6:List (Key×V)}{vs:List (Key×Value)}(z:A6.length<=sizeLine)(hd:(a == sysModules)=false)(rel:KV A6 vs)(dd:h'.DictOf (Dk P w) a vs):
  CC P w H' h' a (.dK A6):=⟨z,hd,vs,rel,dd⟩
theorem jc{Q:Unit->Shared->Prop}(x:A.units+1<cLine)(I:Inv X Zn O H s)(g:Ly H a y v H')(n:RelV y u)(o:RelV v r)(h:∀s',Inv X Zn O H' s'->Q () s'):
  wpAny (model X.prog X.w) A (setItem (.ref a) u r) Q E s:=by
 rcases g with⟨A6,k,e,j,l,m⟩|⟨A6,k,b,e,j,t,l,m⟩
 .subst j m;obtain⟨z,hd,vs,rel,dd⟩:=wD I.AN e;have f:vs.length<=sizeLine:=by rw[<- rel.length];exact z
  have i:(putK A6 k v).length<=sizeLine:=by have:=YY A6 k v;omega
  refine wpAny_setItem_pairs (hsz:=f) (Ot n) dd λh' Py hs=>h _ ?_;have B:∃q,h'.get? a=some q:=let ⟨q,_,_,d,_⟩:=Py;⟨q,d⟩;exact eY I (by rw[e];exact True.intro) hs B (mZ i hd (rel.put k o) Py)
 .subst j m;cases(show u=Value.ref b from n);obtain⟨z,hd,xs,rel,dd⟩:=lH I.AN e;have f:xs.length<=sizeLine:=by rw[<- fg rel];exact z
  have i:(putK A6 k v).length<=sizeLine:=by have:=YY A6 k v;omega
  refine wpAny_setItem_heap (hsz:=f) (p8 x) (OJ I.AN t) dd λh' Py hs=>h _ ?_;obtain⟨q,es,G,d,h2,F,D,_,C⟩:=Py;refine eY I (by rw[e];exact True.intro) hs ⟨q,d⟩ ⟨i,hd,_,(rel.put k t o).keeps λc ys p=>?_,q,es,G,d,h2,F,D,C⟩;rw[Ab (uH p e (λz=>nomatch z))];exact p
variable{A6:List (Key×V)}{k:Key}
end
def UB(i:Expr):Prop:=∀a b,subscripted i false a b=operate [a,b] (getItem a b)
theorem gQ{a:Expr}{T id:String}
  (k:typeLookup (.type T) "__getitem__"=pure (some (.builtin id))) (hs:UB a)
  (h:wpAny (model prog w) A (eval value env) (λo e=>wpAny (model prog w) A (eval a env) (λi b=>b.TypeIs o T/\wpAny (model prog w) A (getItem o i) Q E b) E e) E s) :
  wpAny (model prog w) A (eval (.Subscript value a pos) env) Q E s:=by
 refine Subscript_ (jH h (λo e j=>jH j (λi b c=>?_) λ_ _ x=>x) λ_ _ x=>x);obtain⟨f,c⟩:=c;unfold subscriptTail;refine gG ?_;rw[getitemInPython_of_ne f.not_modules];refine gG (wpAny_specialOf f k ?_);have fin:wpAny (model prog w) A (subscripted a false o i) (λr d=>wpAny (model prog w) A (letTemporaryGo value o r >>= λ_=>pure r) Q E d) E b:=by
  rw[hs o i];exact wpAny_operating (jH c (λr d g=>gG (wpAny_letTemporaryGo (iG g))) λ_ _ x=>x)
 first
  |exact iG (gG fin)
  |exact gG (iG (gG fin))
  |exact gG fin
theorem xX(I:Inv X Zn O H s)(g:HD H a y o):s.TypeIs (.ref a) "dict" := by
 rcases g with⟨A6,k,e,_,_⟩|⟨A6,k,b,e,_,_,_⟩
 .obtain⟨_,_,vs,_,dd⟩:=N1 I.AN e;exact dd.typeIs
 .obtain⟨_,_,xs,_,dd⟩:=Ob I.AN e;exact dd.typeIs
def Pr(td ty:TE):TE:=λO H Q=>td O H λx H1=>ty O H1 λy H2=>∃a v,x=.ref a/\HD H2 a y (some v)/\Q v H2
def Us(ty td:TE):TE:=λO H Q=>ty O H λy H1=>td O H1 λx H2=>∃a o,x=.ref a/\HD H2 a y o/\Q (.bl (!o.isSome)) H2
def VX(td ty tv:TE):TS:=λD O H=>tv O H λv H1=>td O H1 λx H2=>ty O H2 λy H3=>∃a H4,x=.ref a/\Ly H3 a y v H4/\D.nx O H4
section
variable{o i:Expr}{pos' NO:Pos}{ty tv:TE}
theorem mG(k:X.A.units+1<cLine)(hi:PE X i ty)(ho:PE X o td):PC X .NotIn i o (Us ty td):=by
 intro Zn s O H Q I h;refine AJ (hi Zn s O H _ I h) λm b⟨y,H1,I1,c,f⟩=>AJ (ho Zn b O H1 _ I1 f) λu s2⟨x,H2,I2,d,a,j,ex,g,e⟩=>?_;subst ex;obtain rfl:u=Value.ref a:=d;exact iw k I2 g c λl I3=>⟨.bl (!j.isSome),H2,I3,rfl,e⟩
end
theorem lT{P:Program}(h:Heap)(a:sysModules<h.objs.size):CC P w H (h.push { cls:=.type "dict", data:=.dict #[] }) h.objs.size (.dK []):=
 ⟨CN _,beq_eq_false_iff_ne.mpr (Bk (Cp a)),[],.nil,Heap.DictOf.new h⟩
def TZ:TE:=λ_ H Q=>∀p,H p=none->Q (.ref p) (upd H p (.dK []))
theorem pb{β:Type}{l:List α}{f:α->β->Sem (ForInStep β)}(g:β->α->β)(h:∀x∈l,∀c,f x c=pure (.yield (g c x))):∀c,forIn l c f=pure (l.foldl g c):=by
 induction l with
 |nil=>intro c;rfl
 |cons x l a=>
  intro c;rw[List.forIn_cons,h x D2,pure_bind];exact a (λy b=>h y (CM _ b)) (g c x)
noncomputable def Ja(cells:List (Str×Addr))(cs:List (Str×Addr))(x:Str×NameKind):List (Str×Addr):=
 if x.2=.free then(x.1,(cells.lookup x.1).getD 0)::cs else cs
def Bb(cells:List (Str×Addr))(names:List (Str×NameKind)):List (Str×Addr):=names.foldl (Ja cells) []
theorem qJ(h:∀x∈scope.names,x.2=.free->(env.cells.lookup x.1).isSome=true):closureFor scope env=pure (Bb env.cells scope.names):=by
 simp only[closureFor];rw[pb (Ja env.cells) (λx hx c=>by
  obtain⟨n,k⟩:=x;unfold Ja
  by_cases b:k=NameKind.free
  .subst b;have q:=h _ hx rfl;obtain⟨a,f⟩:=Option.isSome_iff_exists.mp q;have d:env.cells.lookup n=some a:=f;have e:cellOf env n=pure a:=by unfold cellOf;rw[d]
   simp[e,d]
  .have:(k == NameKind.free)=false:=by simpa using b
   simp[this,b])]
 rfl
theorem bc{cells:List (Str×Addr)}:∀(names:List (Str×NameKind))(acc:List (Str×Addr)),(∀y∈names,y.2=.free->(cells.lookup y.1).isSome=true)->
  (∀x c,acc.lookup x=some c->cells.lookup x=some c)->∀x c,(names.foldl (Ja cells) acc).lookup x=some c->cells.lookup x=some c
 | [],acc,_,ha,x,c,e=>ha x c e
 | (n,k)::r,acc,hs,ha,x,c,e=>by
  rw[fJ]at e;refine bc r _ (λy f=>hs y (CM _ f)) (λx c e=>?_) x c e;unfold Ja at e
  by_cases b:k=NameKind.free
  .rw[hZ b]at e;have q:=hs _ D2 b;obtain⟨a,q⟩:=Option.isSome_iff_exists.mp q;have d:cells.lookup n=some a:=q;rw[Gn]at e
   by_cases hx:x=n
   .subst hx;simp only[j3,d,Option.getD_some]at e;rw[d,<- e]
   .have g:(x == n)=false:=by simpa using hx
    rw[g]at e;exact ha x c e
  .rw[gp b]at e;exact ha x c e
theorem Vy{cells:List (Str×Addr)}{x:Str}:∀(names:List (Str×NameKind))(acc:List (Str×Addr)),((acc.lookup x).isSome=true∨(x,NameKind.free)∈names)->
  ((names.foldl (Ja cells) acc).lookup x).isSome=true
 | [],acc,h=>by
  rcases h with h|h
  .exact h
  .cases h
 | (n,k)::r,acc,h=>by
  rw[fJ];refine Vy r _ ?_;unfold Ja;rcases h with h|h
  .refine .inl ?_;split
   .rw[Gn];split
    .rfl
    .exact h
   .exact h
  .rcases List.mem_cons.mp h with e|h
   .cases e;refine .inl ?_;rw[hZ rfl,Gn];simp
   .exact .inr h
theorem Og{env:Env}:∀(names:List (Str×NameKind))(x:Str),
  (names.map λ(n,k)=>if(k == NameKind.free && env.scope.kind == .function && env.kindOf n == some .cell)then(n,NameKind.cell)else(n,k)).lookup x =
   (names.lookup x).map λk=>if(k == NameKind.free && env.scope.kind == .function && env.kindOf x == some .cell)then NameKind.cell else k
 | [],x=>rfl
 | (n,k)::r,x=>by
  have c:=Og (env:=env) r x;rw[Ap]
  by_cases a:(k == NameKind.free && env.scope.kind == .function && env.kindOf n == some .cell)=true
  .show List.lookup x ((if(k == NameKind.free && env.scope.kind == .function && env.kindOf n == some .cell)=true then(n,NameKind.cell)else(n,k))::_)=_
   rw[hZ a,Gn,Gn]
   by_cases hx:x=n
   .subst hx;simp only[j3,Wr];rw[hZ a]
   .have b:(x == n)=false:=by simpa using hx
    rw[b];exact c
  .show List.lookup x ((if(k == NameKind.free && env.scope.kind == .function && env.kindOf n == some .cell)=true then(n,NameKind.cell)else(n,k))::_)=_
   rw[gp a,Gn,Gn]
   by_cases hx:x=n
   .subst hx;simp only[j3,Wr];rw[gp a]
   .have b:(x == n)=false:=by simpa using hx
    rw[b];exact c
noncomputable abbrev EM(X:Cx)(N:List Str)(scope:Scope)(cl:List (Str×Addr))(C:Addr)(s:Shared)(H:Hp)(fp:List Addr):Cx:=
 { X with N:=N,s₀:=s,H₀:=H,env:=compEnvC scope cl C X.env,outer:=X.stack,ex:=fp,fn:=λ_=>false,pn:=[],xe:=λ_ _=>False }
noncomputable def BC(js:List Nat)(O:St):St:=js.map λj=>(O[j]?).join
structure Dz (N:List Str) (outer scope:Scope) (x:Str) (AH:List Str) (js:List Nat):Prop where
 kind:scope.kind=.function
 Jl:∀y∈scope.names,y.2≠.cell
 loc:∀y∈scope.names,y.2=.local->scope.names.lookup y.1=some .local
 JD:scope.names.lookup x=some .local
 at':js.map (λj=>N[j]?)=AH.map some
 cell:∀y∈AH,outer.names.lookup y=some .cell
 free:∀y∈AH,scope.names.lookup y=some .free
 all:∀y∈scope.names,y.2=.free->outer.names.lookup y.1=some .cell
 nd:(AH++[x]).Nodup
def Ga(X:Cx)(ifs:List Expr)(t:TT):Prop:=
 ∀(Zn:yp)(s:Shared)(O:St)(H:Hp)(Q:Bool->Hp->Prop),Inv X Zn O H s->t O H Q->
  wpAny (model X.prog X.w) X.A (forIn ifs true λc r=>if r=true then do let ok <- isTrue c X.env (eval c X.env);pure (ForInStep.yield ok)else pure (ForInStep.yield r)) (TP X Zn O Q) X.xe s
def U6:TT:=λ_ H Q=>Q true H
theorem rC{t:TT}(d:PT X c t):Ga X [c] t:=λZn s O H Q I h=>by
 rw[List.forIn_cons];refine gG ?_;rw[hZ rfl];refine gG (AJ (d Zn s O H Q I h) λb a q=>iG ?_);show wpAny _ _ (forIn [] b _) _ _ a;rw[fK];exact iG q
def Kv(J:It)(js:List Nat)(tt:TT)(te:TE)(O:St)(H1:Hp)(acc:Addr)(Q:VK):Prop:=
 ∃W:Nat->Nat->Hp->Prop,(∃m,W 0 m (upd H1 acc (.lst [])))/\∀i m H2,W i m H2->
  (J.stop i H2/\Q (.ref acc) H2)∨(J.go i H2/\∀x H3,J.E7 i H2 x H3->tt (BC js O++[some x]) H3 λb H4=>
   if b=true then te (BC js O++[some x]) H4 λy H5=>∃ys,H5 acc=some (.lst ys)/\ys.length<sizeLine/\∃a,a < m/\W (i+1) a (upd H5 acc (.lst (ys++[y])))
   else ∃a,a < m/\W (i+1) a H4)
def J1(wi:TI)(js:List Nat)(tt:TT)(te:TE):TE:=λO H Q=>wi O H λJ H1=>∀acc,H1 acc=none->Kv J js tt te O H1 acc Q
theorem rN(l:List α)(a b:α):(l++[a]).set l.length b=l++[b]:=by
 induction l with
 |nil=>rfl
 |cons x l c=>simp[c]
noncomputable def Gw:Option Str->Addr->List (Str×Addr)
 |none,_=>[]
 |some x,n=>[(x,n)]
noncomputable def Ou:Option Str->Heap->Heap
 |none,h=>h
 |some _,h=>h.push { cls:=.type "cell", data:=.cell none }
structure EV (N:List Str) (outer scope:Scope) (ce:Option Str) (zs AH:List Str) (js:List Nat):Prop where
 kind:scope.kind=.function
 loc:∀y∈scope.names,y.2=.local->scope.names.lookup y.1=some .local
 one:∀y∈scope.names,y.2=.cell->ce=some y.1
 sub:∀x,ce=some x->x∈zs
 cf:∀(n:Nat)(cl:List (Str×Addr)),cellsFrom n scope.names cl=Gw ce n++cl
 pc:∀h:Heap,pushCells h scope.names=Ou ce h
 at':js.map (λj=>N[j]?)=AH.map some
 cell:∀y∈AH,outer.names.lookup y=some .cell
 free:∀y∈AH,scope.names.lookup y=some .free
 all:∀y∈scope.names,y.2=.free->outer.names.lookup y.1=some .cell
 nd:(AH++zs).Nodup
abbrev FA(X:Cx)(N:List Str)(scope:Scope)(ce:Option Str)(cl:List (Str×Addr))(C:Addr)(s:Shared)(H:Hp)(fp:List Addr):Cx:=
 { X with N:=N,s₀:=s,H₀:=H,env:=compEnvC scope (Gw ce (C+1)++cl) C X.env,outer:=X.stack,ex:=fp,fn:=λy=>ce == some y,pn:=[],xe:=λ_ _=>False }
theorem iA{M:Model}{a:Addr}{b:Option Addr}{c:Value}{outer:Env}{Q:Env->Shared->Prop}
  (cf:∀(n:Nat)(cl:List (Str×Addr)),cellsFrom n scope.names cl=Gw ce n++cl) (pc:∀h:Heap,pushCells h scope.names=Ou ce h)
  (d:Q (newEnv scope s.heap.objs.size a (Gw ce (s.heap.objs.size+1)++closure) qual b c (some outer) builtinsNs) { s with heap:=Ou ce (s.heap.push { cls:=.type "dict", data:=.dict #[] }) }) :
  wpAny M A (newFunctionEnv scope a closure [] qual b c (some outer)) Q E s:=by
 simp only[newFunctionEnv,y2,rK];refine gG (wpAny_alloc ?_);refine gG (wpAny_layCells _ (λname kind cells=>by cases e:kind == NameKind.cell <;> simp[e]) _ _ _ _ ?_)
 rw[cf,pc];rw[show({ s with heap:=s.heap.push { cls:=.type "dict", data:=.dict #[] } }:Shared).heap.objs.size=s.heap.objs.size+1 from Ll ..]
 refine gG ?_;rw[fK];exact iG (iG d)
theorem sM{y:Str}{c:Addr}(h:(Gw ce n++cl).lookup y=some c):(ce=some y/\c=n)∨(ce≠some y/\cl.lookup y=some c):=by
 cases ce with
 |none=>exact .inr ⟨λz=>(by cases z),h⟩
 |some x=>
  have h:((x,n)::cl).lookup y=some c:=h;rw[Gn]at h
  by_cases e:y=x
  .subst e;simp only[j3]at h;exact .inl ⟨rfl,(B9 h).symm⟩
  .have a:(y == x)=false:=by simpa using e
   rw[a]at h;exact .inr ⟨λz=>e (B9 z).symm,h⟩
theorem YO{y:Str}(h:ce≠some y):(Gw ce n++cl).lookup y=cl.lookup y:=by
 cases ce with
 |none=>rfl
 |some x=>
  show((x,n)::cl).lookup y=_;have a:(y == x)=false:=beq_eq_false_iff_ne.mpr λz=>h (by rw[z]);rw[Gn,a]
theorem pQ:(Gw (some x) n++cl).lookup x=some n:=by
 show((x,n)::cl).lookup x=_;rw[Gn,j3]
theorem iq{iter:Expr}{it acc:Value}(I:Nat->Shared->Prop)
  (a:∀n s,I n s->wpAny (model prog w) A (pyNext it) (λr d=>match r with
   |none=>R (.ok .next) d
   |some v=>wpAny (model prog w) A (letOwnedTupleGo tg it v) (λ_ s2=>wpAny (model prog w) A (assign tg env v) (λ_ i=>
     wpAny (model prog w) A (forIn ifs true λc r=>if r=true then do let ok <- isTrue c env (eval c env);pure (ForInStep.yield ok)else pure (ForInStep.yield r)) (λok s4=>if ok=true then
      wpAny (model prog w) A (eval elt env) (λx g=>wpAny (model prog w) A (call (.builtin "list.append") [acc,x]) (λ_ f=>∃m,m<n/\I m f) (notedBy (model prog w) A env λe s'=>R (.error e) s') g) (notedBy (model prog w) A env λe s'=>R (.error e) s') s4
      else ∃m,m<n/\I m s4) (notedBy (model prog w) A env λe s'=>R (.error e) s') i)
     (notedBy (model prog w) A env λe s'=>R (.error e) s') s2) (notedBy (model prog w) A env λe s'=>R (.error e) s') d) (notedBy (model prog w) A env λe s'=>R (.error e) s') s)
  (n:Nat) (h:I n s):codeAny (model prog w) A (.compLoop (.ListComp elt [⟨tg,iter,ifs,0⟩] scope pos) 0 it acc env) R s:=by
 refine codeAny_loop rfl I (λn s q=>(show wpAny _ A ((compTurn (.ListComp elt [⟨tg,iter,ifs,0⟩] scope pos) 0 it acc env).onRaise (λx=>do noteFrame x env;theTreesLotGoes x)) _ _ s from wpAny_noted ?_)) n h
 rw[compTurn_list];refine gG (sQ (gG (jH (a n s q) (λr d j=>?_) λ_ _ z=>z)));cases r with
 |none=>exact iG j
 |some v=>
  refine gG (jH j (λ_ s2 p=>gG (jH p (λ_ i o=>gG (jH o (λok s4 b=>?_) λ_ _ z=>z)) λ_ _ z=>z)) λ_ _ z=>z);cases ok with
  |false=>
   rw[gp (by decide)]at b;exact gG (iG (iG ⟨rfl,b⟩))
  |true=>
   rw[hZ rfl]at b;exact gG (gG (jH b (λx g l=>gG (jH l (λ_ f k=>iG (iG ⟨rfl,k⟩)) λ_ _ z=>z)) λ_ _ z=>z))
abbrev TY(tt:TT)(te:TE)(acc:Addr)(W:Nat->Nat->Hp->Prop)(i m:Nat)(O:St)(H:Hp):Prop:=
 tt O H λb H4=>if b=true then te O H4 λy H5=>∃ys,H5 acc=some (.lst ys)/\ys.length<sizeLine/\∃m',m' < m/\W (i+1) m' (upd H5 acc (.lst (ys++[y])))
  else ∃m',m' < m/\W (i+1) m' H4
def N0(g:TG)(n:Nat)(J:It)(js:List Nat)(tt:TT)(te:TE)(O:St)(H1:Hp)(acc:Addr)(Q:VK):Prop:=
 ∃W:Nat->Nat->Hp->Prop,(∃m,W 0 m (upd H1 acc (.lst [])))/\∀i m H2,W i m H2->
  (J.stop i H2/\Q (.ref acc) H2)∨(J.go i H2/\∀x H3,J.E7 i H2 x H3->∀ws,ws.length=n->g x (BC js O++ws) H3 λσ8 H8=>∃us,us.length=n/\σ8=BC js O++us/\TY tt te acc W i m σ8 H8)
def eS(CW:It->St->Hp->Addr->VK->Prop)(wi:TI):TE:=λO H Q=>wi O H λJ H1=>∀acc,H1 acc=none->CW J O H1 acc Q
section
variable{iter:Expr}{zs AH:List Str}{fp:List Addr}{g:TG}
theorem xT(h:scope.names.lookup x=some .cell):(relabel scope env).names.lookup x=some .cell:=by
 refine(Og (env:=env) scope.names x).trans ?_;rw[h];simp
theorem la{n:Nat}{v:V}(h:(List.replicate n (none:Option V))[i]?=some (some v)):False:=by
 rw[fM]at h
 by_cases c:i<n
 .rw[hZ c]at h;cases h
 .rw[gp c]at h;cases h
theorem mD(S:EV X.N X.env.scope scope ce zs AH js)(I3:Inv X Zn O H2 s2)(F:∀b∈fp,EB X Zn H2 b)(X6:∀b∈fp,b<s2.heap.objs.size)
  {m:yq}(Km:h1.Ns s2.heap.objs.size m) (old:∀b o,s2.heap.get? b=some o->h1.get? b=some o) (E:∀x,ce=some x->h1.IsCell (s2.heap.objs.size+1) none) :
  Inv (FA X (AH++zs) scope ce (Bb X.env.cells scope.names) s2.heap.objs.size s2 H2 fp) [] (BC js O++List.replicate zs.length none) H2 { s2 with heap:=h1,toks:=t' }:=by
 have R:∀y∈scope.names,y.2=.free->(X.env.cells.lookup y.1).isSome=true:=λy g C=>by
  obtain⟨c,e⟩:=I3.ok.has y.1 (.inl (S.all y g C));rw[e];rfl
 have σ:∀y c,(Bb X.env.cells scope.names).lookup y=some c->X.env.cells.lookup y=some c:=bc scope.names [] R (λ_ _ e=>by cases e);have L:∀y k,(relabel scope X.env).names.lookup y=some k->k=.cell∨k=.free->scope.names.lookup y=some .free∨ce=some y:=λy k e C=>by
  have t:=(Og (env:=X.env) scope.names y).symm.trans e;cases q:scope.names.lookup y with
  |none=>rw[q]at t;cases t
  |some U=>
   rw[q]at t;cases U with
   |free=>exact .inl rfl
   |cell=>exact .inr (S.one _ (Kl q) rfl)
   |_=>simp at t;rcases C with rfl|rfl <;> cases t
 have n:js.length=AH.length:=by have:=jL List.length S.at';simpa using this
 have P:∀y c,X.env.cells.lookup y=some c->c<s2.heap.objs.size:=λy c e=>by
  obtain⟨v,o,ho,_⟩:=I3.cell y c e;exact B8 ho
 have f:∀c v,s2.heap.IsCell c v->h1.IsCell c v:=λc v AE=>by obtain⟨o,ho,hd⟩:=AE;exact⟨o,old c o ho,hd⟩
 have A:∀y c,(Gw ce (s2.heap.objs.size+1)++Bb X.env.cells scope.names).lookup y=some c->(ce=some y/\c=s2.heap.objs.size+1)∨(ce≠some y/\X.env.cells.lookup y=some c):=λy c e=>(sM e).imp id λz=>⟨z.1,σ y c z.2⟩;have Q:∀y∈AH,ce≠some y:=λy g z=>(List.nodup_append.mp S.nd).2.2 y g y (S.sub y z) rfl;refine⟨⟨I3.ok.mod,S.kind,I3.ok.glob,I3.ok.blt,Aj _,λy z c J D=>?_,λy g=>?_,λy c I e=>?_,I3.ok.hd,I3.ok.frames,.inl rfl,λb s=>⟨Cp (X6 b s),λy c e=>?_⟩,
  λb o e=>I3.bs b o e,ES I3.ok.IH I3.sz,λb o e s=>?_,λb s hs=>?_,I3.stack,I3.dG⟩,rfl,I3.bare,Un.kept old,⟨m,Km,λi y v J D e3=>?_⟩,λy c e=>?_,I3.AN.fresh (Aj _),λy c e=>?_,λp W=>(by cases W),I3.AN.kept old,?_⟩
 .rcases A y c J with⟨a1,rfl⟩|⟨_,D4⟩
  .rcases A z _ D with⟨a2,_⟩|⟨_,Dh⟩
   .exact B9 (a1.symm.trans a2)
   .exact absurd (P z _ Dh) (xx (JY _))
  .rcases A z c D with⟨_,rfl⟩|⟨_,Dh⟩
   .exact absurd (P y _ D4) (xx (JY _))
   .exact I3.ok.inj y z c D4 Dh
 .have I:scope.names.lookup y=some .free∨ce=some y:=g.elim (λg=>L y _ g (.inl rfl)) λg=>L y _ g (.inr rfl);show ∃c,List.lookup y (Gw ce (s2.heap.objs.size+1)++Bb X.env.cells scope.names)=some c
  by_cases ex:ce=some y
  .rw[ex];exact⟨_,pQ⟩
  .rw[YO ex];exact Option.isSome_iff_exists.mp (Vy scope.names [] (.inr (Kl (I.resolve_right ex))))
 .rcases A y c e with⟨_,rfl⟩|⟨T,_⟩
  .exact JY _
  .exact absurd (eq_of_beq I) T
 .rcases A y c e with⟨_,rfl⟩|⟨_,D4⟩
  .exact Nd (xv (X6 b s))
  .exact(F b s).2.2.2.2.1 y c D4
 .rcases(F b s).2.2.2.1 with z|z
  .exact I3.ok.NP b o e z
  .exact absurd (DP (DP (B8 e) I3.ok.IH) z) (Lo _)
 .rcases List.mem_cons.mp (I3.V9 b hs)with z|z
  .exact(F b s).2.1 z
  .exact(F b s).2.2.1 z
 .have E:(BC js O).length=AH.length:=by unfold BC;rw[AF,n]
  have hi:i<AH.length:=by
   by_cases hi:i<AH.length
   .exact hi
   .have d:(BC js O++List.replicate zs.length none)[i]?=some (some v):=D;rw[ER (by rw[E];omega),E]at d;exact(la d).elim
  have G:AH[i]?=some y:=by
   have G:(AH++zs)[i]?=some y:=J
   rwa [E2 hi]at G
  have d:(BC js O)[i]?=some (some v):=by
   have d:(BC js O++List.replicate zs.length none)[i]?=some (some v):=D
   rwa [E2 (by rw[E];exact hi)]at d
  have B:y∈AH:=Dn G;unfold BC at d;rw[Aa]at d;cases H:js[i]? with
  |none=>rw[H]at d;cases d
  |some j=>
   rw[H]at d;have Y:X.N[j]?=some y:=by
    have q:=jL (λl=>l[i]?) S.at';simp only[Aa,H,G,Wr]at q;exact B9 q
   have hσ:O[j]?=some (some v):=by
    simp only[Wr,Option.some.injEq]at d;cases q:O[j]? with
    |none=>rw[q]at d;cases d
    |some w=>rw[q]at d;simp at d;rw[d]
   obtain⟨m0,yZ,V⟩:=I3.loc;obtain⟨u,r,l⟩:=V j y v Y hσ (.inr (.inl (S.cell y B)));refine⟨u,r,?_⟩;rcases l with⟨k,_⟩|⟨_,c,e,z⟩
   .have K:X.env.scope.names.lookup y=some .local:=k;rw[S.cell y B]at K;cases K
   .have UO:X.env.kindOf y=some .cell:=S.cell y B;have C:(relabel scope X.env).names.lookup y=some .cell:=by
     refine(Og (env:=X.env) scope.names y).trans ?_;rw[S.free y B];simp[I3.ok.kind,UO]
    obtain⟨Z,t⟩:=Option.isSome_iff_exists.mp (Vy (cells:=X.env.cells) scope.names [] (.inr (Kl (S.free y B))));have M:=σ y Z t;rw[e]at M;cases M;exact .inr ⟨.inl C,c,(YO (Q y B)).trans t,f c _ z⟩
 .rcases A y c e with⟨a,rfl⟩|⟨_,D4⟩
  .exact⟨none,E _ a⟩
  .obtain⟨v,z⟩:=I3.cell y c D4;exact⟨v,f c v z⟩
 .rcases A y c e with⟨_,rfl⟩|⟨_,D4⟩
  .exact I3.AN.fresh (JY _)
  .exact I3.HK y c D4
 .show(BC js O++List.replicate zs.length none).length=(AH++zs).length;unfold BC;simp[n]
theorem v5(j:Y.prog=X.prog)(hw:Y.w=X.w)(F:Y.K=X.K)(hA:Y.A=X.A)(U:Y.xe=λ_ _=>False)(E:Y.calm=true)
  (hg:PG Y tg g) (Cz:Ga Y ifs tt) (Ct:PE Y elt te)
  (T:Turn X.prog X.w X.K tg J fp it tn) (qc:∀b∈fp,Y.Ok->EB Y [] (λ_=>none) b)
  (W:Nat->Nat->Hp->Prop) (Q:VK)
  (h:∀i m H2,W i m H2->(J.stop i H2/\Q (.ref acc) H2)∨(J.go i H2/\∀x H3,J.E7 i H2 x H3->∀ws,ws.length=n0->g x (BC js O++ws) H3 λσ8 H8=>∃us,us.length=n0/\σ8=BC js O++us/\TY tt te acc W i m σ8 H8))
  (I4:Inv Y [] (BC js O++ws) H4 s4) (Pn:tn 0 s4.heap) (rA:∀b∈fp,H4 b=none) (D:Nat) (P:W 0 D H4)
  (S:ws.length=n0) (hR:∀H' s' ws,Inv Y [] (BC js O++ws) H' s'->Q (.ref acc) H'->R (.ok .next) s') :
  codeAny (model X.prog X.w) X.A (.compLoop (.ListComp elt [⟨tg,iter,ifs,0⟩] scope pos) 0 (.ref it) (.ref acc) Y.env) R s4:=by
 have AN:=I4.ok;have p:∀{H':Hp},(∀b∈fp,H' b=none)->∀b∈fp,EB Y [] H' b:=λhn b c=>⟨hn b c,(qc b c AN).2⟩;rw[<- j,<- hw,<- hA];have k:∀{Z:Value->Shared->Prop}v s,Y.xe v s->Z v s:=λv s z=>by rw[U]at z;exact z.elim
 refine iq (λn s'=>∃i ws H',ws.length=n0/\Inv Y [] (BC js O++ws) H' s'/\tn i s'.heap/\(∀b∈fp,H' b=none)/\W i n H') ?_ D ⟨0,ws,H4,S,I4,Pn,rA,P⟩;rintro n C⟨i,G,H5,mP,I5,L8,QQ,σ⟩;rcases h i n H5 σ with⟨stop,q⟩|⟨go,step⟩
 .have d:=T.done Y j hw F E i [] C _ H5 (λ_ _=>False) I5 (p QQ) L8 stop;rw[<- j,<- hw]at d;refine jH d (λr B⟨hr,I6⟩=>?_) λ_ _ z=>z.elim;subst hr;exact hR H5 B G I6 q
 .have d:=T.item Y j hw F E i [] C _ H5 (λ_ _=>False) I5 (p QQ) L8 go;rw[<- j,<- hw]at d;refine jH d (λr B⟨u,hr,h6⟩=>?_) λ_ _ z=>z.elim;subst hr;refine jH h6 (λ_ t⟨v,H7,I7,r7,L,Rk,oG⟩=>?_) λ_ _ z=>z.elim;have pq:=I7.pinned (p oG) (T.obj _ _ Rk);refine jH (hg _ t _ H7 v u _ pq r7 (step v H7 L G mP)) (λ_ s8⟨σ8,H8,I8,us,Ho,e8,V⟩=>?_) k;subst e8;have a:∀{σa:St}{Ha:Hp}{sa:Shared},Inv Y ([]++NG fp t.heap) σa Ha sa->tn (i+1) sa.heap/\(∀b∈fp,Ha b=none):=λ{σa Ha sa}Ia=>by
   refine⟨T.keep _ _ _ Rk λb c o e=>(Ia.pin (b,o) (Ep _ (Ep _ (Ol c e)))).1,λb c=>?_⟩;obtain⟨o,e,d⟩:=T.obj _ _ Rk b c;exact(Ia.pin (b,o) (Ep _ (Ep _ (Ol c e)))).2.1
  refine jH (Cz _ s8 _ H8 _ I8 V) (λb s9⟨H9,I9,l⟩=>?_) k;cases b with
  |false=>
   have mQ:∃f,f < n/\W (i+1) f H9:=l;obtain⟨f,hm,N⟩:=mQ;rw[gp (by decide)];exact⟨f,hm,i+1,_,H9,Ho,I9.NX,(a I9).1,(a I9).2,N⟩
  |true=>
   rw[hZ rfl];rw[hZ rfl]at l;refine jH (Ct _ s9 _ H9 _ I9 l) (λI ki⟨y,Y3,gy,M,ys,Ax,hz,f,hm,m6⟩=>?_) k;refine jH (ZQ (X:=Y) _ ki _ Y3 (.ref acc) [y] (.ref acc) [I] (λ_ H=>H=upd Y3 acc (.lst (ys++[y]))) gy rfl (.cons M .nil) ⟨acc,ys,y,rfl,rfl,Ax,hz,rfl⟩)
    (λ_ ye⟨_,H,WG,_,l0⟩=>?_) k
   subst l0;exact⟨f,hm,i+1,_,_,Ho,WG.NX,(a WG).1,(a WG).2,m6⟩
theorem c4{RR:Value->Addr->Result->Shared->Prop}(L:X.calm=true)(S:EV X.N X.env.scope scope ce zs AH js)
  (I:∀C s H,PG (FA X (AH++zs) scope ce (Bb X.env.cells scope.names) C s H fp) tg g)
  (Cz:∀C s H,Ga (FA X (AH++zs) scope ce (Bb X.env.cells scope.names) C s H fp) ifs tt) (Ct:∀C s H,PE (FA X (AH++zs) scope ce (Bb X.env.cells scope.names) C s H fp) elt te)
  (T:Turn X.prog X.w X.K tg J fp it tn) (I2:Inv X Zn O H2 s2) (J4:tn 0 s2.heap) (j:∀b∈fp,EB X Zn H2 b) (Q:VK) (M:∀acc,H2 acc=none->N0 g zs.length J js tt te O H2 acc Q)
  (u:∀acc C H' s' m,Inv X Zn O H' s'->EB X Zn H' C->s'.heap.Ns C m->Q (.ref acc) H'->RR (.ref acc) C (.ok .next) s') :
  wpAny (model X.prog X.w) X.A (newList []) (λacc a=>wpAny (model X.prog X.w) X.A (newFunctionEnv scope X.env.globals (Bb X.env.cells scope.names) [] X.env.qual none .none (some X.env)) (λYc s4=>
   codeAny (model X.prog X.w) X.A (.compStart (.ListComp elt [⟨tg,iter,ifs,0⟩] scope pos) 0 (.ref it) acc { Yc with scope:=relabel scope X.env }) (RR acc Yc.locals) s4) E a) E s2:=by
 refine jU (iA S.cf S.pc ?_);have i:Inv X Zn O (upd H2 s2.heap.objs.size (.lst [])) { s2 with heap:=s2.heap.push { cls:=.type "list", data:=.seq ([]:List Value).toArray } }:=I2.VE (t':=s2.toks) .nil (CN _)
 have t:∀b∈fp,b<s2.heap.objs.size:=λb c=>by
  obtain⟨o,e,_⟩:=T.obj _ _ J4 b c;exact B8 e
 have hsz:(s2.heap.push { cls:=.type "list", data:=.seq ([]:List Value).toArray }).objs.size=s2.heap.objs.size+1:=Ll ..;have f:∀b∈fp,EB X Zn (upd H2 s2.heap.objs.size (.lst [])) b:=λb c=>⟨by rw[Ab (Cp (t b c))];exact(j b c).1,(j b c).2⟩;generalize y:({ s2 with heap:=s2.heap.push { cls:=.type "list", data:=.seq ([]:List Value).toArray } }:Shared)=a at i ⊢
 have n:a.heap=s2.heap.push { cls:=.type "list", data:=.seq ([]:List Value).toArray }:=by rw[<- y]
 have z:∀b∈fp,b<a.heap.objs.size:=λb c=>by rw[n,hsz];exact xv (t b c)
 generalize k:Ou ce (a.heap.push { cls:=.type "dict", data:=.dict #[] })=h1;have l:∀b o,(a.heap.push { cls:=.type "dict", data:=.dict #[] }).get? b=some o->h1.get? b=some o:=λb o e=>by
  rw[<- k];cases ce with
  |none=>exact e
  |some _=>exact CU _ e
 have old:∀b o,a.heap.get? b=some o->h1.get? b=some o:=λb o e=>l b o (CU _ e);have B:∀b o,s2.heap.get? b=some o->h1.get? b=some o:=λb o e=>old b o (by rw[n];exact CU _ e);have σ:h1.Ns a.heap.objs.size (λ_=>none):=(Heap.Ns.new a.heap (.type "dict")).keeps l;have P:∀x,ce=some x->h1.IsCell (a.heap.objs.size+1) none:=λx hx=>by
  subst hx;rw[<- k];have e:(a.heap.push { cls:=.type "dict", data:=.dict #[] }).objs.size=a.heap.objs.size+1:=Ll ..;exact⟨_,by rw[<- e];exact DC _ rfl,rfl⟩
 have R:=mD S i f z σ old P (t':=a.toks);have r:tn 0 h1:=T.keep _ _ _ J4 λb _ o e=>B b o e;obtain⟨W,⟨D,v⟩,h⟩:=M s2.heap.objs.size (I2.AN.fresh (Aj _));have d:codeAny (model X.prog X.w) X.A (.compLoop (.ListComp elt [⟨tg,iter,ifs,0⟩] scope pos) 0 (.ref it) (.ref s2.heap.objs.size) (compEnvC scope (Gw ce (a.heap.objs.size+1)++Bb X.env.cells scope.names) a.heap.objs.size X.env))
   (RR (.ref s2.heap.objs.size) a.heap.objs.size) { a with heap:=h1 }:=by
  refine v5 (X:=X) (Y:=FA X (AH++zs) scope ce (Bb X.env.cells scope.names) a.heap.objs.size a (upd H2 s2.heap.objs.size (.lst [])) fp) (acc:=s2.heap.objs.size) (Q:=Q) rfl rfl rfl rfl rfl L (I _ _ _) (Cz _ _ _) (Ct _ _ _) T (λb c ok=>⟨rfl,(ok.Oc b c).1,ok.M8 b c,.inl c,(ok.Oc b c).2,λp F=>by cases F⟩) W h R r (λb c=>(f b c).1) D v (fQ ..) λH' s' w I' q=>?_;obtain⟨m,G,_⟩:=I'.loc;exact u _ _ H' s' m (i.kX (ch:=fp) I'.os I'.base I'.AN I'.bare λb c=>⟨(f b c).2.2.2.1,(f b c).2.1,(f b c).2.2.2.2.1,(f b c).2.2.2.2.2⟩) (i.LW (Aj _) I'.free) G q
 exact codeAny_compStart_list d (T.self X.A 0 _ _ _ r d)
theorem ZZ(S:EV X.N X.env.scope scope ce zs AH js)(I:Inv X Zn O H s):closureFor scope X.env=pure (Bb X.env.cells scope.names):=qJ λy a b=>by
 obtain⟨c,e⟩:=I.ok.has y.1 (.inl (S.all y a b));rw[e];rfl
theorem Ym(k:∀J O H1 acc Q,CW J O H1 acc Q->N0 g zs.length J js tt te O H1 acc Q)(f:X.calm=true)(S:EV X.N X.env.scope scope ce zs AH js)(hi:PI X tg iter wi)
  (d:∀fp C s H,PG (FA X (AH++zs) scope ce (Bb X.env.cells scope.names) C s H fp) tg g)
  (Cz:∀fp C s H,Ga (FA X (AH++zs) scope ce (Bb X.env.cells scope.names) C s H fp) ifs tt) (Ct:∀fp C s H,PE (FA X (AH++zs) scope ce (Bb X.env.cells scope.names) C s H fp) elt te)
  (hs:∀v,foldedSetIterable iter X.env v=pure v):PE X (.ListComp elt [⟨tg,iter,ifs,0⟩] scope pos) (eS CW wi):=by
 intro Zn s O H Q I h;rw[eval_ListComp];refine pM (use:=none) rfl hs (ZZ S I) S.kind S.loc (AJ (hi Zn s O H _ I h) λv n h1=>AJ h1 λOT s2 h2=>?_);obtain⟨it,fp,tn,J,H2,e,I2,T,J4,l,hw⟩:=h2;subst e;refine c4 (RR:=λacc C=>compPost (model X.prog X.w) X.A X.xe none (EP X Zn O Q) acc C) f S (d fp) (Cz fp) (Ct fp) T I2 J4 l Q (λacc j=>k _ _ _ _ _ (hw acc j)) λacc C H' s' m I' a c q=>⟨m,c,λh' S8=>?_⟩;exact⟨.ref acc,H',I'.turned (t':=s'.toks) (λb o i e=>(S8.2 b i).trans e) a.1 a.2.1 a.2.2.2.1 a.2.2.2.2.1 a.2.2.2.2.2,rfl,q⟩
theorem XB(u:∀J O H1 acc Q,CW J O H1 acc Q->N0 g zs.length J js tt te O H1 acc Q){y:Str}(x:X.N.Nodup)(CQ:X.N[i]?=some y)(j:Loc X.env.scope y)(r:X.calm=true)(S:EV X.N X.env.scope scope ce zs AH js)(hi:PI X tg iter wi)
  (n:∀fp C s H,PG (FA X (AH++zs) scope ce (Bb X.env.cells scope.names) C s H fp) tg g)
  (Cz:∀fp C s H,Ga (FA X (AH++zs) scope ce (Bb X.env.cells scope.names) C s H fp) ifs tt) (Ct:∀fp C s H,PE (FA X (AH++zs) scope ce (Bb X.env.cells scope.names) C s H fp) elt te)
  (IJ:swapsWith (.ListComp elt [⟨tg,iter,ifs,0⟩] scope pos) (some (.Name y py)) Es.line X.env=pure true)
  (p:X.fn y=true∨X.env.scope.names.lookup y=some .local)
  (hs:∀v,foldedSetIterable iter X.env v=pure v):PS X (.Assign [.Name y py] (.ListComp elt [⟨tg,iter,ifs,0⟩] scope pos) Es) (Dq (eS CW wi) (Bt i)):=by
 intro Zn s O H D I h;rw[exec_Assign_Name_used _ _ _ _ IJ];refine gG (sQ (gG ?_));show wpAny _ X.A (do let _ <- comprehension (.ListComp elt [⟨tg,iter,ifs,0⟩] scope pos) scope X.env _ (newList []) false (eval iter X.env) (some (assign (.Name y py) X.env))) _ _ s
 refine gG (jH (pM (use:=some (assign (.Name y py) X.env)) (Q:=λ_ s'=>SP X Zn D .next s') rfl hs (ZZ S I) S.kind S.loc
  (AJ (hi Zn s O H _ I h) λv G h1=>AJ h1 λOT s2 h2=>?_)) (λ_ s' k=>iG (iG k)) λ_ _ e=>e)
 obtain⟨it,fp,tn,J,H2,e,I2,T,J4,E,hw⟩:=h2;subst e;refine c4 (RR:=λacc C=>compPost (model X.prog X.w) X.A X.xe (some (assign (.Name y py) X.env)) (λ_ s'=>SP X Zn D .next s') acc C) r S (n fp) (Cz fp) (Ct fp) T I2 J4 E _ (λacc d=>u _ _ _ _ _ (hw acc d)) λacc C H' s' m I' c l q=>?_;show wpAny _ X.A (assign (.Name y py) X.env (.ref acc)) _ _ s';refine wpAny_assign_Name (bo (v:=.ref acc) I' x CQ j rfl (λMD B⟨a,f,d⟩=>?_) p);have F:C≠a:=by
  rcases d with z|z
  .rw[z];exact c.2.1
  .exact(c.2.2.2.2.1 y a z).symm
 refine⟨m,l.sameBut f F,λh' S8=>?_⟩;exact⟨_,H',B.turned (t':=MD.toks) (λb o t e=>(S8.2 b t).trans e) c.1 c.2.1 c.2.2.2.1 c.2.2.2.2.1 c.2.2.2.2.2,q⟩
theorem Y7{n:Nat}{cl:List (Str×Addr)}:∀{names:List (Str×NameKind)},(∀y∈names,y.2≠.cell)->cellsFrom n names cl=cl
 | [],_=>rfl
 | (x,k)::r,h=>by
  have b:(k == NameKind.cell)=false:=beq_eq_false_iff_ne.mpr (h _ D2);rw[cellsFrom,b];exact Y7 λy a=>h y (CM _ a)
theorem dz{a:Heap}:∀{names:List (Str×NameKind)},(∀y∈names,y.2≠.cell)->pushCells a names=a
 | [],_=>rfl
 | (x,k)::r,h=>by
  have c:(k == NameKind.cell)=false:=beq_eq_false_iff_ne.mpr (h _ D2);rw[pushCells,c];exact dz λy b=>h y (CM _ b)
theorem EV.cV(kind:scope.kind=.function)(Jl:∀y∈scope.names,y.2≠.cell)(loc:∀y∈scope.names,y.2=.local->scope.names.lookup y.1=some .local)
  (at':js.map (λj=>N[j]?)=AH.map some) (cell:∀y∈AH,outer.names.lookup y=some .cell) (free:∀y∈AH,scope.names.lookup y=some .free)
  (all:∀y∈scope.names,y.2=.free->outer.names.lookup y.1=some .cell) (nd:(AH++zs).Nodup):EV N outer scope none zs AH js:=
 ⟨kind,loc,λy a e=>absurd e (Jl y a),λx e=>(by cases e),λn cl=>Y7 Jl,λh=>dz Jl,at',cell,free,all,nd⟩
theorem EV.len(S:EV N outer scope ce zs AH js)(O:St):(BC js O).length=AH.length:=by
 unfold BC;rw[AF];have:=jL List.length S.at';simpa using this
theorem YK(S:EV N outer scope ce [x] AH js)(J:It)(O:St)(H1:Hp)(acc:Addr)(Q:VK)(h:Kv J js tt te O H1 acc Q):N0 (Bt AH.length) 1 J js tt te O H1 acc Q:=by
 obtain⟨W,a,h⟩:=h;refine⟨W,a,λi m H2 w=>(h i m H2 w).imp id λz=>⟨z.1,λx H3 y ws hw=>?_⟩⟩
 match ws,hw with
 | [w],_=>
  have e:(BC js O++[w]).set AH.length (some x)=BC js O++[some x]:=by rw[<- S.len O];exact rN _ _ _
  exact⟨[some x],rfl,e,by rw[e];exact z.2 x H3 y⟩
theorem Xy(S:EV X.N X.env.scope scope ce [x] AH js)(hx:scope.names.lookup x=some .local∨(ce=some x/\scope.names.lookup x=some .cell)):
  PG (FA X (AH++[x]) scope ce cl C s H fp) (.Name x px) (Bt AH.length):=
 Qt S.nd (by simp) (hx.imp (λh=>l7 h) λh=>xT h.2) (hx.symm.imp (λh=>by show(ce == some x)=true;rw[h.1];exact j3 _) λh=>l7 h)
inductive Hq:List Str->List Expr->Prop
 |nil:Hq [] []
 |cons {x:Str}{zs:List Str}{p:Pos}{es:List Expr}:Hq zs es->Hq (x::zs) (.Name x p::es)
def Ks(i:Nat):Nat->GA
 | 0=>KZ
 |n+1=>FP (Bt i) (Ks (i+1) n)
theorem cq{Q:St->Hp->Prop}{H:Hp}:∀{us:List V}{l ws:St},ws.length=us.length->Q (l++us.map some) H->Ks l.length us.length us (l++ws) H Q
 | [],l,ws,h,q=>by
  rw[List.length_eq_zero_iff.mp h];exact⟨rfl,q⟩
 |u::us,l,w::ws,h,q=>by
  refine⟨u,us,rfl,?_⟩;show Ks (l.length+1) us.length us ((l++w::ws).set l.length (some u)) H Q;have e:(l++w::ws).set l.length (some u)=(l++[some u])++ws:=by
   rw[fT _ _ (Aj _),Nf];simp
  have a:l.length+1=(l++[some u]).length:=by simp
  rw[e,a];refine cq (l:=l++[some u]) (by simpa using h) ?_
  rw[BY];exact q
theorem dW{X:Cx}(a:X.N.Nodup):∀{zs:List Str}{es:List Expr}{i:Nat},Hq zs es->(∀(j:Nat)x,zs[j]?=some x->X.N[i+j]?=some x/\Loc X.env.scope x/\X.env.scope.names.lookup x=some .local)->LR X es (Ks i zs.length)
 |_,_,_,.nil,_=>Xk
 |_,_,i,.cons (x:=x) (zs:=zs) r,h=>by
  obtain⟨h1,h2,c⟩:=h 0 _ rfl;refine aV (Qt a h1 h2 (.inr c)) (dW a r λj y b=>?_);have:=h (j+1) y b
  rwa [show i+(j+1)=i+1+j by omega]at this
def P7(K:yo)(n:Nat)(J:It)(js:List Nat)(tt:TT)(te:TE)(O:St)(H1:Hp)(acc:Addr)(Q:VK):Prop:=
 ∃W:Nat->Nat->Hp->Prop,(∃m,W 0 m (upd H1 acc (.lst [])))/\∀i m H2,W i m H2->
  (J.stop i H2/\Q (.ref acc) H2)∨(J.go i H2/\∀x H3,J.E7 i H2 x H3->∃a us,x=.ref a/\Ao K H3 a us/\us.length=n/\TY tt te acc W i m (BC js O++us.map some) H3)
theorem XG{K:yo}(S:EV N outer scope ce zs AH js)(J:It)(O:St)(H1:Hp)(acc:Addr)(Q:VK)(h:P7 K zs.length J js tt te O H1 acc Q):N0 (JL K zs.length (Ks AH.length zs.length)) zs.length J js tt te O H1 acc Q:=by
 obtain⟨W,c,h⟩:=h;refine⟨W,c,λi m H2 w=>(h i m H2 w).imp id λz=>⟨z.1,λx H3 y ws hw=>?_⟩⟩;obtain⟨a,us,e,hs,b,q⟩:=z.2 x H3 y;refine⟨a,us,e,hs,b,?_⟩;rw[<- b,<- S.len O];exact cq (by rw[hw,b]) ⟨us.map some,AF ..,rfl,q⟩
theorem dh{tp:Pos}(b:X.calm=true)(S:EV X.N X.env.scope scope ce zs AH js)(JD:∀x∈zs,scope.names.lookup x=some .local)(IC:Hq zs es)(IL:∀e,(assignEach es e).length=zs.length)(FD:∀e,(assignEach es e).findIdx? (·.1)=none):
  PG (FA X (AH++zs) scope ce cl C s H fp) (.Tuple es tk tp) (JL X.K zs.length (Ks AH.length zs.length)):=
 cz (X:=FA X (AH++zs) scope ce cl C s H fp) b (dW S.nd (i:=AH.length) IC λj y a=>by
  have hm:=Dn a;exact⟨by show(AH++zs)[AH.length+j]?=_;rw[ER (by omega),Nat.add_sub_cancel_left];exact a,.inl (l7 (JD y hm)),l7 (JD y hm)⟩) (IL _) (FD _)
theorem Dz.G(S:Dz N outer scope x AH js):EV N outer scope none [x] AH js:=.cV S.kind S.Jl S.loc S.at' S.cell S.free S.all S.nd
theorem sG(a:X.calm=true)(S:Dz X.N X.env.scope scope x AH js)(hi:PI X (.Name x px) iter wi)
  (Cz:∀fp C s H,Ga (EM X (AH++[x]) scope (Bb X.env.cells scope.names) C s H fp) ifs tt) (Ct:∀fp C s H,PE (EM X (AH++[x]) scope (Bb X.env.cells scope.names) C s H fp) elt te)
  (hs:∀v,foldedSetIterable iter X.env v=pure v:=by intro _;rfl):PE X (.ListComp elt [⟨.Name x px,iter,ifs,0⟩] scope pos) (J1 wi js tt te):=
 Ym (CW:=λJ O H1 acc Q=>Kv J js tt te O H1 acc Q) (YK S.G) a S.G hi (λ_ _ _ _=>Xy S.G (.inl S.JD)) Cz Ct hs
theorem ik{y:Str}(c:X.N.Nodup)(CQ:X.N[i]?=some y)(a:Loc X.env.scope y)(b:X.calm=true)(S:Dz X.N X.env.scope scope x AH js)(hi:PI X (.Name x px) iter wi)
  (Cz:∀fp C s H,Ga (EM X (AH++[x]) scope (Bb X.env.cells scope.names) C s H fp) ifs tt) (Ct:∀fp C s H,PE (EM X (AH++[x]) scope (Bb X.env.cells scope.names) C s H fp) elt te)
  (IJ:swapsWith (.ListComp elt [⟨.Name x px,iter,ifs,0⟩] scope pos) (some (.Name y py)) Es.line X.env=pure true:=by rfl)
  (hf:X.fn y=true∨X.env.scope.names.lookup y=some .local:=by first|exact .inl rfl|exact .inr rfl|assumption)
  (hs:∀v,foldedSetIterable iter X.env v=pure v:=by intro _;rfl):PS X (.Assign [.Name y py] (.ListComp elt [⟨.Name x px,iter,ifs,0⟩] scope pos) Es) (Dq (J1 wi js tt te) (Bt i)):=
 XB (CW:=λJ O H1 acc Q=>Kv J js tt te O H1 acc Q) (YK S.G) c CQ a b S.G hi (λ_ _ _ _=>Xy S.G (.inl S.JD)) Cz Ct IJ hf hs
end
def HZ(K:yo)(tp:Bool)(H:Hp)(a:Addr)(xs:List V):Prop:=match tp with
 |false=>AS K H a xs
 |true=>Ao K H a xs
theorem HZ.or{K:yo}{tp:Bool}{xs:List V}(h:HZ K tp H a xs):AS K H a xs∨Ao K H a xs:=by
 cases tp
 .exact .inl h
 .exact .inr h
noncomputable def PK(K:yo)(tp:Bool)(a:Addr)(xs:List V):It:=
 ⟨λi H=>HZ K tp H a xs/\i<xs.length,λi H x H'=>H'=H/\xs[i]?=some x,λi H=>HZ K tp H a xs/\xs.length<=i⟩
theorem wY{P:Program}{K:yo}(a it:Addr)(xs:List V):Turn P w K tg (PK K false a xs) [it] it (λi h=>h.IsListIter it a i) where
 mem:=by simp
 obj:=(Lk (P:=P) (w:=w) (K:=K) (tg:=tg) a it).obj
 keep:=(Lk (P:=P) (w:=w) (K:=K) (tg:=tg) a it).keep
 item:=by
  intro X f hw g d i Zn s O H E I c st b;obtain⟨j,hi⟩:=b;refine AJ ((Lk (P:=P) (w:=w) (K:=K) (tg:=tg) a it).item X f hw g d i Zn s O H E I c st ⟨xs,xs[i],j,by simp[hi]⟩) λr m AE=>by obtain⟨u,e,h⟩:=AE;exact⟨u,e,AJ h λ_ s2 C9=>by obtain⟨x,H',I',k,y,Dw,l⟩:=C9;exact⟨x,H',I',k,⟨y.1,y.2 xs j⟩,Dw,l⟩⟩
 done:=by
  intro X f hw g d i Zn s O H E I c st b;exact(Lk (P:=P) (w:=w) (K:=K) (tg:=tg) a it).done X f hw g d i Zn s O H E I c st ⟨xs,b.1,b.2⟩
 self:=(Lk (P:=P) (w:=w) (K:=K) (tg:=tg) a it).self
theorem pB{P:Program}{K:yo}(a it:Addr)(xs:List V):Turn P w K tg (PK K true a xs) [it] it (λi h=>h.IsTupleIter it a i) where
 mem:=by simp
 obj:=(Mz (P:=P) (w:=w) (K:=K) (tg:=tg) a it).obj
 keep:=(Mz (P:=P) (w:=w) (K:=K) (tg:=tg) a it).keep
 item:=by
  intro X f hw g d i Zn s O H E I c st b;obtain⟨j,hi⟩:=b;refine AJ ((Mz (P:=P) (w:=w) (K:=K) (tg:=tg) a it).item X f hw g d i Zn s O H E I c st ⟨xs,xs[i],j,by simp[hi]⟩) λr m AE=>by obtain⟨u,e,h⟩:=AE;exact⟨u,e,AJ h λ_ s2 C9=>by obtain⟨x,H',I',k,y,Dw,l⟩:=C9;exact⟨x,H',I',k,⟨y.1,y.2 xs j⟩,Dw,l⟩⟩
 done:=by
  intro X f hw g d i Zn s O H E I c st b;exact(Mz (P:=P) (w:=w) (K:=K) (tg:=tg) a it).done X f hw g d i Zn s O H E I c st ⟨xs,b.1,b.2⟩
 self:=(Mz (P:=P) (w:=w) (K:=K) (tg:=tg) a it).self
def T1(K:yo)(tl:TE):TI:=λO H R=>tl O H λx H1=>∃tp a xs,x=.ref a/\HZ K tp H1 a xs/\R (PK K tp a xs) H1
noncomputable def VC(z:Str):It:=⟨λi _=>i<z.cps.size,λi H x H'=>H'=H/\∃c,z.cps[i]?=some c/\x=.str ⟨#[c]⟩,λi _=>i=z.cps.size⟩
theorem Xd{P:Program}{K:yo}{t:Tok}{ty:String}
  (C:["enumerate","zip","dict_itemiterator","dict_reverseitemiterator","odict_iterator","itertools.zip_longest","itertools.pairwise"].contains ty=false)
  (W:∀A:Around,A.handled=none->Walks P w A it [it] [it] z.cps.size (SignAt z) (λi h=>h.IsStrIter it ty z t i))
  (self:∀(A:Around)(i:Nat)(s:Shared)(Q:Value->Shared->Prop)(E:Value->Shared->Prop),s.heap.IsStrIter it ty z t i->Q (.ref it) s->wpAny (model P w) A (pyIter (.ref it)) Q E s) :
  Turn P w K tg (VC z) [it] it (λi h=>h.IsStrIter it ty z t i) where
 mem:=by simp
 obj:=λi h st b a=>by
  have e:b=it:=by simpa using a
  subst e;obtain⟨o,e,c,d⟩:=st;exact⟨o,e,λv z=>by rw[d]at z;cases z⟩
 keep:=λi h h' st k=>let ⟨o,e,r⟩:=st;⟨o,k it (by simp) o e,r⟩
 item:=by
  intro X l hw m j i Zn s O H E I f st g;subst l hw m;obtain⟨f0,x,D,q,p,n⟩:=f it (by simp);refine(W X.A (I.ok.hd j)).item i s _ _ g st λv h' tk⟨c,u,P0,B⟩Dw kp=>?_;subst B;have F:Inv X Zn O H { s with heap:=h',toks:=tk }:=I.turned (t':=tk) (λb o a e=>kp b o (by simpa using a) e) f0 x q p n
  obtain⟨o,e,cl,d⟩:=id Dw;exact⟨_,rfl,P6 (s:={ s with heap:=h',toks:=tk }) e cl d C ⟨.str ⟨#[c]⟩,H,F,⟨u,rfl⟩,⟨rfl,c,P0,rfl⟩,Dw,λb a=>(f b a).1⟩⟩
 done:=by
  intro X l hw m j i Zn s O H E I f st g;subst l hw m;obtain⟨f0,x,D,q,p,n⟩:=f it (by simp);have y:i=z.cps.size:=g;subst y;exact(W X.A (I.ok.hd j)).done s _ _ st λh' tk kp=>⟨rfl,I.turned (t':=tk) (λb o a e=>kp b o (by simpa using a) e) f0 x q p n⟩
 self:=self
def cP(tl:TE):TI:=λO H R=>tl O H λx H1=>∃z,x=.str z/\R (VC z) H1
theorem DX{p:Addr}(h:H p=none)(o:HO):AI H (upd H p o):=λb u q=>by rw[Ab (DS q h)];exact q
theorem p0{Q:VK}(xs:List V)(f:V->Bool)(g:V->V)(Ax:H1 acc=none)(z:xs.length<=sizeLine)
  (n:∀i H,AI H1 H->i<xs.length->J.go i H) (FJ:∀H,AI H1 H->J.stop xs.length H) (p:∀i H x H',J.E7 i H x H'->H'=H/\xs[i]?=some x)
  (r:∀(i:Nat)(x:V)(H':Hp)(Q':Bool->Hp->Prop),xs[i]?=some x->AI H1 H'->(∀GQ,AI H' GQ->Q' (f x) GQ)->tt (BC js O++[some x]) H' Q')
  (s:∀(i:Nat)(x:V)(H':Hp)(Q':VK),xs[i]?=some x->f x=true->AI H1 H'->(∀GQ,AI H' GQ->Q' (g x) GQ)->te (BC js O++[some x]) H' Q')
  (hd:∀H',AI H1 H'->H' acc=some (.lst ((xs.filter f).map g))->Q (.ref acc) H'):Kv J js tt te O H1 acc Q:=by
 refine⟨λi m H=>m=xs.length - i/\i<=xs.length/\AI H1 H/\H acc=some (.lst (((xs.take i).filter f).map g)),⟨xs.length,by simp,CN _,DX Ax _,Ay⟩,?_⟩;rintro i m H2⟨rfl,hi,a,j⟩
 by_cases h:i<xs.length
 .refine .inr ⟨n i H2 a h,λx H3 y=>?_⟩;obtain⟨e,hx⟩:=p i H2 x H3 y;subst e;have w:(xs.take (i+1))=xs.take i++[x]:=by
   have u:xs[i]=x:=by
    rw[Am h]at hx;exact B9 hx
   rw[Ln h,u]
  have l:List.filter f (xs.take (i+1))=(xs.take i).filter f++(if f x=true then[x]else[]):=by
   rw[w,fH];congr 1
   by_cases c:f x=true <;> simp[c]
  refine r i x _ _ hx a λH4 s4=>?_
  by_cases c:f x=true
  .rw[hZ c];refine s i x H4 _ hx c (a.trans s4) λH5 k=>?_;have d:(((xs.take i).filter f).map g).length<sizeLine:=by
    rw[AF];have:=Qg f (xs.take i);rw[DO]at this;omega
   refine⟨_,k _ _ (s4 _ _ j),d,xs.length - (i+1),by omega,rfl,h,λb o q=>?_,?_⟩
   .have t:b≠acc:=by rintro rfl;rw[Ax]at q;cases q
    rw[Ab t];exact k _ _ (s4 _ _ (a b o q))
   .rw[Ay,l,hZ c,Cc];rfl
  .have v:f x=false:=by simpa using c
   rw[v];rw[gp (by decide)];refine⟨xs.length - (i+1),by omega,rfl,h,a.trans s4,?_⟩;rw[l,gp c,D0];exact s4 _ _ j
 .have e:i=xs.length:=by omega
  subst e;refine .inl ⟨FJ H2 a,hd H2 a ?_⟩;rw[IV]at j;exact j
noncomputable def Fq(z:Str):List V:=z.cps.toList.map λc=>.str ⟨#[c]⟩
theorem Vw(z:Str):(Fq z).length=z.cps.size:=by unfold Fq;simp
theorem rM{Q:VK}(f:V->Bool)(g:V->V)(Ax:H1 acc=none)(a:z.cps.size<=sizeLine)
  (b:∀(i:Nat)(x:V)(H':Hp)(Q':Bool->Hp->Prop),(Fq z)[i]?=some x->AI H1 H'->(∀GQ,AI H' GQ->Q' (f x) GQ)->tt (BC js O++[some x]) H' Q')
  (d:∀(i:Nat)(x:V)(H':Hp)(Q':VK),(Fq z)[i]?=some x->f x=true->AI H1 H'->(∀GQ,AI H' GQ->Q' (g x) GQ)->te (BC js O++[some x]) H' Q')
  (hd:∀H',AI H1 H'->H' acc=some (.lst (((Fq z).filter f).map g))->Q (.ref acc) H'):Kv (VC z) js tt te O H1 acc Q:=by
 refine p0 (Fq z) f g Ax (by rw[Vw];exact a) (λi H s hi=>?_) (λH s=>?_) (λi H x H' y=>?_) b d hd
 .rw[Vw]at hi;exact hi
 .show(Fq z).length=z.cps.size;exact Vw z
 .obtain⟨e,c,h,hx⟩:=y;refine⟨e,?_⟩;subst hx;unfold Fq;rw[Aa,eh,h];rfl
def G9(xs ys:List V):Bool:=xs.length == ys.length && (List.range xs.length).all λj=>DR (xs.getD j .AA) (ys.getD j .AA)
theorem J8{xs:List V}{x:V}(h:xs[j]?=some x):xs.getD j .AA=x:=by rw[Eo,h];rfl
theorem Xe{xs:List V}{x:V}(h:xs.all Dr=true)(e:xs[j]?=some x):Dr x=true:=List.all_eq_true.mp h x (Dn e)
theorem Oy{xs:List V}{Bl:List Value}(d:Vals xs A1)(c:Vals ys Bl)(k:xs.all Dr=true)(i:ys.all Dr=true):
  ∀j(h1:j<A1.toArray.size)(h2:j<Bl.toArray.size),SeqAt.EqAt A s A1.toArray[j] Bl.toArray[j] (DR (xs.getD j .AA) (ys.getD j .AA)):=λj h1 h2=>by
 have l1:=d.length;have l2:=c.length;have o:j<A1.length:=by simpa using h1
 have n:j<Bl.length:=by simpa using h2
 have b:xs[j]?=some (xs[j]'(by omega)):=Am _;have a:ys[j]?=some (ys[j]'(by omega)):=Am _;obtain⟨u,f,h⟩:=d.get b;obtain⟨v,e,g⟩:=c.get a;rw[Am o]at f;rw[Am n]at e;have m:A1[j]=u:=B9 f;have l:Bl[j]=v:=B9 e;rw[J8 b,J8 a];have q:=Pw (A:=A) (s:=s) h g (Xe k b) (Xe i a);rw[<- m,<- l]at q
 simpa using q
def LI(K:yo)(neg:Bool):R2:=λx y H Q=>∃p q xs ys,x=.ref p/\y=.ref q/\((AS K H p xs/\AS K H q ys)∨(Ao K H p xs/\Ao K H q ys))/\xs.all Dr=true/\ys.all Dr=true/\
 Q (.bl (if neg then !G9 xs ys else G9 xs ys)) H
theorem KU{xs:List V}(h:xs.length≠ys.length):G9 xs ys=false:=by
 unfold G9;have:(xs.length == ys.length)=false:=by simpa using h
 rw[this,Bool.false_and]
theorem Jb{xs:List V}(h:xs.length=ys.length):G9 xs ys=(List.range xs.length).all λj=>DR (xs.getD j .AA) (ys.getD j .AA):=by
 unfold G9;have:(xs.length == ys.length)=true:=by simpa using h
 rw[this,fA]
theorem YR(f:X.A.units<cLine):B7 X (compareOp .Eq) (LI X.K false):=by
 intro Zn s O H x y v u Q I r o h;obtain⟨p,q,xs,ys,rfl,rfl,t,l,k,w⟩:=h;cases r;cases o;have b:Q (.bl (G9 xs ys)) H:=w;rcases t with⟨i,g⟩|⟨i,g⟩
 .obtain⟨A1,d,p1,n⟩:=I.list i;obtain⟨Bl,c,p2,m⟩:=I.list g;have l1:=d.length;have l2:=c.length
  by_cases a:xs.length=ys.length
  .refine SeqAt.eq_listAt (e:=λj=>DR (xs.getD j .AA) (ys.getD j .AA)) p1.isList p2.isList (by simp;omega) f (Oy d c l k) ⟨.bl _,H,I,rfl,?_⟩;rw[Jb a]at b;simp only[Bj,<- l1];exact b
  .rw[KU a]at b;exact SeqAt.eq_list_lengthsAt p1.isList p2.isList (by simp;omega) f ⟨.bl false,H,I,rfl,b⟩
 .obtain⟨A1,d,p1,n⟩:=I.tuple i;obtain⟨Bl,c,p2,m⟩:=I.tuple g;have l1:=d.length;have l2:=c.length;refine SeqAt.eq_tupleAt (e:=λj=>DR (xs.getD j .AA) (ys.getD j .AA)) p1 p2 f (Oy d c l k) ⟨.bl _,H,I,rfl,?_⟩;simp only[Bj,<- l1,<- l2]
  by_cases a:xs.length=ys.length
  .rw[Jb a]at b;have:(xs.length == ys.length)=true:=by simpa using a
   rw[this,ez,<- a,fc];exact b
  .rw[KU a]at b;have:(xs.length == ys.length)=false:=by simpa using a
   rw[this,WN];exact b
theorem YS(f:X.A.units<cLine):B7 X (compareOp .NotEq) (LI X.K true):=by
 intro Zn s O H x y v u Q I r o h;obtain⟨p,q,xs,ys,rfl,rfl,t,l,k,w⟩:=h;cases r;cases o;have b:Q (.bl (!G9 xs ys)) H:=w;rcases t with⟨i,g⟩|⟨i,g⟩
 .obtain⟨A1,d,p1,n⟩:=I.list i;obtain⟨Bl,c,p2,m⟩:=I.list g;have l1:=d.length;have l2:=c.length
  by_cases a:xs.length=ys.length
  .refine SeqAt.RcNeAt.lists (e:=λj=>DR (xs.getD j .AA) (ys.getD j .AA)) p1.isList p2.isList (by simp;omega) f (Oy d c l k) _ _ _ _ ⟨.bl _,H,I,rfl,?_⟩;rw[Jb a]at b;simp only[Bj,<- l1];exact b
  .rw[KU a]at b;exact SeqAt.RcNeAt.lists_lengths p1.isList p2.isList (by simp;omega) f _ _ _ _ ⟨.bl true,H,I,rfl,b⟩
 .obtain⟨A1,d,p1,n⟩:=I.tuple i;obtain⟨Bl,c,p2,m⟩:=I.tuple g;have l1:=d.length;have l2:=c.length;refine SeqAt.RcNeAt.tuples (e:=λj=>DR (xs.getD j .AA) (ys.getD j .AA)) p1 p2 f (Oy d c l k) _ _ _ _ ⟨.bl _,H,I,rfl,?_⟩;simp only[Bj,<- l1,<- l2]
  by_cases a:xs.length=ys.length
  .rw[Jb a]at b;have:(xs.length == ys.length)=true:=by simpa using a
   rw[this,ez,<- a,fc];exact b
  .rw[KU a]at b;have:(xs.length == ys.length)=false:=by simpa using a
   rw[this,WN];exact b
theorem lx:DF X (.builtin "isinstance") (λxs H Q=>∃x n t b,xs=[x,.ty n]/\EZ X.K H x t/\PySem.W.kitOne X.K t (.type n)=some b/\Q (.bl b) H):=by
 intro Zn s O H xs us Q I r h;obtain⟨x,n,t,b,rfl,ty,e,q⟩:=h;obtain⟨u,c,rfl,a,rt⟩:=vals2 r;cases rt;exact iz I a ty e λtk=>⟨.bl b,H,I.tok tk,rfl,q⟩
theorem ZG{bs:List Bool}(r:Vals (bs.map V.bl) A1)(e:A1[i]?=some v):v=.bool (bs.getD i false):=by
 have c:=r.length;rw[AF]at c;have hi:i<A1.length:=(List.getElem?_eq_some_iff.mp e).1;have d:(bs.map V.bl)[i]?=some (.bl (bs[i]'(by omega))):=by rw[Aa,Am (by omega)];rfl
 obtain⟨u,a,b⟩:=r.get d;rw[e]at a;cases a;cases b;rw[Eo,Am (by omega)];rfl
theorem range_all(bs:List Bool):(List.range bs.length).all (λi=>bs.getD i false)=bs.all id:=by
 rw[JQ,Gm,Gm];constructor
 .intro h x hx;obtain⟨i,hi,rfl⟩:=List.mem_iff_getElem.mp hx;have:=h i (List.mem_range.mpr hi);rw[Eo,Am hi]at this;exact this
 .intro h i hi;rw[Eo,Am (List.mem_range.mp hi)];exact h _ (IT _)
theorem range_any(bs:List Bool):(List.range bs.length).any (λi=>bs.getD i false)=bs.any id:=by
 rw[JQ,WS,WS];constructor
 .rintro⟨i,hi,h⟩;have a:=List.mem_range.mp hi;rw[Eo,Am a]at h;exact⟨_,IT a,h⟩
 .rintro⟨x,hx,h⟩;obtain⟨i,hi,rfl⟩:=List.mem_iff_getElem.mp hx;refine⟨i,List.mem_range.mpr hi,?_⟩;rw[Eo,Am hi];exact h
theorem bu(j:X.calm=true):DF X (.builtin "all") (λxs H Q=>∃(p:Addr)(bs:List Bool),xs=[.ref p]/\AS X.K H p (bs.map V.bl)/\Q (.bl (bs.all id)) H):=by
 intro Zn s O H xs us Q I r h;obtain⟨p,bs,rfl,g,q⟩:=h;obtain⟨u,rfl,d⟩:=vals1 r;cases d;obtain⟨A1,a,pl,m⟩:=I.list g;have c:=a.length;rw[AF]at c;refine call_all_walk (nR pl.isList ?_);obtain⟨o,n,ho,_⟩:=id pl;have l:p≠s.heap.objs.size:=Cp (B8 ho);refine⟨s.heap.objs.size,_,_,_,_,_,λi=>bs.getD i false,rfl,Walks.list (by rw[Around.in1_handled];exact I.ok.hd j) _ p l A1.toArray,⟨⟨_,DC _ rfl,rfl,rfl⟩,pl.isList.push _⟩,λi v s' Q' E' f DL=>?_,λh' tk kp=>?_⟩
 .have k:v=.bool (bs.getD i false):=ZG a (by simpa using f)
  rw[k];exact jF DL
 .refine⟨.bl _,H,I.kept (t':=tk) λb ob e=>kp b ob (by simpa using Cp (B8 e)) (CU _ e),rfl,?_⟩
  rw[Bj,<- c,range_all];exact q
theorem aZ(j:X.calm=true):DF X (.builtin "any") (λxs H Q=>∃(p:Addr)(bs:List Bool),xs=[.ref p]/\AS X.K H p (bs.map V.bl)/\Q (.bl (bs.any id)) H):=by
 intro Zn s O H xs us Q I r h;obtain⟨p,bs,rfl,g,q⟩:=h;obtain⟨u,rfl,d⟩:=vals1 r;cases d;obtain⟨A1,a,pl,m⟩:=I.list g;have c:=a.length;rw[AF]at c;refine call_any_walk (nR pl.isList ?_);obtain⟨o,n,ho,_⟩:=id pl;have l:p≠s.heap.objs.size:=Cp (B8 ho);refine⟨s.heap.objs.size,_,_,_,_,_,λi=>bs.getD i false,rfl,Walks.list (by rw[Around.in1_handled];exact I.ok.hd j) _ p l A1.toArray,⟨⟨_,DC _ rfl,rfl,rfl⟩,pl.isList.push _⟩,λi v s' Q' E' f DL=>?_,λh' tk kp=>?_⟩
 .have k:v=.bool (bs.getD i false):=ZG a (by simpa using f)
  rw[k];exact jF DL
 .refine⟨.bl _,H,I.kept (t':=tk) λb ob e=>kp b ob (by simpa using Cp (B8 e)) (CU _ e),rfl,?_⟩
  rw[Bj,<- c,range_any];exact q
def N9:V->List V->Hp->VK->Prop:=λx vs H Q=>∃(l:Addr)(xs:List V)(j:Int)(y:V),x=.ref l/\vs=[.int j,y]/\H l=some (.lst xs)/\0<=j/\j<=xs.length/\xs.length<sizeLine/\Q .AA (upd H l (.lst (xs.take j.toNat++y::xs.drop j.toNat)))
theorem jY:O6 X "list.insert" N9:=by
 intro Zn s O H x vs v us Q I f g h;obtain⟨l,xs,j,y,rfl,rfl,b,Te,p,w,q⟩:=h;cases f;obtain⟨u,a,rfl,i,d⟩:=g.two;obtain⟨t,rfl⟩:=i;obtain⟨z,A1,n,r,k,e⟩:=I.K7 b;have h2:j<2 ^ 63:=by
  have A:(xs.length:Int)<=(sizeLine:Int):=Int.ofNat_le.mpr z;have B:((sizeLine:Nat):Int)<2 ^ 63:=by exact_mod_cast JF
  omega
 have o:(!Builtin.List.listFitsIndex j)=true->False:=by
  have h1:Builtin.List.listFitsIndex j=true:=by
   unfold Builtin.List.listFitsIndex;rw[En];exact⟨iN (by omega),iN h2⟩
  rw[h1];exact λh=>nomatch h
 have c:A1.toArray.size<=sizeLine:=ES (fX (List.size_toArray.trans k.symm)) z;refine o5 Ql ⟨_,e,rfl⟩ PySem.F.entry_list_insert (PySem.F.args_list_insert_3 _ _ _) (PySem.AutoSeq1.list_insert_list_int_val_1 l A1.toArray n j t a o c) ⟨e,?_⟩;refine⟨.AA,_,I.QK (its':=A1.take j.toNat++a::A1.drop j.toNat) b e ?_ ((r.take _).append (.cons d (r.drop _))) ?_,rfl,q⟩
 .have m:¬ (j<0):=by omega
  have hm:min j.toNat A1.toArray.size=j.toNat:=by simp;omega
  simp only[m,sj,hm];apply Array.toList_inj.mp;simp;exact Qi (by simp)
 .rw[C5,D1,DO,JS];omega
def l5:V->Option Int->Option Int->Hp->VK->Prop:=λx lo hi H Q=>∃z,x=.str z/\z.length<=sizeLine/\Q (.str (Txt.slice z lo hi)) H
theorem part_of{o:Option Int}(p:IsPart v o):∃l:Option (Int×Tok),v=partValue l/\l.map (·.1)=o:=by
 cases p with
 |none=>exact⟨none,rfl,rfl⟩
 |int i t=>exact⟨some (i,t),rfl,rfl⟩
theorem eQ:Iz X l5:=by
 intro Zn s O H x v vl vu lo hi sl Q I a hs pl b h;obtain⟨z,rfl,c,q⟩:=h;obtain⟨t,rfl⟩:=a;obtain⟨l,rfl,e⟩:=part_of pl;obtain⟨u,rfl,d⟩:=part_of b;subst e;subst d;refine⟨"str", _,F.slot_str_getitem.lookup,typeIs_str _ _ _,wpAny_getItem_str_slice (l:=l) (u:=u) (st:=none) hs rfl (post_val_or_str ⟨ES (Txt.slice_le z _ _) c,λt' k=>?_⟩)⟩;exact⟨.str _,H,I.tok k,⟨t',rfl⟩,q⟩
end L2
set_option exponentiation.threshold 5000
namespace L2
variable{f p:Addr}{H:Hp}
def AR(P:Program)(w:World)(K:yo)(mg:yq)(ZB:Heap)(x:Str)(k:Nat)(ps:List Str)(sp:Sp):Prop:=
 ∃f fd,DN P w K mg ZB FZ k f fd ps sp/\Binds K fd ps []/\PySem.W.keepIn K (.ref f)=true/\mg x=some (.ref f)
section
variable{P:Program}{w:World}{K:yo}{mg:yq}{ZB:Heap}{x qual:Str}{k:Nat}{ps:List Str}{sp:Sp}{st:Stmt}{fd:FuncData}
theorem AR.mk(F:AV K x qual st f fd)(b:Binds K fd ps [])(m:mg x=some (.ref f))(h:DN P w K mg ZB FZ k f fd ps sp):AR P w K mg ZB x k ps sp:=⟨f,fd,h,b,F.kp,m⟩
variable{X:Cx}{j:Nat}{p pos:Pos}{e:Expr}{es:List Expr}{t:TA}
def OW(K:yo):List V->Hp->VK->Prop:=λxs H Q=>∃(p:Addr)(ys:List V),xs=[.ref p]/\(AS K H p ys∨Ao K H p ys)/\Q (.int ys.length) H
theorem GB:DF X (.builtin "len") (OW X.K):=P5
def Yr(K:yo):List V->Hp->VK->Prop:=λxs H Q=>∃(x:V)(n:String)(t:Value)(b:Bool),xs=[x,.ty n]/\EZ K H x t/\PySem.W.kitOne K t (.type n)=some b/\Q (.bl b) H
theorem LX:DF X (.builtin "isinstance") (Yr X.K):=lx
theorem Fm:Hl X "list.append" Mu:=ZQ
theorem OM:Hl X "list.insert" N9:=jY
def bX(i j:Int):Prop:=i.natAbs<2 ^ 1000/\j.natAbs<2 ^ 1000
theorem Zc{n:Nat}(h:n<2 ^ 1000):n.log2<1000:=by
 rcases Nat.eq_zero_or_pos n with e|e
 .subst e;exact(show(0:Nat).log2<1000 by decide)
 .exact(Nat.log2_lt (Nd e)).mpr h
theorem bits_le{i:Int}(h:i.natAbs<2 ^ 1000):Builtin.Int.intBits i<=2 ^ 20:=by
 unfold Builtin.Int.intBits;split
 .exact CN _
 .have:=Zc h;have e:(2:Nat) ^ 20=1048576:=by decide
  omega
theorem Iu:B7 X (binaryOp .Mult) (rI bX λi j=>.int (i * j)):=Of λ_ _ _ _ _ _ _ a q=>mul_int q (.of_bits (bits_le a.1) (bits_le a.2))
theorem W2:B7 X (binaryOp .FloorDiv) (rI (λ_ j=>0<j/\j.natAbs<2 ^ 1000) λi j=>.int (i / j)):=Of λi j _ _ _ _ _ a q=>by
 have h1:(0:Int)<j:=a.1;have h2:=Zc a.2;exact floordiv_int (by omega) (by rw[Int.fdiv_eq_ediv_of_nonneg i (by omega)];exact q) (.inl (PyProof.noPylong_of_log2 (by omega)))
theorem ip{body rest:List Stmt}{t u:TS}(e:body=st::rest)(h:PS X st t)(h2:EA X rest u):EA X body (NH t u):=by rw[e];exact gY h h2
def US(t:TS):TS:=λD O H=>∃J:St->Hp->Prop,t { D with nx:=J } O H/\∀ σ' H',J σ' H'->D.nx σ' H'
end
def G7(p:Addr)(H H':Hp):Prop:=∀b o,b≠p->H b=some o->H' b=some o
theorem G7.trans{H1 H2:Hp}(a:G7 p H H1)(b:G7 p H1 H2):G7 p H H2:=λc o d e=>b c o d (a c o d e)
theorem G7.of{H':Hp}(a:AI H H'):G7 p H H':=λc o _ e=>a c o e
theorem G7.upd{o:HO}:G7 p H (upd H p o):=λc u a e=>by rw[Ab a];exact e
end L2
set_option maxHeartbeats 8000000
namespace L2
noncomputable def vC(P:Program)(w:World)(a:Addr)(f:Str->Bool)(n:Nat):HO:=.ext λh=>h.SetOf (strKind P w) a f n
end L2
set_option maxHeartbeats 4000000
namespace L2
variable{X:Cx}{a c e l o tg:Expr}{es ifs:List Expr}{body rest:List Stmt}{ta te tl to:TE}{t tb:TS}{tc tt:TT}{p pos pos' px:Pos}{name x y:Str}{Eh op:CmpOp}{r:List V->Hp->VK->Prop}{i j n:Nat}{ps:List Str}{sp:Sp}{T:String}{wi:TI}{g:TG}{w:World}{I f:Addr}
structure QE (X:Cx) (e:Expr) (t:TE):Prop where h:PE X e t
structure QT (X:Cx) (e:Expr) (t:TT):Prop where h:PT X e t
structure QW (X:Cx) (e:Expr) (t:TT):Prop where h:PW X e t
structure QA (X:Cx) (es:List Expr) (t:TA):Prop where h:PA X es t
structure QS (X:Cx) (st:Stmt) (t:TS):Prop where h:PS X st t
structure HU (X:Cx) (st:List Stmt) (t:TS):Prop where h:EA X st t
structure QG (X:Cx) (tg:Expr) (t:TG):Prop where h:PG X tg t
structure PH (X:Cx) (ts:List Expr) (t:GA):Prop where h:LR X ts t
structure QI (X:Cx) (tg iter:Expr) (wi:TI):Prop where h:PI X tg iter wi
structure LB (X:Cx) (ifs:List Expr) (t:TT):Prop where h:Ga X ifs t
structure QO (X:Cx) (e:Option Expr) (t:TO):Prop where h:PO X e t
section
variable{b:Expr}{rest:List Expr}{tb tc:TE}{tA IE:TT}{t:TA}{p2 apos Cd:Pos}
theorem qv(i:Nat)(g:X.N[i]?=some x:=by rfl)(hv:Nj X.env.scope x:=by first|exact Or.inl rfl|exact Or.inr (Or.inl rfl)|exact Or.inr (Or.inr rfl))(hd:(x == ("__debug__":Str))=false:=by decide)
  (GL:(x == ("__classdict__":Str))=false:=by decide):QE X (.Name x pos) (BF i):=⟨by
 intro Zn s O H Q I h;obtain⟨v,e,h⟩:=h;obtain⟨m,d,f⟩:=I.loc;obtain⟨u,r,l⟩:=f i x v g e hv;have fin:EP X Zn O Q u s:=⟨v,H,I,r,h⟩;rcases l with⟨a,hm⟩|⟨a,c,b,P1⟩
 .exact wpAny_Name (wpAny_loadName_local I.ok.kind a d hm fin) hd
 .rcases a with a|a
  .exact wpAny_Name (wpAny_loadName_cell I.ok.kind a b P1 fin) hd
  .exact wpAny_Name (wpAny_loadName_free I.ok.kind a b P1 fin GL) hd⟩
theorem A3{i j pos}:QE X (.Constant (.int i) j pos) (tC (.int i)):=⟨λ_ _ _ H _ I h=>wpAny_Constant_int ⟨.int i,H,I.tok _,⟨_,rfl⟩,h⟩⟩
theorem FC{b j pos}:QE X (.Constant (.bool b) j pos) (tC (.bl b)):=⟨λ_ _ _ H _ I h=>Constant_bool ⟨.bl b,H,I,rfl,h⟩⟩
theorem B4{x j pos}:QE X (.Constant (.str x) j pos) (tC (.str x)):=⟨λ_ _ _ H _ I h=>Calls.Constant_str ⟨.str x,H,I.tok _,⟨_,rfl⟩,h⟩⟩
theorem Jq{v:V}{u:Value}(a:Gl X x)(hm:X.mg x=some u)(r:RelV v u)(hd:(x == ("__debug__":Str))=false:=by decide):QE X (.Name x pos) (tC v):=⟨λ_ _ _ H _ I h=>UW I a hm ⟨v,H,I,r,h⟩ hd⟩
theorem Ku(T:String)(hm:X.mg x=none)(a:Gl X x:=by rfl)(hv:bootBuiltins x=some (.type T):=by decide +kernel)(hn:x ≠"__name__" := by decide)(hd:(x == ("__debug__":Str))=false:=by decide):
  QE X (.Name x pos) (tC (.ty T)):=⟨si a hm hv rfl hn hd⟩
theorem Ah{op:Operator}{r:R2}(ho:B7 X (binaryOp op) r)(d:QE X a ta)(c:QE X b tb):QE X (.BinOp a op b pos) (BB r ta tb):=⟨by
 have d:=d.h;have c:=c.h;intro Zn s O H Q I h;exact wpAny_BinOp (RQ d c I h λv u s2 x y H2 I2 f e q=>ho Zn s2 O H2 x y v u Q I2 f e q)⟩
theorem ko{r:R2}(ho:B7 X (compareOp op) r)(d:QE X a ta)(c:QE X b tb)(hm:behindInMarks op b=false):QE X (.Compare a [op] [b] pos) (BB r ta tb):=⟨by
 have d:=d.h;have c:=c.h;intro Zn s O H Q I h;exact wpAny_Compare1 (RQ d c I h λv u s2 x y H2 I2 f e q=>ho Zn s2 O H2 x y v u Q I2 f e q) hm⟩
theorem cR{r:R2}(ho:B7 X (compareOp op) r)(d:QE X a ta)(c:QE X b tb)(hm:behindInMarks op b=false):QT X (.Compare a [op] [b] pos) (LN (BB r ta tb)):=⟨iK ho d.h c.h hm⟩
theorem n9{r l:R2}(ho:B7 X (compareOp op) r)(EW:B7 X (compareOp Eh) l)(i:QE X a ta)(g:QE X b tb)(f:QE X c tc)
  (hm:lastMarks [op,Eh] [b,c]=false:=by with_unfolding_all rfl):QE X (.Compare a [op,Eh] [b,c] pos) (N2 r l ta tb tc):=⟨by
 have i:=i.h;have g:=g.h;have f:=f.h;intro Zn s O H Q I h;refine Compare_chain (AJ (i Zn s O H _ I h) λv q⟨x,H1,I1,A,D⟩=>chain_link (AJ (g Zn q O H1 _ I1 D) λu s2⟨y,H2,I2,j,C⟩=>
  AJ (ho Zn s2 O H2 x y v u _ I2 A j C) λd p⟨z,H3,I3,w,k,e,m⟩=>?_)) hm
 subst e;cases w;refine jF ?_;cases k with
 |false=>exact ite_ff ⟨.bl false,H3,I3,rfl,m⟩
 |true=>exact ite_tt (chain_last (AJ (f Zn p O H3 _ I3 m) λo s4⟨n,H4,I4,t,B⟩=>EW Zn s4 O H4 y n u o Q I4 j t B))⟩
theorem nY{r l:R2}(ho:B7 X (compareOp op) r)(EW:B7 X (compareOp Eh) l)(i:QE X a ta)(g:QE X b tb)(f:QE X c tc)
  (hm:lastMarks [op,Eh] [b,c]=false:=by with_unfolding_all rfl):QT X (.Compare a [op,Eh] [b,c] pos) (LN (N2 r l ta tb tc)):=⟨by
 have i:=i.h;have g:=g.h;have f:=f.h;intro Zn s O H Q I h;refine isTrue_chain (AJ (i Zn s O H _ I h) λv q⟨x,H1,I1,B,F⟩=>test_link (AJ (g Zn q O H1 _ I1 F) λu s2⟨y,H2,I2,j,E⟩=>
  AJ (ho Zn s2 O H2 x y v u _ I2 B j E) λd p⟨z,H3,I3,A,k,e,m⟩=>?_)) hm
 subst e;cases A;refine jF ?_;cases k with
 |false=>
  obtain⟨P,L,G⟩:=m;cases L;exact ite_ff ⟨H3,I3,G⟩
 |true=>
  refine ite_tt (test_last (AJ (f Zn p O H3 _ I3 m) λo s4⟨n,H4,I4,w,D⟩=>AJ (EW Zn s4 O H4 y n u o _ I4 j w D) λd' N J=>?_));obtain⟨M,H5,I5,t,σ,K,C⟩:=J;subst K;cases t;exact jF ⟨H5,I5,C⟩⟩
theorem MX{op}(h:QE X a ta):QE X (.BoolOp op [a] pos) ta:=⟨by have h:=h.h;exact λZn s O H Q I hw=>BoolOp_one (h Zn s O H Q I hw)⟩
theorem Rf(f:QE X a ta)(e:QE X (.BoolOp .And (b::rest) pos) tb):QE X (.BoolOp .And (a::b::rest) pos) (VN ta tb):=⟨by
 have f:=f.h;have e:=e.h;intro Zn s O H Q I h;refine BoolOp_and (AJ (f Zn s O H _ I h) λv g DH=>?_);obtain⟨x,H1,I1,i,d⟩:=DH;obtain⟨c,rfl,d⟩:=d;cases i;refine jF ?_;cases c with
 |true=>exact e Zn g O H1 Q I1 d
 |false=>exact⟨.bl false,H1,I1,rfl,d⟩⟩
theorem Xc(f:QE X a ta)(e:QE X (.BoolOp .Or (b::rest) pos) tb):QE X (.BoolOp .Or (a::b::rest) pos) (T6 ta tb):=⟨by
 have f:=f.h;have e:=e.h;intro Zn s O H Q I h;refine BoolOp_or (AJ (f Zn s O H _ I h) λv g DH=>?_);obtain⟨x,H1,I1,i,d⟩:=DH;obtain⟨c,rfl,d⟩:=d;cases i;refine jF ?_;cases c with
 |false=>exact e Zn g O H1 Q I1 d
 |true=>exact⟨.bl true,H1,I1,rfl,d⟩⟩
theorem Qo(d:QE X a ta):QE X (.UnaryOp .Not a pos) (Qp ta):=⟨by
 have d:=d.h;intro Zn s O H Q I h;refine UnaryOp_ (AJ (d Zn s O H _ I h) λv f DH=>?_);obtain⟨x,H1,I1,e,b⟩:=DH;obtain⟨c,rfl,b⟩:=b;cases e;exact not_of (jF ⟨.bl (!c),H1,I1,rfl,b⟩)⟩
theorem QU(b:QT X a tA):QW X (.BoolOp .And [a] pos) tA:=⟨by
 have b:=b.h;intro wh Zn s O H Q I h;refine isTrue_and (AJ (b Zn s O H Q I h) λc d e=>?_);cases c with
 |true=>exact isTrue_and_nil e
 |false=>exact e⟩
theorem Ld(b:QT X a tA):QW X (.BoolOp .Or [a] pos) tA:=⟨by
 have b:=b.h;intro wh Zn s O H Q I h;refine isTrue_or (AJ (b Zn s O H Q I h) λc d e=>?_);cases c with
 |false=>exact isTrue_or_nil e
 |true=>exact e⟩
theorem Nv(e:QT X a tA)(d:QW X (.BoolOp .And (b::rest) pos) IE):QW X (.BoolOp .And (a::b::rest) pos) (RG tA IE):=⟨by
 have e:=e.h;have d:=d.h;intro wh Zn s O H Q I h;refine isTrue_and (AJ (e Zn s O H _ I h) λc g DH=>?_);obtain⟨H1,I1,f⟩:=DH;cases c with
 |true=>exact d wh Zn g O H1 Q I1 f
 |false=>exact⟨H1,I1,f⟩⟩
theorem Kc(e:QT X a tA)(d:QW X (.BoolOp .Or (b::rest) pos) IE):QW X (.BoolOp .Or (a::b::rest) pos) (OH tA IE):=⟨by
 have e:=e.h;have d:=d.h;intro wh Zn s O H Q I h;refine isTrue_or (AJ (e Zn s O H _ I h) λc g DH=>?_);obtain⟨H1,I1,f⟩:=DH;cases c with
 |true=>exact⟨H1,I1,f⟩
 |false=>exact d wh Zn g O H1 Q I1 f⟩
theorem QW.pt{t:TT}(h:QW X e t):QT X e t:=⟨h.h.pt⟩
theorem IM(b:QT X a tA):QT X (.UnaryOp .Not a pos) (Oa tA):=⟨by
 have b:=b.h;intro Zn s O H Q I h;exact isTrue_not (b Zn s O H (λc H1=>Q (!c) H1) I h)⟩
theorem Eg(h:QE X e te)(f:∀a,isTrue e X.env a=(do let v <- a;standAt e.pos;holding [v] (truthy v)):=by intro _;rfl):QT X e (tB te):=⟨by
 have h:=h.h;intro Zn s O H Q I hw;refine isTrue_plain (AJ (h Zn s O H _ I hw) λv g⟨x,H1,I1,b,c⟩=>?_) (f _);obtain⟨d,rfl,q⟩:=c;cases b;exact jF ⟨H1,I1,q⟩⟩
theorem u6(e:QT X c tA)(g:QE X a ta)(f:QE X b tb):QE X (.IfExp c a b pos) (Qy tA ta tb):=⟨by
 have e:=e.h;have g:=g.h;have f:=f.h;intro Zn s O H Q I h;refine wpAny_IfExp (AJ (e Zn s O H _ I h) λd i DH=>?_);obtain⟨H1,I1,j⟩:=DH;cases d with
 |true=>exact g Zn i O H1 Q I1 j
 |false=>exact f Zn i O H1 Q I1 j⟩
theorem A4:QA X [] BW:=⟨λ_ _ _ _ H Q I h=>Calls.spliced_nil ⟨[],H,I,.nil,h⟩⟩
theorem A0(a:QE X e te)(hr:QA X es t)(hs:starEach (e::es) X.env=(false,eval e X.env)::starEach es X.env:=by rfl):QA X (e::es) (Au te t):=⟨nA a.h hr.h hs⟩
theorem CP{x1}(h:QA X es t):QE X (.Tuple es x1 pos) (QZ t):=⟨kh h.h⟩
theorem Cq(h:QA X es t):QE X (.List es pos) (OI t):=⟨kP h.h⟩
theorem IZ:QO X none Ud:=⟨by
 intro Zn s O H Q I h;rw[evalPart_none];exact iG ⟨none,H,I,.none,h⟩⟩
theorem Iw(h:QE X e te):QO X (some e) (Vs te):=⟨by
 have h:=h.h;intro Zn s O H Q I hw;rw[evalPart_some];refine AJ (h Zn s O H _ I hw) λu c SS=>?_;obtain⟨x,H1,I1,a,b⟩:=SS;obtain⟨i,rfl,q⟩:=b;obtain⟨t,rfl⟩:=a;exact⟨some i,H1,I1,.int i t,q⟩⟩
theorem J7{r:V->Option Int->Option Int->Hp->VK->Prop}{lo hi:Option Expr}{tl th:TO}(hr:Iz X r)(f:QE X e te)(d:QO X lo tl)(c:QO X hi th):QE X (.Subscript e (.Slice lo hi none p2) pos) (QL r te tl th):=⟨by
 have f:=f.h;have d:=d.h;have c:=c.h;intro Zn s O H Q I h;refine Subscript_ (AJ (f Zn s O H _ I h) λv g DH=>?_);obtain⟨x,H1,I1,i,m⟩:=DH;refine wpAny_Slice (AJ (d Zn g O H1 _ I1 m) λvl s2⟨l,H2,I2,pl,k⟩=>AJ (c Zn s2 O H2 _ I2 k) λvu a Mt=>?_);obtain⟨u,H3,I3,n,j⟩:=Mt;rw[evalPart_none];refine iG ?_;have y:Inv X Zn O H3 { a with heap:=a.heap.push { cls:=.type "slice", data:=.fields #[vl,vu,.none] } }:=I3.kept (t':=a.toks) λb ob q=>CU _ q
 obtain⟨T,id,t,o,p⟩:=hr Zn { a with heap:=a.heap.push { cls:=.type "slice", data:=.fields #[vl,vu,.none] } } O H3 x v vl vu l u a.heap.objs.size Q y i (Heap.IsSliceOf.new ..) pl n j
 show wpAny (model X.prog X.w) X.A (subscriptTail e (.Slice lo hi none p2) v (.ref a.heap.objs.size)) (EP X Zn O Q) X.xe { a with heap:=a.heap.push { cls:=.type "slice", data:=.fields #[vl,vu,.none] } }
 exact tail_any (ops:=[.ref a.heap.objs.size,v]) o t p (by with_unfolding_all rfl)⟩
theorem kA{r:R2}(hr:DK X r)(d:QE X a ta)(c:QE X b tb)(hs:RP b):QE X (.Subscript a b pos) (BB r ta tb):=⟨by
 have d:=d.h;have c:=c.h;intro Zn s O H Q I h;exact Subscript_ (RQ d c I h λv u s2 x y H2 I2 f e q=>hr a b Zn s2 O H2 x y v u Q I2 f e q (hs _ _))⟩
theorem pE{k:Nat}(h:AR X.prog X.w X.K X.mg X.base x k ps sp)(hr:Ba j X.A)(c:k<=j)(a:QA X (e::es) t)(d:Gl X x:=by rfl)(Cs:(x == ("__debug__":Str))=false:=by decide)
  (he:starEach (e::es) X.env=(false,eval e X.env)::starEach es X.env:=by rfl) (CB:(backTo pos (starEach es X.env)).any (·.1)=false:=by rfl):QE X (.Call (.Name x p) (e::es) [] pos) (EU sp [] E0 t):=⟨by
 have a:=a.h;obtain⟨f,fd,F,b,kp,m⟩:=h;exact lg (F.mono c) hr d m kp b .nil PM a Cs he CB⟩
theorem pU{id:String}(j:DF X (.builtin id) r)(i:Gl X x)(hm:X.mg x=none)(f:bootBuiltins x=some (.builtin id))(a:QA X (e::es) t)(g:x ≠"__name__" := by decide)(Cs:(x == ("__debug__":Str))=false:=by decide)
  (he:starEach (e::es) X.env=(false,eval e X.env)::starEach es X.env:=by rfl) (CB:(backTo pos (starEach es X.env)).any (·.1)=false:=by rfl):QE X (.Call (.Name x p) (e::es) [] pos) (ED r t):=⟨by
 have a:=a.h;intro Zn s O H Q I h;refine kN (LJ I i hm f ?_ g Cs);exact PyProof.Rows.callWith_builtin1 (AJ (a pos Zn s O H _ I h) λus b AE=>by obtain⟨vs,H1,I1,c,d⟩:=AE;exact j Zn b O H1 vs us Q I1 c d) he CB⟩
theorem gK(j:DF X (.type T) r)(i:Gl X x)(hm:X.mg x=none)(f:bootBuiltins x=some (.type T))(a:QA X (e::es) t)(g:x ≠"__name__" := by decide)(Cs:(x == ("__debug__":Str))=false:=by decide)
  (he:starEach (e::es) X.env=(false,eval e X.env)::starEach es X.env:=by rfl) (CB:(backTo pos (starEach es X.env)).any (·.1)=false:=by rfl):QE X (.Call (.Name x p) (e::es) [] pos) (ED r t):=⟨by
 have a:=a.h;intro Zn s O H Q I h;refine kN (LJ I i hm f ?_ g Cs);exact Wu (AJ (a pos Zn s O H _ I h) λus b AE=>by obtain⟨vs,H1,I1,c,d⟩:=AE;exact j Zn b O H1 vs us Q I1 c d) he CB⟩
theorem rF{id:String}{r:V->List V->Hp->VK->Prop}(d:PlainAttrs T)(slot:Slot T name id)(KC:typeOf (.builtin id)=pure (.type "method_descriptor"))(hm:Hl X id r)(ho:QE X o to)
  (K2:attributeBase o name X.env (eval o X.env)=eval o X.env:=by rfl) (KN:(apos.endLine == Cd.line)=true:=by rfl):QE X (.Call (.Attribute o name apos) [] [] Cd) (TB X.K T r to):=⟨by
 have ho:=ho.h;intro Zn s O H Q I h;refine wpAny_Call_method0_late K2 KN (AJ (ho Zn s O H _ I h) λv b SS=>?_);obtain⟨x,H1,I1,a,ty,c⟩:=SS;obtain⟨h1,h2⟩:=bB I1 a ty;exact⟨T,id,d,slot,KC,h1,h2,xb rfl (PySem.evalArgs_none (hm Zn b O H1 x [] v [] Q I1 a .nil c))⟩⟩
theorem Dl{id:String}{r:V->List V->Hp->VK->Prop}(j:PlainAttrs T)(slot:Slot T name id)(KC:typeOf (.builtin id)=pure (.type "method_descriptor"))(hm:Hl X id r)(ho:QE X o to)(a:QA X (e::es) t)
  (K2:attributeBase o name X.env (eval o X.env)=eval o X.env:=by rfl)
  (Vf:((backTo Cd (starEach (e::es) X.env)).all (λx=>!x.1) && (backToKw Cd (keywordEach [] X.env)).all (λx=>x.1.isSome)
   && decide ((e::es).length+([]:List Keyword).length+(if([]:List Keyword).isEmpty then 0 else 1)<30))=true:=by rfl)
  (KN:(apos.endLine == Cd.line)=true:=by rfl) (hs:starEach (e::es) X.env=(false,eval e X.env)::starEach es X.env:=by rfl) (V3:(backTo Cd (starEach es X.env)).any (·.1)=false:=by rfl) :
  QE X (.Call (.Attribute o name apos) (e::es) [] Cd) (Gv X.K T r to t):=⟨by
 have ho:=ho.h;have a:=a.h;intro Zn s O H Q I h;refine wpAny_Call_method_late K2 Vf KN rfl (AJ (ho Zn s O H _ I h) λv d k=>?_);obtain⟨x,H1,I1,b,ty,i⟩:=k;obtain⟨h1,h2⟩:=bB I1 b ty;refine⟨T,id,j,slot,KC,h1,h2,?_⟩;have c:=a Cd Zn d O H1 _ I1 i;rw[hs]at c ⊢;refine xb (by show(false || (backTo Cd (starEach es X.env)).any (·.1))=false;rw[V3] <;> rfl) (Calls.evalArgs_plain ?_)
 exact AJ c λus s2 AE=>by obtain⟨vs,H2,I2,f,g⟩:=AE;exact hm Zn s2 O H2 x vs v us Q I2 b f g⟩
variable{elt iter:Expr}{scope:Scope}{AH:List Str}{js:List Nat}
theorem Di(d:QE X l tl):QI X tg l (T1 X.K tl):=⟨by
 have d:=d.h;intro Zn s O H R I h;refine AJ (d Zn s O H _ I h) λv c⟨x,H1,I1,i,j⟩=>?_;obtain⟨tp,a,xs,e,f,q⟩:=j;subst e;cases i;have fin:∀b∈[c.heap.objs.size],EB X Zn H1 b:=λb m=>by
  have e:b=c.heap.objs.size:=by simpa using m
  subst e;exact I1.LW (Aj _) (I1.AN.fresh (Aj _))
 cases tp with
 |false=>
  obtain⟨A1,g,p,k⟩:=I1.list f;refine nR p.isList ?_;exact⟨c.heap.objs.size,[c.heap.objs.size],_,_,H1,rfl,I1.kept (t':=c.toks) λb o e=>CU _ e,wY a _ xs,⟨_,DC _ rfl,rfl,rfl⟩,fin,q⟩
 |true=>
  obtain⟨A1,g,p,k⟩:=I1.tuple f;refine oh (show c.heap.IsTuple a A1.toArray from p) ?_;exact⟨c.heap.objs.size,[c.heap.objs.size],_,_,H1,rfl,I1.kept (t':=c.toks) λb o e=>CU _ e,pB a _ xs,⟨_,DC _ rfl,rfl,rfl⟩,fin,q⟩⟩
theorem j7(c:QE X l tl):QI X tg l (cP tl):=⟨by
 have c:=c.h;intro Zn s O H R I h;refine AJ (c Zn s O H _ I h) λv a⟨x,H1,I1,g,i⟩=>?_;obtain⟨z,e,q⟩:=i;subst e;obtain⟨t,rfl⟩:=g;have fin:∀b∈[a.heap.objs.size],EB X Zn H1 b:=λb j=>by
  have e:b=a.heap.objs.size:=by simpa using j
  subst e;exact I1.LW (Aj _) (I1.AN.fresh (Aj _))
 have kp:∀(ob:Obj),Inv X Zn O H1 { a with heap:=a.heap.push ob }:=λob=>I1.kept (t':=a.toks) λb o e=>CU _ e
 cases f:z.cps.all (· < 128)
 .refine wpAny_pyIter_wide f ?_;exact⟨a.heap.objs.size,[a.heap.objs.size],_,_,H1,rfl,kp _,Xd (t:=t) (by decide) (λA' d=>Walks.strWide d _ z t) (λ_ _ _ _ _ st h=>wpAny_pyIter_striter_wide st h),⟨_,DC _ rfl,rfl,rfl⟩,fin,q⟩
 .refine wpAny_pyIter_ascii f ?_;exact⟨a.heap.objs.size,[a.heap.objs.size],_,_,H1,rfl,kp _,Xd (t:=t) (by decide) (λA' d=>Walks.strAscii d _ z t) (λ_ _ _ _ _ st h=>wpAny_pyIter_striter_ascii st h),⟨_,DC _ rfl,rfl,rfl⟩,fin,q⟩⟩
theorem NL{ta:TA}(i:Gl X "range")(hm:X.mg "range"=none)(c:QA X [a] ta)(hs:starEach [a] X.env=[(false,eval a X.env)]:=by rfl):QI X tg (.Call (.Name "range" p) [a] [] pos) (RT ta):=⟨by
 have c:=c.h;intro Zn s O H R I h;refine Call_ (LJ I i hm boot_range (Wu (AJ (c pos Zn s O H _ I h) λus k⟨vs,H1,I1,f,b⟩=>?_) hs rfl));obtain⟨j,e,b,g,q⟩:=b;subst e;cases f with
 |cons r d=>
  cases d;obtain⟨t,rfl⟩:=r;exact call_range_1 (Y2 I1 (by omega) (by omega) b g (by simpa using q))⟩
theorem FO:LB X [] U6:=⟨λZn s O H Q I h=>by
 rw[fK];exact iG ⟨H,I,h⟩⟩
theorem dN{t:TT}(a:QT X c t):LB X [c] t:=⟨rC a.h⟩
theorem Il(a:X.calm=true)(S:Dz X.N X.env.scope scope x AH js)(hi:QI X (.Name x px) iter wi)
  (Cz:∀fp C s H,LB (EM X (AH++[x]) scope (Bb X.env.cells scope.names) C s H fp) ifs tt) (Ct:∀fp C s H,QE (EM X (AH++[x]) scope (Bb X.env.cells scope.names) C s H fp) elt te)
  (hs:∀v,foldedSetIterable iter X.env v=pure v:=by intro _;rfl):QE X (.ListComp elt [⟨.Name x px,iter,ifs,0⟩] scope pos) (J1 wi js tt te):=⟨sG a S hi.h (λfp C s H=>(Cz fp C s H).h) (λfp C s H=>(Ct fp C s H).h) hs⟩
theorem O0{py Es:Pos}(c:X.N.Nodup)(CQ:X.N[i]?=some y)(a:Loc X.env.scope y)(b:X.calm=true)(S:Dz X.N X.env.scope scope x AH js)(hi:QI X (.Name x px) iter wi)
  (Cz:∀fp C s H,LB (EM X (AH++[x]) scope (Bb X.env.cells scope.names) C s H fp) ifs tt) (Ct:∀fp C s H,QE (EM X (AH++[x]) scope (Bb X.env.cells scope.names) C s H fp) elt te)
  (IJ:swapsWith (.ListComp elt [⟨.Name x px,iter,ifs,0⟩] scope pos) (some (.Name y py)) Es.line X.env=pure true:=by rfl)
  (hf:X.fn y=true∨X.env.scope.names.lookup y=some .local:=by first|exact .inl rfl|exact .inr rfl|assumption)
  (hs:∀v,foldedSetIterable iter X.env v=pure v:=by intro _;rfl):QS X (.Assign [.Name y py] (.ListComp elt [⟨.Name x px,iter,ifs,0⟩] scope pos) Es) (Dq (J1 wi js tt te) (Bt i)):=
 ⟨ik c CQ a b S hi.h (λfp C s H=>(Cz fp C s H).h) (λfp C s H=>(Ct fp C s H).h) IJ hf hs⟩
theorem qk(b:X.N.Nodup)(hi:X.N[i]?=some x)(hx:Loc X.env.scope x)(a:X.fn x=true∨X.env.scope.names.lookup x=some .local:=by first|exact .inl rfl|exact .inr rfl|assumption):QG X (.Name x pos) (Bt i):=⟨Qt b hi hx a⟩
theorem Mw:PH X [] KZ:=⟨Xk⟩
theorem G3{t:TG}{u:GA}(h1:QG X e t)(h2:PH X es u)
  (hs:(assignEach (e::es) X.env).map (·.2)=assign e X.env::(assignEach es X.env).map (·.2):=by rfl):PH X (e::es) (FP t u):=⟨aV h1.h h2.h hs⟩
theorem NW{k:Nat}{t:GA}(b:X.calm=true)(h:PH X es t)(a:(assignEach es X.env).length=n:=by rfl)(FJ:(assignEach es X.env).findIdx? (·.1)=none:=by rfl):QG X (.Tuple es k pos) (JL X.K n t):=⟨cz b h.h a FJ⟩
theorem Oq{i:Expr}{ti:TE}{t:Px}(ho:QE X o to)(hi:QE X i ti)(hs:R6 X t)
  (l:∀v,assign (.Subscript o i pos) X.env v=(do
   let a <- holding [v] (eval o X.env)
   let b <- holding [v,a] (eval i X.env)
   standAt pos
   holding [v,a,b] (setItem a b v)
   release [v,a,b] []):=by intro _;rfl):QG X (.Subscript o i pos) (V0 to ti t):=⟨by
 have ho:=ho.h;have hi:=hi.h;intro Zn s O H v u Q I r h;rw[l];refine gG (mC (AJ (ho Zn s O H _ I h) λa d Td=>?_));obtain⟨x,H1,I1,f,k⟩:=Td;refine gG (mC (AJ (hi Zn d O H1 _ I1 k) λb s2 Mb=>?_));obtain⟨y,H2,I2,e,j⟩:=Mb;refine gG (sQ (gG (mC (AJ (hs Zn s2 O H2 x y v a b u _ I2 f e r j) λ_ m c=>?_))));obtain⟨H3,I3,g⟩:=c;exact wpAny_release ⟨O,H3,I3,g⟩⟩
end
section
variable{st:Stmt}{u:TS}
theorem Bw:HU X [] VQ:=⟨λ_ _ O H _ I h=>oM ⟨O,H,I,h⟩⟩
theorem AD(e:body=st::rest)(h:QS X st t)(h2:HU X rest u):HU X body (NH t u):=⟨ip e h.h h2.h⟩
theorem AK(e:body=[st])(h:QS X st t):HU X body t:=⟨by have h:=h.h;rw[e];exact x8 h⟩
theorem J6:QS X st Y6:=⟨λ_ _ _ _ _ _ h=>h.elim⟩
theorem By(a:QE X e te)(hs:swapsWith e none pos.line X.env=pure false:=by rfl):QS X (.Expr e pos) (Ff te):=⟨by
 have a:=a.h;intro Zn s O H D I h;exact wpAny_Expr_any (AJ (a Zn s O H _ I h) λv c AE=>by obtain⟨x,H1,I1,d,b⟩:=AE;exact⟨O,H1,I1,b⟩) I.quiet hs⟩
theorem BJ(a:QE X e te):QS X (.Return (some e) pos) (LV te):=⟨by
 have a:=a.h;intro Zn s O H D I h;exact wpAny_Return_some (AJ (a Zn s O H _ I h) λv d AE=>by obtain⟨x,H1,I1,b,c⟩:=AE;exact⟨x,O,H1,I1,b,c⟩)⟩
theorem BR{a b:List Stmt}(e:QT X c tc)(g:HU X a t)(f:HU X b u):QS X (.If c a b pos) (Li tc t u):=⟨by
 have e:=e.h;have g:=g.h;have f:=f.h;intro Zn s O H D I h;refine wpAny_If (AJ (e Zn s O H _ I h) λd i DH=>?_);obtain⟨H1,I1,j⟩:=DH;cases d with
 |true=>exact g Zn i O H1 D I1 j
 |false=>exact f Zn i O H1 D I1 j⟩
theorem M9(b:QE X e te)(a:QG X tg g)(hs:swapsWithSole [tg] e pos.line X.env=pure false:=by rfl)(hw:swappedStores [tg] e X.env=pure none:=by rfl)
  (h1:(assignEach [tg] X.env).map (·.2)=[assign tg X.env]:=by rfl):QS X (.Assign [tg] e pos) (Dq te g):=⟨by
 have b:=b.h;have a:=a.h;intro Zn s O H D I h;refine wpAny_Assign_stores (AJ (b Zn s O H _ I h) λv c⟨x,H1,I1,d,f⟩=>?_) hs hw;rw[h1];exact AJ (a Zn c O H1 x v _ I1 d f) λ_ s2 q=>q⟩
theorem lD(d:X.N.Nodup)(hi:X.N[i]?=some x)(hx:Loc X.env.scope x)(a:QE X e te)(hs:swapsWith e (some (.Name x pos')) pos.line X.env=pure false:=by rfl)(hf:X.fn x=true∨X.env.scope.names.lookup x=some .local:=by first|exact .inl rfl|exact .inr rfl|assumption):
  QS X (.Assign [.Name x pos'] e pos) (Dq te (Bt i)):=⟨by
 have a:=a.h;intro Zn s O H D I h;refine wpAny_Assign_Name (AJ (a Zn s O H _ I h) λv f⟨y,H1,I1,b,c⟩=>?_) hs;exact Uj I1 d hi hx b (λs2 I2=>⟨_,H1,I2,c⟩) hf⟩
theorem O8(m:PassesOwn (model X.prog X.w) X.A X.env X.xe)(k:QT X c tc)(l:HU X body tb):QS X (.While c body [] pos) (VV tc tb):=⟨by
 have k:=k.h;have l:=l.h;intro Zn s O H D I h;obtain⟨W,⟨u,q⟩,a⟩:=h;refine wpAny_While (codeAny_whileLoop (λn s'=>∃ σ' H',Inv X Zn σ' H' s'/\W n σ' H') ?_ u ⟨O,H,I,q⟩);rintro n t⟨σ1,H1,I1,p⟩;refine jo m (AJ (k Zn t σ1 H1 _ I1 (a n σ1 H1 p)) λb s2 r=>?_);obtain⟨H2,I2,e⟩:=r;cases b with
 |true=>
  obtain⟨N,o,e⟩:=e;rw[hZ rfl];refine jo m (AJ (l Zn s2 σ1 H2 _ I2 e) λf x d=>?_);cases f with
  |next=>
   obtain⟨σ3,H3,I3,i⟩:=d;obtain⟨j,hm,g⟩:=o σ3 H3 i;exact⟨j,hm,σ3,H3,I3,g⟩
  |cont=>
   obtain⟨σ3,H3,I3,i⟩:=d;obtain⟨j,hm,g⟩:=o σ3 H3 i;exact⟨j,hm,σ3,H3,I3,g⟩
  |brk=>exact d
  |ret v=>exact d
 |false=>
  rw[gp Co];exact oM ⟨σ1,H2,I2,e⟩⟩
theorem FK{iter:Expr}(p:PassesOwn (model X.prog X.w) X.A X.env X.xe)(C:X.calm=true)(hi:QI X tg iter wi)(t:QG X tg g)(a:HU X body tb)
  (hs:∀x,foldedSetIterable iter X.env x=pure x:=by intro _;rfl):QS X (.For tg iter body [] pos) (Oo wi g tb):=⟨by
 have hi:=hi.h;have t:=t.h;have a:=a.h;intro Zn s O H D I h;refine wpAny_For (AJ (hi Zn s O H _ I h) λv s1 h1=>AJ h1 λOT s2 h2=>?_) hs;obtain⟨it,fp,tn,J,H2,e,I2,T,J4,E,W,⟨Z,P⟩,k⟩:=h2;subst e
 -- k6 stays true of Gf yT objects through Gf loop
 have y:∀{H':Hp},(∀b∈fp,H' b=none)->∀b∈fp,EB X Zn H' b:=λhn b a=>⟨hn b a,(E b a).2⟩;refine codeAny_forLoop_any (λn s'=>∃i σ' H',Inv X Zn σ' H' s'/\tn i s'.heap/\(∀b∈fp,H' b=none)/\W i n σ' H') ?_ Z ⟨0,O,H2,I2,J4,λb a=>(E b a).1,P⟩;rintro n B⟨i,σ3,H3,I3,G,F,σ⟩;rcases k i n σ3 H3 σ with⟨stop,V⟩|⟨go,N,hN,step⟩
 .refine jo p (AJ (T.done X rfl rfl rfl C i Zn B σ3 H3 X.xe I3 (y F) G stop) λr s4 Mb=>?_);obtain⟨hr,I4⟩:=Mb;subst hr;exact oM ⟨σ3,H3,I4,V⟩
 .refine jo p (AJ (T.item X rfl rfl rfl C i Zn B σ3 H3 X.xe I3 (y F) G go) λr s4 Q=>?_);obtain⟨u,hr,h4⟩:=Q;subst hr;refine jo p (AJ h4 λ_ z kD=>?_);obtain⟨x,H5,I5,U,K,L8,QQ⟩:=kD;have fw:=I5.pinned (y QQ) (T.obj _ _ L8);refine jo p (AJ (t _ z σ3 H5 x u _ fw U (step x H5 K)) λ_ R jK=>?_);obtain⟨σ6,H6,I6,Y⟩:=jK;refine jo p (AJ (a _ R σ6 H6 _ I6 Y) λf q j=>?_);have c:∀{σ7:St}{H7:Hp},Inv X (Zn++NG fp z.heap) σ7 H7 q->N σ7 H7->∃m,m<n/\∃i σ' H',Inv X Zn σ' H' q/\tn i q.heap/\(∀b∈fp,H' b=none)/\W i m σ' H':=λ{σ7 H7}I7 l=>by
   obtain⟨m',hm,M⟩:=hN σ7 H7 l;refine⟨m',hm,i+1,σ7,H7,I7.NX,T.keep _ _ _ L8 λb a o e=>(I7.pin (b,o) (Ep _ (Ep _ (Ol a e)))).1,λb a=>?_,M⟩;obtain⟨o,e,d⟩:=T.obj _ _ L8 b a;exact(I7.pin (b,o) (Ep _ (Ep _ (Ol a e)))).2.1
  cases f with
  |next=>obtain⟨σ7,H7,I7,l⟩:=j;exact c I7 l
  |cont=>obtain⟨σ7,H7,I7,l⟩:=j;exact c I7 l
  |brk=>obtain⟨σ7,H7,I7,j⟩:=j;exact⟨σ7,H7,I7.NX,j⟩
  |ret v=>obtain⟨L,σ7,H7,I7,S,j⟩:=j;exact⟨L,σ7,H7,I7.NX,S,j⟩⟩
theorem D6(h:QS X st t):QS X st (US t):=⟨by
 have h:=h.h;intro Zn s O H D I hw;obtain⟨J,h1,h2⟩:=hw;refine AJ (h Zn s O H _ I h1) λf s' q=>?_;cases f with
 |next=>obtain⟨σ',H',I',q⟩:=q;exact⟨σ',H',I',h2 σ' H' q⟩
 |ret v=>exact q
 |brk=>exact q
 |cont=>exact q⟩
end
theorem AV.BQ{P:Program}{K:yo}{mg:yq}{ZB:Heap}{qual:Str}{st:Stmt}{fd:FuncData}{N:List Str}{k:Nat}(F:AV K x qual st f fd)(S:BA N ps (Af st))(len:∀vs H Q E,sp vs H Q E->vs.length=ps.length)
  (NV:∀(Ad:Value)(A:Around)(outer:List Env)(s:Shared)(H:Hp)(vs:List V)(Q:VK)(E:XK),Ba k (A.deeper (envOfC qual (Af st) s.heap.objs.size f Ad))->sp vs H Q E->
   ∃t,HU (Jt FZ P w K mg ZB N qual (Af st) f Ad A outer s H E).MB (Jc st) t/\t { nx:=λ_ H'=>Q .AA H',rt:=Q } (start N vs) H):DN P w K mg ZB FZ (k+1) f fd ps sp:=
 F.ok S len λAd A outer s H vs Q E hr h=>let ⟨t,q,r⟩:=NV Ad A outer s H vs Q E hr h;⟨t,q.h,r⟩
section
variable{b:Expr}{tb:TE}{t:TA}
theorem CD{id:String}(b:DF X (.builtin id) r)(hm:X.mg x=none)(c:QA X (e::es) t)(a:Gl X x:=by rfl)(hv:bootBuiltins x=some (.builtin id):=by decide +kernel)(hn:x ≠"__name__" := by decide)(Cs:(x == ("__debug__":Str))=false:=by decide)
  (he:starEach (e::es) X.env=(false,eval e X.env)::starEach es X.env:=by rfl) (CB:(backTo pos (starEach es X.env)).any (·.1)=false:=by rfl):QE X (.Call (.Name x p) (e::es) [] pos) (ED r t):=pU b a hm hv c hn Cs he CB
theorem GW(b:DF X (.type T) r)(hm:X.mg x=none)(c:QA X (e::es) t)(a:Gl X x:=by rfl)(hv:bootBuiltins x=some (.type T):=by decide +kernel)(hn:x ≠"__name__" := by decide)(Cs:(x == ("__debug__":Str))=false:=by decide)
  (he:starEach (e::es) X.env=(false,eval e X.env)::starEach es X.env:=by rfl) (CB:(backTo pos (starEach es X.env)).any (·.1)=false:=by rfl):QE X (.Call (.Name x p) (e::es) [] pos) (ED r t):=gK b a hm hv c hn Cs he CB
theorem AM{r:R2}(hr:DK X r)(d:QE X a ta)(c:QE X b tb)(hs:RP b:=by exact λ_ _=>rfl):QE X (.Subscript a b pos) (BB r ta tb):=kA hr d c hs
theorem Aw{k:Nat}(h:AR X.prog X.w X.K X.mg X.base x k ps sp)(hr:Ba j X.A)(b:QA X (e::es) t)(a:k<=j:=by decide)(hg:Gl X x:=by rfl)(Cs:(x == ("__debug__":Str))=false:=by decide)
  (he:starEach (e::es) X.env=(false,eval e X.env)::starEach es X.env:=by rfl) (CB:(backTo pos (starEach es X.env)).any (·.1)=false:=by rfl):QE X (.Call (.Name x p) (e::es) [] pos) (EU sp [] E0 t):=pE h hr a b hg Cs he CB
theorem Ed{r:R2}(ho:B7 X (compareOp op) r)(d:QE X a ta)(c:QE X b tb)(hm:behindInMarks op b=false:=by first|exact cg _|with_unfolding_all rfl):QE X (.Compare a [op] [b] pos) (BB r ta tb):=ko ho d c hm
theorem BP{r:R2}(ho:B7 X (compareOp op) r)(d:QE X a ta)(c:QE X b tb)(hm:behindInMarks op b=false:=by first|exact cg _|with_unfolding_all rfl):QT X (.Compare a [op] [b] pos) (LN (BB r ta tb)):=cR ho d c hm
theorem Ag(i:Nat)(b:X.N.Nodup)(a:QE X e te)(hi:X.N[i]?=some x:=by rfl)(hx:Loc X.env.scope x:=by first|exact Or.inl rfl|exact Or.inr rfl)(hs:swapsWith e (some (.Name x pos')) pos.line X.env=pure false:=by rfl)(hf:X.fn x=true∨X.env.scope.names.lookup x=some .local:=by first|exact .inl rfl|exact .inr rfl|assumption):
  QS X (.Assign [.Name x pos'] e pos) (Dq te (Bt i)):=lD b hi hx a hs hf
theorem DE(i:Nat)(a:X.N.Nodup)(hi:X.N[i]?=some x:=by rfl)(hx:Loc X.env.scope x:=by first|exact Or.inl rfl|exact Or.inr rfl)(hf:X.fn x=true∨X.env.scope.names.lookup x=some .local:=by first|exact .inl rfl|exact .inr rfl|assumption):QG X (.Name x pos) (Bt i):=qk a hi hx hf
end
end L2
namespace HT
variable{E Q:Value->Shared->Prop}
section
variable{prog:Program}{w:World}{A:Around}{s:Shared}
theorem nV{t sl:Addr}{a:Array Value}{vl vu:Value}{lo hi:Option Int}(b:IsTup s.heap t a)(hs:s.heap.IsSliceOf sl vl vu .none)(pl:IsPart vl lo)(d:IsPart vu hi)
  (hw:AY a.size 0 lo=0/\AY a.size a.size hi=a.size) (h:Q (.ref t) s):wpAny (model prog w) A (getItem (.ref t) (.ref sl)) Q E s:=by
 obtain⟨os,Js,PU,MZ⟩:=id hs;have e:s.TypeIs (.ref sl) "slice" := ⟨os,Js,PU⟩;unfold getItem
 try with_reducible refine mC ?_
 first|refine gG (iG ?_)|skip
 refine gG (wpAny_sequenceKey b.typeIs (by decide) ?_);refine gG (jn (name:=Str.ofString "__getitem__") b.typeIs Wv
  (lJ Wv b.typeIs entry_tuple_getitem ?_ (args_tuple_getitem _ _)))
 show wpAny _ _ (Builtin.Tuple.tupleItemsOf (.ref t) >>= _) _ _ s;refine gG (tupleItemsOf_ b ?_);refine gG (oS e ?_);rw[hZ (by decide)];refine gG (cu hs pl d ?_);have c:((((AY a.size 0 lo:Nat):Int) == 0 && (1:Int) == 1 && (AY a.size a.size hi - AY a.size 0 lo) == a.size)=true):=by
  rw[hw.1,hw.2];simp
 first
 |rw[hZ c]
 |simp only[c,rK]
 refine gG ?_;unfold Builtin.Tuple.tupleIsExact;refine gG (oS b.typeIs (iG ?_));rw[hZ (by decide)];exact gG (wpAny_rule (iG ⟨_,rfl,iG h⟩))
end
end HT
namespace L2
variable{X:Cx}{Zn:yp}{O:St}{H:Hp}{s:Shared}{h':Heap}{k1 n t':Nat}{fp:List Addr}{I a:Addr}{e o:Expr}{w:World}{prog:Program}{A:Around}{E:Value->Shared->Prop}
def Xa(K:yo):V->Option Int->Option Int->Hp->VK->Prop:=λx lo hi H Q=>∃a xs,x=.ref a/\Ao K H a xs/\
 ((HT.AY xs.length 0 lo=0/\HT.AY xs.length xs.length hi=xs.length)->Q (.ref a) H)/\(¬ (HT.AY xs.length 0 lo=0/\HT.AY xs.length xs.length hi=xs.length)->∀p,H p=none->Q (.ref p) (upd H p (.tup (Fj xs lo hi))))
theorem sH:Iz X (Xa X.K):=by
 intro Zn s O H x v vl vu lo hi sl Q I c hs pl d h;obtain⟨a,xs,rfl,hx,g,f⟩:=h
 by_cases hw:HT.AY xs.length 0 lo=0/\HT.AY xs.length xs.length hi=xs.length
 .cases c;obtain⟨A1,r,e,i⟩:=I.tuple hx;have b:A1.toArray.size=xs.length:=by rw[Bj];exact r.length.symm
  refine⟨"tuple", _,PyProof.Rows.slot_tuple_getitem.lookup,e.typeIs,?_⟩;exact HT.nV e hs pl d (by rw[b];exact hw) ⟨.ref a,H,I,rfl,g hw⟩
 .exact p5 Zn s O H _ v vl vu lo hi sl Q I c hs pl d ⟨a,xs,rfl,hx,hw,f hw⟩
theorem Inv.cU(I:Inv X Zn O H s)(d:∀b∈fp,EB X Zn H b)(k:∀b o,b∉fp->s.heap.get? b=some o->h'.get? b=some o):
  Inv X Zn O H { s with heap:=h',toks:=t' }:=by
 have f:∀b u,H b=some u->b∉fp:=λb u e z=>by rw[(d b z).1]at e;cases e
 refine I.step (g':=s.gens) (d':=s.drawn) (ch:=fp) (λb g=>?_) (λb o _ _ a e _=>k b o a e) (λb o _ _ a e _=>⟨o.slots,k b o a e⟩) (λ_ _ _ _ n=>n)
  (λb o a e=>⟨o,k b o a e⟩) (λ_ _ e=>e) (λ_ _ _ e=>e) (λb ps e=>⟨#[],by rw[e];simp⟩) (λm hm=>?_) (λb u e=>?_) I.bare
 .obtain⟨_,h1,_,j,i,h⟩:=d b g;exact⟨j,h1,i,h⟩
 .obtain⟨o,es,l,ho,r⟩:=hm;exact⟨o,es,l,k _ o (λz=>(d _ z).2.1 rfl) ho,r⟩
 .refine(I.AN b u e).Jh (λc v a q=>k c v ?_ q) (λ_ q=>q) λ_ _ q=>q;rcases a with z|z
  .rw[z];exact f b u e
  .exact f c _ z
theorem Inv.Xr{o:HO}(I:Inv X Zn O H s)(i:∀b∈fp,EB X Zn H b)(k:∀b o,b∉fp->s.heap.get? b=some o->h'.get? b=some o)
  (j:s.heap.objs.size<=a) (g:CC X.prog X.w (upd H a o) h' a o):Inv X Zn O (upd H a o) { s with heap:=h',toks:=t' }:=by
 have p:H a=none:=I.AN.fresh j;have l:∀b u,H b=some u->b∉fp:=λb u e z=>by rw[(i b z).1]at e;cases e
 have ne:∀b u,H b=some u->b≠a:=λb u e=>DS e p;have h:∀b u,s.heap.get? b=some u->b≠a:=λb u e=>Cp (DP (B8 e) j);refine I.step (g':=s.gens) (d':=s.drawn) (ch:=fp) (λb f=>?_) (λb o _ _ d e _=>k b o d e) (λb o _ _ d e _=>⟨o.slots,k b o d e⟩) (λb o _ e n=>by rw[Ab (h b o e)];exact n)
  (λb o d e=>⟨o,k b o d e⟩) (λb _ e=>by rw[Ab (ne b _ e)];exact e) (λb _ _ e=>by rw[Ab (ne b _ e)];exact e) (λb ps e=>⟨#[],by rw[Ab (ne b _ e),e];simp⟩) (λm hm=>?_) (λb u e=>?_) I.bare
 .obtain⟨_,h1,_,y,x,t⟩:=i b f;exact⟨y,h1,x,t⟩
 .obtain⟨o,es,A,ho,r⟩:=hm;exact⟨o,es,A,k _ o (λz=>(i _ z).2.1 rfl) ho,r⟩
 .by_cases f:b=a
  .subst f;rw[Ay]at e;cases e;exact g
  .rw[Ab f]at e;refine(I.AN b u e).Jh (λc v d q=>k c v ?_ q) (λc q=>by rw[Ab (ne c _ q)];exact q) λc _ q=>by rw[Ab (ne c _ q)];exact q
   rcases d with z|z
   .rw[z];exact l b u e
   .exact l c _ z
noncomputable def gu(K:yo)(a:Addr)(xs:List V):It:=
 ⟨λi H=>AS K H a xs/\i<xs.length,λi H x H'=>∃p y,xs[i]?=some y/\x=.ref p/\H p=none/\H'=upd H p (.tup [.int i,y]),λi H=>AS K H a xs/\xs.length<=i⟩
theorem nq{P:Program}{K:yo}{es:List Expr}{p1:Pos}(a e it:Addr)(xs:List V)(LZ:e≠it):
  Turn P w K (.Tuple es k1 p1) (gu K a xs) [e,it] e (λi h=>(∃old,IsEnum h e it i old)/\h.IsListIter it a i) where
 mem:=by simp
 obj:=λi h st b f=>by
  obtain⟨⟨old,h1⟩,o,h2,_,d⟩:=st;rcases List.mem_cons.mp f with z|z
  .subst z;exact⟨_,h1,λv z=>by cases z⟩
  .have:b=it:=by simpa using z
   subst this;exact⟨o,h2,λv z=>by rw[d]at z;cases z⟩
 keep:=λi h h' st k=>⟨let ⟨old,h1⟩:=st.1;⟨old,k e (by simp) _ h1⟩,st.2.at λo q=>k it (by simp) o q⟩
 item:=by
  intro X r hw t A i Zn s O H E I j st n;subst r hw t;obtain⟨m,hi⟩:=n;obtain⟨⟨old,g⟩,c⟩:=st;obtain⟨A1,l,p,G⟩:=I.list m;obtain⟨u,J,D⟩:=l.get (Am hi);refine wpAny_pyNext_enum_item g c p.isList (x:=u) (by simpa using J) LZ λh1 HH F RM XM Vt=>⟨_,rfl,?_⟩
  refine pL HH λh2 Qm BE=>?_;have C:e<s.heap.objs.size:=B8 g;have B:h2.get? s.heap.objs.size=some { cls:=.type "tuple", data:=.seq #[.int i s.toks,u] }:=(BE.2 _ (Nd C)).trans RM;have kp:∀b o,b∉[e,it]->s.heap.get? b=some o->h2.get? b=some o:=λb o f q=>by
   have y:b≠e/\b≠it:=by simpa using f
   exact(BE.2 b y.1).trans (Vt b o y.1 y.2 q)
  refine⟨.ref s.heap.objs.size,_,I.Xr (t':=s.toks+1) (a:=s.heap.objs.size) (o:=.tup [.int i,xs[i]]) j kp (Aj _) ?_,rfl,⟨_,_,Am hi,rfl,I.AN.fresh (Aj _),rfl⟩,⟨⟨_,Qm⟩,F.at λo q=>(BE.2 it (Bk LZ)).trans q⟩,λb f=>?_⟩
  .exact⟨(by show 2<=sizeLine;decide),[.int i s.toks,u],.cons ⟨_,rfl⟩ (.cons D .nil),⟨_,B,rfl,_,rfl⟩,λob q=>by rw[B]at q;cases q;rfl⟩
  .have M:b<s.heap.objs.size:=by
    rcases List.mem_cons.mp f with z|z
    .rw[z];exact C
    .have:b=it:=by simpa using z
     obtain⟨o,q,_⟩:=c;rw[this];exact B8 q
   rw[Ab (Cp M)];exact(j b f).1
 done:=by
  intro X r hw t A i Zn s O H E I j st n;subst r hw t;obtain⟨m,hx⟩:=n;obtain⟨⟨old,g⟩,c⟩:=st;obtain⟨A1,l,p,G⟩:=I.list m;have N:=l.length;exact wpAny_pyNext_enum_end (I.ok.hd A) g c p.isList (by simp;omega) λh' L=>⟨rfl,I.cU (t':=s.toks) j λb o f q=>L b o (λz=>f (by simp[z])) q⟩
 self:=λ_ _ _ _ _ st h=>let ⟨⟨_,g⟩,_⟩:=st;nT g h
open AutoSeq1 (wpAny_loadPart')
theorem Vk{l:List (Int×Value)}(h:ElemsOf (PySem.strKind prog w) l):∃ts,StrsAre (l.map (·.2)) ts/\∀k,k∈ts↔∃e∈l,(PySem.strKind prog w).is k e.2=true:=by
 induction l with
 |nil=>exact⟨[],.nil,λk=>by simp⟩
 |cons e r c=>
  obtain⟨ts,h1,h2⟩:=c h.tail;obtain⟨⟨k,a,_⟩,_⟩:=h.head;obtain⟨tk,d⟩:=Value.isStrOf_shape a;refine⟨k::ts,?_,λb=>?_⟩
  .rw[Ap,d];exact .cons k tk h1
  .rw[IU,h2 b];constructor
   .rintro(rfl|⟨x,hx,q⟩)
    .exact⟨e,D2,a⟩
    .exact⟨x,CM _ hx,q⟩
   .rintro⟨x,hx,q⟩;rcases List.mem_cons.mp hx with rfl|hx
    .exact .inl ((PySem.strKind prog w).inj x.2 b k q a)
    .exact .inr ⟨x,hx,q⟩
section
variable{R:Result->Shared->Prop}{wr:List Addr}{G:Array GenState->Array GenState->Prop}{P:Nat->Value->Prop}{St:Nat->Shared->Prop}{ss:List Str}
theorem Inv.drew(I:Inv X Zn O H s)(d:Drawn):Inv X Zn O H { s with drawn:=d }:=
 I.step (h':=s.heap) (g':=s.gens) (t':=s.toks) (d':=d) (ch:=[]) (λ_ z=>nomatch z) (λb o _ _ _ e _=>e) (λb o _ _ _ e _=>⟨o.slots,e⟩) (λ_ _ _ _ n=>n) (λb o _ e=>⟨o,e⟩) (λ_ _ e=>e) (λ_ _ _ e=>e) (λb ps e=>⟨#[],by rw[e];simp⟩) (λm hm=>hm) I.AN I.bare
end
end L2
namespace HT
open AutoSeq1 (wpAny_loadPart')
variable{prog:Program}{w:World}{A:Around}{E Q:Value->Shared->Prop}{it tu:Addr}{i:Nat}{old v:Value}
theorem uc(tu:Addr)(vals:Array Value)(k:Nat)(e:Option Addr)(W8:Array (Option Value)):
  Meets (Builtin.«enumerate.__new__» ⟨[.type "enumerate",.ref tu],[]⟩) (λ_ R s=>s.heap.get? tu=some { cls:=.type "tuple", dict:=e,data:=.seq vals k,slots:=W8 }/\R (.ok (.ret (.ref (s.heap.push { cls:=.type "tuple_iterator", data:=.fields #[.ref tu,.int 0 0] }).objs.size)))
    { s with heap:=(s.heap.push { cls:=.type "tuple_iterator", data:=.fields #[.ref tu,.int 0 0] }).push { cls:=.type "enumerate", data:=.fields #[.none,.bool false,.ref s.heap.objs.size,rawInt 0,.none,.none] } }):=.of_wp λprog w A R s h=>by
 obtain⟨b,g,d,tk,os⟩:=s;obtain⟨ho,h⟩:=h;have f:=sub_enumerate;have a:Heap.IsTuple (Shared.heap ⟨b,g,d,tk,os⟩) tu vals:=⟨_,ho,rfl,k,rfl⟩
 wp_walk using wpAny_loadPart' ho
 refine wpAny_stack_any λi=>iG ?_;split
 .rename_i c _ _ _ _ _;cases(c == Value.type "enumerate") <;> (wp_walk using wpAny_loadPart' ho,oh a;exact⟨_,rfl,h⟩)
 .wp_walk using wpAny_loadPart' ho,oh a
  exact⟨_,rfl,h⟩
section
variable{s:Shared}
theorem vm{vals:Array Value}(e:s.heap.IsTuple tu vals)
  (q:∀h',IsEnum h' (s.heap.objs.size+1) s.heap.objs.size 0 .none->h'.IsTupleIter s.heap.objs.size tu 0->h'.objs.size=s.heap.objs.size+2->(∀b o,s.heap.get? b=some o->h'.get? b=some o)->Q (.ref (s.heap.objs.size+1)) { s with heap:=h' }) :
  wpAny (model prog w) A (call (.type "enumerate") [.ref tu]) Q E s:=by
 obtain⟨⟨c,g,f,W8⟩,ho,a,k,hd⟩:=e;replace a:c=.type "tuple" := a;replace hd:f=.seq vals k:=hd;subst a hd;refine callType_new F.called_enumerate (by decide) (F.typeCall_enumerate_1 _) (F.newCall_enumerate_1 _) (λob=>F.args_object_init_2 ob _) F.entry_enumerate_new (uc tu vals k g W8) ⟨ho,?_⟩;have z:(s.heap.push { cls:=.type "tuple_iterator", data:=.fields #[.ref tu,.int 0 0] }).objs.size=s.heap.objs.size+1:=Ll ..;show _/\_;rw[z];have d:IsEnum ((s.heap.push { cls:=.type "tuple_iterator", data:=.fields #[.ref tu,.int 0 0] }).push { cls:=.type "enumerate", data:=.fields #[.none,.bool false,.ref s.heap.objs.size,rawInt 0,.none,.none] }) (s.heap.objs.size+1) s.heap.objs.size 0 .none:=by
  have y:=DC (s.heap.push { cls:=.type "tuple_iterator", data:=.fields #[.ref tu,.int 0 0] }) (o:={ cls:=.type "enumerate", data:=.fields #[.none,.bool false,.ref s.heap.objs.size,rawInt 0,.none,.none] }) rfl;rw[z]at y;exact y
 exact⟨⟨_,d,rfl⟩,q _ d ⟨_,CU _ (DC _ rfl),rfl,rfl⟩ (by rw[Ll,z]) λb o y=>CU _ (CU _ y)⟩
theorem vz{vals:Array Value}(hi:s.heap.IsTupleIter it tu i)(c:s.heap.IsTuple tu vals)(b:vals[i]?=some v)
  (q:∀h',h'.IsTupleIter it tu (i+1)->Heap.SameBut it s.heap h'->Q v { s with heap:=h' }):wpAny (model prog w) A (Builtin.SmallTypes.nextOf (.ref it)) Q E s:=by
 obtain⟨o,ho,d,hd⟩:=id hi;obtain⟨e,Mn,_,k,a⟩:=c;unfold Builtin.SmallTypes.nextOf;refine gG (jn (name:=Str.ofString "__next__") hi.typeIs WO (lJ WO hi.typeIs xg ?_ (xf _)));show wpAny _ _ (field (.ref it) 0 >>= _) _ _ s;refine gG (ka ho hd (x:=.ref tu) rfl ?_);show wpAny _ _ (if(Value.ref tu == Value.none)=true then _ else _) _ _ s;rw[gp (show ¬ ((Value.ref tu == Value.none)=true)from Co)]
 show wpAny _ _ (field (.ref it) 1 >>= _) _ _ s;refine gG (ka ho hd (x:=.int i 0) rfl ?_);show wpAny _ _ (seqItems? (.ref tu) >>= _) _ _ s;refine gG (qw Mn a ?_);simp only[HM,b];refine gG (wpAny_setField ho hd (by simp) (iG ⟨v,rfl,iG (q _ ?_ (Heap.SameBut.update ..))⟩));exact⟨_,Qe _ ho (Obj.isFreed_of_fields (Obj.data_mapFields hd _)),(Obj.cls_mapFields ..).trans d,by rw[Obj.data_mapFields hd];simp[rawInt]⟩
theorem cK{vals:Array Value}(hh:A.handled=none)(hi:s.heap.IsTupleIter it tu i)(d:s.heap.IsTuple tu vals)(c:vals[i]?=none)
  (q:∀h' e,Heap.ExtBut it s.heap h'->(∃o,h'.get? e=some o/\o.cls=.type "StopIteration")->E (.ref e) { s with heap:=h' }):wpAny (model prog w) A (Builtin.SmallTypes.nextOf (.ref it)) Q E s:=by
 obtain⟨o,ho,g,hd⟩:=id hi;obtain⟨f,Mn,_,k,b⟩:=d;unfold Builtin.SmallTypes.nextOf;refine gG (jn (name:=Str.ofString "__next__") hi.typeIs WO (lJ WO hi.typeIs xg ?_ (xf _)));show wpAny _ _ (field (.ref it) 0 >>= _) _ _ s;refine gG (ka ho hd (x:=.ref tu) rfl ?_);show wpAny _ _ (if(Value.ref tu == Value.none)=true then _ else _) _ _ s;rw[gp (show ¬ ((Value.ref tu == Value.none)=true)from Co)]
 show wpAny _ _ (field (.ref it) 1 >>= _) _ _ s;refine gG (ka ho hd (x:=.int i 0) rfl ?_);show wpAny _ _ (seqItems? (.ref tu) >>= _) _ _ s;refine gG (qw Mn b ?_);simp only[HM,c];refine gG (wpAny_rule (gG (wpAny_setField ho hd (by simp) ?_)));show wpAny _ _ (newExc (.type "StopIteration") [] >>= _) _ _ _;refine gG ?_;simp only[newExc,newTuple];refine gG (jU ?_ (by size_fits));refine gG (m:=firstArgMember _ _) (wpAny_of_eq (a:=Value.none) (by first|rfl|(simp only[firstArgMember];rfl)) ?_);refine jU ?_ (by size_fits)
 simp only[raiseNew];refine gG (wpAny_handled ?_);first|rw[show A.in1.handled=none from hh]|rw[hh]
 refine gG (iG (wpAny_throw ?_));exact q _ _ (((Heap.SameBut.update ..).extBut.push _).push _) ⟨_,DC _ rfl,rfl⟩
theorem oO{e:Addr}{vals:Array Value}{j:Int}{Q:Option Value->Shared->Prop}(hh:A.handled=none)(a:IsEnum s.heap e it j old)(hi:s.heap.IsTupleIter it tu i)(d:s.heap.IsTuple tu vals)(c:vals[i]?=none)
  (q:∀h',Heap.ExtBut it s.heap h'->Q none { s with heap:=h' }):wpAny (model prog w) A (pyNext (.ref e)) Q E s:=by
 have ty:s.TypeIs (.ref e) "enumerate" := ⟨_,a,rfl⟩;unfold pyNext;refine gG (wpAny_attempt (jn (name:=Str.ofString "__next__") ty F.slot_enumerate_next (lJ F.slot_enumerate_next ty F.entry_enumerate_next ?_ (F.args_enumerate_next_1 _))));show wpAny _ _ (field (.ref e) 2 >>= _) _ _ _;refine gG (ka a rfl (x:=.ref it) rfl ?_);refine gG (cK (show A.in1.handled=none from hh) hi d c λh' x g hx=>?_)
 obtain⟨o,ho,f⟩:=hx;exact gG (wpAny_isInstance (T:="StopIteration") (b:=true) ⟨o,ho,f⟩ isSubtype_stop (iG (q _ g)))
end
theorem o9(hh:A.handled=none)(it tu:Addr)(B2:tu≠it)(vals:Array Value):
  Draws prog w A it [it,tu] vals.size (λi v=>vals[i]?=some v) (λi h=>h.IsTupleIter it tu i/\h.IsTuple tu vals) where
 live:=λ_ _ st=>by obtain⟨o,ho,_⟩:=st.1;exact⟨o,ho⟩
 frame:=λ_ _ _ st d=>by
  obtain⟨⟨o,ho,r⟩,c,Mn,e⟩:=st;exact⟨⟨o,d it (by simp) o ho,r⟩,c,d tu (by simp) c Mn,e⟩
 item:=λi s Q E hi st f=>vz st.1 st.2 (v:=vals[i]) (by simp[hi]) λh' a b=>f _ h' s.toks (by simp[hi]) ⟨a,st.2.extBut b.extBut B2⟩ b
 done:=λs Q E st g=>cK hh st.1 st.2 (by simp) g
end HT
namespace L2
variable{es:List Expr}{k1:Nat}
section
variable{X:Cx}
noncomputable def Y8(K:yo)(tp:Bool)(a:Addr)(xs:List V):It:=
 ⟨λi H=>HZ K tp H a xs/\i<xs.length,λi H x H'=>∃p y,xs[i]?=some y/\x=.ref p/\H p=none/\H'=upd H p (.tup [.int i,y]),λi H=>HZ K tp H a xs/\xs.length<=i⟩
theorem iO{P:Program}{w:World}{K:yo}{p1:Pos}(a e it:Addr)(xs:List V)(LZ:e≠it):
  Turn P w K (.Tuple es k1 p1) (Y8 K true a xs) [e,it] e (λi h=>(∃old,IsEnum h e it i old)/\h.IsTupleIter it a i) where
 mem:=by simp
 obj:=λi h st b f=>by
  obtain⟨⟨old,h1⟩,o,h2,_,d⟩:=st;rcases List.mem_cons.mp f with z|z
  .subst z;exact⟨_,h1,λv z=>by cases z⟩
  .have y:b=it:=by simpa using z
   subst y;exact⟨o,h2,λv z=>by rw[d]at z;cases z⟩
 keep:=λi h h' st k=>⟨let ⟨old,h1⟩:=st.1;⟨old,k e (by simp) _ h1⟩,let ⟨o,h2,r⟩:=st.2;⟨o,k it (by simp) o h2,r⟩⟩
 item:=by
  intro X F hw G D i Zn s O H E I x st C;subst F hw G;obtain⟨B,hi⟩:=C;obtain⟨⟨old,g⟩,c⟩:=st;obtain⟨A1,m,j,T⟩:=I.tuple B;obtain⟨u,U,Q⟩:=m.get (Am hi);have Fe:A1.toArray[i]?=some u:=by simpa using U
  have yC:a<s.heap.objs.size:=j.lt;have W:a≠it:=by
   rintro rfl;obtain⟨o,t,R,_⟩:=c;obtain⟨S,l,p,_⟩:=j;rw[t]at l;cases l;rw[R]at p;exact absurd p (by decide)
  have N:e≠a:=by
   rintro rfl;obtain⟨S,l,p,_⟩:=j;have t:=g;unfold IsEnum at t;rw[t]at l;cases l;exact absurd (show Value.type "enumerate"=Value.type "tuple" from p) (by decide)
  have L:e<s.heap.objs.size:=B8 g;refine wpAny_pyNext_enum_itemD (n:=A1.toArray.size) (HT.o9 (show X.A.in1.handled=none from I.ok.hd D) it a W A1.toArray) g ⟨c,j⟩ (by rw[Bj,<- m.length];exact hi) LZ (by simp[LZ,N]) λv h1 Sm pv HH σ RM XM Vt=>⟨_,rfl,?_⟩;have Y:v=u:=by rw[Fe]at pv;exact(B9 pv).symm
  subst Y;refine pL HH λh2 Qm BE=>?_;have J:h2.get? s.heap.objs.size=some { cls:=.type "tuple", data:=.seq #[.int i Sm,v] }:=(BE.2 _ (Nd L)).trans RM;have kp:∀b o,b∉[e,it]->s.heap.get? b=some o->h2.get? b=some o:=λb o f q=>by
   have y:b≠e/\b≠it:=by simpa using f
   exact(BE.2 b y.1).trans (Vt b o y.1 y.2 q)
  refine⟨.ref s.heap.objs.size,_,I.Xr (t':=Sm+1) (a:=s.heap.objs.size) (o:=.tup [.int i,xs[i]]) x kp (Aj _) ?_,rfl,⟨_,_,Am hi,rfl,I.AN.fresh (Aj _),rfl⟩,⟨⟨_,Qm⟩,?_⟩,λb f=>?_⟩
  .exact⟨(by show 2<=sizeLine;decide),[.int i Sm,v],.cons ⟨_,rfl⟩ (.cons Q .nil),⟨_,J,rfl,_,rfl⟩,λob q=>by rw[J]at q;cases q;rfl⟩
  .obtain⟨o,q,r⟩:=σ.1;exact⟨o,(BE.2 it (Bk LZ)).trans q,r⟩
  .have y:b<s.heap.objs.size:=by
    rcases List.mem_cons.mp f with z|z
    .rw[z];exact L
    .have M:b=it:=by simpa using z
     obtain⟨o,q,_⟩:=c;rw[M];exact B8 q
   rw[Ab (Cp y)];exact(x b f).1
 done:=by
  intro X F hw G D i Zn s O H E I x st C;subst F hw G;obtain⟨B,hx⟩:=C;obtain⟨⟨old,g⟩,c⟩:=st;obtain⟨A1,m,j,T⟩:=I.tuple B;have hl:=m.length;exact HT.oO (I.ok.hd D) g c j (by simp;omega) λh' Z=>⟨rfl,I.cU (t':=s.toks) x λb o f q=>Z b o (λz=>f (by simp[z])) q⟩
 self:=λ_ _ _ _ _ st h=>let ⟨⟨_,g⟩,_⟩:=st;nT g h
def T3(K:yo)(t:TA):TI:=λO H R=>t O H λvs H1=>∃a tp xs,vs=[.ref a]/\HZ K tp H1 a xs/\R (Y8 K tp a xs) H1
theorem x3{p1 p pos:Pos}{l:Expr}{t:TA}(w:Gl X "enumerate")(hm:X.mg "enumerate"=none)(f:QA X [l] t)(hs:starEach [l] X.env=[(false,eval l X.env)]:=by rfl):
  QI X (.Tuple es k1 p1) (.Call (.Name "enumerate" p) [l] [] pos) (T3 X.K t):=⟨by
 have f:=f.h;intro Zn s O H R I h;refine kN (LJ I w hm (show bootBuiltins "enumerate"=some (.type "enumerate") by decide +kernel) ?_ (by decide) (by decide));refine Wu (AJ (f pos Zn s O H _ I h) λus c⟨vs,H1,I1,n,o⟩=>?_) hs rfl;obtain⟨a,tp,xs,rfl,g,q⟩:=o;obtain⟨u,rfl,k⟩:=vals1 n;cases k;have i:c.heap.objs.size+1≠c.heap.objs.size:=Nat.succ_ne_self _;have fp:∀b∈[c.heap.objs.size+1,c.heap.objs.size],EB X Zn H1 b:=λb x=>by
  have y:c.heap.objs.size<=b:=by
   rcases List.mem_cons.mp x with z|z
   .rw[z];exact JY _
   .have j:b=c.heap.objs.size:=by simpa using z
    rw[j];exact Aj _
  exact I1.LW y (I1.AN.fresh y)
 cases tp with
 |false=>
  obtain⟨A1,m,p,r⟩:=I1.list g;refine call_enumerate_list p.isList λh' e d hsz kp=>nT e ?_;exact⟨c.heap.objs.size+1,[c.heap.objs.size+1,c.heap.objs.size],_,_,H1,rfl,I1.kept (t':=c.toks) kp,nq a _ _ xs i,⟨⟨_,e⟩,d⟩,fp,q⟩
 |true=>
  obtain⟨A1,m,v,r⟩:=I1.tuple g;refine HT.vm v λh' e d hsz kp=>nT e ?_;exact⟨c.heap.objs.size+1,[c.heap.objs.size+1,c.heap.objs.size],_,_,H1,rfl,I1.kept (t':=c.toks) kp,iO a _ _ xs i,⟨⟨_,e⟩,d⟩,fp,q⟩⟩
end
end L2
namespace MA
noncomputable def NS:Nat->Nat->List Nat
 | 0,n=>[97+n]
 |k+1,n=>if n<26 then[97+n]else(97+n % 26)::NS k (n / 26)
theorem K6:∀(k:Nat){n:Nat},n<26->NS k n=[97+n]
 | 0,_,_=>rfl
 |_+1,_,h=>hZ h
theorem ZC:∀(k j n:Nat),n<=k->n<=j->NS k n=NS j n
 | 0,j,n,h,_=>by rw[K6 0 (Lp h (by decide)),K6 j (Lp h (by decide))]
 |k+1,0,n,_,h=>by rw[K6 (k+1) (Lp h (by decide)),K6 0 (Lp h (by decide))]
 |k+1,j+1,n,h1,h2=>by
  by_cases c:n<26
  .rw[K6 _ c,K6 _ c]
  .have d:n / 26<n:=Nat.div_lt_self (DP (by decide) (xu c)) (by decide);show(if n<26 then _ else _)=(if n<26 then _ else _)
   rw[gp c,gp c,ZC k j (n / 26) (fZ (DP d h1)) (fZ (DP d h2))]
def lets(n:Nat):List Nat:=NS n n
noncomputable def vals:List Nat->Nat
 | []=>0
 |c::r=>(c - 97)+26 * vals r
theorem LO{n:Nat}(h:n<26):lets n=[97+n]:=K6 n h
theorem Mg{n:Nat}(h:¬ n<26):lets n=(97+n % 26)::lets (n / 26):=by
 cases n with
 |zero=>exact absurd (by decide) h
 |succ k=>
  have d:(k+1) / 26<k+1:=Nat.div_lt_self (Qk k) (by decide);show(if k+1<26 then _ else _)=_
  rw[gp h,ZC k ((k+1) / 26) ((k+1) / 26) (fZ d) (Aj _)];rfl
theorem Xi:∀n,vals (lets n)=n:=by
 intro n
 induction n using Nat.strongRecOn with
 |_ n a=>
  by_cases h:n<26
  .rw[LO h];simp[vals]
  .rw[Mg h];have:=a (n / 26) (by omega);simp only[vals,this];omega
theorem rW{a b:Nat}(h:lets a=lets b):a=b:=by rw[<- Xi a,h,Xi]
theorem W4(n:Nat):1<=(lets n).length:=by
 by_cases h:n<26
 .rw[LO h];simp
 .rw[Mg h];simp
theorem Nn:∀(k n:Nat),n<26 ^ (k+1)->(lets n).length<=k+1
 | 0,n,h=>by rw[LO (by simpa using h)];simp
 |k+1,n,h=>by
  by_cases h1:n<26
  .rw[LO h1];simp
  .rw[Mg h1];have:=Nn k (n / 26) (by rw[Nat.pow_succ]at h;exact Nat.div_lt_of_lt_mul (by rw[Nat.mul_comm];exact h));simp only[D1];omega
theorem jC:∀n,∀c∈lets n,97<=c/\c<=122:=by
 intro n
 induction n using Nat.strongRecOn with
 |_ n b=>
  by_cases h:n<26
  .rw[LO h];intro c a;simp at a;omega
  .rw[Mg h];intro c a;rcases List.mem_cons.mp a with e|e
   .omega
   .exact b (n / 26) (by omega) c e
theorem bJ{α:Type}[DecidableEq α]:∀(k:Nat)(f:Nat->α)(l:List α),(∀i j,i<k->j<k->f i=f j->i=j)->(∀i,i<k->f i∈l)->k<=l.length
 | 0,_,_,_,_=>CN _
 |k+1,f,l,hi,hm=>by
  have h1:=hm k (Qj k);have:=bJ k f (l.erase (f k)) (λi j a b e=>hi i j (by omega) (by omega) e) (λi a=>by
   have c:f i≠f k:=λe=>by have:=hi i k (by omega) (by omega) e;omega
   exact(List.mem_erase_of_ne c).mpr (hm i (by omega)))
  rw[List.length_erase_of_mem h1]at this;have d:=List.length_pos_of_mem h1;omega
end MA
namespace Lw
open L2
variable{a l p:Addr}{H H' H2:Hp}{xs:List V}{o:HO}{α:Type}{n:Nat}{i j r:Int}{ns:List Str}{x z:Str}
def Bd(H:Hp)(p:Addr):Prop:=∃a b:Int,H p=some (.lst [.int a,.int b])/\0<=a/\a<10 ^ 256/\0<=b/\b<2147483647
structure Bh (p:Addr) (H H':Hp):Prop where
 AO:Bd H' p
 same:G7 p H H'
theorem Bh.trans{H1:Hp}(a:Bh p H H1)(b:Bh p H1 H2):Bh p H H2:=⟨b.AO,a.same.trans b.same⟩
theorem Bh.of(h:Bd H p)(s:AI H H'):Bh p H H':=by
 obtain⟨a,b,e,r⟩:=h;exact⟨⟨a,b,s _ _ e,r⟩,G7.of s⟩
theorem Bh.MC{K:yo}(s:Bh p H H')(h:AS K H a xs)(B2:a≠p):AS K H' a xs:=by
 rcases h with(h|⟨o,h⟩)|h
 .exact .inl (.inl (s.same _ _ B2 h))
 .exact .inl (.inr ⟨o,s.same _ _ B2 h⟩)
 .exact .inr h
theorem Bh.at'(s:Bh p H H')(h:H a=some o)(B2:a≠p):H' a=some o:=s.same _ _ B2 h
theorem Lf{a:Int}(c:-(10 ^ 20)<a)(h1:a<10 ^ 20):a.natAbs<2 ^ 1000:=by
 have b:a.natAbs<10 ^ 20:=by omega
 exact fb b (by decide +kernel)
def Nk(K:yo):Sp:=λvs H Q _=>∃(a:Addr)(ns:List Int)(k:Int),vs=[.ref a,.int k]/\AS K H a (ns.map V.int)/\0<=k/\k<=1000/\∀p H',H p=none->AI H H'->Bd H' p->Q (.ref p) H'
def Je:Sp:=λvs H Q _=>∃(p:Addr)(m:Int),vs=[.ref p,.int m]/\Bd H p/\0<m/\m<10 ^ 18/\∀r H',0<=r->r<m->Bh p H H'->Q (.int r) H'
noncomputable def D7(l:List Nat):Str:=⟨l.toArray⟩
def d6:Sp:=λvs H Q _=>∃r:Int,vs=[.int r]/\0<=r/\r<26 ^ 8/\∀H',AI H H'->Q (.str (D7 (MA.lets r.toNat))) H'
theorem LG{xs:List α}{k:Int}{v:α}(b:0<=k)(h:xs[k.toNat]?=some v):BS xs k=some v:=by
 have a:k=((k.toNat:Nat):Int):=by omega
 have q:=CV h;rw[<- a]at q;exact q
noncomputable abbrev L9:Str:="abcdefghijklmnopqrstuvwxyz"
theorem oR:∀j,j<26->L9.cps.toList[j]?=some (97+j):=by decide +kernel
theorem c5{k:Int}(a:0<=k)(h1:k<26):BS L9.cps.toList k=some (97+k.toNat):=LG a (oR _ (by omega))
theorem dw(l:List Nat)(c:Nat):D7 l++(⟨#[c]⟩:Str)=D7 (l++[c]):=by
 show(⟨l.toArray++#[c]⟩:Str)=⟨(l++[c]).toArray⟩;simp
theorem Ph(l:List Nat):(D7 l).length=l.length:=by simp[D7,Str.length]
theorem dH{l:List Nat}:(V.str (D7 l)=V.str (Str.ofString ""))↔l=[]:=by
 constructor
 .intro h;injection h with h
  have h2:=jL (λx=>x.cps.toList) h;have e:(Str.ofString "").cps.toList=[]:=by decide +kernel
  rw[e]at h2
  simpa[D7]using h2
 .rintro rfl;rfl
theorem small(h:n<=100000):n<=sizeLine:=ES h (by decide +kernel)
theorem e6{k:Nat}{pre:List Nat}(h:pre++MA.lets k=MA.lets n):(0<k / 26->(pre++[97+k % 26])++MA.lets (k / 26)=MA.lets n)/\(k / 26=0->pre++[97+k % 26]=MA.lets n):=by
 constructor
 .intro h1;rw[MA.Mg (by omega)]at h;rw[<- h,BY];rfl
 .intro h1;have h2:k<26:=by omega
  rw[MA.LO h2]at h;rw[<- h,Nat.mod_eq_of_lt h2]
def Nm(x:Str):Prop:=1<=x.length/\x.length<=8/\∀c∈x.cps.toList,97<=c/\c<=122
instance (x:Str):Decidable (Nm x):=by unfold Nm;exact inferInstance
theorem HF(x:Str):x.length=x.cps.toList.length:=by simp[Str.length]
theorem Tw(h:n<26 ^ 8):Nm (D7 (MA.lets n)):=by
 refine⟨by rw[Ph];exact MA.W4 n,by rw[Ph];exact MA.Nn 7 n h,λc a=>MA.jC n c (by simpa[D7]using a)⟩
noncomputable def menu:List Str:=["put","take","none","ahead","all","over","next","a","ab","abc","abcdefgh","b","step"]
theorem gE:∀x∈menu,Nm x:=by decide +kernel
noncomputable def OF:List V:=[.str "put",.str "take",.str "none",.str "ahead",.str "all",.str "over",.str "next",.str "a",.str "ab",.str "abc",.str "abcdefgh",.str "b",.str "step"]
theorem vQ(a:0<=i)(h1:i<13):∃x,BS OF i=some (.str x)/\Nm x:=by
 have b:menu.length=13:=rfl;have hi:i.toNat<menu.length:=by omega
 have e:OF=menu.map V.str:=rfl;refine⟨menu[i.toNat],LG a ?_,gE _ (IT hi)⟩;rw[e,Aa,Am hi];rfl
theorem b7(a:0<=i)(h1:i<ns.length):∃x,BS (ns.map V.str) i=some (.str x)/\x∈ns/\ns[i.toNat]?=some x:=by
 have hi:i.toNat<ns.length:=by omega
 exact⟨ns[i.toNat],LG a (by rw[Aa,Am hi];rfl),IT hi,Am hi⟩
theorem Jp(ns:List Str):(ns.map V.str).all Dr=true:=by
 rw[Gm];intro x hx;obtain⟨y,_,rfl⟩:=List.mem_map.mp hx;rfl
theorem Vi(x:Str)(ns:List Str):Kg (.str x) (ns.map V.str)=decide (x∈ns):=by
 unfold Kg;rw[JQ,WS,kR];constructor
 .rintro⟨v,b,h⟩;obtain⟨y,a,rfl⟩:=List.mem_map.mp b;have h':(y == x)=true:=h;have:y=x:=by simpa using h'
  rw[<- this];exact a
 .intro h;exact⟨.str x,List.mem_map.mpr ⟨x,h,rfl⟩,by show(x == x)=true;simp⟩
theorem Z1(xs:List V):G9 xs []=decide (xs=[]):=by
 cases xs with
 |nil=>rfl
 |cons x r=>rw[KU (by simp)];simp
theorem rQ(z:Str){a b:Nat}{lo hi:Option Int}(Hw:a<=b)(c:b<=z.length)(e:Builtin.Str.strSliceIndices lo hi 1 z.length=Builtin.Str.strSliceIndices (some (a:Int)) (some (b:Int)) 1 z.length):
  (Txt.slice z lo hi).cps.toList=(z.cps.toList.drop a).take (b - a):=by
 have q:=StrLaws.sliced_plain z Hw c;rw[<- e]at q;unfold Txt.slice;split
 .rename_i h;have d:(Builtin.Str.strSliceIndices lo hi 1 z.length).length=z.length:=by simpa using h
  rw[e,StrLaws.strSliceIndices_plain Hw c,AF,Qh]at d;have h1:a=0:=by omega
  have h2:b=z.length:=by omega
  subst h1;subst h2;rw[NZ,Wk,HF,IV]
 .rw[<- q]
theorem jD(h:0<=j):max (0:Int) (min j (n:Int))=max 0 (min ((min j.toNat n:Nat):Int) (n:Int)):=by
 have e:((min j.toNat n:Nat):Int)=min j n:=by
  rcases Wf j.toNat n with c|c
  .rw[Wh c,fD h,Int.min_eq_left (by have:=Int.ofNat_le.mpr c;rw[fD h]at this;exact this)]
  .rw[Wj c,Int.min_eq_right (by have:=Int.ofNat_le.mpr c;rw[fD h]at this;exact this)]
 rw[e,Int.min_assoc,Int.min_self]
theorem uT(z:Str)(h:0<=j):(Txt.slice z none (some j)).cps.toList=z.cps.toList.take j.toNat:=by
 have e:=rQ z (a:=0) (b:=min j.toNat z.length) (lo:=none) (hi:=some j) (CN _) (xw _ _) (by
  have h1:¬ j<0:=by omega
  have h2:¬ (((min j.toNat z.length:Nat):Int)<0):=Int.not_lt.mpr (Int.natCast_nonneg _);have c:max (0:Int) (min j (z.length:Int))=max 0 (min ((min j.toNat z.length:Nat):Int) (z.length:Int)):=jD h;simp only[Builtin.Str.strSliceIndices,h1,h2,sj,c];rfl)
 rw[e,NZ,Wk];rcases Wf j.toNat z.length with h1|h1
 .rw[Wh h1]
 .rw[Wj h1,HF,IV,Qi (by rw[<- HF];exact h1)]
theorem bf(h:1<=j)(d:j<=8)(b:1<=z.length)(a:∀c∈z.cps.toList,97<=c/\c<=122):Nm (Txt.slice z none (some j)):=by
 have e:=uT z (j:=j) (by omega);refine⟨?_,?_,λc Hy=>a c ?_⟩
 .rw[HF,e,DO,<- HF];omega
 .rw[HF,e,DO];omega
 .rw[e]at Hy;exact Wc Hy
theorem YJ(x y:Str):(x++y).cps.toList=x.cps.toList++y.cps.toList:=by
 show(x.cps++y.cps).toList=_;simp
theorem Xz(x y:Str):(x++y).length=x.length+y.length:=by rw[HF,YJ,C5,<- HF,<- HF]
def ZX(K:yo):Sp:=λvs H Q _=>∃(p q:Addr)(ns:List Str),vs=[.ref p,.ref q]/\Bd H p/\H q=some (.lst (ns.map V.str))/\q≠p/\(∀x∈ns,Nm x)/\ns.length<=1000/\∀x H',Nm x->x∉ns->Bh p H H'->Q (.str x) H'
theorem pC{k:Nat}(h:∀j,j<k->D7 (MA.lets j)∈ns):k<=ns.length:=
 MA.bJ k (λj=>D7 (MA.lets j)) ns (λi j _ _ e=>MA.rW (by
  have:=jL (λx=>x.cps.toList) e
  simpa[D7]using this)) h
theorem xQ:1000<26 ^ 8:=by decide +kernel
theorem pV:(1000:Int)<26 ^ 8:=by decide +kernel
theorem gb:(26:Int) ^ (8:Int).toNat - 26<26 ^ 8:=by decide +kernel
theorem sL:(26:Int)<26 ^ 8:=by decide +kernel
theorem pF:(0:Int)<26 ^ (8:Int).toNat - 26:=by decide +kernel
theorem iF:(26:Int) ^ (8:Int).toNat - 26<10 ^ 18:=by decide +kernel
theorem X8(a:0<=r)(h:r<26 ^ 8):r.toNat<26 ^ 8:=by omega
theorem Bh.upd(s:Bh p H H2)(h:H l=none)(B2:l≠p):Bh p H (upd H2 l o):=by
 obtain⟨a,b,e,r⟩:=s.AO;refine⟨⟨a,b,by rw[Ab (Bk B2)];exact e,r⟩,λc u d q=>?_⟩;rw[Ab (DS q h)];exact s.same c u d q
theorem Bd.ne(h:Bd H p)(a:H l=none):l≠p:=by
 obtain⟨_,_,e,_⟩:=h;exact(DS e a).symm
theorem AI.none(s:AI H H2)(h:H2 l=none):H l=none:=by
 cases q:H l with
 |none=>rfl
 |some o=>rw[s l o q]at h;cases h
def VG:Sp:=λvs H Q _=>∃(p:Addr)(m:Int),vs=[.ref p,.int m]/\Bd H p/\0<=m/\m<=100/\
 ∀l H'(ns:List Str),H l=none->Bh p H H'->H' l=some (.lst (ns.map V.str))->(ns.length:Int)=m->(∀x∈ns,Nm x)->ns.Nodup->Q (.ref l) H'
theorem tW{l:List α}{x:α}(h:l.Nodup)(hx:x∉l):(l++[x]).Nodup:=by
 rw[BZ];exact⟨h,by simp,λa d b c=>by
  have:b=x:=by simpa using c
  subst this;rintro rfl;exact hx d⟩
noncomputable def PB(c:Nat):Bool:=!(Builtin.Str.occurrences L9 ⟨#[c]⟩ 0 L9.length 1).isEmpty
def isNm(x:Str):Bool:=decide ((1:Int)<=x.length) && (decide ((x.length:Int)<=8) && x.cps.toList.all PB)
def VB:Sp:=λvs H Q _=>∃x:Str,vs=[.str x]/\x.length<=1000/\∀H',AI H H'->Q (.bl (isNm x)) H'
theorem lu(l:List α):l.filter (λ_=>true)=l:=List.filter_eq_self.mpr λ_ _=>rfl
noncomputable def aA:V->V
 | .str y=>.bl (!(Builtin.Str.occurrences L9 y 0 L9.length 1).isEmpty)
 |_=>.bl false
theorem qu(x:Str):((Fq x).filter (λ_=>true)).map aA=(x.cps.toList.map PB).map V.bl:=by
 unfold Fq;rw[lu,CA,CA];rfl
theorem signs_get{i:Nat}{v:V}(h:(Fq x)[i]?=some v):∃c,v=.str ⟨#[c]⟩:=by
 unfold Fq at h;rw[Aa]at h;cases q:x.cps.toList[i]? with
 |none=>rw[q]at h;cases h
 |some c=>rw[q]at h;simp at h;exact⟨c,h.symm⟩
theorem all_map(f:α->Bool)(l:List α):(l.map f).all id=l.all f:=by rw[List.all_map];rfl
theorem jB(xs:List Str):G9 (xs.map V.str) (xs.map V.str)=true:=by
 rw[Jb rfl,Gm];intro j a;have b:j<xs.length:=by simpa using a
 have e:(xs.map V.str)[j]?=some (.str xs[j]):=by rw[Aa,Am b];rfl
 rw[J8 e];show(xs[j] == xs[j])=true;simp
theorem MH(K:yo)(t:String):PySem.W.kitOne K (.type t) (.type t)=some true:=by
 unfold PySem.W.kitOne;rw[hZ (by simp)]
def M5(K:yo):Sp:=λvs H Q _=>∃(a:Addr)(ns:List Int),vs=[.ref a]/\AS K H a (ns.map V.int)/\ns.length<=63/\∀H',Q (.bl true) H'
noncomputable def Eu(tp:Bool)(xs:List V):HO:=match tp with
 |false=>.lst xs
 |true=>.tup xs
theorem Eu.sq{K:yo}{tp:Bool}(h:H a=some (Eu tp xs)):HZ K tp H a xs:=by
 cases tp
 .exact AS.of h
 .exact Ao.of h
theorem DJ{c A B:Prop}[Decidable c](h:¬ c)(b:B):if c then A else B:=by rw[gp h];exact b
theorem qf:∀j,j<26->PB (97+j)=true:=by decide +kernel
theorem ja(h:Nm x):isNm x=true:=by
 obtain⟨h1,h2,f⟩:=h;unfold isNm;rw[iN (by omega),iN (by omega),fA,fA,Gm];intro c d;obtain⟨a,b⟩:=f c d;have:=qf (c - 97) (by omega);have e:97+(c - 97)=c:=by omega
 rw[e]at this;exact this
theorem sZ(K:yo):PySem.W.kitOne K (.type "int") (.type "bool")=some false:=by
 unfold PySem.W.kitOne;rw[gp (by decide)];with_unfolding_all rfl
end Lw
namespace Fz
open L2 Lw
variable{F F' H H':Hp}{v:V}{Bp vs:List V}{i i0 j:Nat}{t:TA}{a l:Addr}{r:List V->Hp->VK->Prop}{O τ:L2.St}{o:HO}{ta tc te:TE}{tb u:TS}{b neg tp:Bool}{f:Int->Int->Int}{n:String}{th tl:TO}{X:XK}{c tt:TT}{wi:TI}{A:List Addr}{Q:VK}
inductive PV where
 |AA|bl (b:Bool)|int (i:Int)|str (x:Str)|lst (xs:List PV)|tup (xs:List PV)
 |B1 (ks:List Key) (xs:List PV)|obj (C:Addr) (ns:List Str) (xs:List PV)|exc (C:Addr) (ns:List Str) (xs:List PV)|con (a:Addr) (xs:List PV)
variable{p:PV}{ps xs:List PV}
noncomputable def Od(a C:Addr)(dx:Option Addr):HO:=.ext λh=>∃ob vs,h.get? a=some ob/\ob.cls=.ref C/\ob.dict=dx/\ob.data=.fields vs
mutual
inductive Rep (F:Hp):V->PV->Prop where
 |AA:Rep F .AA .AA
 |bl (b:Bool):Rep F (.bl b) (.bl b)
 |int (i:Int):Rep F (.int i) (.int i)
 |str (x:Str):Rep F (.str x) (.str x)
 |lst {a:Addr}{vs:List V}{xs:List PV}:F a=some (.lst vs)->AG F vs xs->Rep F (.ref a) (.lst xs)
 |tup {a:Addr}{vs:List V}{xs:List PV}:F a=some (.tup vs)->AG F vs xs->Rep F (.ref a) (.tup xs)
 |B1 {a:Addr}{ks:List Key}{vs:List V}{xs:List PV}:F a=some (.dK (ks.zip vs))->ks.length=vs.length->AG F vs xs->Rep F (.ref a) (.B1 ks xs)
 |obj {a C dx:Addr}{ns:List Str}{vs:List V}{xs:List PV}:F a=some (.ins C dx (ns.zip vs))->F dx=some (.own a)->ns.length=vs.length->AG F vs xs->Rep F (.ref a) (.obj C ns xs)
 |con {a:Addr}{xs:List PV}:Rep F (.ref a) (.con a xs)
 |Q4 {a C:Addr}:F a=some (Od a C none)->Rep F (.ref a) (.exc C [] [])
 |exc {a C dx:Addr}{ns:List Str}{vs:List V}{xs:List PV}:F a=some (Od a C (some dx))->F dx=some (.xd (ns.zip vs))->ns.length=vs.length->AG F vs xs->Rep F (.ref a) (.exc C ns xs)
inductive AG (F:Hp):List V->List PV->Prop where
 |nil:AG F [] []
 |cons {v:V}{p:PV}{vs:List V}{ps:List PV}:Rep F v p->AG F vs ps->AG F (v::vs) (p::ps)
end
theorem Rep.mono(s:AI F F')(r:Rep F v p):Rep F' v p:=
 Rep.rec (motive_1:=λv p _=>Rep F' v p) (motive_2:=λvs ps _=>AG F' vs ps) .AA .bl .int .str (λh _ i=>.lst (s _ _ h) i) (λh _ i=>.tup (s _ _ h) i) (λh e _ i=>.B1 (s _ _ h) e i) (λh h2 e _ i=>.obj (s _ _ h) (s _ _ h2) e i) .con (λh=>.Q4 (s _ _ h)) (λh h2 e _ i=>.exc (s _ _ h) (s _ _ h2) e i) .nil (λ_ _ i k=>.cons i k) r
def pO(F:Hp)(v:V):PV->Prop
 | .AA=>v=.AA
 | .bl b=>v=.bl b
 | .int i=>v=.int i
 | .str x=>v=.str x
 | .lst xs=>∃a vs,v=.ref a/\F a=some (.lst vs)/\AG F vs xs
 | .tup xs=>∃a vs,v=.ref a/\F a=some (.tup vs)/\AG F vs xs
 | .B1 ks xs=>∃a vs,v=.ref a/\F a=some (.dK (ks.zip vs))/\ks.length=vs.length/\AG F vs xs
 | .obj C ns xs=>∃a dx vs,v=.ref a/\F a=some (.ins C dx (ns.zip vs))/\F dx=some (.own a)/\ns.length=vs.length/\AG F vs xs
 | .con a _=>v=.ref a
 | .exc C ns xs=>(∃a,v=.ref a/\F a=some (Od a C none)/\ns=[]/\xs=[])∨∃a dx vs,v=.ref a/\F a=some (Od a C (some dx))/\F dx=some (.xd (ns.zip vs))/\ns.length=vs.length/\AG F vs xs
theorem Rep.inv(r:Rep F v p):pO F v p:=by
 cases r with
 |lst h r=>exact⟨_,_,rfl,h,r⟩
 |tup h r=>exact⟨_,_,rfl,h,r⟩
 |B1 h l r=>exact⟨_,_,rfl,h,l,r⟩
 |obj h h2 l r=>exact⟨_,_,_,rfl,h,h2,l,r⟩
 |Q4 h=>exact .inl ⟨_,rfl,h,rfl,rfl⟩
 |exc h h2 l r=>exact .inr ⟨_,_,_,rfl,h,h2,l,r⟩
 |_=>exact rfl
theorem AG.inv(r:AG F vs (p::ps)):∃v ws,vs=v::ws/\Rep F v p/\AG F ws ps:=by
 cases r with
 |cons r t=>exact⟨_,_,rfl,r,t⟩
theorem AG.Ca(r:AG F vs []):vs=[]:=by
 cases r;rfl
theorem AG.mono(s:AI F F')(r:AG F vs ps):AG F' vs ps:=by
 induction ps generalizing vs with
 |nil=>cases r.Ca;exact .nil
 |cons p ps c=>obtain⟨v,ws,rfl,a,b⟩:=r.inv;exact .cons (a.mono s) (c b)
theorem AG.length{F:Hp}{vs:List V}{ps:List PV}(r:AG F vs ps):vs.length=ps.length:=by
 induction ps generalizing vs with
 |nil=>cases r.Ca;rfl
 |cons p ps c=>obtain⟨v,ws,rfl,a,b⟩:=r.inv;exact jL (· + 1) (c b)
theorem AG.get{F:Hp}{vs:List V}{ps:List PV}{i:Nat}{p:PV}(r:AG F vs ps)(e:ps[i]?=some p):∃v,vs[i]?=some v/\Rep F v p:=by
 induction ps generalizing vs i with
 |nil=>cases e
 |cons q ps c=>
  obtain⟨v,ws,rfl,a,b⟩:=r.inv;cases i with
  |zero=>cases e;exact⟨_,rfl,a⟩
  |succ i=>exact c (vs:=ws) (i:=i) b e
theorem AG.get'(r:AG F vs ps)(e:vs[i]?=some v):∃p,ps[i]?=some p/\Rep F v p:=by
 induction ps generalizing vs i with
 |nil=>cases r.Ca;cases e
 |cons q ps c=>
  obtain⟨u,ws,rfl,a,b⟩:=r.inv;cases i with
  |zero=>cases e;exact⟨_,rfl,a⟩
  |succ i=>exact c (vs:=ws) (i:=i) b e
theorem AG.append{F:Hp}{vs ws:List V}{ps c:List PV}(r:AG F vs ps)(s:AG F ws c):AG F (vs++ws) (ps++c):=by
 induction ps generalizing vs with
 |nil=>cases r.Ca;exact s
 |cons p ps d=>obtain⟨v,us,rfl,a,b⟩:=r.inv;exact .cons a (d b)
theorem AG.take(n:Nat)(r:AG F vs ps):AG F (vs.take n) (ps.take n):=by
 induction ps generalizing vs n with
 |nil=>cases r.Ca;rw[List.take_nil,List.take_nil];exact .nil
 |cons p ps c=>
  obtain⟨v,us,rfl,a,b⟩:=r.inv;cases n with
  |zero=>exact .nil
  |succ n=>exact .cons a (c n b)
theorem AG.drop(n:Nat)(r:AG F vs ps):AG F (vs.drop n) (ps.drop n):=by
 induction ps generalizing vs n with
 |nil=>cases r.Ca;rw[List.drop_nil,List.drop_nil];exact .nil
 |cons p ps c=>
  cases n with
  |zero=>exact r
  |succ n=>obtain⟨v,us,rfl,a,b⟩:=r.inv;exact c n b
theorem AG.one(r:Rep F v p):AG F [v] [p]:=.cons r .nil
noncomputable def flat:PV->Bool
 | .lst _=>false
 | .tup _=>false
 | .B1 _ _=>false
 | .obj _ _ _=>false
 | .exc _ _ _=>false
 | .con _ _=>false
 |_=>true
noncomputable def enc:PV->V
 | .bl b=>.bl b
 | .int i=>.int i
 | .str x=>.str x
 |_=>.AA
theorem Rep.enc(h:flat p=true)(r:Rep F v p):v=enc p:=by
 cases r <;> first|rfl|cases h
theorem vK(h:flat p=true):Rep F (enc p) p:=by
 cases p with
 |AA=>exact .AA
 |bl b=>exact .bl b
 |int i=>exact .int i
 |str x=>exact .str x
 |lst xs=>cases h
 |tup xs=>cases h
 |B1 ks xs=>cases h
 |obj C ns xs=>cases h
 |exc C ns xs=>cases h
 |con a xs=>cases h
theorem AG.enc(h:ps.all flat=true)(r:AG F vs ps):vs=ps.map enc:=by
 induction ps generalizing vs with
 |nil=>exact r.Ca
 |cons p ps c=>
  obtain⟨v,us,rfl,a,b⟩:=r.inv;rw[Qf,En]at h;rw[Ap,<- Rep.enc h.1 a,<- c h.2 b]
theorem Za(h:ps.all flat=true):AG F (ps.map enc) ps:=by
 induction ps with
 |nil=>exact .nil
 |cons p r a=>
  rw[Qf,En]at h;exact .cons (vK h.1) (a h.2)
theorem PJ(h:flat p=true):Dr (Fz.enc p)=true:=by cases p <;> first|rfl|cases h
theorem Vv(ns:List Str):(ns.map PV.str).all flat=true:=by
 rw[Gm];intro x hx;obtain⟨y,_,rfl⟩:=List.mem_map.mp hx;rfl
theorem xN(ns:List Int):(ns.map PV.int).all flat=true:=by
 rw[Gm];intro x hx;obtain⟨y,_,rfl⟩:=List.mem_map.mp hx;rfl
theorem gg(ns:List Bool):(ns.map PV.bl).all flat=true:=by
 rw[Gm];intro x hx;obtain⟨y,_,rfl⟩:=List.mem_map.mp hx;rfl
theorem S9(ns:List Str):(ns.map PV.str).map Fz.enc=ns.map V.str:=by rw[CA];rfl
theorem m7(ns:List Bool):(ns.map PV.bl).map Fz.enc=ns.map V.bl:=by rw[CA];rfl
theorem sO(ns:List Int):(ns.map PV.int).map Fz.enc=ns.map V.int:=by rw[CA];rfl
theorem AG.strs{ns:List Str}(r:AG F vs (ns.map PV.str)):vs=ns.map V.str:=(r.enc (Vv ns)).trans (S9 ns)
theorem mH(ns:List Str):AG F (ns.map V.str) (ns.map PV.str):=by rw[<- S9];exact Za (Vv ns)
theorem AG.Pk{ns:List Bool}(r:AG F vs (ns.map PV.bl)):vs=ns.map V.bl:=(r.enc (gg ns)).trans (m7 ns)
theorem AG.ints{ns:List Int}(r:AG F vs (ns.map PV.int)):vs=ns.map V.int:=(r.enc (xN ns)).trans (sO ns)
inductive NK where
 |lst|B1 (ks:List Key)|obj (C dx:Addr) (ns:List Str)
noncomputable def NK.ho:NK->List V->HO
 | .lst,vs=>.lst vs
 | .B1 ks,vs=>.dK (ks.zip vs)
 | .obj C dx ns,vs=>.ins C dx (ns.zip vs)
noncomputable def NK.more:NK->List Addr
 | .obj _ dx _=>[dx]
 |_=>[]
def NK.side(k:NK)(a:Addr)(H:Hp):Prop:=match k with
 | .obj _ dx _=>H dx=some (.own a)
 |_=>True
def NK.fit(k:NK)(n:Nat):Prop:=match k with
 | .B1 ks=>ks.length=n
 | .obj _ _ ns=>ns.length=n
 |_=>True
inductive OV where
 |fz (p:PV)
 |tp (xs:List OV)
 |nd (k:NK) (a:Addr) (xs:List OV)
variable{ts:List OV}
mutual
def OV.addrs:OV->List Addr
 | .fz _=>[]
 | .tp xs=>OV.AL xs
 | .nd k a xs=>a::(k.more++OV.AL xs)
def OV.AL:List OV->List Addr
 | []=>[]
 |x::r=>x.addrs++OV.AL r
end
mutual
def OV.pv:OV->PV
 | .fz p=>p
 | .tp xs=>.tup (OV.BH xs)
 | .nd .lst _ xs=>.lst (OV.BH xs)
 | .nd (.B1 ks) _ xs=>.B1 ks (OV.BH xs)
 | .nd (.obj C _ ns) _ xs=>.obj C ns (OV.BH xs)
def OV.BH:List OV->List PV
 | []=>[]
 |x::r=>x.pv::OV.BH r
end
mutual
inductive AZ (F H:Hp):V->OV->Prop where
 |fz {v:V}{p:PV}:Rep F v p->AZ F H v (.fz p)
 |tp {a:Addr}{vs:List V}{xs:List OV}:F a=some (.tup vs)->Ae F H vs xs->AZ F H (.ref a) (.tp xs)
 |nd {k:NK}{a:Addr}{vs:List V}{xs:List OV}:H a=some (k.ho vs)->k.side a H->k.fit vs.length->Ae F H vs xs->AZ F H (.ref a) (.nd k a xs)
inductive Ae (F H:Hp):List V->List OV->Prop where
 |nil:Ae F H [] []
 |cons {v:V}{t:OV}{vs:List V}{ts:List OV}:AZ F H v t->Ae F H vs ts->Ae F H (v::vs) (t::ts)
end
def p7(F H:Hp)(v:V):OV->Prop
 | .fz p=>Rep F v p
 | .tp xs=>∃a vs,v=.ref a/\F a=some (.tup vs)/\Ae F H vs xs
 | .nd k a xs=>∃vs,v=.ref a/\H a=some (k.ho vs)/\k.side a H/\k.fit vs.length/\Ae F H vs xs
theorem AZ.inv{t:OV}(r:AZ F H v t):p7 F H v t:=by
 cases r with
 |fz r=>exact r
 |tp h r=>exact⟨_,_,rfl,h,r⟩
 |nd h a b r=>exact⟨_,rfl,h,a,b,r⟩
theorem Ae.inv{t:OV}(r:Ae F H vs (t::ts)):∃v ws,vs=v::ws/\AZ F H v t/\Ae F H ws ts:=by
 cases r with
 |cons r t=>exact⟨_,_,rfl,r,t⟩
theorem Ae.Ca(r:Ae F H vs []):vs=[]:=by
 cases r;rfl
theorem OV.CZ{k:NK}{xs:List OV}:(OV.nd k a xs).addrs=a::(k.more++OV.AL xs):=by rw[OV.addrs]
theorem OV.Ee{xs:List OV}:(OV.tp xs).addrs=OV.AL xs:=by rw[OV.addrs]
theorem OV.D3:(OV.fz p).addrs=[]:=by rw[OV.addrs]
theorem OV.BN{x:OV}{r:List OV}:OV.AL (x::r)=x.addrs++OV.AL r:=by rw[OV.AL]
theorem OV.D8:OV.AL []=[]:=by rw[OV.AL]
theorem NK.XY{k:NK}(h:k.side a H)(s:∀b∈k.more,∀o,H b=some o->H' b=some o):k.side a H':=by
 cases k with
 |obj C dx ns=>exact s dx (by simp[NK.more]) _ h
 |_=>trivial
theorem AZ.mono(f:AI F F'){t:OV}(r:AZ F H v t):(∀a∈t.addrs,∀o,H a=some o->H' a=some o)->AZ F' H' v t:=
 AZ.rec (motive_1:=λv t _=>(∀a∈t.addrs,∀o,H a=some o->H' a=some o)->AZ F' H' v t) (motive_2:=λvs ts _=>(∀a∈OV.AL ts,∀o,H a=some o->H' a=some o)->Ae F' H' vs ts)
  (λr _=>.fz (r.mono f))
  (λh _ i s=>.tp (f _ _ h) (i (by rw[OV.Ee]at s;exact s)))
  (λh d g _ i s=>by
   rw[OV.CZ]at s;exact .nd (s _ D2 _ h) (NK.XY d λb e=>s b (CM _ (JV _ e))) g (i λa c=>s a (CM _ (Ep _ c))))
  (λ_=>.nil)
  (λ_ _ i k s=>by
   rw[OV.BN]at s;exact .cons (i λa c=>s a (JV _ c)) (k λa c=>s a (Ep _ c)))
  r
theorem Ae.mono(f:AI F F')(r:Ae F H vs ts)(s:∀a∈OV.AL ts,∀o,H a=some o->H' a=some o):Ae F' H' vs ts:=by
 induction ts generalizing vs with
 |nil=>cases r.Ca;exact .nil
 |cons p ps d=>
  obtain⟨v,ws,rfl,a,b⟩:=r.inv;rw[OV.BN]at s;exact .cons (a.mono f λa c=>s a (JV _ c)) (d b λa c=>s a (Ep _ c))
theorem AZ.there{t:OV}(r:AZ F H v t):∀a∈t.addrs,H a≠none:=
 AZ.rec (motive_1:=λv t _=>∀a∈t.addrs,H a≠none) (motive_2:=λvs ts _=>∀a∈OV.AL ts,H a≠none)
  (λ_ a c=>by rw[OV.D3]at c;cases c)
  (λ_ _ i a c=>i a (by rw[OV.Ee]at c;exact c))
  (λ{k b vs xs}h d f _ i a c=>by
   rw[OV.CZ,IU,HP]at c;rcases c with rfl|c|c
   .rw[h];exact λz=>by cases z
   .cases k with
    |obj C dx ns=>
     have e:a=dx:=List.mem_singleton.mp c;rw[e,show H dx=some (.own b)from d];exact λz=>by cases z
    |_=>cases c
   .exact i a c)
  (λa c=>by rw[OV.D8]at c;cases c)
  (λ_ _ i k a c=>by
   rw[OV.BN,HP]at c;exact c.elim (i a) (k a))
  r
theorem Ae.there(r:Ae F H vs ts):∀a∈OV.AL ts,H a≠none:=by
 induction ts generalizing vs with
 |nil=>intro a c;rw[OV.D8]at c;cases c
 |cons p ps d=>
  obtain⟨v,ws,rfl,x,b⟩:=r.inv;intro a c;rw[OV.BN,HP]at c;exact c.elim (x.there a) (d b a)
theorem Ae.length{F H:Hp}{vs:List V}{ts:List OV}(r:Ae F H vs ts):vs.length=ts.length:=by
 induction ts generalizing vs with
 |nil=>cases r.Ca;rfl
 |cons p ps c=>obtain⟨v,ws,rfl,a,b⟩:=r.inv;exact jL (· + 1) (c b)
inductive Slot where
 |any|is (p:PV)|own (xs:List PV)|AO|sq (tp:Bool) (xs:List PV)|raw (P:Hp->V->Prop)|ow (lt:Bool) (t:OV)
variable{ss:List Slot}{s:Slot}{JG nx:List Slot->Prop}
structure Ent0 where
 A:List Addr
 F0:Hp
 H0:Hp
 B:List Addr
variable{E:Ent0}
noncomputable abbrev E3(A:List Addr)(F H:Hp):Ent0:=⟨A,F,H,[]⟩
def Ok(E:Ent0)(F H:Hp):Slot->Option (Option V)->Prop
 | .any,_=>True
 | .is p,o=>∃v,o=some (some v)/\Rep F v p
 | .own xs,o=>∃l vs,o=some (some (.ref l))/\F l=none/\E.H0 l=none/\H l=some (.lst vs)/\AG F vs xs
 | .AO,o=>∃l,o=some (some (.ref l))/\F l=none/\(E.H0 l=none∨l∈E.A)/\Bd H l
 | .sq true xs,o=>∃v,o=some (some v)/\Rep F v (.tup xs)
 | .sq false xs,o=>∃l vs,o=some (some (.ref l))/\(l∉E.A/\l∉E.B)/\E.H0 l=some (.lst vs)/\AG F vs xs
 | .raw P,o=>∃v,o=some (some v)/\P F v/\∀F F',AI F F'->P F v->P F' v
 | .ow lt t,o=>∃v,o=some (some v)/\AZ F H v t/\t.addrs.Nodup/\∀a∈t.addrs,F a=none/\(E.H0 a=none∨(lt=true/\a∈E.B))
def B3:Slot->Option (Option V)->Addr->Prop
 | .own _,o,l=>o=some (some (.ref l))
 | .AO,o,l=>o=some (some (.ref l))
 | .ow _ t,_,l=>l∈t.addrs
 |_,_,_=>False
structure Fin (E:Ent0) (F H:Hp):Prop where
 fh:AI F H
 f0:AI E.F0 F
 keep:∀a o,(a∉E.A/\a∉E.B)->E.H0 a=some o->H a=some o
 fresh:∀a o,F a=some o->E.F0 a=some o∨E.H0 a=none
 HB:∀a,a∈E.A->Bd H a
 Mr:∀a,a∈E.A->F a=none
 a0:∀a,a∈E.A->E.H0 a≠none
 bF:∀a,a∈E.B->F a=none
 bH:∀a,a∈E.B->H a≠none
 b0:∀a,a∈E.B->E.H0 a≠none/\a∉E.A
structure Sg (E:Ent0) (ss:List Slot) (O:L2.St) (F H:Hp):Prop extends Fin E F H where
 len:ss.length=O.length
 ok:∀(i:Nat)s,ss[i]?=some s->Ok E F H s O[i]?
 BD:∀(i j:Nat)s u l,i≠j->ss[i]?=some s->ss[j]?=some u->B3 s O[i]? l->¬ B3 u O[j]? l
structure Ex where
 C:Addr
 ns:List Str
 xs:List PV
def Ex.at(x:Ex)(F:Hp)(C:Value)(dx:Option Addr):Prop:=
 C=.ref x.C/\((x.ns=[]/\x.xs=[]/\dx=none)∨∃a vs,dx=some a/\F a=some (.xd (x.ns.zip vs))/\x.ns.length=vs.length/\AG F vs x.xs)
class Xw where
 e:L2.St->XK
 J:List Slot->Prop
 D:Ex->Prop
structure Ent [Xw] extends Ent0 where
 hx:∀(ss:List Slot)(O:L2.St)(F H:Hp)(x:Ex)(C:Value)(dx:Option Addr),Xw.J ss->Sg toEnt0 ss O F H->Xw.D x->x.at F C dx->Xw.e O C dx H
instance [Xw]:CoeOut Ent Ent0:=⟨Ent.toEnt0⟩
noncomputable instance bw:Xw:=⟨λ_=>E0,λ_=>True,λ_=>False⟩
def Bo(ss:List Slot)(O:L2.St)(a:Addr):Prop:=∀i:Nat,ss[i]?=some .AO->O[i]?≠some (some (.ref a))
structure Mv (E:Ent0) (ss:List Slot) (O:L2.St) (F H F' H':Hp):Prop where
 st:Sg E ss O F' H'
 ff:AI F F'
 hh:∀a o,Bo ss O a->H a=some o->H' a=some o
 nn:∀a o,F' a=some o->F a=some o∨H a=none
theorem Sg.GZ(S:Sg E ss O F H)(h:H l=none):Bo ss O l:=λi hi e=>by
 obtain⟨c,b,_,_,_,_,a,_⟩:=S.ok i _ hi;rw[e]at b;cases b;rw[h]at a;cases a
theorem Mv.none(m:Mv E ss O F H F' H')(h:H' a=none):H a=none:=by
 cases e:H a with
 |none=>rfl
 |some o=>rw[m.hh a o (m.st.GZ h) e]at h;cases h
theorem Mv.refl{E:Ent0}{ss:List Slot}{O:L2.St}{F H:Hp}(S:Sg E ss O F H):Mv E ss O F H F H:=⟨S,AI.refl _,λ_ _ _ e=>e,λ_ _ e=>.inl e⟩
theorem Mv.trans{F1 H1 F2 H2:Hp}(a:Mv E ss O F H F1 H1)(b:Mv E ss O F1 H1 F2 H2):Mv E ss O F H F2 H2:=
 ⟨b.st,a.ff.trans b.ff,λc o n e=>b.hh c o n (a.hh c o n e),λc o e=>(b.nn c o e).elim (λe=>a.nn c o e) λe=>.inr (a.none e)⟩
theorem Sg.Cy(S:Sg E ss O F H){p:Addr}(h:H p=none):E.H0 p=none:=by
 cases e:E.H0 p with
 |none=>rfl
 |some o=>
  by_cases q:p∈E.A
  .obtain⟨_,_,b,_⟩:=S.HB p q;rw[h]at b;cases b
  .by_cases a:p∈E.B
   .exact absurd h (S.bH p a)
   .rw[S.keep p o ⟨q,a⟩ e]at h;cases h
theorem Sg.Bq(S:Sg E ss O F H){p:Addr}(h:H p=none):F p=none:=AI.none S.fh h
theorem Bd.keep(h:Bd H l)(k:∀o,H l=some o->H' l=some o):Bd H' l:=by
 obtain⟨a,b,e,r⟩:=h;exact⟨a,b,k _ e,r⟩
theorem Sg.eL(S:Sg E ss O F H)(h:F l=some o):Bo ss O l:=λi hi e=>by
 obtain⟨c,b,a,_⟩:=S.ok i _ hi;rw[e]at b;cases b;rw[h]at a;cases a
theorem Sg.Z6(S:Sg E ss O F H)(b:l∉E.A)(h:E.H0 l=some o):Bo ss O l:=λi hi e=>by
 obtain⟨c,a,_,q,_⟩:=S.ok i _ hi;rw[e]at a;cases a;rcases q with q|q
 .rw[h]at q;cases q
 .exact b q
theorem Sg.xJ(S:Sg E ss O F H)(h:l∈E.B):Bo ss O l:=λi hi e=>by
 obtain⟨d,a,_,q,_⟩:=S.ok i _ hi;rw[e]at a;cases a;obtain⟨c,b⟩:=S.b0 l h;rcases q with q|q
 .exact c q
 .exact b q
theorem Sg.DU(S:Sg E ss O F H)(h:ss[i]?=some s)(m:B3 s O[i]? l):H l≠none:=by
 have k:=S.ok i s h;cases s with
 |own xs=>obtain⟨c,vs,a,_,_,b,_⟩:=k;rw[show O[i]?=some (some (.ref l))from m]at a;cases a;rw[b];simp
 |AO=>obtain⟨c,a,_,_,_,_,b,_⟩:=k;rw[show O[i]?=some (some (.ref l))from m]at a;cases a;rw[b];simp
 |ow lt t=>obtain⟨v,_,r,_⟩:=k;exact r.there l m
 |_=>cases m
theorem Sg.gR(S:Sg E ss O F H)(h:ss[i]?=some s)(m:B3 s O[i]? l):F l=none:=by
 have k:=S.ok i s h;cases s with
 |own xs=>obtain⟨c,vs,a,b,_⟩:=k;rw[show O[i]?=some (some (.ref l))from m]at a;cases a;exact b
 |AO=>obtain⟨c,a,b,_⟩:=k;rw[show O[i]?=some (some (.ref l))from m]at a;cases a;exact b
 |ow lt t=>obtain⟨v,_,r,_,q⟩:=k;exact(q l m).1
 |_=>cases m
theorem Sg.II(S:Sg E ss O F H)(h:ss[i]?=some s)(a:H l=none):¬ B3 s O[i]? l:=λm=>S.DU h m a
theorem Sg.Jv(S:Sg E ss O F H)(h:ss[i]?=some s)(m:B3 s O[i]? l)(np:s≠.AO):Bo ss O l:=λj a b=>
 S.BD i j s _ l (by rintro rfl;rw[h]at a;exact np (B9 a)) h a m b
theorem Ok.go(S:Sg E ss O F H)(hi:ss[i]?=some s)(ff:AI F F')(f:∀a o,B3 s O[i]? a->H a=some o->H' a=some o)(Bq:∀a,H a≠none->F a=none->F' a=none)(np:s≠.AO):Ok E F' H' s O[i]?:=by
 have k:=S.ok i s hi;cases s with
 |any=>trivial
 |is p=>obtain⟨v,e,r⟩:=k;exact⟨v,e,r.mono ff⟩
 |own xs=>
  obtain⟨l,vs,e,d,c,g,r⟩:=k;exact⟨l,vs,e,Bq l (by rw[g];simp) d,c,f l _ e g,r.mono ff⟩
 |AO=>exact absurd rfl np
 |sq tp xs=>
  cases tp with
  |true=>obtain⟨v,e,r⟩:=k;exact⟨v,e,r.mono ff⟩
  |false=>obtain⟨l,vs,e,d,c,r⟩:=k;exact⟨l,vs,e,d,c,r.mono ff⟩
 |raw P=>obtain⟨v,e,r,st⟩:=k;exact⟨v,e,st _ _ ff r,st⟩
 |ow lt t=>
  obtain⟨v,e,r,nd,q⟩:=k;exact⟨v,e,r.mono ff λa b o=>f a o b,nd,λa b=>⟨Bq a (r.there a b) (q a b).1,(q a b).2⟩⟩
theorem Sg.step(S:Sg E ss O F H)(ff:AI F F')(fh:AI F' H')(c:∀a o,Bo ss O a->H a=some o->H' a=some o)(f:∀a o,F' a=some o->F a=some o∨H a=none)
  (h:∀(i:Nat)l,ss[i]?=some .AO->O[i]?=some (some (.ref l))->Bd H' l):Mv E ss O F H F' H':=by
 have Bq:∀a,H a≠none->F a=none->F' a=none:=λa h1 h2=>by
  cases e:F' a with
  |none=>rfl
  |some o=>
   rcases f a o e with q|q
   .rw[h2]at q;cases q
   .exact absurd q h1
 have r:∀a,Bd H a->Bo ss O a->Bd H' a:=λa p n=>Bd.keep p λo e=>c a o n e;refine⟨⟨⟨fh,S.f0.trans ff,λa o b e=>?_,λa o e=>?_,λa b=>?_,λa b=>?_,S.a0,λa d=>Bq a (S.bH a d) (S.bF a d),λa d=>?_,S.b0⟩,S.len,λi s hi=>?_,S.BD⟩,ff,c,f⟩
 .exact c a o (S.Z6 b.1 e) (S.keep a o b e)
 .rcases f a o e with q|q
  .exact S.fresh a o q
  .exact .inr (S.Cy q)
 .by_cases q:∃i:Nat,ss[i]?=some .AO/\O[i]?=some (some (.ref a))
  .obtain⟨i,k,j⟩:=q;exact h i a k j
  .exact r a (S.HB a b) λi h1 h2=>q ⟨i,h1,h2⟩
 .refine Bq a ?_ (S.Mr a b);obtain⟨_,_,g,_⟩:=S.HB a b;rw[g];simp
 .obtain⟨o,e⟩:=Option.ne_none_iff_exists'.mp (S.bH a d);rw[c a o (S.xJ d) e];simp
 .by_cases np:s=.AO
  .subst np;obtain⟨l,e,g,v,u⟩:=S.ok i _ hi;have w:=u;obtain⟨_,_,t,_⟩:=w;exact⟨l,e,Bq l (by rw[t];simp) g,v,h i l hi e⟩
  .exact Ok.go S hi ff (λa o m=>c a o (S.Jv hi m np)) Bq np
theorem Sg.FH(S:Sg E ss O F H)(hi:ss[i]?=some .AO)(e:O[i]?=some (some (.ref l))):Bd H l:=by
 obtain⟨b,a,_,_,p⟩:=S.ok i _ hi;rw[e]at a;cases a;exact p
theorem Sg.alloc(S:Sg E ss O F H){p:Addr}(h:H p=none)(o:HO):Mv E ss O F H (upd F p o) (upd H p o):=by
 refine S.step (DX (S.Bq h) _) (λa u e=>?_) (λa u _ e=>DX h o a u e) (λa u e=>?_) λi l hi e=>Bd.keep (S.FH hi e) λu e=>DX h o l u e
 .by_cases q:a=p
  .subst q;rw[Ay]at e ⊢;exact e
  .rw[Ab q]at e ⊢;exact S.fh a u e
 .by_cases q:a=p
  .subst q;exact .inr h
  .rw[Ab q]at e;exact .inl e
theorem Sg.make(S:Sg E ss O F H){p:Addr}(h:H p=none)(o:HO):Mv E ss O F H F (upd H p o):=
 S.step (AI.refl _) (S.fh.trans (DX h o)) (λa u _ e=>DX h o a u e) (λa u e=>.inl e) λi l hi e=>Bd.keep (S.FH hi e) λu e=>DX h o l u e
theorem Sg.grow(S:Sg E ss O F H)(s:AI H H'):Mv E ss O F H F H':=
 S.step (AI.refl _) (S.fh.trans s) (λa u _ e=>s a u e) (λa u e=>.inl e) λi l hi e=>Bd.keep (S.FH hi e) λu e=>s l u e
theorem Sg.setG(S:Sg E ss O F H)(AN:Ok E F H s (some (some v)))(f:∀l,B3 s (some (some v)) l->∀(i:Nat)u,i≠j->ss[i]?=some u->¬ B3 u O[i]? l):Sg E (ss.set j s) (O.set j (some v)) F H:=by
 refine⟨S.toFin,by rw[JT,JT];exact S.len,λi u hi=>?_,λi k u w l QD hi b d c=>?_⟩
 .by_cases q:i=j
  .subst q;have a:i<ss.length:=by have:=(List.getElem?_eq_some_iff.mp hi).1;simpa using this
   rw[DD a]at hi;cases hi;rw[DD (by rw[<- S.len];exact a)];exact AN
  .rw[Cb (Bk q)]at hi ⊢;exact S.ok i u hi
 .by_cases q:i=j
  .subst q;have a:i<ss.length:=by have:=(List.getElem?_eq_some_iff.mp hi).1;simpa using this
   rw[DD a]at hi;rw[DD (by rw[<- S.len];exact a)]at d;cases hi;rw[Cb QD]at b c;exact f l d k w (Bk QD) b c
  .rw[Cb (Bk q)]at hi d
   by_cases e:k=j
   .subst e;have a:k<ss.length:=by have:=(List.getElem?_eq_some_iff.mp b).1;simpa using this
    rw[DD a]at b;cases b;rw[DD (by rw[<- S.len];exact a)]at c;exact f l c i u QD hi d
   .rw[Cb (Bk e)]at b c;exact S.BD i k u w l QD hi b d c
theorem Sg.Ei(S:Sg E ss O F H)(r:Rep F v p):Sg E (ss.set j (.is p)) (O.set j (some v)) F H:=S.setG ⟨v,rfl,r⟩ λ_ h=>by cases h
def Sv(ss:List Slot)(O:L2.St)(F H:Hp)(v:V):Bool->List PV->Prop
 |true,xs=>Rep F v (.tup xs)
 |false,xs=>∃l vs,v=.ref l/\Bo ss O l/\H l=some (.lst vs)/\AG F vs xs
def Fv(E:Ent0)(F:Hp)(v:V):Bool->List PV->Prop
 |true,xs=>Rep F v (.tup xs)
 |false,xs=>∃l vs,v=.ref l/\(F l=some (.lst vs)∨((l∉E.A/\l∉E.B)/\E.H0 l=some (.lst vs)))/\AG F vs xs
structure Wp [Xw] (ss:List Slot) (t:TE) (k:PV->Prop):Prop where
 go:∀(E:Ent)(O:L2.St)(F H:Hp)(Q:VK),Sg E ss O F H->(∀v p F' H',Mv E ss O F H F' H'->Rep F' v p->k p->Q v H')->t O H Q
structure Wn [Xw] (ss:List Slot) (t:TE) (k:List PV->Prop):Prop where
 go:∀(E:Ent)(O:L2.St)(F H:Hp)(Q:VK),Sg E ss O F H->(∀l vs xs F' H',Mv E ss O F H F' H'->F' l=none->H l=none->H' l=some (.lst vs)->AG F' vs xs->k xs->Q (.ref l) H')->t O H Q
structure Wq [Xw] (ss:List Slot) (t:TE) (k:Bool->List PV->Prop):Prop where
 go:∀(E:Ent)(O:L2.St)(F H:Hp)(Q:VK),Sg E ss O F H->(∀v tp xs F' H',Mv E ss O F H F' H'->Sv ss O F' H' v tp xs->k tp xs->Q v H')->t O H Q
structure Wz [Xw] (ss:List Slot) (t:TE) (k:Bool->List PV->Prop):Prop where
 go:∀(E:Ent)(O:L2.St)(F H:Hp)(Q:VK),Sg E ss O F H->(∀v tp xs F' H',Mv E ss O F H F' H'->Fv E F' v tp xs->k tp xs->Q v H')->t O H Q
structure Wt [Xw] (ss:List Slot) (t:TT) (k:Bool->Prop):Prop where
 go:∀(E:Ent)(O:L2.St)(F H:Hp)(Q:Bool->Hp->Prop),Sg E ss O F H->(∀b F' H',Mv E ss O F H F' H'->k b->Q b H')->t O H Q
def Av(ss:List Slot)(O:L2.St)(F H:Hp)(v:V):Slot->Prop
 | .is p=>Rep F v p
 | .sq tp xs=>Sv ss O F H v tp xs
 | .raw P=>P F v/\∀F F',AI F F'->P F v->P F' v
 |_=>False
inductive FV (ss:List Slot) (O:L2.St) (F H:Hp):List V->List Slot->Prop where
 |nil:FV ss O F H [] []
 |cons {v:V}{s:Slot}{vs:List V}{l:List Slot}:Av ss O F H v s->FV ss O F H vs l->FV ss O F H (v::vs) (s::l)
structure Wa [Xw] (ss:List Slot) (t:TA) (k:List Slot->Prop):Prop where
 go:∀(E:Ent)(O:L2.St)(F H:Hp)(Q:List V->Hp->Prop),Sg E ss O F H->(∀vs l F' H',Mv E ss O F H F' H'->FV ss O F' H' vs l->k l->Q vs H')->t O H Q
inductive AX where
 |is (k:PV->Prop)|new (k:List PV->Prop)|AO|ow (k:OV->Prop)|mt (k:PV->OV->Prop)|jQ (k:PV->OV->OV->Prop)
noncomputable def OV.val:OV->V
 | .nd _ a _=>.ref a
 |_=>.AA
def AX.ok(R:AX)(E:Ent0)(F' H':Hp)(v:V):Prop:=match R with
 | .is k=>∃p,Rep F' v p/\k p
 | .new k=>∃l vs xs,v=.ref l/\F' l=none/\E.H0 l=none/\H' l=some (.lst vs)/\AG F' vs xs/\k xs
 | .AO=>∃l,v=.ref l/\F' l=none/\E.H0 l=none/\Bd H' l
 | .ow k=>∃t,AZ F' H' v t/\t.addrs.Nodup/\(∀a∈t.addrs,F' a=none/\E.H0 a=none)/\k t
 | .mt k=>∃p t,Rep F' v p/\AZ F' H' t.val t/\t.addrs.Nodup/\(∀a∈t.addrs,F' a=none/\(E.H0 a=none∨a∈E.B))/\k p t
 | .jQ k=>∃p t u,Rep F' v p/\AZ F' H' t.val t/\AZ F' H' u.val u/\(t.addrs++u.addrs).Nodup/\(∀a∈t.addrs++u.addrs,F' a=none/\(E.H0 a=none∨a∈E.B))/\k p t u
structure Ws [Xw] (ss:List Slot) (t:TS) (nx:List Slot->Prop) (R:AX):Prop where
 go:∀(E:Ent)(D:Ends)(O:L2.St)(F H:Hp),Sg E ss O F H->(∀A7 σ' F' H',nx A7->Sg E A7 σ' F' H'->AI F F'->D.nx σ' H')->(∀v F' H',Fin E F' H'->R.ok E F' H' v->D.rt v H')->t D O H
section
variable[Xw]
variable{K:yo}{tb:TE}{k:PV->Prop}{R:AX}
theorem Sv.mv(h:Sv ss O F H v tp xs)(m:Mv E ss O F H F' H'):Sv ss O F' H' v tp xs:=by
 cases tp with
 |true=>exact Rep.mono m.ff h
 |false=>
  obtain⟨l,vs,e,n,r,q⟩:=h;exact⟨l,vs,e,n,m.hh l _ n r,q.mono m.ff⟩
theorem Sv.seq(S:Sg E ss O F H)(h:Sv ss O F H v tp xs):∃l vs,v=.ref l/\H l=some (Eu tp vs)/\AG F vs xs:=by
 cases tp with
 |true=>cases h with|tup e r=>exact⟨_,_,rfl,S.fh _ _ e,r⟩
 |false=>obtain⟨l,vs,e,_,r,q⟩:=h;exact⟨l,vs,e,r,q⟩
theorem Fv.sv(S:Sg E ss O F H)(h:Fv E F v tp xs):Sv ss O F H v tp xs:=by
 cases tp with
 |true=>exact h
 |false=>
  obtain⟨l,vs,e,h1|⟨a,h1⟩,r⟩:=h
  .exact⟨l,vs,e,S.eL h1,S.fh _ _ h1,r⟩
  .exact⟨l,vs,e,S.Z6 a.1 h1,S.keep _ _ a h1,r⟩
theorem Wp.mono{a:PV->Prop}(h:Wp ss te k)(i:∀p,k p->a p):Wp ss te a:=⟨λE O F H Q S q=>h.go E O F H Q S λv p F' H' m r kk=>q v p F' H' m r (i p kk)⟩
theorem A9(h:ss[i]?=some (.is p))(b:k p):Wp ss (BF i) k:=⟨λE O F H Q S q=>by
 obtain⟨v,a,r⟩:=S.ok i _ h;exact⟨v,a,q v p F H (.refl S) r b⟩⟩
theorem Ac{i:Int}(a:k (.int i)):Wp ss (tC (.int i)) k:=⟨λE O F H Q S q=>q _ _ F H (.refl S) (.int i) a⟩
theorem Eb{x:Str}(a:k (.str x)):Wp ss (tC (.str x)) k:=⟨λE O F H Q S q=>q _ _ F H (.refl S) (.str x) a⟩
theorem IB(a:k (.bl b)):Wp ss (tC (.bl b)) k:=⟨λE O F H Q S q=>q _ _ F H (.refl S) (.bl b) a⟩
theorem Dm(h:Wn ss te (λxs=>k (.lst xs))):Wp ss te k:=⟨λE O F H Q S q=>h.go E O F H Q S λl vs xs F' H' m c f GF r kk=>by
 have b:=m.st;have A:Mv E ss O F H (upd F' l (.lst vs)) H':=by
  have B:∀a,H' a≠none->a≠l->F' a=none->upd F' l (.lst vs) a=none:=λa _ h1 h2=>by rw[Ab h1];exact h2
  refine⟨⟨⟨λa u e=>?_,b.f0.trans (DX c _),b.keep,λa u e=>?_,b.HB,λa z=>?_,b.a0,λa y=>?_,b.bH,b.b0⟩,b.len,λi s hi=>?_,b.BD⟩,m.ff.trans (DX c _),m.hh,λa u e=>?_⟩
  .by_cases q:a=l
   .subst q;rw[Ay]at e;rw[<- e];exact GF
   .rw[Ab q]at e;exact b.fh a u e
  .by_cases q:a=l
   .subst q;exact .inr (S.Cy f)
   .rw[Ab q]at e;exact b.fresh a u e
  .by_cases q:a=l
   .subst q;obtain⟨_,_,e,_⟩:=S.HB _ z;rw[f]at e;cases e
   .rw[Ab q];exact b.Mr a z
  .by_cases q:a=l
   .subst q;exact absurd f (S.bH _ y)
   .rw[Ab q];exact b.bF a y
  .have x:∀a,B3 s O[i]? a->a≠l:=by
    rintro a m rfl;exact S.II hi f m
   have kk:=b.ok i s hi;cases s with
   |any=>trivial
   |is p=>obtain⟨v,e,r⟩:=kk;exact⟨v,e,r.mono (DX c _)⟩
   |own ys=>
    obtain⟨d,ws,e,j,g,w,r⟩:=kk;exact⟨d,ws,e,by rw[Ab (x d e)];exact j,g,w,r.mono (DX c _)⟩
   |AO=>
    obtain⟨d,e,j,g,w⟩:=kk;exact⟨d,e,by rw[Ab (x d e)];exact j,g,w⟩
   |sq tp ys=>
    cases tp with
    |true=>obtain⟨v,e,r⟩:=kk;exact⟨v,e,r.mono (DX c _)⟩
    |false=>obtain⟨d,ws,e,j,g,r⟩:=kk;exact⟨d,ws,e,j,g,r.mono (DX c _)⟩
   |raw P=>obtain⟨v,e,r,st⟩:=kk;exact⟨v,e,st _ _ (DX c _) r,st⟩
   |ow lt t=>
    obtain⟨v,e,r,nd,q⟩:=kk;exact⟨v,e,r.mono (DX c _) λa _ o h=>h,nd,λa n=>⟨by rw[Ab (x a n)];exact(q a n).1,(q a n).2⟩⟩
  .by_cases q:a=l
   .subst q;exact .inr f
   .rw[Ab q]at e;exact m.nn a u e
 exact q _ _ _ _ A (.lst Ay (r.mono (DX c _))) kk⟩
theorem BO{k:Bool->List PV->Prop}(h:Wp ss te (λp=>∃xs,(p=.lst xs/\k false xs)∨(p=.tup xs/\k true xs))):Wq ss te k:=⟨λE O F H Q S q=>h.go E O F H Q S λv p F' H' m r AE=>by
 obtain⟨xs,h⟩:=AE;rcases h with⟨rfl,kk⟩|⟨rfl,kk⟩
 .cases r with|lst h r=>exact q _ false xs F' H' m ⟨_,_,rfl,m.st.eL h,m.st.fh _ _ h,r⟩ kk
 .exact q v true xs F' H' m r kk⟩
theorem G1{k:Bool->List PV->Prop}(h:ss[i]?=some (.is (.lst xs)))(a:k false xs):Wq ss (BF i) k:=BO (A9 h ⟨xs,.inl ⟨rfl,a⟩⟩)
theorem C2{k:Bool->List PV->Prop}(h:ss[i]?=some (.is (.tup xs)))(a:k true xs):Wq ss (BF i) k:=BO (A9 h ⟨xs,.inr ⟨rfl,a⟩⟩)
theorem Yw{k:Bool->List PV->Prop}(h:ss[i]?=some (.own xs))(a:k false xs):Wq ss (BF i) k:=⟨λE O F H Q S q=>by
 obtain⟨l,vs,e,d,c,b,r⟩:=S.ok i _ h;exact⟨_,e,q _ false xs F H (.refl S) ⟨l,vs,rfl,S.Jv h e (by simp),b,r⟩ a⟩⟩
theorem Yq{k:Bool->List PV->Prop}(h:ss[i]?=some (.sq tp xs))(a:k tp xs):Wz ss (BF i) k:=⟨λE O F H Q S q=>by
 have kk:=S.ok i _ h;cases tp with
 |true=>obtain⟨v,e,r⟩:=kk;exact⟨_,e,q _ true xs F H (.refl S) r a⟩
 |false=>
  obtain⟨l,vs,e,b,c,r⟩:=kk;exact⟨_,e,q _ false xs F H (.refl S) ⟨l,vs,rfl,.inr ⟨b,c⟩,r⟩ a⟩⟩
theorem FY{k:Bool->List PV->Prop}(h:Wp ss te (λp=>∃xs,(p=.lst xs/\k false xs)∨(p=.tup xs/\k true xs))):Wz ss te k:=⟨λE O F H Q S q=>h.go E O F H Q S λv p F' H' m r AE=>by
 obtain⟨xs,h⟩:=AE;rcases h with⟨rfl,kk⟩|⟨rfl,kk⟩
 .cases r with|lst h r=>exact q _ false xs F' H' m ⟨_,_,rfl,.inl h,r⟩ kk
 .exact q _ true xs F' H' m r kk⟩
theorem RX{k:Bool->List PV->Prop}(h:Wz ss te k):Wq ss te k:=⟨λE O F H Q S q=>h.go E O F H Q S λv tp xs F' H' m f kk=>q v tp xs F' H' m (f.sv m.st) kk⟩
theorem Yg{k:Bool->List PV->Prop}(h:ss[i]?=some (.sq tp xs))(a:k tp xs):Wq ss (BF i) k:=RX (Yq h a)
theorem gi{C:Int->Int->Prop}(h:Wp ss ta λx=>∃i,x=.int i/\Wp ss tb λy=>∃j,y=.int j/\C i j/\k (.int (f i j))):Wp ss (BB (rI C λi j=>.int (f i j)) ta tb) k:=⟨λE O F H Q S q=>
 h.go E O F H _ S λv p F1 H1 a d AE=>by
  obtain⟨i,l,h2⟩:=AE;subst l;cases d.inv;exact h2.go E O F1 H1 _ a.st λm p2 F2 H2 e b C9=>by
   obtain⟨j,g,c,kk⟩:=C9;subst g;cases b.inv;exact⟨i,j,rfl,rfl,c,q _ _ F2 H2 (a.trans e) (.int _) kk⟩⟩
theorem Hd(h:Wp ss ta λx=>∃i,x=.int i/\Wp ss tb λy=>∃j,y=.int j/\k (.int (f i j))):Wp ss (BB (G5 λi j=>.int (f i j)) ta tb) k:=⟨λE O F H Q S q=>
 h.go E O F H _ S λv p F1 H1 a c AE=>by
  obtain⟨i,g,h2⟩:=AE;subst g;cases c.inv;exact h2.go E O F1 H1 _ a.st λl p2 F2 H2 d b C9=>by
   obtain⟨j,e,kk⟩:=C9;subst e;cases b.inv;exact⟨i,j,rfl,rfl,q _ _ F2 H2 (a.trans d) (.int _) kk⟩⟩
theorem XC{f:Int->Int->Bool}(h:Wp ss ta λx=>∃i,x=.int i/\Wp ss tb λy=>∃j,y=.int j/\k (.bl (f i j))):Wp ss (BB (G5 λi j=>.bl (f i j)) ta tb) k:=⟨λE O F H Q S q=>
 h.go E O F H _ S λv p F1 H1 a c AE=>by
  obtain⟨i,g,h2⟩:=AE;subst g;cases c.inv;exact h2.go E O F1 H1 _ a.st λl p2 F2 H2 d b C9=>by
   obtain⟨j,e,kk⟩:=C9;subst e;cases b.inv;exact⟨i,j,rfl,rfl,q _ _ F2 H2 (a.trans d) (.bl _) kk⟩⟩
noncomputable def alike:PV->PV->Bool
 | .int i,.int j=>decide (i=j)
 | .str i,.str j=>decide (i=j)
 | .bl i,.bl j=>decide (i=j)
 | .AA,.AA=>true
 |_,_=>false
def LQ(p q:PV):Bool:=flat p && flat q && WL (Fz.enc p) (Fz.enc q)
theorem bb{q:PV}(h:LQ p q=true):decide (Fz.enc p=Fz.enc q)=alike p q:=by
 unfold LQ at h;rw[En,En]at h;obtain⟨⟨h1,h2⟩,a⟩:=h;cases p <;> first|exact Bool.noConfusion h1|skip
 all_goals cases q <;> first|exact Bool.noConfusion h2|exact Bool.noConfusion a|rfl|exact decide_eq_decide.mpr ⟨λe=>by injection e,jL _⟩
theorem FQ(h:Wp ss ta λx=>Wp ss tb λy=>LQ x y=true/\k (.bl (alike x y))):Wp ss (BB dm ta tb) k:=⟨λE O F H Q S q=>
 h.go E O F H _ S λv p F1 H1 a c h2=>h2.go E O F1 H1 _ a.st λf p2 F2 H2 d b AE=>by
  obtain⟨sc,kk⟩:=AE;have e:=sc;unfold LQ at sc;rw[En,En]at sc;rw[c.enc sc.1.1,b.enc sc.1.2];refine⟨sc.2,?_⟩;rw[bb e];exact q _ _ F2 H2 (a.trans d) (.bl _) kk⟩
theorem Pj(h:Wp ss ta λx=>Wp ss tb λy=>LQ x y=true/\k (.bl (!alike x y))):Wp ss (BB ZO ta tb) k:=⟨λE O F H Q S q=>
 h.go E O F H _ S λv p F1 H1 a c h2=>h2.go E O F1 H1 _ a.st λf p2 F2 H2 d b AE=>by
  obtain⟨sc,kk⟩:=AE;have e:=sc;unfold LQ at sc;rw[En,En]at sc;rw[c.enc sc.1.1,b.enc sc.1.2];refine⟨sc.2,?_⟩;rw[bb e];exact q _ _ F2 H2 (a.trans d) (.bl _) kk⟩
theorem TJ(h:Wp ss ta λx=>∃c,x=.bl c/\if c=true then Wp ss tb k else k (.bl false)):Wp ss (VN ta tb) k:=⟨λE O F H Q S q=>
 h.go E O F H _ S λv p F1 H1 a d AE=>by
  obtain⟨c,e,h2⟩:=AE;subst e;cases d.inv;refine⟨c,rfl,?_⟩;cases c with
  |true=>rw[hZ rfl]at h2 ⊢;exact h2.go E O F1 H1 _ a.st λg p2 F2 H2 f b kk=>q _ _ F2 H2 (a.trans f) b kk
  |false=>rw[gp (by decide)]at h2 ⊢;exact q _ _ F1 H1 a (.bl _) h2⟩
theorem TL(h:Wp ss ta λx=>∃c,x=.bl c/\if c=true then k (.bl true)else Wp ss tb k):Wp ss (T6 ta tb) k:=⟨λE O F H Q S q=>
 h.go E O F H _ S λv p F1 H1 a d AE=>by
  obtain⟨c,e,h2⟩:=AE;subst e;cases d.inv;refine⟨c,rfl,?_⟩;cases c with
  |true=>rw[hZ rfl]at h2 ⊢;exact q _ _ F1 H1 a (.bl _) h2
  |false=>rw[gp (by decide)]at h2 ⊢;exact h2.go E O F1 H1 _ a.st λg p2 F2 H2 f b kk=>q _ _ F2 H2 (a.trans f) b kk⟩
theorem PL(h:Wp ss ta λx=>∃c,x=.bl c/\k (.bl (!c))):Wp ss (Qp ta) k:=⟨λE O F H Q S q=>
 h.go E O F H _ S λv p F1 H1 b a AE=>by obtain⟨c,e,kk⟩:=AE;subst e;cases a.inv;exact⟨c,rfl,q _ _ F1 H1 b (.bl _) kk⟩⟩
theorem gN{t:TT}(h:Wt ss t λc=>if c=true then Wp ss ta k else Wp ss tb k):Wp ss (Qy t ta tb) k:=⟨λE O F H Q S q=>
 h.go E O F H _ S λc F1 H1 a h2=>by
  show if c=true then _ else _
  cases c with
  |true=>rw[hZ rfl]at h2 ⊢;exact h2.go E O F1 H1 _ a.st λe p2 F2 H2 d b kk=>q _ _ F2 H2 (a.trans d) b kk
  |false=>rw[gp (by decide)]at h2 ⊢;exact h2.go E O F1 H1 _ a.st λe p2 F2 H2 d b kk=>q _ _ F2 H2 (a.trans d) b kk⟩
theorem wC{f g:Int->Int->Bool}(h:Wp ss ta λx=>∃i,x=.int i/\Wp ss tb λy=>∃j,y=.int j/\if f i j=true then Wp ss tc (λz=>∃l,z=.int l/\k (.bl (g j l)))else k (.bl false)):
  Wp ss (N2 (G5 λi j=>.bl (f i j)) (G5 λi j=>.bl (g i j)) ta tb tc) k:=⟨λE O F H Q S q=>
 h.go E O F H _ S λv p F1 H1 d n AE=>by
  obtain⟨i,t,h2⟩:=AE;subst t;cases n.inv;exact h2.go E O F1 H1 _ d.st λw p2 F2 H2 b m C9=>by
   obtain⟨j,s,a⟩:=C9;subst s;cases m.inv;refine⟨i,j,rfl,rfl,f i j,rfl,?_⟩;cases c:f i j with
   |true=>
    rw[c,hZ rfl]at a;rw[hZ rfl];exact a.go E O F2 H2 _ b.st λu p3 F3 H3 o e NI=>by
     obtain⟨l,r,kk⟩:=NI;subst r;cases e.inv;exact⟨j,l,rfl,rfl,q _ _ F3 H3 (d.trans (b.trans o)) (.bl _) kk⟩
   |false=>
    rw[c,gp (by decide)]at a;rw[gp (by decide)];exact q _ _ F2 H2 (d.trans b) (.bl _) a⟩
theorem Dx{k:Bool->Prop}(h:Wp ss te λx=>∃c,x=.bl c/\k c):Wt ss (LN te) k:=⟨λE O F H Q S q=>
 h.go E O F H _ S λv p F1 H1 b a AE=>by obtain⟨c,e,kk⟩:=AE;subst e;cases a.inv;exact⟨c,rfl,q _ F1 H1 b kk⟩⟩
theorem FG{k:Bool->Prop}(h:Wp ss te λx=>∃c,x=.bl c/\k c):Wt ss (tB te) k:=⟨λE O F H Q S q=>
 h.go E O F H _ S λv p F1 H1 b a AE=>by obtain⟨c,e,kk⟩:=AE;subst e;cases a.inv;exact⟨c,rfl,q _ F1 H1 b kk⟩⟩
theorem G0{k:Bool->Prop}(h:k true):Wt ss U6 k:=⟨λE O F H Q S q=>q _ F H (.refl S) h⟩
theorem L7{t:TT}{k:Bool->Prop}(h:Wt ss t λc=>k (!c)):Wt ss (Oa t) k:=⟨λE O F H Q S q=>h.go E O F H _ S λc F1 H1 a kk=>q _ F1 H1 a kk⟩
theorem WA{t u:TT}{k:Bool->Prop}(h:Wt ss t λc=>if c=true then Wt ss u k else k false):Wt ss (RG t u) k:=⟨λE O F H Q S q=>
 h.go E O F H _ S λc F1 H1 a h2=>by
  show if c=true then _ else _
  cases c with
  |true=>rw[hZ rfl]at h2 ⊢;exact h2.go E O F1 H1 _ a.st λd F2 H2 b kk=>q _ F2 H2 (a.trans b) kk
  |false=>rw[gp (by decide)]at h2 ⊢;exact q _ F1 H1 a h2⟩
theorem Kz{t u:TT}{k:Bool->Prop}(h:Wt ss t λc=>if c=true then k true else Wt ss u k):Wt ss (OH t u) k:=⟨λE O F H Q S q=>
 h.go E O F H _ S λc F1 H1 a h2=>by
  show if c=true then _ else _
  cases c with
  |true=>rw[hZ rfl]at h2 ⊢;exact q _ F1 H1 a h2
  |false=>rw[gp (by decide)]at h2 ⊢;exact h2.go E O F1 H1 _ a.st λd F2 H2 b kk=>q _ F2 H2 (a.trans b) kk⟩
end
structure We [Xw] (ss:List Slot) (t:TA) (k:List PV->Prop):Prop where
 go:∀(E:Ent)(O:L2.St)(F H:Hp)(Q:List V->Hp->Prop),Sg E ss O F H->(∀vs ps F' H',Mv E ss O F H F' H'->AG F' vs ps->k ps->Q vs H')->t O H Q
structure Wo [Xw] (ss:List Slot) (t:TO) (k:Option Int->Prop):Prop where
 go:∀(E:Ent)(O:L2.St)(F H:Hp)(Q:Option Int->Hp->Prop),Sg E ss O F H->(∀o F' H',Mv E ss O F H F' H'->k o->Q o H')->t O H Q
section
variable[Xw]
variable{K:yo}{tb:TE}{k:PV->Prop}{R:AX}
theorem DQ{k:List PV->Prop}(h:k []):We ss BW k:=⟨λE O F H Q S q=>q _ _ F H (.refl S) .nil h⟩
theorem Bg{k:List PV->Prop}(h:Wp ss te λp=>We ss t λps=>k (p::ps)):We ss (Au te t) k:=⟨λE O F H Q S q=>
 h.go E O F H _ S λv p F1 H1 b d h2=>h2.go E O F1 H1 _ b.st λvs ps F2 H2 a c kk=>q _ _ F2 H2 (b.trans a) (.cons (d.mono a.ff) c) kk⟩
theorem Ce{k:List Slot->Prop}(h:k []):Wa ss BW k:=⟨λE O F H Q S q=>q _ _ F H (.refl S) .nil h⟩
theorem BM{k:List Slot->Prop}(h:Wp ss te λp=>Wa ss t λl=>k (.is p::l)):Wa ss (Au te t) k:=⟨λE O F H Q S q=>
 h.go E O F H _ S λv p F1 H1 b d h2=>h2.go E O F1 H1 _ b.st λvs l F2 H2 a c kk=>q _ _ F2 H2 (b.trans a) (.cons (s:=.is p) (d.mono a.ff) c) kk⟩
theorem Zi{k:List Slot->Prop}(h:Wq ss te λtp xs=>Wa ss t λl=>k (.sq tp xs::l)):Wa ss (Au te t) k:=⟨λE O F H Q S q=>
 h.go E O F H _ S λv tp xs F1 H1 b d h2=>h2.go E O F1 H1 _ b.st λvs l F2 H2 a c kk=>q _ _ F2 H2 (b.trans a) (.cons (s:=.sq tp xs) (d.mv a) c) kk⟩
theorem bh{k:List Slot->Prop}{P:Hp->V->Prop}(hi:ss[i]?=some (.raw P))(h:Wa ss t λl=>k (.raw P::l)):Wa ss (Au (BF i) t) k:=⟨λE O F H Q S q=>by
 obtain⟨v,e,r,st⟩:=S.ok i _ hi;exact⟨v,e,h.go E O F H _ S λvs l F2 H2 a b kk=>q _ _ F2 H2 a (.cons (s:=.raw P) ⟨st _ _ a.ff r,st⟩ b) kk⟩⟩
theorem oK{k:Option Int->Prop}(h:k none):Wo ss Ud k:=⟨λE O F H Q S q=>q _ F H (.refl S) h⟩
theorem qI{k:Option Int->Prop}(h:Wp ss te λp=>∃i,p=.int i/\k (some i)):Wo ss (Vs te) k:=⟨λE O F H Q S q=>
 h.go E O F H _ S λv p F1 H1 b a AE=>by obtain⟨i,e,kk⟩:=AE;subst e;cases a.inv;exact⟨i,rfl,q _ F1 H1 b kk⟩⟩
theorem Fp{n:Nat}(h:n<=99999):n<sizeLine:=DP (Nat.lt_succ_of_le h) (small (Aj 100000))
theorem HA(h:We ss t λps=>ps.length<=100000/\k (.tup ps)):Wp ss (QZ t) k:=⟨λE O F H Q S q=>
 h.go E O F H _ S λvs ps F1 H1 d b AE=>by obtain⟨e,kk⟩:=AE;exact⟨small (by rw[b.length];exact e),λa f=>by
  have c:=d.st.alloc f (.tup vs);exact q _ _ _ _ (d.trans c) (.tup Ay (b.mono c.ff)) kk⟩⟩
theorem Hu{k:List PV->Prop}(h:We ss t λps=>ps.length<=100000/\k ps):Wn ss (OI t) k:=⟨λE O F H Q S q=>
 h.go E O F H _ S λvs ps F1 H1 b d AE=>by obtain⟨g,kk⟩:=AE;exact⟨small (by rw[d.length];exact g),λa c=>by
  have f:=b.st.make c (.lst vs);refine q a vs ps F1 _ (b.trans f) (b.st.Bq c) ?_ Ay d kk;cases e:H a with
  |none=>rfl
  |some o=>rw[b.hh a o (b.st.GZ c) e]at c;cases c⟩⟩
theorem PY(h:Wq ss te λ_ xs=>k (.int xs.length)):Wp ss (ED (OW K) (Au te BW)) k:=⟨λE O F H Q S q=>
 h.go E O F H _ S λv tp xs F1 H1 a sv kk=>by
  obtain⟨l,vs,rfl,b,r⟩:=sv.seq a.st;refine⟨l,vs,rfl,(Eu.sq (K:=K) b).or,?_⟩;rw[r.length];exact q _ _ F1 H1 a (.int _) kk⟩
theorem AG.BS{i:Int}(r:AG F vs xs)(h:L2.BS xs i=some p):∃u,L2.BS vs i=some u/\Rep F u p:=by
 unfold L2.BS at h ⊢;rw[r.length];cases e:Fn xs.length i with
 |none=>rw[e]at h;cases h
 |some j=>
  rw[e]at h;exact r.get h
theorem DW(h:Wq ss ta λtp xs=>tp=false/\Wp ss tb λy=>∃i p,y=.int i/\L2.BS xs i=some p/\k p):Wp ss (BB (FT K) ta tb) k:=⟨λE O F H Q S q=>
 h.go E O F H _ S λv tp xs F1 H1 b sv⟨m,h2⟩=>h2.go E O F1 H1 _ b.st λn p2 F2 H2 a d⟨i,p,e,j,kk⟩=>by
  subst e;cases d.inv;subst m;obtain⟨l,vs,rfl,g,r⟩:=(sv.mv a).seq a.st;obtain⟨u,f,c⟩:=r.BS j;exact⟨l,vs,i,u,rfl,rfl,AS.of g,f,q _ _ F2 H2 (b.trans a) c kk⟩⟩
theorem Bi(h:Wq ss ta λtp xs=>tp=true/\Wp ss tb λy=>∃i p,y=.int i/\L2.BS xs i=some p/\k p):Wp ss (BB (FE K) ta tb) k:=⟨λE O F H Q S q=>
 h.go E O F H _ S λv tp xs F1 H1 b sv⟨m,h2⟩=>h2.go E O F1 H1 _ b.st λn p2 F2 H2 a d⟨i,p,e,j,kk⟩=>by
  subst e;cases d.inv;subst m;obtain⟨l,vs,rfl,g,r⟩:=(sv.mv a).seq a.st;obtain⟨u,f,c⟩:=r.BS j;exact⟨l,vs,i,u,rfl,rfl,Ao.of g,f,q _ _ F2 H2 (b.trans a) c kk⟩⟩
theorem Xq(h:Wp ss ta λp=>∃x,p=.str x/\Wq ss tb λ_ ys=>∃ns:List Str,ys=ns.map PV.str/\k (.bl (if neg then !decide (x∈ns)else decide (x∈ns)))):Wp ss (BB (Ke K neg) ta tb) k:=⟨λE O F H Q S q=>
 h.go E O F H _ S λv p F1 H1 b d AE=>by
  obtain⟨x,e,h2⟩:=AE;subst e;cases d.inv;exact h2.go E O F1 H1 _ b.st λg tp ys F2 H2 a sv C9=>by
   obtain⟨ns,f,kk⟩:=C9;subst f;obtain⟨l,vs,rfl,c,r⟩:=sv.seq a.st;rw[r.strs]at c;refine⟨l,_,rfl,(Eu.sq (K:=K) c).or,rfl,Jp ns,?_⟩;rw[Vi];exact q _ _ F2 H2 (b.trans a) (.bl _) kk⟩
theorem MQ{k:List PV->Prop}(hr:r=λxs H Q=>∃p ys,xs=[.ref p]/\(AS K H p ys∨Ao K H p ys)/\∀l,H l=none->Q (.ref l) (upd H l (.lst ys)))(h:Wq ss te λ_ xs=>k xs):Wn ss (ED r (Au te BW)) k:=⟨λE O F H Q S q=>
 h.go E O F H _ S λv tp xs F1 H1 b sv kk=>by
  subst hr;obtain⟨l,vs,rfl,e,r⟩:=sv.seq b.st;refine⟨l,vs,rfl,(Eu.sq (K:=K) e).or,λa c=>?_⟩;have d:=b.st.make c (.lst vs);exact q a vs xs F1 _ (b.trans d) (b.st.Bq c) (b.none c) Ay r kk⟩
theorem TN(hr:r=λxs H Q=>∃p ys,xs=[.ref p]/\((AS K H p ys/\∀l,H l=none->Q (.ref l) (upd H l (.tup ys)))∨(Ao K H p ys/\Q (.ref p) H)))(h:Wq ss te λ_ xs=>k (.tup xs)):Wp ss (ED r (Au te BW)) k:=⟨λE O F H Q S q=>
 h.go E O F H _ S λv tp xs F1 H1 b sv kk=>by
  subst hr;cases tp with
  |false=>
   obtain⟨l,vs,rfl,d,r⟩:=sv.seq b.st;refine⟨l,vs,rfl,.inl ⟨AS.of d,λa f=>?_⟩⟩;have c:=b.st.alloc f (.tup vs);exact q _ _ _ _ (b.trans c) (.tup Ay (r.mono c.ff)) kk
  |true=>
   have g:Rep F1 v (.tup xs):=sv;cases g with
   |tup e r=>exact⟨_,_,rfl,.inr ⟨Ao.of (b.st.fh _ _ e),q _ _ F1 H1 b (.tup e r) kk⟩⟩⟩
theorem OP{k:List PV->Prop}(h:Wq ss ta λtp xs=>tp=false/\Wq ss tb λBn ys=>Bn=false/\xs.length+ys.length<=100000/\k (xs++ys)):Wn ss (BB Vg ta tb) k:=⟨λE O F H Q S q=>
 h.go E O F H _ S λv tp xs F1 H1 c sv⟨m,h2⟩=>h2.go E O F1 H1 _ c.st λn Bn ys F2 H2 b MO⟨j,g,kk⟩=>by
  subst m;subst j;obtain⟨l,vs,rfl,i,r⟩:=(sv.mv b).seq b.st;obtain⟨l2,GJ,rfl,DY,e⟩:=MO.seq b.st;refine⟨l,l2,vs,GJ,rfl,rfl,i,DY,small (by rw[r.length,e.length];exact g),λa d=>?_⟩;have f:=b.st.make d (.lst (vs++GJ));exact q a _ _ F2 _ (c.trans (b.trans f)) (b.st.Bq d) ((c.trans b).none d) Ay (r.append e) kk⟩
def Cw{α:Type}(xs:List α)(lo hi:Option Int):List α:=(xs.drop (HT.AY xs.length 0 lo)).take (HT.AY xs.length xs.length hi - HT.AY xs.length 0 lo)
theorem AG.cut(r:AG F vs xs)(lo hi:Option Int):AG F (Fj vs lo hi) (Cw xs lo hi):=by
 unfold Fj Cw;rw[r.length];exact(r.drop _).take _
theorem Lr{k:List PV->Prop}(h:Wq ss te λtp xs=>tp=false/\Wo ss tl λlo=>Wo ss th λhi=>k (Cw xs lo hi)):Wn ss (QL (UX K) te tl th) k:=⟨λE O F H Q S q=>
 h.go E O F H _ S λv tp xs F1 H1 d sv⟨j,h2⟩=>h2.go E O F1 H1 _ d.st λlo F2 H2 c i=>i.go E O F2 H2 _ c.st λhi F3 H3 b kk=>by
  subst j;obtain⟨l,vs,rfl,g,r⟩:=(sv.mv (c.trans b)).seq b.st;refine⟨l,vs,rfl,AS.of g,λa e=>?_⟩;have f:=b.st.make e (.lst (Fj vs lo hi));exact q a _ _ F3 _ (d.trans (c.trans (b.trans f))) (b.st.Bq e) ((d.trans (c.trans b)).none e) Ay (r.cut lo hi) kk⟩
noncomputable def uQ(tp:Bool)(xs:List PV):PV:=if tp then .tup xs else .lst xs
def Qx(K:yo):V->Option Int->Option Int->Hp->VK->Prop:=λx lo hi H Q=>UX K x lo hi H Q∨Xa K x lo hi H Q
theorem nP{X:Cx}:Iz X (Qx X.K):=by
 intro Zn s O H x v vl vu lo hi sl Q I a hs pl b h;rcases h with h|h
 .exact Kw Zn s O H x v vl vu lo hi sl Q I a hs pl b h
 .exact sH Zn s O H x v vl vu lo hi sl Q I a hs pl b h
theorem tP(h:Wq ss te λtp xs=>Wo ss tl λlo=>Wo ss th λhi=>k (uQ tp (Cw xs lo hi))):Wp ss (QL (Qx K) te tl th) k:=⟨λE O F H Q S q=>
 h.go E O F H _ S λv tp xs F1 H1 i sv h2=>h2.go E O F1 H1 _ i.st λlo F2 H2 d o=>o.go E O F2 H2 _ d.st λhi F3 H3 b kk=>by
  have j:=sv.mv (d.trans b);have g:=i.trans (d.trans b);cases tp with
  |false=>
   obtain⟨l,vs,rfl,n,r⟩:=j.seq b.st;refine .inl ⟨l,vs,rfl,AS.of n,λa f=>?_⟩;have c:=b.st.alloc f (.lst (Fj vs lo hi));exact q _ _ _ _ (g.trans c) (.lst Ay ((r.cut lo hi).mono c.ff)) kk
  |true=>
   have s:Rep F3 v (.tup xs):=j;cases s with
   |@tup _ vs _ e r=>
    refine .inr ⟨_,vs,rfl,Ao.of (b.st.fh _ _ e),λhw=>?_,λhw a f=>?_⟩
    .have p:Cw xs lo hi=xs:=by
      rw[r.length]at hw;unfold Cw;rw[hw.1,hw.2];simp
     refine q _ _ F3 H3 g (.tup e r) ?_;have m:=kk;rw[p]at m;exact m
    .have c:=b.st.alloc f (.tup (Fj vs lo hi));exact q _ _ _ _ (g.trans c) (.tup Ay ((r.cut lo hi).mono c.ff)) kk⟩
theorem wy(xs ys:List Str):G9 (xs.map V.str) (ys.map V.str)=decide (xs=ys):=by
 by_cases h:xs=ys
 .subst h;rw[jB,iN rfl]
 .rw[ij h]
  by_cases a:xs.length=ys.length
  .rw[Jb (by simpa using a)]
   cases c:(List.range (xs.map V.str).length).all λj=>DR ((xs.map V.str).getD j .AA) ((ys.map V.str).getD j .AA)with
   |false=>rfl
   |true=>
    exfalso;apply h;apply xi a;intro j h1 h2;have q:=List.all_eq_true.mp c j (List.mem_range.mpr (by simpa using h1))
    have e:(xs.map V.str)[j]?=some (.str xs[j]):=by rw[Aa,Am h1];rfl
    have d:(ys.map V.str)[j]?=some (.str ys[j]):=by rw[Aa,Am h2];rfl
    rw[J8 e,J8 d]at q;have b:(xs[j] == ys[j])=true:=q
    simpa using b
  .rw[KU (by simpa using a)]
theorem qK(h:Wq ss ta λtp xs=>∃ns:List Str,xs=ns.map PV.str/\Wq ss tb λBn ys=>Bn=tp/\∃a:List Str,ys=a.map PV.str/\k (.bl (if neg then !decide (ns=a)else decide (ns=a)))):Wp ss (BB (LI K neg) ta tb) k:=⟨λE O F H Q S q=>
 h.go E O F H _ S λv tp xs F1 H1 c sv⟨ns,i,h2⟩=>h2.go E O F1 H1 _ c.st λj Bn ys F2 H2 b MO⟨f,a,g,kk⟩=>by
  subst i;subst g;subst f;obtain⟨l,vs,rfl,d,r⟩:=(sv.mv b).seq b.st;obtain⟨l2,GJ,rfl,DY,e⟩:=MO.seq b.st;rw[r.strs]at d;rw[e.strs]at DY;refine⟨l,l2,ns.map V.str,a.map V.str,rfl,rfl,?_,Jp _,Jp _,?_⟩
  .cases Bn
   .exact .inl ⟨AS.of d,AS.of DY⟩
   .exact .inr ⟨Ao.of d,Ao.of DY⟩
  .rw[wy];cases neg
   .exact q _ _ F2 H2 (c.trans b) (.bl _) kk
   .exact q _ _ F2 H2 (c.trans b) (.bl _) kk⟩
theorem Yv(hr:r=λxs H Q=>∃(p:Addr)(bs:List Bool),xs=[.ref p]/\AS K H p (bs.map V.bl)/\Q (.bl (bs.all id)) H)(h:Wq ss te λtp xs=>tp=false/\∃bs:List Bool,xs=bs.map PV.bl/\k (.bl (bs.all id))):Wp ss (ED r (Au te BW)) k:=⟨λE O F H Q S q=>
 h.go E O F H _ S λv tp xs F1 H1 a sv AE=>by
  obtain⟨c,bs,e,kk⟩:=AE;subst hr;subst e;subst c;obtain⟨l,vs,rfl,b,r⟩:=sv.seq a.st;rw[r.Pk]at b;exact⟨l,bs,rfl,AS.of b,q _ _ F1 H1 a (.bl _) kk⟩⟩
theorem V2(hr:r=λxs H Q=>∃(p:Addr)(bs:List Bool),xs=[.ref p]/\AS K H p (bs.map V.bl)/\Q (.bl (bs.any id)) H)(h:Wq ss te λtp xs=>tp=false/\∃bs:List Bool,xs=bs.map PV.bl/\k (.bl (bs.any id))):Wp ss (ED r (Au te BW)) k:=⟨λE O F H Q S q=>
 h.go E O F H _ S λv tp xs F1 H1 a sv AE=>by
  obtain⟨c,bs,e,kk⟩:=AE;subst hr;subst e;subst c;obtain⟨l,vs,rfl,b,r⟩:=sv.seq a.st;rw[r.Pk]at b;exact⟨l,bs,rfl,AS.of b,q _ _ F1 H1 a (.bl _) kk⟩⟩
noncomputable def tyP:PV->String
 | .AA => "NoneType"
 | .bl _ => "bool"
 | .int _ => "int"
 | .str _ => "str"
 | .lst _ => "list"
 | .tup _ => "tuple"
 | .B1 _ _ => "dict"
 |_ => ""
def K3:PV->Value
 | .obj _ _ _=>.none
 | .exc _ _ _=>.none
 | .con _ _=>.none
 |p=>.type (tyP p)
theorem Nz(h:PySem.W.kitOne K .none (.type n)=some b):False:=by
 unfold PySem.W.kitOne PySem.W.kitCls PySem.W.subIn at h;simp at h
theorem Rep.vI(s:AI F H)(r:Rep F v p)(a:PySem.W.kitOne K (K3 p) (.type n)=some b):EZ K H v (K3 p):=by
 cases r with
 |AA=>exact .AA
 |bl b=>exact .bl b
 |int i=>exact .int i
 |str x=>exact .str x
 |lst h _=>exact .lst (s _ _ h)
 |tup h _=>exact .tup (s _ _ h)
 |B1 h _ _=>exact .dK (s _ _ h)
 |obj _ _ _ _=>exact(Nz a).elim
 |Q4 _=>exact(Nz a).elim
 |con=>exact(Nz a).elim
 |exc _ _ _ _=>exact(Nz a).elim
theorem Ky(h:Wp ss te λp=>∃b,PySem.W.kitOne K (K3 p) (.type n)=some b/\k (.bl b)):Wp ss (ED (Yr K) (Au te (Au (tC (.ty n)) BW))) k:=⟨λE O F H Q S q=>
 h.go E O F H _ S λv p F1 H1 a r AE=>by obtain⟨b,c,kk⟩:=AE;exact⟨v,n,_,b,rfl,r.vI a.st.fh c,c,q _ _ F1 H1 a (.bl _) kk⟩⟩
theorem vE(hr:r=λxs H Q=>∃i j,xs=[.int i,.int j]/\Q (.int (if j > i then j else i)) H)(h:Wp ss ta λx=>∃i,x=.int i/\Wp ss tb λy=>∃j,y=.int j/\k (.int (if j > i then j else i))):Wp ss (ED r (Au ta (Au tb BW))) k:=⟨λE O F H Q S q=>
 h.go E O F H _ S λv p F1 H1 a c AE=>by
  obtain⟨i,f,h2⟩:=AE;subst hr;subst f;cases c.inv;exact h2.go E O F1 H1 _ a.st λg p2 F2 H2 d b C9=>by
   obtain⟨j,e,kk⟩:=C9;subst e;cases b.inv;exact⟨i,j,rfl,q _ _ F2 H2 (a.trans d) (.int _) kk⟩⟩
end
structure Src (E:Ent0) (F1:Hp) (J:It) (xs:List PV):Prop where
 go:∀(ss:List Slot)(O:L2.St)(F H:Hp)(i:Nat),AI F1 F->Sg E ss O F H->i<xs.length->J.go i H
 stop:∀(ss:List Slot)(O:L2.St)(F H:Hp),AI F1 F->Sg E ss O F H->J.stop xs.length H
 E7:∀(ss:List Slot)(O:L2.St)(F H:Hp)(i:Nat)(x:V)(H':Hp),AI F1 F->Sg E ss O F H->i<xs.length->J.E7 i H x H'->∃p F',xs[i]?=some p/\Mv E ss O F H F' H'/\Rep F' x p
structure Wi [Xw] (ss:List Slot) (wi:TI) (k:List PV->Prop):Prop where
 go:∀(E:Ent)(O:L2.St)(F H:Hp)(R:It->Hp->Prop),Sg E ss O F H->(∀J xs F' H',Mv E ss O F H F' H'->Src E F' J xs->k xs->R J H')->wi O H R
structure Wg [Xw] (ss:List Slot) (g:TG) (p:PV) (k:List Slot->Prop):Prop where
 go:∀(E:Ent)(O:L2.St)(F H:Hp)(v:V)(Q:L2.St->Hp->Prop),Sg E ss O F H->Rep F v p->(∀A7 σ',k A7->Sg E A7 σ' F H->Q σ' H)->g v O H Q
section
variable[Xw]
variable{K:yo}{tb:TE}{k:PV->Prop}{R:AX}
theorem bT(h:∀(ss:List Slot)(O:L2.St)(F H:Hp),AI F' F->Sg E ss O F H->H l=some (Eu tp vs))(r:AG F' vs xs):Src E F' (PK K tp l vs) xs where
 go:=λss O F H i s S hi=>⟨Eu.sq (h ss O F H s S),by rw[r.length];exact hi⟩
 stop:=λss O F H s S=>⟨Eu.sq (h ss O F H s S),by rw[r.length];exact Aj _⟩
 E7:=λss O F H i x H' s S hi y=>by
  obtain⟨e,hx⟩:=y;subst e;obtain⟨p,b,a⟩:=r.get' hx;exact⟨p,F,b,.refl S,a.mono s⟩
theorem Gd{k:List PV->Prop}(h:Wz ss te λ_ xs=>k xs):Wi ss (T1 K te) k:=⟨λE O F H R S q=>
 h.go E O F H _ S λv tp xs F1 H1 a f kk=>by
  cases tp with
  |true=>
   have c:Rep F1 v (.tup xs):=f;cases c with
   |tup e r=>exact⟨true,_,_,rfl,Ao.of (a.st.fh _ _ e),q _ _ F1 H1 a (bT (tp:=true) (λss O F H s S=>S.fh _ _ (s _ _ e)) r) kk⟩
  |false=>
   obtain⟨l,vs,rfl,h1,r⟩:=f;have b:∀(ss:List Slot)(O:L2.St)(F H:Hp),AI F1 F->Sg E ss O F H->H l=some (.lst vs):=λss O F H s S=>by
    rcases h1 with h1|⟨hA,h1⟩
    .exact S.fh _ _ (s _ _ h1)
    .exact S.keep _ _ hA h1
   exact⟨false,l,vs,rfl,AS.of (b ss O F1 H1 (AI.refl _) a.st),q _ _ F1 H1 a (bT (tp:=false) b r) kk⟩⟩
noncomputable def JN(n:Nat):List PV:=(List.range n).map λi:Nat=>PV.int (i:Int)
theorem Hj(n:Nat):(JN n).length=n:=by simp[JN]
theorem aJ{n:Nat}(h:(JN n)[i]?=some p):i<n/\p=.int (i:Int):=by
 have hi:i<n:=by have:=(List.getElem?_eq_some_iff.mp h).1;rwa [Hj]at this
 unfold JN at h;rw[Aa,WU hi]at h;exact⟨hi,(B9 h).symm⟩
theorem mz{k:List PV->Prop}(h:Wp ss te λp=>∃j:Int,p=.int j/\j<=1000000/\-1000000<=j/\k (JN j.toNat)):Wi ss (RT (Au te BW)) k:=⟨λE O F H R S q=>
 h.go E O F H _ S λv p F1 H1 a r AE=>by
  obtain⟨j,e,h1,h2,kk⟩:=AE;subst e;cases r.inv;refine⟨j,rfl,by omega,by omega,q _ (JN j.toNat) F1 H1 a ⟨λss O F H i s S hi=>?_,λss O F H s S=>?_,λss O F H i x H' s S hi y=>?_⟩ kk⟩
  .rw[Hj]at hi;exact hi
  .show _<=_;rw[Hj];exact Aj _
  .obtain⟨e,hx⟩:=y;subst e;subst hx;rw[Hj]at hi;refine⟨.int (i:Int),F,?_,.refl S,?_⟩
   .unfold JN;rw[Aa,WU hi];rfl
   .rw[Int.zero_add];exact .int _⟩
theorem JM{k:List Slot->Prop}(h:k (ss.set j (.is p))):Wg ss (Bt j) p k:=⟨λE O F H v Q S r q=>q _ _ h (S.Ei r)⟩
theorem dR{k:List Slot->Prop}(h:∃a b,p=.tup [a,b]/\k ((ss.set i (.is a)).set j (.is b))):Wg ss (JL K 2 (FP (Bt i) (FP (Bt j) KZ))) p k:=⟨λE O F H v Q S r q=>by
 obtain⟨a,b,rfl,kk⟩:=h;obtain⟨_,_,rfl,e,r⟩:=r.inv;obtain⟨_,_,rfl,d,r⟩:=r.inv;obtain⟨_,_,rfl,c,r⟩:=r.inv;obtain rfl:=r.Ca;exact⟨_,_,rfl,Ao.of (S.fh _ _ e),rfl,_,_,rfl,_,_,rfl,rfl,q _ _ kk ((S.Ei d).Ei c)⟩⟩
theorem wI{l:Nat}{k:List Slot->Prop}(h:∃a b c,p=.tup [a,b,c]/\k (((ss.set i (.is a)).set j (.is b)).set l (.is c))):Wg ss (JL K 3 (FP (Bt i) (FP (Bt j) (FP (Bt l) KZ)))) p k:=⟨λE O F H v Q S r q=>by
 obtain⟨a,b,c,rfl,kk⟩:=h;obtain⟨_,_,rfl,e,r⟩:=r.inv;obtain⟨_,_,rfl,g,r⟩:=r.inv;obtain⟨_,_,rfl,f,r⟩:=r.inv;obtain⟨_,_,rfl,d,r⟩:=r.inv;obtain rfl:=r.Ca;exact⟨_,_,rfl,Ao.of (S.fh _ _ e),rfl,_,_,rfl,_,_,rfl,_,_,rfl,rfl,q _ _ kk (((S.Ei g).Ei f).Ei d)⟩⟩
theorem AW{t:TS}(h:Ws ss t (λA7=>Ws A7 u nx R) R):Ws ss (NH t u) nx R:=⟨λE D O F H S b hr=>
 h.go E { D with nx:=u D } O F H S (λA7 σ' F' H' w S' s=>w.go E D σ' F' H' S' (λC3 σ2 F2 H2 a S2 s2=>b C3 σ2 F2 H2 a S2 (s.trans s2)) hr) hr⟩
theorem FN{t:TS}(h:Ws ss t nx R):Ws ss (US t) nx R:=⟨λE D O F H S a hr=>⟨D.nx,h.go E { D with nx:=D.nx } O F H S a hr,λ_ _ q=>q⟩⟩
theorem Ws.mono{t:TS}(h:Ws ss t nx R)(i:∀s,nx s->JG s):Ws ss t JG R:=⟨λE D O F H S a hr=>h.go E D O F H S (λA7 σ' F' H' n=>a A7 σ' F' H' (i _ n)) hr⟩
theorem KH{t:TS}(J:List Slot->Prop)(h:Ws ss t J R)(h2:∀A7,J A7->Ws A7 u nx R):Ws ss (NH t u) nx R:=AW (h.mono h2)
theorem FU(h:Wp ss te λp=>nx (ss.set i (.is p))):Ws ss (Dq te (Bt i)) nx R:=⟨λE D O F H S b hr=>
 h.go E O F H _ S λv p F1 H1 a r kk=>b _ _ F1 H1 kk (a.st.Ei r) a.ff⟩
theorem G4(h:Wn ss te λxs=>nx (ss.set i (.own xs))):Ws ss (Dq te (Bt i)) nx R:=⟨λE D O F H S f hr=>
 h.go E O F H _ S λl vs xs F1 H1 a g b M6 r kk=>f _ _ F1 H1 kk (a.st.setG ⟨l,vs,rfl,g,S.Cy b,M6,r⟩ λk e j u _ d c=>by cases e;exact S.II d b c) a.ff⟩
theorem Ez(h:Wp ss te k):Ws ss (LV te) nx (.is k):=⟨λE D O F H S b hr=>
 h.go E O F H _ S λv p F1 H1 a r kk=>hr v F1 H1 a.st.toFin ⟨p,r,kk⟩⟩
theorem Ox{k:List PV->Prop}(h:Wn ss te k):Ws ss (LV te) nx (.new k):=⟨λE D O F H S d hr=>
 h.go E O F H _ S λl vs xs F1 H1 a c b M6 r kk=>hr _ F1 H1 a.st.toFin ⟨l,vs,xs,rfl,c,S.Cy b,M6,r,kk⟩⟩
theorem Dt{t:TS}(h:Wt ss c λb=>if b=true then Ws ss t nx R else Ws ss u nx R):Ws ss (Li c t u) nx R:=⟨λE D O F H S d hr=>
 h.go E O F H _ S λb F1 H1 a w=>by
  show if b=true then _ else _
  cases b with
  |true=>rw[hZ rfl]at w ⊢;exact w.go E D O F1 H1 a.st (λC3 σ2 F2 H2 n S2 s2=>d C3 σ2 F2 H2 n S2 (a.ff.trans s2)) hr
  |false=>rw[gp (by decide)]at w ⊢;exact w.go E D O F1 H1 a.st (λC3 σ2 F2 H2 n S2 s2=>d C3 σ2 F2 H2 n S2 (a.ff.trans s2)) hr⟩
theorem CH(h:nx ss):Ws ss VQ nx R:=⟨λE D O F H S a hr=>a ss O F H h S (AI.refl _)⟩
theorem Ih(h:Wp ss te λ_=>nx ss):Ws ss (Ff te) nx R:=⟨λE D O F H S b hr=>
 h.go E O F H _ S λv p F1 H1 a r kk=>b ss O F1 H1 kk a.st a.ff⟩
theorem Sg.drop(S:Sg E ss O F H)(i:Nat):Sg E (ss.set i .any) O F H:=by
 have b:∀(j:Nat)u,(ss.set i .any)[j]?=some u->u=.any∨ss[j]?=some u:=λj u a=>by
  by_cases q:j=i
  .subst q;have f:j<ss.length:=by have:=(List.getElem?_eq_some_iff.mp a).1;simpa using this
   rw[DD f]at a;exact .inl (B9 a).symm
  .rw[Cb (Bk q)]at a;exact .inr a
 refine⟨S.toFin,by rw[JT];exact S.len,λj u a=>?_,λj k u w l QB a e d c=>?_⟩
 .rcases b j u a with rfl|h
  .trivial
  .exact S.ok j u h
 .rcases b j u a with rfl|h
  .cases d
  .rcases b k w e with rfl|h2
   .cases c
   .exact S.BD j k u w l QB h h2 d c
theorem LM(e:O[i]?=some (some v)):O.set i (some v)=O:=by
 apply fF;intro j
 by_cases q:j=i
 .subst q;rw[DD (List.getElem?_eq_some_iff.mp e).1,e]
 .rw[Cb (Bk q)]
theorem Sg.K0(S:Sg E ss O F H)(k:F a=none)(c:E.H0 a=none∨a∈E.B)(g:∀(i:Nat)s,ss[i]?=some s->¬ B3 s O[i]? a):Sg E ss O F (upd H a o):=by
 have f:∀b u,b≠a->H b=some u->upd H a o b=some u:=λb u h e=>by rw[Ab h];exact e
 refine⟨⟨λb u e=>?_,S.f0,λb u d e=>?_,S.fresh,λb d=>?_,S.Mr,S.a0,S.bF,λb j=>?_,S.b0⟩,S.len,λi s hi=>?_,S.BD⟩
 .exact f b u (DS e k) (S.fh b u e)
 .refine f b u ?_ (S.keep b u d e);rintro rfl;rcases c with c|c
  .rw[c]at e;cases e
  .exact d.2 c
 .refine Bd.keep (S.HB b d) λu e=>f b u ?_ e;rintro rfl;rcases c with c|c
  .exact S.a0 _ d c
  .exact(S.b0 _ c).2 d
 .by_cases q:b=a
  .subst q;rw[Ay];simp
  .rw[Ab q];exact S.bH b j
 .by_cases np:s=.AO
  .subst np;obtain⟨l,e,r,p,n⟩:=S.ok i _ hi;exact⟨l,e,r,p,Bd.keep n λu h=>f l u (by rintro rfl;exact g i _ hi e) h⟩
  .exact Ok.go S hi (AI.refl _) (λb u m h=>f b u (by rintro rfl;exact g i _ hi m) h) (λ_ _ h=>h) np
theorem Sg.put(S:Sg E ss O F H){ys:List PV}(hi:ss[i]?=some (.own xs))(e:O[i]?=some (some (.ref l)))(f:F l=none)(d:E.H0 l=none)(r:AG F Bp ys):Sg E (ss.set i (.own ys)) O F (upd H l (.lst Bp)):=by
 have a:∀(j:Nat)s,(ss.set i .any)[j]?=some s->¬ B3 s O[j]? l:=λj s b c=>by
  by_cases q:j=i
  .subst q;have p:j<ss.length:=(List.getElem?_eq_some_iff.mp hi).1;rw[DD p]at b;cases b;cases c
  .rw[Cb (Bk q)]at b;exact S.BD j i s _ l q b hi c e
 have n:=(S.drop i).K0 (o:=.lst Bp) f (.inl d) a;have g:=n.setG (j:=i) (s:=.own ys) (v:=.ref l) ⟨l,Bp,rfl,f,d,Ay,r⟩ λt m j u b k h=>by cases m;exact a j u k h
 rw[LM e,Nc]at g;exact g
theorem Oh(hi:ss[i]?=some (.own xs))(h:Wp ss te λp=>xs.length<=99999/\nx (ss.set i (.own (xs++[p])))):Ws ss (Ff (Gv K "list" Mu (BF i) (Au te BW))) nx R:=⟨λE D O F H S g hr=>by
 obtain⟨l,vs,e,n,m,j,r⟩:=S.ok i _ hi;refine⟨_,e,.inl ⟨rfl,_,AS.of j⟩,h.go E O F H _ S λv p F1 H1 a d⟨f,kk⟩=>?_⟩;obtain⟨k,Bp,c,EL,CO,MT,b⟩:=a.st.ok i _ hi;rw[e]at c;cases c;refine⟨l,Bp,v,rfl,rfl,MT,Fp (by rw[b.length];exact f),?_⟩;exact g _ O F1 _ kk (a.st.put hi e EL CO (b.append (.one d))) a.ff⟩
theorem Zu(hi:ss[i]?=some (.own xs))(h:Wp ss ta λa=>∃j:Int,a=.int j/\0<=j/\j<=xs.length/\Wp ss te λp=>xs.length<=99999/\nx (ss.set i (.own (xs.take j.toNat++p::xs.drop j.toNat)))):
  Ws ss (Ff (Gv K "list" N9 (BF i) (Au ta (Au te BW)))) nx R:=⟨λE D O F H S q hr=>by
 obtain⟨l,vs,e,y,x,t,r⟩:=S.ok i _ hi;refine⟨_,e,.inl ⟨rfl,_,AS.of t⟩,h.go E O F H _ S λu p1 F1 H1 d g⟨j,s,n,m,h2⟩=>?_⟩;subst s;cases g.inv;refine h2.go E O F1 H1 _ d.st λv p F2 H2 c k⟨o,kk⟩=>?_;obtain⟨w,Bp,f,EL,CO,MT,b⟩:=c.st.ok i _ hi;rw[e]at f;cases f;refine⟨l,Bp,j,v,rfl,rfl,MT,n,by rw[b.length];exact m,Fp (by rw[b.length];exact o),?_⟩;exact q _ O F2 _ kk (c.st.put hi e EL CO ((b.take _).append (.cons k (b.drop _)))) (d.ff.trans c.ff)⟩
noncomputable def BU(F H:Hp)(as:List Addr):Hp:=λa=>if a∈as then H a else F a
theorem Sg.lay(S:Sg E ss O F H)(as:List Addr)(g:∀a∈as,F a=none/\E.H0 a=none/\H a≠none)(x:∀a∈as,∀(i:Nat)s,ss[i]?=some s->¬ B3 s O[i]? a):Sg E ss O (BU F H as) H/\AI F (BU F H as):=by
 have y:∀a,a∈as->BU F H as a=H a:=λa h=>hZ h;have j:∀a,a∉as->BU F H as a=F a:=λa h=>gp h;have ff:AI F (BU F H as):=λa o e=>by
  by_cases q:a∈as
  .rw[(g a q).1]at e;cases e
  .rw[j a q];exact e
 have f:∀a,a∉as->F a=none->BU F H as a=none:=λa q h=>by rw[j a q];exact h
 refine⟨⟨⟨λa o e=>?_,S.f0.trans ff,S.keep,λa o e=>?_,S.HB,λa w=>?_,S.a0,λa u=>?_,S.bH,S.b0⟩,S.len,λi s hi=>?_,S.BD⟩,ff⟩
 .by_cases q:a∈as
  .rw[y a q]at e;exact e
  .rw[j a q]at e;exact S.fh a o e
 .by_cases q:a∈as
  .exact .inr (g a q).2.1
  .rw[j a q]at e;exact S.fresh a o e
 .exact f a (λq=>S.a0 a w (g a q).2.1) (S.Mr a w)
 .exact f a (λq=>(S.b0 a u).1 (g a q).2.1) (S.bF a u)
 .have l:∀a,B3 s O[i]? a->a∉as:=λa m q=>x a q i s hi m;have kk:=S.ok i s hi;cases s with
  |any=>trivial
  |is p=>obtain⟨v,e,r⟩:=kk;exact⟨v,e,r.mono ff⟩
  |own ys=>
   obtain⟨b,ws,q,d,c,k,r⟩:=kk;exact⟨b,ws,q,f b (l b q) d,c,k,r.mono ff⟩
  |AO=>
   obtain⟨b,q,d,c,k⟩:=kk;exact⟨b,q,f b (l b q) d,c,k⟩
  |sq tp ys=>
   cases tp with
   |true=>obtain⟨v,e,r⟩:=kk;exact⟨v,e,r.mono ff⟩
   |false=>obtain⟨b,ws,q,d,c,r⟩:=kk;exact⟨b,ws,q,d,c,r.mono ff⟩
  |raw P=>obtain⟨v,e,r,st⟩:=kk;exact⟨v,e,st _ _ ff r,st⟩
  |ow lt t=>
   obtain⟨v,e,r,nd,q⟩:=kk;exact⟨v,e,r.mono ff λa _ o h=>h,nd,λa n=>⟨f a (l a n) (q a n).1,(q a n).2⟩⟩
theorem Gg{t:TS}(i:Nat)(hi:ss[i]?=some (.own xs))(h:Ws (ss.set i (.is (.lst xs))) t nx R):Ws ss t nx R:=⟨λE D O F H S g hr=>by
 obtain⟨l,vs,e,o,k,f,r⟩:=S.ok i _ hi;have one:∀a,a∈[l]->a=l:=λa h=>by simpa using h
 obtain⟨S1,d⟩:=(S.drop i).lay [l] (λa h=>by rw[one a h,f];exact⟨o,k,by simp⟩) λa h j s b m=>by
  rw[one a h]at m
  by_cases q:j=i
  .subst q;rw[DD (List.getElem?_eq_some_iff.mp hi).1]at b;cases b;cases m
  .rw[Cb (Bk q)]at b;exact S.BD j i s _ l q b hi m e
 have c:=S1.Ei (j:=i) (v:=.ref l) (p:=.lst xs) (.lst (by unfold BU;rw[hZ (by simp)];exact f) (r.mono d));rw[LM e,Nc]at c;exact h.go E D O _ H c (λC3 σ2 F2 H2 n c s2=>g C3 σ2 F2 H2 n c (d.trans s2)) hr⟩
theorem Gk{g:TG}{tb:TS}(I:List PV->Nat->List Slot->Prop)(h:Wi ss wi λxs=>I xs 0 ss/\(∀(i:Nat)p A7,xs[i]?=some p->I xs i A7->Wg A7 g p λC3=>Ws C3 tb (I xs (i+1)) R)/\∀A7,I xs xs.length A7->nx A7):Ws ss (Oo wi g tb) nx R:=⟨λE D O F H S s hr=>
 h.go E O F H _ S λJ xs F1 H1 k d AE=>by
  obtain⟨i0,hs,hd⟩:=AE;refine⟨λi m σ' H'=>m=xs.length - i/\i<=xs.length/\∃A7 F',I xs i A7/\Sg E A7 σ' F' H'/\AI F1 F',⟨_,rfl,CN _,ss,F1,i0,k.st,AI.refl _⟩,?_⟩;rintro i m σ' H'⟨rfl,hi,A7,F',l,S',s'⟩
  by_cases f:i<xs.length
  .refine .inr ⟨d.go A7 σ' F' H' i s' S' f,λσ2 H2=>∃C3 F2,I xs (i+1) C3/\Sg E C3 σ2 F2 H2/\AI F1 F2,λσ2 H2 C9=>by obtain⟨C3,F2,a,b,c⟩:=C9;exact⟨_,by omega,rfl,f,C3,F2,a,b,c⟩,λx H3 y=>?_⟩;obtain⟨p,F3,r,j,o⟩:=d.E7 A7 σ' F' H' i x H3 s' S' f y;refine(hs i p A7 r l).go E σ' F3 H3 x _ j.st o λt σ4 w S4=>?_;exact w.go E _ σ4 F3 H3 S4 (λMd σ5 F5 H5 q S5 n=>⟨Md,F5,q,S5,(s'.trans j.ff).trans n⟩) hr
  .have e:i=xs.length:=by omega
   subst e;exact .inl ⟨d.stop A7 σ' F' H' s' S',s A7 σ' F' H' (hd A7 l) S' (k.ff.trans s')⟩⟩
theorem dy{tb:TS}(I:Nat->List Slot->Prop)(e:Nat)(n:I e ss)(h:∀m A7,I m A7->Wt A7 c λb=>if b=true then Ws A7 tb (λC3=>∃a,a < m/\I a C3) R else nx A7):Ws ss (VV c tb) nx R:=⟨λE D O F H S j hr=>by
 refine⟨λm σ' H'=>∃A7 F',I m A7/\Sg E A7 σ' F' H'/\AI F F',⟨e,ss,F,n,S,AI.refl _⟩,?_⟩;rintro m σ' H'⟨A7,F',k,S',s'⟩;refine(h m A7 k).go E σ' F' H' _ S' λb F1 H1 d w=>?_;cases b with
 |true=>
  rw[hZ rfl]at w;refine⟨λσ2 H2=>∃C3 F2,(∃a,a < m/\I a C3)/\Sg E C3 σ2 F2 H2/\AI F F2,λσ2 H2 AE=>by obtain⟨C3,F2,⟨a,l,i⟩,b,c⟩:=AE;exact⟨a,l,C3,F2,i,b,c⟩,?_⟩;exact w.go E _ σ' F1 H1 d.st (λMd σ5 F5 H5 g S5 f=>⟨Md,F5,g,S5,(s'.trans d.ff).trans f⟩) hr
 |false=>
  rw[gp (by decide)]at w;exact j A7 σ' F1 H1 w d.st (s'.trans d.ff)⟩
end
noncomputable def Bm(js:List Nat)(ss:List Slot):List Slot:=js.map λj=>(ss[j]?).getD .any
def Mh(js:List Nat)(ss:List Slot):Bool:=js.all λj=>match ss[j]? with
 |some .AO=>false
 |_=>true
section
variable[Xw]
variable{K:yo}{js:List Nat}
theorem aB(h:js[i]?=some j)(e:(Bm js ss)[i]?=some s):s=(ss[j]?).getD .any:=by
 unfold Bm at e;rw[Aa,h]at e;exact(B9 e).symm
theorem Sg.AH(S:Sg E ss O F H)(nd:js.Nodup)(r:AG F vs ps):Sg E (Bm js ss++ps.map .is) (BC js O++vs.map some) F H:=by
 have d:(Bm js ss).length=js.length:=by simp[Bm]
 have f:(BC js O).length=js.length:=by simp[BC]
 have k:∀(i:Nat)(hi:i<js.length),(Bm js ss++ps.map .is)[i]?=some ((ss[js[i]]?).getD .any)/\(BC js O++vs.map some)[i]?=some ((O[js[i]]?).join):=λi hi=>by
  rw[E2 (by rw[d];exact hi),E2 (by rw[f];exact hi)];unfold Bm BC;rw[Aa,Aa,Am hi];exact⟨rfl,rfl⟩
 have c:∀(i:Nat)s,js.length<=i->(Bm js ss++ps.map .is)[i]?=some s->∃p v,s=.is p/\(BC js O++vs.map some)[i]?=some (some v)/\Rep F v p:=λi s hi e=>by
  rw[ER (by rw[d];exact hi),d,Aa]at e;rw[ER (by rw[f];exact hi),f,Aa];cases q:ps[i - js.length]? with
  |none=>rw[q]at e;cases e
  |some p=>
   rw[q]at e;obtain⟨v,h,g⟩:=r.get q;rw[h];exact⟨p,v,(B9 e).symm,rfl,g⟩
 have G:∀(s:Slot)(m:Nat)(l:Addr),B3 s (some (O[m]?).join) l->B3 s O[m]? l:=λs m l o=>by
  have w:∀l,some (O[m]?).join=some (some (V.ref l))->O[m]?=some (some (.ref l)):=λl e=>by
   cases q:O[m]? with
   |none=>rw[q]at e;cases e
   |some o=>rw[q]at e;cases o with
    |none=>cases e
    |some v=>simpa using e
  cases s with
  |own xs=>exact w l o
  |AO=>exact w l o
  |ow lt t=>exact o
  |_=>exact o
 have n:∀(i:Nat)s l,(Bm js ss++ps.map .is)[i]?=some s->B3 s (BC js O++vs.map some)[i]? l->∃hi:i<js.length,ss[js[i]]?=some s/\B3 s O[js[i]]? l:=λi s l e m=>by
  by_cases hi:i<js.length
  .rw[(k i hi).2]at m;refine⟨hi,?_,G s _ l m⟩;rw[(k i hi).1]at e;cases q:ss[js[i]]? with
   |none=>rw[q]at e;cases e;cases m
   |some u=>rw[q]at e;exact e
  .obtain⟨p,v,rfl,_⟩:=c i s (by omega) e;cases m
 refine⟨S.toFin,?_,λi s e=>?_,λi j s u l Fo hi D C B=>?_⟩
 .rw[C5,C5,d,f,AF,AF,r.length]
 .by_cases hi:i<js.length
  .obtain⟨a,b⟩:=k i hi;rw[a]at e;rw[b];cases q:ss[js[i]]? with
   |none=>rw[q]at e;cases e;trivial
   |some u=>
    rw[q]at e;have I:u=s:=B9 e;subst I;have kk:=S.ok _ _ q;cases u with
    |any=>trivial
    |is p=>obtain⟨v,e,r⟩:=kk;rw[e];exact⟨v,rfl,r⟩
    |own xs=>obtain⟨l,vs,e,r⟩:=kk;rw[e];exact⟨l,vs,rfl,r⟩
    |AO=>obtain⟨l,e,r⟩:=kk;rw[e];exact⟨l,rfl,r⟩
    |sq tp xs=>
     cases tp with
     |true=>obtain⟨v,e,r⟩:=kk;rw[e];exact⟨v,rfl,r⟩
     |false=>obtain⟨l,vs,e,r⟩:=kk;rw[e];exact⟨l,vs,rfl,r⟩
    |raw P=>obtain⟨v,e,r⟩:=kk;rw[e];exact⟨v,rfl,r⟩
    |ow lt t=>obtain⟨v,e,r⟩:=kk;rw[e];exact⟨v,rfl,r⟩
  .obtain⟨p,v,rfl,h,g⟩:=c i s (by omega) e;rw[h];exact⟨v,rfl,g⟩
 .obtain⟨J,y,A⟩:=n i s l hi C;obtain⟨lj,x,z⟩:=n j u l D B;refine S.BD js[i] js[j] s u l (λe=>Fo ?_) y x A z;exact(xm nd).mp e
theorem Mv.out(S:Sg E ss O F H)(np:Mh js ss=true)(m:Mv E (Bm js ss++ps.map .is) τ F H F' H'):Mv E ss O F H F' H':=by
 have nn:∀a,Bo (Bm js ss++ps.map .is) τ a:=λa i hi _=>by
  by_cases h:i<(Bm js ss).length
  .rw[E2 h]at hi;have c:i<js.length:=by simpa[Bm]using h
   have q:=aB (Am c) hi;have z:=List.all_eq_true.mp np js[i] (IT c);cases w:ss[js[i]]? with
   |none=>rw[w]at q;cases q
   |some u=>rw[w]at q z;cases q;cases z
  .rw[ER (by omega),Aa]at hi;cases w:ps[i - (Bm js ss).length]? with
   |none=>rw[w]at hi;cases hi
   |some p=>rw[w]at hi;cases hi
 have b:∀a o,H a=some o->H' a=some o:=λa o e=>m.hh a o (nn a) e;exact S.step m.ff m.st.fh (λa o _ e=>b a o e) m.nn λi l hi e=>Bd.keep (S.FH hi e) λo e=>b l o e
theorem XT{k:List PV->Prop}(f:PV->Bool)(g:PV->PV)
  (h:Wi ss wi λxs=>xs.length<=100000/\(∀x∈xs,Wt (Bm js ss++[.is x]) tt λb=>b=f x)/\(∀x∈xs,f x=true->Wp (Bm js ss++[.is x]) te λp=>p=g x)/\k ((xs.filter f).map g))
  (nd:js.Nodup:=by decide) (np:Mh js ss=true:=by rfl):Wn ss (J1 wi js tt te) k:=⟨λE O F H Q S q=>
 h.go E O F H _ S λJ xs F1 H1 d C⟨hz,T,U,kk⟩acc Ax=>by
  have P:Bo ss O acc:=d.st.GZ Ax;have GP:=d.st.Cy Ax;have IK:∀(i:Nat)s,ss[i]?=some s->¬ B3 s O[i]? acc:=λi s hi=>d.st.II hi Ax;refine⟨λi m H2=>m=xs.length - i/\i<=xs.length/\∃F2 vs,Mv E ss O F1 H1 F2 H2/\F2 acc=none/\H2 acc=some (.lst vs)/\AG F2 vs (((xs.take i).filter f).map g),⟨_,rfl,CN _,F1,[],d.st.make Ax _,d.st.Bq Ax,Ay,.nil⟩,?_⟩;rintro i m H2⟨rfl,hi,F2,vs,c,K,z,t⟩
  by_cases r:i<xs.length
  .refine .inr ⟨C.go ss O F2 H2 i c.ff c.st r,λx H3 y=>?_⟩;obtain⟨p,F3,G,u,I⟩:=C.E7 ss O F2 H2 i x H3 c.ff c.st r y;have M:p∈xs:=Dn G;have Ik:(xs.take (i+1))=xs.take i++[p]:=by
    have X:xs[i]=p:=by rw[Am r]at G;exact B9 G
    rw[Ln r,X]
   have L:List.filter f (xs.take (i+1))=(xs.take i).filter f++(if f p=true then[p]else[]):=by
    rw[Ik,fH];congr 1
    by_cases j:f p=true <;> simp[j]
   have N:∀{F4:Hp},(∀a o,F4 a=some o->F2 a=some o∨H2 a=none)->F4 acc=none:=λ{F4}n=>by
    cases e:F4 acc with
    |none=>rfl
    |some o=>
     rcases n acc o e with w|w
     .rw[K]at w;cases w
     .rw[z]at w;cases w
   have Z:=u.st.AH (js:=js) nd (.one I);refine(T p M).go E _ F3 H3 _ Z λb F4 H4 D V=>?_;have l:=u.trans (D.out (ps:=[p]) u.st np);show if b=true then _ else _
   rw[V]
   by_cases j:f p=true
   .rw[hZ j];have Y:=l.st.AH (js:=js) nd (.one (I.mono (D.out (ps:=[p]) u.st np).ff));refine(U p M j).go E _ F4 H4 _ Y λw pw F5 H5 R IS W=>?_;have yn:=D.out (ps:=[p]) u.st np;have Hb:=R.out (ps:=[p]) l.st np;have B:=l.trans Hb;have IA:=B.hh acc _ P z;have σ:=N B.nn;have v:vs.length<=99999:=by
     rw[t.length,AF];have:=Qg f (xs.take i);rw[DO]at this;omega
    refine⟨vs,IA,Fp v,xs.length - (i+1),by omega,rfl,r,F5,vs++[w],?_,σ,Ay,?_⟩
    .have A:=c.trans B;refine⟨A.st.K0 σ (.inl GP) IK,A.ff,λa o n e=>?_,A.nn⟩;rw[Ab (DS e Ax)];exact A.hh a o n e
    .rw[L,hZ j,Cc];rw[W]at IS;exact(t.mono B.ff).append (.one IS)
   .have Lz:f p=false:=by simpa using j
    rw[Lz,gp (by decide)];refine⟨xs.length - (i+1),by omega,rfl,r,F4,vs,c.trans l,N l.nn,l.hh acc _ P z,?_⟩;rw[L,gp j,D0];exact t.mono l.ff
  .have e:i=xs.length:=by omega
   subst e;refine .inl ⟨C.stop ss O F2 H2 c.ff c.st,q acc vs _ F2 H2 (d.trans c) K (d.none Ax) z ?_ kk⟩;rw[IV]at t;exact t⟩
end
abbrev Pre:=List Slot->AX->Prop
def Ai(pre:Pre):Sp:=λvs H Q _=>∃(ss:List Slot)(R:AX)(F:Hp)(A:List Addr),pre ss R/\Sg (E3 A F H) ss (vs.map some) F H/\∀v F' H',Fin (E3 A F H) F' H'->R.ok (E3 A F H) F' H' v->Q v H'
section
variable[Xw]
variable{pre:Pre}{k:PV->Prop}
theorem FV.at{l:List Slot}(h:FV ss O F H vs l):∀{i:Nat}{s:Slot},l[i]?=some s->∃v,vs[i]?=some v/\Av ss O F H v s:=by
 induction h with
 |nil=>intro i s e;simp at e
 |cons a _ b=>
  intro i s e;cases i with
  |zero=>simp at e;subst e;exact⟨_,rfl,a⟩
  |succ i=>exact b (by simpa using e)
theorem FV.len{l:List Slot}(h:FV ss O F H vs l):l.length=vs.length:=by
 induction h with
 |nil=>rfl
 |cons a _ b=>rw[D1,D1,b]
theorem Av.ok(S:Sg E ss O F H)(a:Av ss O F H v s)(b:∀l,Bo ss O l->l∉A):Ok (E3 A F H) F H s (some (some v))/\∀o l,¬ B3 s o l:=by
 cases s with
 |is p=>exact⟨⟨v,rfl,a⟩,λ_ _ z=>z⟩
 |sq tp xs=>
  cases tp with
  |true=>exact⟨⟨v,rfl,a⟩,λ_ _ z=>z⟩
  |false=>obtain⟨l,vs,rfl,n,h,r⟩:=a;exact⟨⟨l,vs,rfl,⟨b l n,An⟩,h,r⟩,λ_ _ z=>z⟩
 |raw P=>exact⟨⟨v,rfl,a⟩,λ_ _ z=>z⟩
 |any=>exact a.elim
 |own xs=>exact a.elim
 |AO=>exact a.elim
 |ow lt t=>exact a.elim
theorem Sg.PD(S:Sg E ss O F H){l:List Slot}(a:FV ss O F H vs l):Sg (E3 [] F H) l (vs.map some) F H:=by
 have nn:∀{p:Prop}(a:Addr),a∈([]:List Addr)->p:=λa h=>absurd h An;refine⟨⟨S.fh,AI.refl _,λ_ _ _ e=>e,λ_ _ e=>.inl e,λa h=>nn a h,λa h=>nn a h,λa h=>nn a h,λa h=>nn a h,λa h=>nn a h,λa h=>nn a h⟩,by rw[AF];exact a.len,λi s hi=>?_,λi j s u l Fo hi f c d=>?_⟩
 .obtain⟨v,b,q⟩:=a.at hi;rw[Aa,b];exact(q.ok S λ_ _ h=>absurd h An).1
 .obtain⟨v,b,q⟩:=a.at hi;exact(q.ok S (A:=[]) λ_ _ h=>absurd h An).2 _ _ c
theorem Sg.S6(S:Sg E ss O F H){p:Addr}(hi:ss[i0]?=some .AO)(e:O[i0]?=some (some (.ref p))){l:List Slot}(a:FV ss O F H vs l):Sg (E3 [p] F H) (.AO::l) ((V.ref p::vs).map some) F H:=by
 obtain⟨w,g,fp,_,b⟩:=S.ok i0 _ hi;rw[e]at g;cases g;have f:∀l,Bo ss O l->l∉[p]:=λl n h=>by
  have:l=p:=by simpa using h
  subst this;exact n i0 hi e
 have one:∀a,a∈[p]->a=p:=λa h=>by simpa using h
 have nn:∀{p:Prop}(a:Addr),a∈([]:List Addr)->p:=λa h=>absurd h An;refine⟨⟨S.fh,AI.refl _,λ_ _ _ e=>e,λ_ _ e=>.inl e,λa h=>(one a h)▸b,λa h=>(one a h)▸fp,λa h=>?_,λa h=>nn a h,λa h=>nn a h,λa h=>nn a h⟩,by rw[AF,D1,D1];rw[a.len],λi s hi=>?_,λi j s u c Fo hi t r k=>?_⟩
 .rw[one a h];obtain⟨_,_,q,_⟩:=b;show H p≠none;rw[q];simp
 .cases i with
  |zero=>simp at hi;subst hi;exact⟨p,rfl,fp,.inr (by simp),b⟩
  |succ i=>
   obtain⟨v,d,q⟩:=a.at (i:=i) (s:=s) (by simpa using hi)
   have:((V.ref p::vs).map some)[i+1]?=some (some v):=by rw[Ap,List.getElem?_cons_succ,Aa,d];rfl
   rw[this];exact(q.ok S f).1
 .have z:∀(i:Nat)s o c,(Slot.AO::l)[i]?=some s->B3 s o c->i=0:=λi s o c h m=>by
   cases i with
   |zero=>rfl
   |succ i=>
    obtain⟨v,d,q⟩:=a.at (i:=i) (s:=s) (by simpa using h)
    exact((q.ok S f).2 _ _ m).elim
  exact absurd ((z i s _ _ hi r).trans (z j u _ _ t k).symm) Fo
theorem Sg.back(S:Sg E ss O F H)(d:∀a,a∈A->∃i:Nat,ss[i]?=some .AO/\O[i]?=some (some (.ref a)))(f:Fin (E3 A F H) F' H'):Mv E ss O F H F' H':=by
 refine S.step f.f0 f.fh (λa o n e=>f.keep a o ⟨λh=>?_,An⟩ e) f.fresh λi l hi e=>?_
 .obtain⟨i,c,b⟩:=d a h;exact n i c b
 .by_cases q:l∈A
  .exact f.HB l q
  .exact Bd.keep (S.FH hi e) λo e=>f.keep l o ⟨q,An⟩ e
theorem wp_call(h:Wa ss t λl=>∃b,pre l (.is b)/\∀p,b p->k p):Wp ss (EU (Ai pre) [] E0 t) k:=⟨λE O F H Q S q=>
 h.go E O F H _ S λvs l F1 H1 c a⟨b,d,kk⟩=>by
  rw[D0];refine⟨l,.is b,F1,[],d,c.st.PD a,λv F' H' f⟨p,r,kp⟩=>?_⟩;exact q v p F' H' (c.trans (c.st.back (λ_ h=>absurd h An) f)) r (kk p kp)⟩
theorem xW(hi:ss[i]?=some .AO)(h:Wa ss t λl=>∃b,pre (.AO::l) (.is b)/\∀p,b p->k p):Wp ss (EU (Ai pre) [] E0 (Au (BF i) t)) k:=⟨λE O F H Q S q=>by
 obtain⟨p,e,_⟩:=S.ok i _ hi;refine⟨_,e,h.go E O F H _ S λvs l F1 H1 c a⟨b,d,kk⟩=>?_⟩;show Ai pre ((V.ref p::vs)++[]) H1 Q E0;rw[D0];refine⟨.AO::l,.is b,F1,[p],d,c.st.S6 hi e a,λv F' H' f⟨pv,r,kp⟩=>?_⟩;exact q v pv F' H' (c.trans (c.st.back (A:=[p]) (λa h=>⟨i,hi,(show a=p from by simpa using h)▸e⟩) f)) r (kk pv kp)⟩
theorem rG{k:List PV->Prop}(hi:ss[i]?=some .AO)(h:Wa ss t λl=>∃c,pre (.AO::l) (.new c)/\∀xs,c xs->k xs):Wn ss (EU (Ai pre) [] E0 (Au (BF i) t)) k:=⟨λE O F H Q S q=>by
 obtain⟨p,e,_⟩:=S.ok i _ hi;refine⟨_,e,h.go E O F H _ S λvs l F1 H1 b a⟨c,g,kk⟩=>?_⟩;show Ai pre ((V.ref p::vs)++[]) H1 Q E0;rw[D0];refine⟨.AO::l,.new c,F1,[p],g,b.st.S6 hi e a,λv F' H' f⟨l,vs,xs,n,m,j,GF,r,d⟩=>?_⟩;subst n;exact q l vs xs F' H' (b.trans (b.st.back (A:=[p]) (λa h=>⟨i,hi,(show a=p from by simpa using h)▸e⟩) f)) m (b.none j) GF r (kk xs d)⟩
theorem Sg.grown(S:Sg E ss O F H)(n:Nat):Sg E (ss++List.replicate n .any) (O++List.replicate n none) F H:=by
 have k:∀(i:Nat)s,(ss++List.replicate n .any)[i]?=some s->s≠.any->ss[i]?=some s/\(O++List.replicate n none)[i]?=O[i]?:=λi s e hs=>by
  by_cases h:i<ss.length
  .rw[E2 h]at e;rw[E2 (by rw[<- S.len];exact h)];exact⟨e,rfl⟩
  .rw[ER (by omega),fM]at e;split at e
   .exact absurd (B9 e).symm hs
   .cases e
 refine⟨S.toFin,by simp[S.len],λi s e=>?_,λi j s u l Fo hi o g f=>?_⟩
 .cases s with
  |any=>trivial
  |_=>obtain⟨a,b⟩:=k i _ e (by simp);rw[b];exact S.ok i _ a
 .have ns:s≠.any:=by rintro rfl;cases g
  have m:u≠.any:=by rintro rfl;cases f
  obtain⟨a,b⟩:=k i s hi ns;obtain⟨c,d⟩:=k j u o m;rw[b]at g;rw[d]at f;exact S.BD i j s u l Fo a c g f
end
section
variable{pre:Pre}{k:PV->Prop}
noncomputable def P2(E:Ent0):Ent:=⟨E,λ_ _ _ _ _ _ _ _ _ d=>d.elim⟩
theorem DA{N:List Str}{n:Nat}{t:TS}(h:Ai pre vs H Q X)(c:∀ss R,pre ss R->ss.length=n)
  (hw:∀ss R,pre ss R->Ws (ss++List.replicate (N.length - n) .any) t (λ_=>∃k,R=.is k/\k .AA) R):t { nx:=λ_ H'=>Q .AA H',rt:=Q } (L2.start N vs) H:=by
 obtain⟨ss,R,F,A,a,S,q⟩:=h;have e:vs.length=n:=by have:=S.len;rw[AF]at this;rw[<- this];exact c ss R a
 unfold L2.start;rw[e];refine(hw ss R a).go (P2 (E3 A F H)) _ _ F H (S.grown _) (λA7 σ' F' H'⟨k,e,b⟩S' _=>?_) λv F' H' f ok=>q v F' H' f ok;subst e;exact q .AA F' H' S'.toFin ⟨.AA,.AA,b⟩
theorem DB{n:Nat}(b:∀ss R,pre ss R->ss.length=n)(h:Ai pre vs H Q X):vs.length=n:=by
 obtain⟨ss,R,F,A,a,S,q⟩:=h;have:=S.len;rw[AF]at this;rw[<- this];exact b ss R a
end
end Fz
namespace Lw
open L2
structure Ent where
 a:Addr
 ns:List Str
 t:Addr
 r:Str
 g:Nat
 ss:List Str
end Lw
namespace Lw
open L2
noncomputable def Hv(i g:Nat):Nat:=if i<g then g+1 else g
noncomputable def NR(p g:Nat):Nat:=if p<g then g - 1 else g
noncomputable def Lj(r:Str)(g i:Nat):Bool:=if decide (V.str r=V.str "all")=true then true else if decide (V.str r=V.str "ahead")=true then decide ((g:Int)<=(i:Int))else false
end Lw
namespace L2
section
variable{X:Cx}{Zn:yp}{O:St}{H2:Hp}{s2:Shared}{elt iter:Expr}{x z:Str}{px pz tp pos:Pos}{tk:Nat}{scope:Scope}{AH:List Str}{js:List Nat}{te:TE}{J:It}{fp:List Addr}{it:Addr}
 {tn:Nat->Heap->Prop}
end
end L2
namespace Fz
open L2 Lw
variable{E:Ent0}{ss:List Slot}{O:L2.St}{F F' H H':Hp}{js:List Nat}{ta tb te:TE}{nx:List Slot->Prop}{R:AX}{i:Nat}{wi:TI}{α:Type}{xs:List PV}
section
variable[Xw]
variable{K:yo}{k:PV->Prop}
theorem Sg.ai(S:Sg E ss O F H){p:Addr}(hi:ss[i]?=some .AO)(e:O[i]?=some (some (.ref p)))(s:Bh p H H'):Mv E ss O F H F H':=by
 obtain⟨g,b,fp,_,f⟩:=S.ok i _ hi;rw[e]at b;cases b;refine S.step (AI.refl _) (λa o q=>s.same a o (DS q fp) (S.fh a o q)) (λa o n q=>s.same a o (λz=>?_) q) (λa o q=>.inl q) λj l c d=>?_
 .rw[z]at n;exact n i hi e
 .by_cases z:l=p
  .rw[z];exact s.AO
  .exact Bd.keep (S.FH c d) λo q=>s.same l o z q
theorem U3(hi:ss[i]?=some .AO)(h:Wp ss te λx=>∃m,x=.int m/\0<m/\m<10 ^ 18/\∀r:Int,0<=r->r<m->k (.int r)):Wp ss (EU Je [] E0 (Au (BF i) (Au te BW))) k:=⟨λE O F H Q S q=>by
 obtain⟨p,e,_⟩:=S.ok i _ hi;refine⟨_,e,h.go E O F H _ S λv x F1 H1 a r⟨m,f,d,Ju,kk⟩=>?_⟩;subst f;cases r.inv;exact⟨p,m,rfl,a.st.FH hi e,d,Ju,λr H2 c b s=>q _ _ F1 H2 (a.trans (a.st.ai hi e s)) (.int r) (kk r c b)⟩⟩
def Ds(K:yo)(ns:List Int):Hp->V->Prop:=λF v=>∃a,v=.ref a/\AS K F a (ns.map V.int)
theorem SJ(K:yo)(ns:List Int):∀(v:V)(F F':Hp),AI F F'->Ds K ns F v->Ds K ns F' v:=λv F F' s AE=>by obtain⟨a,e,h⟩:=AE;exact⟨a,e,by
 rcases h with(h|⟨o,h⟩)|h
 .exact .inl (.inl (s _ _ h))
 .exact .inl (.inr ⟨o,s _ _ h⟩)
 .exact .inr h⟩
theorem Z7{j:Nat}{ns:List Int}(hi:ss[i]?=some (.raw (Ds K ns)))(h:Wp ss te λx=>∃m,x=.int m/\0<=m/\m<=1000/\nx (ss.set j .AO)):Ws ss (Dq (EU (Nk K) [] E0 (Au (BF i) (Au te BW))) (Bt j)) nx R:=⟨λE D O F H S t hr=>by
 obtain⟨v,e,⟨a,w,A⟩,st⟩:=S.ok i _ hi;subst w;refine⟨_,e,h.go E O F H _ S λv x F1 H1 c r⟨m,y,o,Ju,kk⟩=>?_⟩;subst y;cases r.inv;obtain⟨z,f,RY,_⟩:=c.st.ok i _ hi;rw[e]at f;cases f;obtain⟨B,ea,HS⟩:=SJ K ns _ F1 H1 c.st.fh RY;cases ea;refine⟨a,ns,m,rfl,HS,o,Ju,λp H2 d s g=>?_⟩;have n:=c.st.grow s;exact t _ _ F1 H2 kk (n.st.setG ⟨p,rfl,c.st.Bq d,.inl (c.st.Cy d),g⟩ λl e b u _ q k=>by cases e;exact c.st.II q d k) c.ff⟩
end
section
variable{K:yo}
theorem qx{N:List Str}{vs:List V}{Q:VK}{X:XK}{t:TS}(h:M5 K vs H Q X)(hw:∀ns:List Int,ns.length<=63->Ws (.raw (Ds K ns)::List.replicate (N.length - 1) .any) t (λ_=>False) (.is λp=>p=.bl true)):t { nx:=λ_ H'=>Q .AA H',rt:=Q } (L2.start N vs) H:=by
 obtain⟨a,ns,rfl,c,MM,q⟩:=h;have S:Sg (E3 [] H H) [.raw (Ds K ns)] [some (.ref a)] H H:=by
  have nn:∀{p:Prop}(a:Addr),a∈([]:List Addr)->p:=λa h=>absurd h An;refine⟨⟨AI.refl _,AI.refl _,λ_ _ _ e=>e,λ_ _ e=>.inl e,λa h=>nn a h,λa h=>nn a h,λa h=>nn a h,λa h=>nn a h,λa h=>nn a h,λa h=>nn a h⟩,rfl,λi s hi=>?_,λi j s u l Fo hi d b=>?_⟩
  .cases i with
   |zero=>cases hi;exact⟨_,rfl,⟨a,rfl,c⟩,SJ K ns _⟩
   |succ i=>simp at hi
  .cases i with
   |zero=>cases hi;cases b
   |succ i=>simp at hi
 refine(hw ns MM).go (P2 (E3 [] H H)) _ _ H H (S.grown _) (λ_ _ _ _ h=>h.elim) λv F' H' f ok=>?_;obtain⟨p,r,rfl⟩:=ok;cases r.inv;exact q H'
end
section
variable[Xw]
variable{K:yo}{k:PV->Prop}
theorem Wi.mono{k a:List PV->Prop}(h:Wi ss wi k)(i:∀xs,k xs->a xs):Wi ss wi a:=⟨λE O F H R S q=>h.go E O F H R S λJ xs F' H' m s kk=>q J xs F' H' m s (i xs kk)⟩
theorem I0{tt:TT}{k:List PV->Prop}(c:α->PV)(f:α->Bool)(g:α->PV)
  (h:Wi ss wi λxs=>∃ns:List α,xs=ns.map c/\ns.length<=100000/\(∀x∈ns,Wt (Bm js ss++[.is (c x)]) tt λb=>b=f x)/\(∀x∈ns,f x=true->Wp (Bm js ss++[.is (c x)]) te λp=>p=g x)/\k ((ns.filter f).map g))
  (inj:∀x y,c x=c y->x=y) (nd:js.Nodup:=by decide) (np:Mh js ss=true:=by rfl):Wn ss (J1 wi js tt te) k:=by
 by_cases hα:Nonempty α
 .obtain⟨l⟩:=hα;have inv:∀p:PV,∃x:α,∀y,c y=p->y=x:=λp=>by
   by_cases q:∃y,c y=p
   .obtain⟨y,a⟩:=q;exact⟨y,λz i=>inj _ _ (i.trans a.symm)⟩
   .exact⟨l,λy a=>absurd ⟨y,a⟩ q⟩
  let d:PV->α:=λp=>Classical.choose (inv p)
  have hd:∀x,d (c x)=x:=λx=>(Classical.choose_spec (inv (c x)) x rfl).symm;refine XT (λp=>f (d p)) (λp=>g (d p)) (h.mono λxs⟨ns,e,i,h1,h2,kk⟩=>?_) nd np;subst e;refine⟨by rw[AF];exact i,λx hx=>?_,λx hx j=>?_,?_⟩
  .obtain⟨y,a,rfl⟩:=List.mem_map.mp hx;rw[hd];exact h1 y a
  .obtain⟨y,a,rfl⟩:=List.mem_map.mp hx;rw[hd]at j ⊢;exact h2 y a j
  .have e:((ns.map c).filter λp=>f (d p)).map (λp=>g (d p))=(ns.filter f).map g:=by
    rw[List.filter_map,CA]
    congr 1
    .funext x;show g (d (c x))=g x;rw[hd]
    .congr 1;funext x;show f (d (c x))=f x;rw[hd]
   rw[e];exact kk
 .refine XT (λ_=>true) (λp=>p) (h.mono λxs⟨ns,e,i,h1,h2,kk⟩=>?_) nd np;have m:ns=[]:=by
   cases ns with
   |nil=>rfl
   |cons x r=>exact absurd ⟨x⟩ hα
  subst m;subst e;exact⟨by simp,λx hx=>absurd hx (by simp),λx hx=>absurd hx (by simp),kk⟩
theorem str_inj:∀x y:Str,PV.str x=PV.str y->x=y:=λ_ _ e=>by injection e
theorem Z0:∀x y:Nat,PV.int (x:Int)=PV.int (y:Int)->x=y:=λ_ _ e=>by injection e with e;omega
theorem mE(h:Wp ss ta λp=>∃x,p=.str x/\Wq ss tb λ_ ys=>∃ns:List Str,ys=ns.map PV.str/\k (.bl (decide (x∈ns)))):Wp ss (BB (Ke K false) ta tb) k:=Xq h
theorem Y5(h:Wp ss ta λp=>∃x,p=.str x/\Wq ss tb λ_ ys=>∃ns:List Str,ys=ns.map PV.str/\k (.bl (!decide (x∈ns)))):Wp ss (BB (Ke K true) ta tb) k:=Xq h
theorem cT(h:Wq ss ta λtp xs=>∃ns:List Str,xs=ns.map PV.str/\Wq ss tb λBn ys=>Bn=tp/\∃a:List Str,ys=a.map PV.str/\k (.bl (decide (ns=a)))):Wp ss (BB (LI K false) ta tb) k:=qK h
theorem e7{β:Type}(c:α->β)(xs:List α)(lo hi:Option Int):Cw (xs.map c) lo hi=(Cw xs lo hi).map c:=by
 unfold Cw;rw[AF,JU,HN]
theorem iE(xs:List α)(g:Nat):Cw xs none (some (g:Int))=xs.take g:=by
 unfold Cw;rw[HT.aX,HT.d5,NZ,Wk];rcases Wf g xs.length with h|h
 .rw[Wh h]
 .rw[Wj h,IV,Qi h]
theorem cB(xs:List α)(g:Nat):Cw xs (some (g:Int)) none=xs.drop g:=by
 unfold Cw;rw[HT.aX,HT.d5];rcases Wf g xs.length with h|h
 .rw[Wh h,Qi (by rw[JS];omega)]
 .rw[Wj h,List.drop_length,List.drop_of_length_le h];simp
theorem lS(xs:List α)(lo hi:Option Int):(Cw xs lo hi).length<=xs.length:=by
 unfold Cw;rw[DO,JS];omega
variable{ys:List PV}
noncomputable def Jm(xs:List PV):List PV:=(List.range xs.length).map λi:Nat=>.tup [.int (i:Int),xs.getD i .AA]
theorem Rt(xs:List PV):(Jm xs).length=xs.length:=by simp[Jm]
theorem bL{x:PV}(h:xs[i]?=some x):(Jm xs)[i]?=some (.tup [.int (i:Int),x]):=by
 have hi:i<xs.length:=(List.getElem?_eq_some_iff.mp h).1;unfold Jm;rw[Aa,WU hi];show some (PV.tup [PV.int (i:Int),xs.getD i PV.AA])=_;rw[Eo,h];rfl
theorem jR{p:PV}(h:(Jm xs)[i]?=some p):∃x,xs[i]?=some x/\p=.tup [.int (i:Int),x]:=by
 have hi:i<xs.length:=by have:=(List.getElem?_eq_some_iff.mp h).1;rwa [Rt]at this
 have e:=Am hi;refine⟨xs[i],e,?_⟩;rw[bL e]at h;exact(B9 h).symm
theorem k9{k:List PV->Prop}(h:Wz ss te λ_ xs=>k (Jm xs)):Wi ss (T3 K (Au te BW)) k:=⟨λE O F H R S q=>
 h.go E O F H _ S λv tp xs F1 H1 b f kk=>by
  obtain⟨l,vs,o,a,r⟩:∃l vs,v=.ref l/\(∀(ss:List Slot)(O:L2.St)(F H:Hp),AI F1 F->Sg E ss O F H->H l=some (Eu tp vs))/\AG F1 vs xs:=by
   cases tp with
   |true=>
    have n:Rep F1 v (.tup xs):=f;cases n with
    |tup e r=>exact⟨_,_,rfl,λss O F H s S=>S.fh _ _ (s _ _ e),r⟩
   |false=>
    obtain⟨l,vs,e,h1,r⟩:=f;refine⟨l,vs,e,λss O F H s S=>?_,r⟩;rcases h1 with h1|⟨hA,h1⟩
    .exact S.fh _ _ (s _ _ h1)
    .exact S.keep _ _ hA h1
  subst o;refine⟨l,tp,vs,rfl,Eu.sq (a ss O F1 H1 (AI.refl _) b.st),q _ (Jm xs) F1 H1 b ⟨λss O F H i s S hi=>?_,λss O F H s S=>?_,λss O F H i x H' s S hi y=>?_⟩ kk⟩
  .rw[Rt]at hi;exact⟨Eu.sq (a ss O F H s S),by rw[r.length];exact hi⟩
  .refine⟨Eu.sq (a ss O F H s S),?_⟩;rw[Rt,r.length];exact Aj _
  .obtain⟨p,y,g,ex,j,t⟩:=y;subst ex;subst t;obtain⟨z,d,c⟩:=r.get' g;have m:=S.alloc j (.tup [.int i,y]);exact⟨_,_,bL d,m,.tup Ay (.cons (.int _) (.one (c.mono (s.trans m.ff))))⟩⟩
theorem bG{r:List V->Hp->VK->Prop}(hr:r=λxs H Q=>(∃i,xs=[.int i]/\Q (.int i) H)∨∃k,xs=[.bl k]/\Q (.int (if k then 1 else 0)) H)(h:Wp ss te λp=>∃b,p=.bl b/\k (.int (if b then 1 else 0))):Wp ss (ED r (Au te BW)) k:=⟨λE O F H Q S q=>
 h.go E O F H _ S λv p F1 H1 a r AE=>by
  obtain⟨b,e,kk⟩:=AE;subst hr;subst e;cases r.inv;exact .inr ⟨b,rfl,q _ _ F1 H1 a (.int _) kk⟩⟩
end
theorem RE{c A B:Prop}[Decidable c](h:c)(a:A):if c then A else B:=by rw[hZ h];exact a
end Fz
namespace L2
theorem uR{X:Cx}{tg:Expr}{a b:Expr}{ta:TA}{p pos:Pos}(o:Gl X "range")(hm:X.mg "range"=none)(f:QA X [a,b] ta)(hs:starEach [a,b] X.env=[(false,eval a X.env),(false,eval b X.env)]:=by rfl)(BE:starEach [b] X.env=[(false,eval b X.env)]:=by rfl):QI X tg (.Call (.Name "range" p) [a,b] [] pos) (U2 ta):=⟨by
 have f:=f.h;intro Zn s O H R I h;refine Call_ (LJ I o hm boot_range (Wu (AJ (f pos Zn s O H _ I h) λus u⟨vs,H1,I1,g,d⟩=>?_) (by rw[hs,BE]) (by rw[BE];rfl)));obtain⟨i,j,e,⟨d,n,m,l⟩,q⟩:=d;subst e;cases g with
 |cons r c=>
  cases c with
  |cons k c=>
   cases c;obtain⟨t,rfl⟩:=r;obtain⟨t',rfl⟩:=k;exact call_range_2 (Y2 I1 d n m l q)⟩
end L2
namespace Fz
open L2 Lw
variable{ss:List Slot}{O:L2.St}
section
variable[Xw]
variable{E:Ent0}{F H F' H':Hp}{K:yo}{js:List Nat}{ta tb tc te:TE}{k:PV->Prop}{nx:List Slot->Prop}{R:AX}{xs ys:List PV}
noncomputable def KL(i:Int)(n:Nat):List PV:=(List.range n).map λj:Nat=>PV.int (i+(j:Int))
theorem VZ(i:Int)(n:Nat):(KL i n).length=n:=by simp[KL]
theorem tT{k:List PV->Prop}(h:Wp ss ta λp=>∃i:Int,p=.int i/\Wp ss tb λp=>∃j:Int,p=.int j/\(i<=1000000/\-1000000<=i/\j<=1000000/\-1000000<=j)/\k (KL i (j - i).toNat)):Wi ss (U2 (Au ta (Au tb BW))) k:=⟨λE O F H R S q=>
 h.go E O F H _ S λv p F1 H1 b r AE=>by
  obtain⟨i,e,h2⟩:=AE;subst e;cases r.inv;exact h2.go E O F1 H1 _ b.st λg p2 F2 H2 d c C9=>by
   obtain⟨j,f,l,kk⟩:=C9;subst f;cases c.inv;refine⟨i,j,rfl,by omega,q _ (KL i (j - i).toNat) F2 H2 (b.trans d) ⟨λss O F H n s S a=>?_,λss O F H s S=>?_,λss O F H n x H' s S a y=>?_⟩ kk⟩
   .rw[VZ]at a;exact a
   .show _<=_;rw[VZ];exact Aj _
   .obtain⟨e,hx⟩:=y;subst e;subst hx;rw[VZ]at a;refine⟨.int (i+(n:Int)),F,?_,.refl S,.int _⟩;unfold KL;rw[Aa,WU a];rfl⟩
theorem bY:∀(ps:List PV){vs:List V},FV ss O F H vs (ps.map Slot.is)->AG F vs ps
 | [],_,h=>by cases h;exact .nil
 |p::ps,_,h=>by
  rw[Ap]at h;cases h with
  |cons a t=>exact .cons a (bY ps t)
theorem ux:∀{ps:List PV}{vs:List V},AG F vs ps->FV ss O F H vs (ps.map Slot.is):=by
 intro ps vs r
 induction ps generalizing vs with
 |nil=>cases r.Ca;exact .nil
 |cons p ps c=>obtain⟨v,ws,rfl,a,b⟩:=r.inv;exact .cons (s:=.is _) a (c b)
theorem iS{pre:Pre}{t:TA}{i:Nat}{ns:List Int}(hi:ss[i]?=some (.raw (Ds K ns)))(h:Wp ss te λx=>∃m,x=.int m/\0<=m/\m<=1000/\Wa ss t λl=>∃(ps:List PV)(D:PV->Prop),l=ps.map Slot.is/\pre (.AO::l) (.is D)/\∀p,D p->k p):
  Wp ss (EU (Ai pre) [] E0 (Au (EU (Nk K) [] E0 (Au (BF i) (Au te BW))) t)) k:=⟨λE O F H Q S q=>by
 obtain⟨v,e,⟨a,ev,hq⟩,st⟩:=S.ok i _ hi;subst ev;refine⟨_,e,h.go E O F H _ S λv x F1 H1 c r⟨m,em,m0,Ju,hw⟩=>?_⟩;subst em;cases r.inv;obtain⟨v',Y,RY,_⟩:=c.st.ok i _ hi;rw[e]at Y;cases Y;obtain⟨a',ea,HS⟩:=SJ K ns _ F1 H1 c.st.fh RY;cases ea;refine⟨a,ns,m,rfl,HS,m0,Ju,λp H2 I s T=>?_⟩;have U:=c.st.grow s;refine hw.go E O F1 H2 _ U.st λvs l F3 H3 B av⟨ps,D,el,Iy,kk⟩=>?_;show Ai pre ((V.ref p::vs)++[]) H3 Q E0;rw[D0];have L:=c.trans (U.trans B);have M:∀(j:Nat)s,ss[j]?=some s->¬ B3 s O[j]? p:=λj s b=>c.st.II b I;have np:Bo ss O p:=λj b=>M j _ b;have xD:Bd H3 p:=Bd.keep T λo σ=>B.hh p o np σ;have uU:F3 p=none:=by
  cases z:F3 p with
  |none=>rfl
  |some o=>
   rcases B.nn p o z with w|w
   .rw[c.st.Bq I]at w;cases w
   .obtain⟨_,_,R,_⟩:=T;rw[w]at R;cases R
 have S':Sg E (ss++[.AO]) (O++[some (.ref p)]) F3 H3:=by
  have g:=B.st;have N:∀(j:Nat)s,(ss++[Slot.AO])[j]?=some s->(ss[j]?=some s/\(O++[some (V.ref p)])[j]?=O[j]?)∨(s=.AO/\(O++[some (V.ref p)])[j]?=some (some (.ref p))/\j=ss.length):=λj s b=>by
   by_cases AU:j<ss.length
   .rw[E2 AU]at b;rw[E2 (by rw[<- g.len];exact AU)];exact .inl ⟨b,rfl⟩
   .rw[ER (by omega)]at b;have Z:j - ss.length=0:=by
     have:=(List.getElem?_eq_some_iff.mp b).1
     simpa using this
    rw[Z]at b;refine .inr ⟨by simpa using b.symm,?_,by omega⟩
    rw[ER (by rw[<- g.len];omega),<- g.len,Z];rfl
  refine⟨g.toFin,by simp[g.len],λj s b=>?_,λj G s u l Zo b Kq A y=>?_⟩
  .rcases N j s b with⟨J,d⟩|⟨rfl,d,_⟩
   .rw[d];exact g.ok j s J
   .rw[d];exact⟨p,rfl,uU,.inl (c.st.Cy I),xD⟩
  .rcases N j s b with⟨J,d⟩|⟨rfl,d,a3⟩
   .rcases N G u Kq with⟨P,C⟩|⟨rfl,C,_⟩
    .rw[d]at A;rw[C]at y;exact g.BD j G s u l Zo J P A y
    .rw[d]at A;rw[C]at y;cases y;exact M j s J A
   .rcases N G u Kq with⟨P,C⟩|⟨rfl,C,b3⟩
    .rw[d]at A;cases A;rw[C]at y;exact M G u P y
    .exact absurd (a3.trans b3.symm) Zo
 have Pu:(ss++[Slot.AO])[ss.length]?=some .AO:=by rw[ER (Aj _)];simp
 have uD:(O++[some (V.ref p)])[ss.length]?=some (some (.ref p)):=by rw[B.st.len,ER (Aj _)];simp
 have l6:FV (ss++[Slot.AO]) (O++[some (V.ref p)]) F3 H3 vs l:=by
  subst el;exact ux (bY ps av)
 refine⟨.AO::l,.is D,F3,[p],Iy,S'.S6 Pu uD l6,λv F' H' f⟨pv,r,kp⟩=>?_⟩;have W:∀a,a≠p->a∉[p]:=λa h z=>h (by simpa using z)
 have sx:H p=none:=c.none I;have mv:Mv E ss O F H F' H':=by
  refine S.step (L.ff.trans f.f0) f.fh (λa o n e=>f.keep a o ⟨W a (DS e sx),An⟩ (L.hh a o n e)) (λa o e=>?_) λj l b X=>?_
  .rcases f.fresh a o e with w|w
   .exact L.nn a o w
   .exact .inr (L.none w)
  .exact Bd.keep (B.st.FH b X) λo σ=>f.keep l o ⟨W l (by rintro rfl;exact M j _ b X),An⟩ σ
 exact q v pv F' H' mv r (kk pv kp)⟩
end
end Fz
namespace L2
section
variable{X:Cx}{Zn:yp}{O:St}{H:Hp}{s:Shared}
theorem Xg:Hl X "list.pop" Si:=gI
end
end L2
namespace Fz
open L2 Lw
variable{E:Ent0}{ss:List Slot}{O:L2.St}{F F' F0 F1 H H' H0:Hp}{js m p:List Nat}{ta tb tc te ti:TE}{nx:List Slot->Prop}{R:AX}{PZ ps xs ys:List PV}{n t u x y:OV}{d i j:Nat}{Bp vs ws:List V}{A:Around}{A1 Bl:List Value}{Bn tp:Bool}{a b:Addr}{v:V}{tr:TA}{us:List OV}{pre:Pre}
section
variable[Xw]
variable{K:yo}{k:PV->Prop}
theorem XW{n:Nat}(h:j<n):Fn n (j:Int)=some j:=by
 unfold Fn;simp;omega
theorem AG.set:∀{xs:List PV}(j:Nat){v:V}{p:PV},AG F vs xs->Rep F v p->AG F (vs.set j v) (xs.set j p):=by
 intro xs
 induction vs generalizing xs with
 |nil=>intro j v p h r;cases h;exact .nil
 |cons a vs c=>
  intro j v p h r;cases h with
  |cons b t=>
   cases j with
   |zero=>exact .cons r t
   |succ j=>exact .cons b (c j t r)
end
mutual
def C4:PV->PV->Bool
 | .lst xs,.lst ys=>Cf xs ys
 | .tup xs,.tup ys=>Cf xs ys
 | .tup xs,.con _ ys=>Cf xs ys
 | .con _ xs,.tup ys=>Cf xs ys
 | .con _ xs,.con _ ys=>Cf xs ys
 | .AA,.AA=>true
 | .bl a,.bl b=>a == b
 | .bl a,.int b=>(if a then 1 else 0) == b
 | .int a,.bl b=>a == (if b then 1 else 0)
 | .int a,.int b=>a == b
 | .str a,.str b=>a == b
 |_,_=>false
def Cf:List PV->List PV->Bool
 | [],[]=>true
 |x::r,y::t=>C4 x y && Cf r t
 |_,_=>false
end
theorem Pp(x y:PV)(r t:List PV):Cf (x::r) (y::t)=(C4 x y && Cf r t):=by rw[Cf]
theorem Qs:∀(xs ys:List PV),xs.length≠ys.length->Cf xs ys=false
 | [],[],h=>absurd rfl h
 | [],_::_,_=>by rw[Cf];all_goals simp
 |_::_,[],_=>by rw[Cf];all_goals simp
 |x::r,y::t,h=>by rw[Pp,Qs r t (by simpa using h),WN]
theorem Rg:∀(xs ys:List PV),xs.length=ys.length->Cf xs ys=(List.range xs.length).all λj=>C4 (xs.getD j .AA) (ys.getD j .AA)
 | [],[],_=>by rw[Cf];rfl
 |x::r,y::t,h=>by
  rw[Pp,Rg r t (by simpa using h),D1,List.range_succ_eq_map,Qf,List.all_map]
  rfl
def dat(K:yo):Nat->PV->Prop
 |_,.AA=>True
 |_,.bl _=>True
 |_,.int _=>True
 |_,.str _=>True
 |d+1,.lst xs=>∀x∈xs,dat K d x
 |d+1,.tup xs=>∀x∈xs,dat K d x
 |d+1,.con a xs=>(∀x∈xs,dat K d x)/\xs.all flat=true/\∀H,Ao K H a (xs.map Fz.enc)
 |_,_=>False
inductive Fw (K:yo) (H:Hp):V->PV->Bool->Addr->List V->List PV->Prop where
 |lst {a:Addr}{vs:List V}{xs:List PV}:AS K H a vs->AG H vs xs->Fw K H (.ref a) (.lst xs) false a vs xs
 |tup {a:Addr}{vs:List V}{xs:List PV}:Ao K H a vs->AG H vs xs->Fw K H (.ref a) (.tup xs) true a vs xs
 |con {a:Addr}{vs:List V}{xs:List PV}:Ao K H a vs->AG H vs xs->Fw K H (.ref a) (.con a xs) true a vs xs
theorem FL{K:yo}:∀{d:Nat}{x:V}{p:PV},dat K d p->Rep H x p->(flat p=true/\x=Fz.enc p)∨∃d' tp a vs xs,d=d'+1/\Fw K H x p tp a vs xs/\∀y∈xs,dat K d' y:=by
 intro d x p h r;cases r with
 |AA=>exact .inl ⟨rfl,rfl⟩
 |bl b=>exact .inl ⟨rfl,rfl⟩
 |int b=>exact .inl ⟨rfl,rfl⟩
 |str b=>exact .inl ⟨rfl,rfl⟩
 |lst e r=>cases d with
  |zero=>exact h.elim
  |succ d=>exact .inr ⟨d,_,_,_,_,rfl,.lst (AS.of e) r,h⟩
 |tup e r=>cases d with
  |zero=>exact h.elim
  |succ d=>exact .inr ⟨d,_,_,_,_,rfl,.tup (Ao.of e) r,h⟩
 |con=>cases d with
  |zero=>exact h.elim
  |succ d=>obtain⟨h1,h2,c⟩:=h;exact .inr ⟨d,_,_,_,_,rfl,.con (c H) (Za h2),h1⟩
 |B1 _ _ _=>cases d <;> exact h.elim
 |obj _ _ _ _=>cases d <;> exact h.elim
 |Q4 _=>cases d <;> exact h.elim
 |exc _ _ _ _=>cases d <;> exact h.elim
section
variable{X:Cx}{Zn:yp}{s:Shared}
theorem h8(d:Vals vs A1)(c:Vals ws Bl)(f:AG H vs xs)(e:AG H ws ys)
  (h:∀(x y:V)(p q:PV)(u v:Value),p∈xs->q∈ys->Rep H x p->Rep H y q->RelV x u->RelV y v->SeqAt.EqAt A s u v (C4 p q)) :
  ∀j(h1:j<A1.toArray.size)(h2:j<Bl.toArray.size),SeqAt.EqAt A s A1.toArray[j] Bl.toArray[j] ((λj=>C4 (xs.getD j .AA) (ys.getD j .AA)) j):=λj h1 h2=>by
 have l1:=d.length;have l2:=c.length;have D:=f.length;have C:=e.length;have B:j<A1.length:=by simpa using h1
 have z:j<Bl.length:=by simpa using h2
 have b:j<xs.length:=by omega
 have a:j<ys.length:=by omega
 obtain⟨x,hx,m⟩:=f.get (i:=j) (p:=xs[j]) (Am b);obtain⟨y,r,l⟩:=e.get (i:=j) (p:=ys[j]) (Am a);obtain⟨u,k,o⟩:=d.get hx;obtain⟨v,g,n⟩:=c.get r;rw[Am B]at k;rw[Am z]at g;have w:A1[j]=u:=B9 k;have t:Bl[j]=v:=B9 g;have q:=h x y _ _ u v (IT b) (IT a) m l o n;rw[<- w,<- t]at q;show SeqAt.EqAt A s _ _ (C4 (xs.getD j .AA) (ys.getD j .AA));rw[Eo,Am b,Eo,Am a]
 simpa using q
theorem Nx{p:PV}{x:V}{q:PV}(h:Fw X.K H x p tp a vs xs)(f:flat q=true):C4 p q=false/\C4 q p=false:=by
 cases h <;> cases q <;> first|exact Bool.noConfusion f|exact⟨rfl,rfl⟩
theorem R9{p q:PV}{x y:V}(h:Fw X.K H x p tp a vs xs)(h2:Fw X.K H y q Bn b ws ys):C4 p q=(if tp=Bn then Cf xs ys else false):=by
 cases h <;> cases h2 <;> rfl
theorem PX{p q:PV}(h:flat p=true)(h2:flat q=true):C4 p q=DR (Fz.enc p) (Fz.enc q):=by
 cases p <;> cases q <;> first|exact Bool.noConfusion h|exact Bool.noConfusion h2|rfl
theorem rU{p q:PV}{u v:Value}(h:flat p=true)(h2:flat q=true)(b:RelV (Fz.enc p) u)(a:RelV (Fz.enc q) v):SeqAt.RcAt A s u v (C4 p q)/\SeqAt.RcNeAt A s u v (!C4 p q):=by
 cases p <;> first|exact Bool.noConfusion h|skip
 all_goals cases q <;> first|exact Bool.noConfusion h2|skip
 .cases b;cases a;exact⟨.none_none,.none_none⟩
 .cases b;cases a;exact⟨.none_bool _,.none_bool _⟩
 .cases b;obtain⟨t,rfl⟩:=a;exact⟨.none_int _ _,.none_int _ _⟩
 .cases b;obtain⟨t,rfl⟩:=a;exact⟨.none_str _ _,.none_str _ _⟩
 .cases b;cases a;exact⟨.bool_none _,.bool_none _⟩
 .cases b;cases a;exact⟨.bool_bool _ _,.bool_bool _ _⟩
 .cases b;obtain⟨t,rfl⟩:=a;exact⟨.bool_int _ _ _,.bool_int _ _ _⟩
 .cases b;obtain⟨t,rfl⟩:=a;exact⟨.bool_str _ _ _,.bool_str _ _ _⟩
 .obtain⟨t,rfl⟩:=b;cases a;exact⟨.int_none _ _,.int_none _ _⟩
 .obtain⟨t,rfl⟩:=b;cases a;exact⟨.int_bool _ _ _,.int_bool _ _ _⟩
 .obtain⟨t,rfl⟩:=b;obtain⟨t2,rfl⟩:=a;exact⟨.int_int _ _ _ _,.int_int _ _ _ _⟩
 .obtain⟨t,rfl⟩:=b;obtain⟨t2,rfl⟩:=a;exact⟨.int_str _ _ _ _,.int_str _ _ _ _⟩
 .obtain⟨t,rfl⟩:=b;cases a;exact⟨.str_none _ _,.str_none _ _⟩
 .obtain⟨t,rfl⟩:=b;cases a;exact⟨.str_bool _ _ _,.str_bool _ _ _⟩
 .obtain⟨t,rfl⟩:=b;obtain⟨t2,rfl⟩:=a;exact⟨.str_int _ _ _ _,.str_int _ _ _ _⟩
 .obtain⟨t,rfl⟩:=b;obtain⟨t2,rfl⟩:=a;exact⟨.str_str _ _ _ _,.str_str _ _ _ _⟩
def QM(h:Heap)(tp:Bool)(a:Addr)(A1:Array Value):Prop:=if tp then IsTup h a A1 else h.IsList a A1
theorem Fw.Fu(I:Inv X Zn O H s){x:V}{p:PV}(h:Fw X.K H x p tp a vs xs):∃A1:List Value,x=.ref a/\Vals vs A1/\QM s.heap tp a A1.toArray/\AG H vs xs:=by
 cases h with
 |lst h r=>obtain⟨A1,b,p1,_⟩:=I.list h;exact⟨A1,rfl,b,p1.isList,r⟩
 |tup h r=>obtain⟨A1,b,p1,_⟩:=I.tuple h;exact⟨A1,rfl,b,p1,r⟩
 |con h r=>obtain⟨A1,b,p1,_⟩:=I.tuple h;exact⟨A1,rfl,b,p1,r⟩
theorem Ov{A1:Array Value}{q:PV}{v:Value}(h:QM s.heap tp a A1)(f:flat q=true)(c:RelV (Fz.enc q) v)(b:A.units<cLine):
  (SeqAt.EqAt A s (.ref a) v false/\SeqAt.EqAt A s v (.ref a) false)/\(SeqAt.RcAt A s (.ref a) v false/\SeqAt.RcAt A s v (.ref a) false)/\(SeqAt.RcNeAt A s (.ref a) v true/\SeqAt.RcNeAt A s v (.ref a) true):=by
 cases tp with
 |false=>
  have h':s.heap.IsList a A1:=h;cases q <;> first|exact Bool.noConfusion f|skip
  .cases c;exact⟨⟨.list_none h' b,.none_list h' b⟩,⟨.list_none h' b,.none_list h' b⟩,⟨.list_none h' b,.none_list h' b⟩⟩
  .cases c;exact⟨⟨.list_bool _ h' b,.bool_list _ h' b⟩,⟨.list_bool _ h' b,.bool_list _ h' b⟩,⟨.list_bool _ h' b,.bool_list _ h' b⟩⟩
  .obtain⟨t,rfl⟩:=c;exact⟨⟨.list_int _ _ h' b,.int_list _ _ h' b⟩,⟨.list_int _ _ h' b,.int_list _ _ h' b⟩,⟨.list_int _ _ h' b,.int_list _ _ h' b⟩⟩
  .obtain⟨t,rfl⟩:=c;exact⟨⟨.list_str _ _ h' b,.str_list _ _ h' b⟩,⟨.list_str _ _ h' b,.str_list _ _ h' b⟩,⟨.list_str _ _ h' b,.str_list _ _ h' b⟩⟩
 |true=>
  have h':IsTup s.heap a A1:=h;cases q <;> first|exact Bool.noConfusion f|skip
  .cases c;exact⟨⟨.tuple_none h' b,.none_tuple h' b⟩,⟨.tuple_none h' b,.none_tuple h' b⟩,⟨.tuple_none h' b,.none_tuple h' b⟩⟩
  .cases c;exact⟨⟨.tuple_bool _ h' b,.bool_tuple _ h' b⟩,⟨.tuple_bool _ h' b,.bool_tuple _ h' b⟩,⟨.tuple_bool _ h' b,.bool_tuple _ h' b⟩⟩
  .obtain⟨t,rfl⟩:=c;exact⟨⟨.tuple_int _ _ h' b,.int_tuple _ _ h' b⟩,⟨.tuple_int _ _ h' b,.int_tuple _ _ h' b⟩,⟨.tuple_int _ _ h' b,.int_tuple _ _ h' b⟩⟩
  .obtain⟨t,rfl⟩:=c;exact⟨⟨.tuple_str _ _ h' b,.str_tuple _ _ h' b⟩,⟨.tuple_str _ _ h' b,.str_tuple _ _ h' b⟩,⟨.tuple_str _ _ h' b,.str_tuple _ _ h' b⟩⟩
theorem Fw.inj(I:Inv X Zn O H s){x y:V}{p q:PV}{tp Bn:Bool}{a:Addr}{vs ws:List V}{xs ys:List PV}(h:Fw X.K H x p tp a vs xs)(h2:Fw X.K H y q Bn a ws ys):tp=Bn/\vs=ws:=by
 have b:∀{vs ws:List V},AS X.K H a vs->Ao X.K H a ws->False:=λ{vs ws}h1 h2=>by
  obtain⟨A1,_,p1,_⟩:=I.list h1;obtain⟨Bl,_,p2,_⟩:=I.tuple h2;obtain⟨o,n,e,c,_⟩:=p1;obtain⟨g,d,f,_⟩:=p2;rw[e]at d;cases d;rw[c]at f;exact absurd f (by decide)
 cases h with
 |lst h r=>cases h2 with
  |lst h2 _=>exact⟨rfl,I.dP h h2⟩
  |tup h2 _=>exact(b h h2).elim
  |con h2 _=>exact(b h h2).elim
 |tup h r=>cases h2 with
  |lst h2 _=>exact(b h2 h).elim
  |tup h2 _=>exact⟨rfl,I.ME h h2⟩
  |con h2 _=>exact⟨rfl,I.ME h h2⟩
 |con h r=>cases h2 with
  |lst h2 _=>exact(b h2 h).elim
  |tup h2 _=>exact⟨rfl,I.ME h h2⟩
  |con h2 _=>exact⟨rfl,I.ME h h2⟩
theorem eW{p:PV}(h:flat p=true):DR (Fz.enc p) (Fz.enc p)=true:=by cases p <;> first|exact Bool.noConfusion h|exact j3 _|rfl
theorem jd(h:∀(x:V)(p q:PV),Rep H x p->Rep H x q->dat X.K d p->dat X.K d q->C4 p q=true)(f:AG H vs xs)(c:AG H vs ys)(h1:∀x∈xs,dat X.K d x)(h2:∀y∈ys,dat X.K d y):Cf xs ys=true:=by
 induction xs generalizing vs ys with
 |nil=>
  cases f.Ca;cases ys with
  |nil=>rfl
  |cons y t=>obtain⟨v,ws,e,_⟩:=c.inv;cases e
 |cons x xs g=>
  obtain⟨v,ws,rfl,a,b⟩:=f.inv;cases ys with
  |nil=>have e:=c.Ca;cases e
  |cons y t=>
   obtain⟨l,k,e,j,i⟩:=c.inv;cases e;rw[Pp,h _ _ _ a j (h1 _ D2) (h2 _ D2),g b i (λx hx=>h1 x (CM _ hx)) (λx hx=>h2 x (CM _ hx))];rfl
theorem xR(I:Inv X Zn O H s):∀(d:Nat)(x:V)(p q:PV),Rep H x p->Rep H x q->dat X.K d p->dat X.K d q->C4 p q=true:=λd=>by
 induction d with
 |zero=>
  intro x p q l h h1 h2;rcases FL h1 l with⟨j,k⟩|⟨d',_,_,_,_,e,_⟩
  .rcases FL h2 h with⟨c,g⟩|⟨d',_,_,_,_,e,_⟩
   .rw[PX j c,<- k,g];exact eW c
   .cases e
  .cases e
 |succ d t=>
  intro x p q l h h1 h2;rcases FL h1 l with⟨j,k⟩|⟨y,tp,a,vs,xs,e,i,k1⟩
  .rcases FL h2 h with⟨c,g⟩|⟨w,Bn,b,ws,ys,e,f,m⟩
   .rw[PX j c,<- k,g];exact eW c
   .obtain⟨_,ex,_⟩:=f.Fu I;subst ex;cases p <;> first|(cases j;done)|(cases k;done)
  .cases e;rcases FL h2 h with⟨c,g⟩|⟨w,Bn,b,ws,ys,e,f,m⟩
   .obtain⟨_,ex,_⟩:=i.Fu I;subst ex;cases q <;> first|(cases c;done)|(cases g;done)
   .cases e;obtain⟨_,ex,_,_,r⟩:=i.Fu I;obtain⟨_,n,_,_,o⟩:=f.Fu I;rw[ex]at n;cases n;obtain⟨v,u⟩:=i.inj I f;subst u;rw[R9 i f,hZ v];exact jd t r o k1 m
theorem jy(b:Vals vs A1)(a:Vals ws Bl)(d:AG H vs xs)(c:AG H ws ys):A1.toArray.size=xs.length/\Bl.toArray.size=ys.length:=by
 have l1:=b.length;have l2:=a.length;have f:=d.length;have e:=c.length;simp only[Bj];omega
theorem Zw(h1:QM s.heap tp a A1.toArray)(h2:QM s.heap Bn b Bl.toArray)(m:Vals vs A1)(l:Vals ws Bl)(o:AG H vs xs)(n:AG H ws ys)(c:A.units<cLine)
  (h:∀(x y:V)(p q:PV)(u v:Value),p∈xs->q∈ys->Rep H x p->Rep H y q->RelV x u->RelV y v->SeqAt.EqAt A.in1 s u v (C4 p q)) :
  SeqAt.RcAt A s (.ref a) (.ref b) (if tp=Bn then Cf xs ys else false)/\SeqAt.RcNeAt A s (.ref a) (.ref b) (!(if tp=Bn then Cf xs ys else false)):=by
 obtain⟨i,k⟩:=jy m l o n;have it:=h8 (A:=A.in1) m l o n h;cases tp with
 |false=>cases Bn with
  |false=>
   rw[hZ rfl];have g:s.heap.IsList a A1.toArray:=h1;have f:s.heap.IsList b Bl.toArray:=h2
   by_cases d:xs.length=ys.length
   .rw[Rg xs ys d,<- i];exact⟨.lists g f (by omega) c it,.lists g f (by omega) c it⟩
   .rw[Qs xs ys d];have t:(A1.toArray.size != Bl.toArray.size)=true:=by simp only[bne_iff_ne,ne_eq];omega
    exact⟨.lists_lengths g f t c,.lists_lengths g f t c⟩
  |true=>rw[gp (by decide)];exact⟨.list_tuple h1 h2 c,.list_tuple h1 h2 c⟩
 |true=>cases Bn with
  |false=>rw[gp (by decide)];exact⟨.tuple_list h1 h2 c,.tuple_list h1 h2 c⟩
  |true=>
   rw[hZ rfl];have g:IsTup s.heap a A1.toArray:=h1;have f:IsTup s.heap b Bl.toArray:=h2;have e:((List.range (min A1.toArray.size Bl.toArray.size)).all (λj=>C4 (xs.getD j .AA) (ys.getD j .AA)) && A1.toArray.size == Bl.toArray.size)=Cf xs ys:=by
    by_cases d:xs.length=ys.length
    .rw[Rg xs ys d,i,k,<- d,fc,j3,ez]
    .rw[Qs xs ys d,i,k,show(xs.length == ys.length)=false from by simpa using d,WN]
   have k1:=SeqAt.RcAt.tuples (A:=A) (e:=λj=>C4 (xs.getD j .AA) (ys.getD j .AA)) g f c it;have r:=SeqAt.RcNeAt.tuples (A:=A) (e:=λj=>C4 (xs.getD j .AA) (ys.getD j .AA)) g f c it;rw[e]at k1 r;exact⟨k1,r⟩
theorem qY(I:Inv X Zn O H s):∀(d:Nat)(x y:V)(p q:PV),Rep H x p->Rep H y q->dat X.K d p->dat X.K d q->∀(A:Around)(u v:Value),RelV x u->RelV y v->A.units+d<cLine->SeqAt.EqAt A s u v (C4 p q):=λd=>by
 induction d with
 |zero=>
  intro x y p q k h h1 h2 A u v f c J;rcases FL h1 k with⟨i,o⟩|⟨_,_,_,_,_,e,_⟩
  .rcases FL h2 h with⟨g,m⟩|⟨_,_,_,_,_,e,_⟩
   .subst o;subst m;rw[PX i g];exact Pw f c (PJ i) (PJ g)
   .cases e
  .cases e
 |succ d G=>
  intro x y p q k h h1 h2 A u v f c J;rcases FL h1 k with⟨i,o⟩|⟨σ,tp,a,vs,xs,e,n,k1⟩
  .rcases FL h2 h with⟨g,m⟩|⟨N,Bn,b,ws,ys,e,l,t⟩
   .subst o;subst m;rw[PX i g];exact Pw f c (PJ i) (PJ g)
   .obtain⟨A1,r,_,j,_⟩:=l.Fu I;subst o;subst r;cases(show v=Value.ref b from c);rw[(Nx l i).2];exact(Ov j i f (by omega)).1.2
  .cases e;rcases FL h2 h with⟨g,m⟩|⟨N,Bn,b,ws,ys,e,l,t⟩
   .obtain⟨A1,ex,_,j,_⟩:=n.Fu I;subst m;subst ex;cases(show u=Value.ref a from f);rw[(Nx n g).1];exact(Ov j g c (by omega)).1.1
   .cases e;obtain⟨A1,ex,D,F,B⟩:=n.Fu I;obtain⟨Bl,r,C,E,z⟩:=l.Fu I;subst ex;subst r;cases(show u=Value.ref a from f);cases(show v=Value.ref b from c)
    by_cases w:a=b
    .subst w;rw[xR I (d+1) _ p q k h h1 h2];exact .same _
    .rw[R9 n l];refine SeqAt.EqAt.of_refs w (Zw F E D C B z (by omega) λx y p q u v M L k h f c=>?_).1;exact G x y p q k h (k1 p M) (t q L) A.in1 u v f c (by show A.units+1+d<cLine;omega)
theorem bR(I:Inv X Zn O H s)(d:Nat)(x y:V)(p q:PV)(m:Rep H x p)(i:Rep H y q)(h1:dat X.K d p)(h2:dat X.K d q)(A:Around)(u v:Value)(f:RelV x u)(c:RelV y v)(N:A.units+d<cLine):SeqAt.RcAt A s u v (C4 p q)/\SeqAt.RcNeAt A s u v (!C4 p q):=by
 rcases FL h1 m with⟨n,t⟩|⟨w,tp,a,vs,xs,e,k,k1⟩
 .rcases FL h2 i with⟨l,h⟩|⟨M,Bn,b,ws,ys,e,g,r⟩
  .subst t;subst h;exact rU n l f c
  .obtain⟨A1,o,_,j,_⟩:=g.Fu I;subst t;subst o;cases(show v=Value.ref b from c);rw[(Nx g n).2];have z:=Ov (A:=A) j n f (by omega);exact⟨z.2.1.2,z.2.2.2⟩
 .rcases FL h2 i with⟨l,h⟩|⟨M,Bn,b,ws,ys,h,g,r⟩
  .obtain⟨A1,ex,_,j,_⟩:=k.Fu I;subst h;subst ex;cases(show u=Value.ref a from f);rw[(Nx k l).1];have z:=Ov (A:=A) j l c (by omega);exact⟨z.2.1.1,z.2.2.1⟩
  .subst e;cases h;obtain⟨A1,ex,E,G,C⟩:=k.Fu I;obtain⟨Bl,o,D,F,B⟩:=g.Fu I;subst ex;subst o;cases(show u=Value.ref a from f);cases(show v=Value.ref b from c);rw[R9 k g];exact Zw G F E D C B (by omega) λx y p q u v L J m i f c=>qY I w x y p q m i (k1 p L) (r q J) A.in1 u v f c (by show A.units+1+w<cLine;omega)
def N4(K:yo)(neg:Bool):R2:=λx y H Q=>∃p q,Rep H x p/\Rep H y q/\dat K 40 p/\dat K 40 q/\Q (.bl (if neg then !C4 p q else C4 p q)) H
theorem oT(i:X.A.units+64<cLine):B7 X (compareOp .Eq) (N4 X.K false):=by
 intro Zn s O H x y v u Q I b a h;obtain⟨p,q,d,c,g,f,e⟩:=h;exact(bR I 40 x y p q d c g f X.A _ _ b a (by omega)).1 _ _ _ _ ⟨.bl (C4 p q),H,I,rfl,e⟩
theorem X5(i:X.A.units+64<cLine):B7 X (compareOp .NotEq) (N4 X.K true):=by
 intro Zn s O H x y v u Q I b a h;obtain⟨p,q,d,c,g,f,e⟩:=h;exact(bR I 40 x y p q d c g f X.A _ _ b a (by omega)).2 _ _ _ _ ⟨.bl (!C4 p q),H,I,rfl,e⟩
end
section
variable[Xw]
variable{K:yo}{k:PV->Prop}
theorem bI(h:Wp ss ta λp=>Wp ss tb λq=>dat K 40 p/\dat K 40 q/\k (.bl (C4 p q))):Wp ss (BB (N4 K false) ta tb) k:=⟨λE O F H Q S q=>
 h.go E O F H _ S λv p F1 H1 b d h2=>h2.go E O F1 H1 _ b.st λg p2 F2 H2 a c⟨f,e,kk⟩=>
  ⟨p,p2,(d.mono a.ff).mono a.st.fh,c.mono a.st.fh,f,e,q _ _ F2 H2 (b.trans a) (.bl _) kk⟩⟩
theorem Sl(h:Wp ss ta λp=>Wp ss tb λq=>dat K 40 p/\dat K 40 q/\k (.bl (!C4 p q))):Wp ss (BB (N4 K true) ta tb) k:=⟨λE O F H Q S q=>
 h.go E O F H _ S λv p F1 H1 b d h2=>h2.go E O F1 H1 _ b.st λg p2 F2 H2 a c⟨f,e,kk⟩=>
  ⟨p,p2,(d.mono a.ff).mono a.st.fh,c.mono a.st.fh,f,e,q _ _ F2 H2 (b.trans a) (.bl _) kk⟩⟩
end
noncomputable def OV.at(t:OV):List Nat->Option OV
 | []=>some t
 |j::p=>match t with
  | .nd _ _ xs=>(xs[j]?).bind λx=>OV.at x p
  | .tp xs=>(xs[j]?).bind λx=>OV.at x p
  | .fz _=>none
noncomputable def OV.put(t:OV)(l:List Nat)(n:OV):OV:=match l with
 | []=>n
 |j::p=>match t with
  | .nd k a xs=>match xs[j]? with
   |some x=>.nd k a (xs.set j (OV.put x p n))
   |none=>.nd k a xs
  | .tp xs=>match xs[j]? with
   |some x=>.tp (xs.set j (OV.put x p n))
   |none=>.tp xs
  | .fz q=>.fz q
theorem OV.Ej:t.at []=some t:=by rw[OV.at]
theorem OV.Gy{k:NK}{xs:List OV}:(OV.nd k a xs).at (j::p)=(xs[j]?).bind λx=>x.at p:=by rw[OV.at]
theorem OV.Ge{xs:List OV}:(OV.tp xs).at (j::p)=(xs[j]?).bind λx=>x.at p:=by rw[OV.at]
theorem OV.CI:t.put [] n=n:=by rw[OV.put]
theorem OV.Gh{k:NK}{xs:List OV}(h:xs[j]?=some x):(OV.nd k a xs).put (j::p) n=.nd k a (xs.set j (x.put p n)):=by rw[OV.put,h]
theorem OV.IY{xs:List OV}(h:xs[j]?=some x):(OV.tp xs).put (j::p) n=.tp (xs.set j (x.put p n)):=by rw[OV.put,h]
theorem OV.L0{u w:OV}:∀{p:List Nat}{t:OV}{j:Nat},t.at p=some u->u.at [j]=some w->t.at (p++[j])=some w
 | [],t,j,h,h2=>by rw[OV.Ej]at h;cases h;exact h2
 |i::p,.nd k a xs,j,h,h2=>by
  rw[OV.Gy]at h;rw[WT,OV.Gy];cases e:xs[i]? with
  |none=>rw[e]at h;cases h
  |some x=>rw[e]at h;exact OV.L0 (t:=x) h h2
 |i::p,.tp xs,j,h,h2=>by
  rw[OV.Ge]at h;rw[WT,OV.Ge];cases e:xs[i]? with
  |none=>rw[e]at h;cases h
  |some x=>rw[e]at h;exact OV.L0 (t:=x) h h2
 |i::p,.fz q,j,h,h2=>by rw[OV.at]at h;cases h
theorem IQ:∀{xs:List OV}{j:Nat}{x:OV},xs[j]?=some x->∃l r,OV.AL xs=l++x.addrs++r/\∀y:OV,OV.AL (xs.set j y)=l++y.addrs++r
 |x::xs,0,z,h=>by
  simp at h;subst h;exact⟨[],OV.AL xs,by rw[OV.BN];rfl,λy=>by rw[fU,OV.BN];rfl⟩
 |x::xs,j+1,z,h=>by
  obtain⟨l,r,b,a⟩:=IQ (xs:=xs) (j:=j) (x:=z) (by simpa using h)
  refine⟨x.addrs++l,r,by rw[OV.BN,b];simp[BY],λy=>by rw[Nb,OV.BN,a];simp[BY]⟩
theorem OV.split{u:OV}:∀{p:List Nat}{t:OV},t.at p=some u->∃l r,t.addrs=l++u.addrs++r/\∀n:OV,(t.put p n).addrs=l++n.addrs++r
 | [],t,h=>by rw[OV.Ej]at h;cases h;exact⟨[],[],by simp,λn=>by rw[OV.CI];simp⟩
 |j::p,.nd k a xs,h=>by
  rw[OV.Gy]at h;cases e:xs[j]? with
  |none=>rw[e]at h;cases h
  |some x=>
   rw[e]at h;obtain⟨l,r,g,f⟩:=IQ e;obtain⟨l2,b,d,c⟩:=OV.split (t:=x) h;refine⟨a::(k.more++(l++l2)),b++r,by rw[OV.CZ,g,d];simp[BY],λn=>by rw[OV.Gh e,OV.CZ,f,c];simp[BY]⟩
 |j::p,.tp xs,h=>by
  rw[OV.Ge]at h;cases e:xs[j]? with
  |none=>rw[e]at h;cases h
  |some x=>
   rw[e]at h;obtain⟨l,r,g,f⟩:=IQ e;obtain⟨l2,b,d,c⟩:=OV.split (t:=x) h;refine⟨l++l2,b++r,by rw[OV.Ee,g,d];simp[BY],λn=>by rw[OV.IY e,OV.Ee,f,c];simp[BY]⟩
 |j::p,.fz q,h=>by rw[OV.at]at h;cases h
theorem Ae.get{F H:Hp}{vs:List V}{ts:List OV}{j:Nat}{t:OV}(r:Ae F H vs ts)(e:ts[j]?=some t):∃v,vs[j]?=some v/\AZ F H v t:=by
 induction ts generalizing vs j with
 |nil=>cases e
 |cons q ps c=>
  obtain⟨v,ws,rfl,a,b⟩:=r.inv;cases j with
  |zero=>cases e;exact⟨_,rfl,a⟩
  |succ j=>exact c (vs:=ws) (j:=j) b e
theorem Ae.append{F H:Hp}{vs ws:List V}{xs ys:List OV}(r:Ae F H vs xs)(s:Ae F H ws ys):Ae F H (vs++ws) (xs++ys):=by
 induction xs generalizing vs with
 |nil=>cases r.Ca;exact s
 |cons p ps c=>obtain⟨v,us,rfl,a,b⟩:=r.inv;exact .cons a (c b)
theorem Ae.one(r:AZ F H v t):Ae F H [v] [t]:=.cons r .nil
theorem TX(r:AG F vs xs):Ae F H vs (xs.map .fz):=by
 induction xs generalizing vs with
 |nil=>cases r.Ca;exact .nil
 |cons p ps c=>obtain⟨v,us,rfl,a,b⟩:=r.inv;exact .cons (.fz a) (c b)
theorem Ae.XF(r:Ae F H vs (xs.map .fz)):AG F vs xs:=by
 induction xs generalizing vs with
 |nil=>cases r.Ca;exact .nil
 |cons p ps c=>obtain⟨v,us,rfl,a,b⟩:=r.inv;exact .cons a.inv (c b)
theorem QP:∀(xs:List PV),OV.AL (xs.map .fz)=[]
 | []=>by rw[Gp,OV.AL]
 |x::r=>by rw[Ap,OV.BN,OV.D3,QP r];rfl
theorem Ae.set{xs:List OV}(j:Nat)(r:Ae F H vs xs)(q:AZ F H v t):Ae F H (vs.set j v) (xs.set j t):=by
 induction xs generalizing vs j with
 |nil=>cases r.Ca;exact .nil
 |cons p ps c=>
  obtain⟨u,us,rfl,a,b⟩:=r.inv;cases j with
  |zero=>exact .cons q b
  |succ j=>exact .cons a (c j b)
theorem Ae.swap{xs:List OV}(r:Ae F H vs xs)(h:xs[j]?=some x)(f:vs[j]?=some v)(e:∀l r,OV.AL xs=l++x.addrs++r->(∀z:OV,OV.AL (xs.set j z)=l++z.addrs++r)->∀b∈l++r,∀o,H b=some o->H' b=some o)(g:AZ F H' v y):Ae F H' vs (xs.set j y):=by
 induction xs generalizing vs j with
 |nil=>cases h
 |cons p ps m=>
  obtain⟨u,us,rfl,a,b⟩:=r.inv;cases j with
  |zero=>
   cases h;cases f;refine .cons g (b.mono (AI.refl _) λc d o=>e [] (OV.AL ps) (by rw[OV.BN];rfl) (λz=>by rw[fU,OV.BN];rfl) c d o)
  |succ j=>
   rw[Nb];obtain⟨l,q,s,n⟩:=IQ (xs:=ps) (j:=j) h;refine .cons (a.mono (AI.refl _) λc d o=>e (p.addrs++l) q (by rw[OV.BN,s,BY,BY,BY]) (λz=>by rw[Nb,OV.BN,n,BY,BY,BY]) c (JV _ (JV _ d)) o) (m (vs:=us) (j:=j) b h f λk i EL CO c d o=>?_);refine e (p.addrs++k) i (by rw[OV.BN,EL,BY,BY,BY]) (λz=>by rw[Nb,OV.BN,CO,BY,BY,BY]) c ?_ o;rcases List.mem_append.mp d with hz|hz
   .exact JV _ (Ep _ hz)
   .exact Ep _ hz
theorem AZ.at{F H:Hp}{u:OV}:∀{p:List Nat}{t:OV}{v:V},AZ F H v t->t.at p=some u->∃w,AZ F H w u/\∀(H':Hp)(n:OV),AZ F H' w n->(∀l r,t.addrs=l++u.addrs++r->(∀n:OV,(t.put p n).addrs=l++n.addrs++r)->∀b∈l++r,∀o,H b=some o->H' b=some o)->AZ F H' v (t.put p n)
 | [],t,v,h,e=>by rw[OV.Ej]at e;cases e;exact⟨v,h,λH' n r _=>by rw[OV.CI];exact r⟩
 |j::p,.fz q,v,h,e=>by rw[OV.at]at e;cases e
 |j::p,.nd k a xs,_,.nd h sd ft r,e=>by
  rw[OV.Gy]at e;cases ex:xs[j]? with
  |none=>rw[ex]at e;cases e
  |some x=>
   rw[ex]at e;obtain⟨J,Vp,C⟩:=r.get ex;obtain⟨w,d,go⟩:=AZ.at (t:=x) C e;refine⟨w,d,λH' n B y=>?_⟩;obtain⟨l2,A,I,G⟩:=OV.split e;have i:∀l r,OV.AL xs=l++x.addrs++r->(∀z:OV,OV.AL (xs.set j z)=l++z.addrs++r)->∀b,b∈(a::(k.more++(l++l2)))++(A++r)->∀o,H b=some o->H' b=some o:=λl r s m b c o=>
    y (a::(k.more++(l++l2))) (A++r) (by rw[OV.CZ,s,I];simp[BY]) (λn=>by rw[OV.Gh ex,OV.CZ,m,G];simp[BY]) b c o
   obtain⟨l,q,s,m⟩:=IQ ex;rw[OV.Gh ex];refine .nd (i l q s m a (by simp) _ h) (NK.XY sd λb c=>i l q s m b (by simp[c])) ft ?_;refine r.swap ex Vp (λg f EL CO b c o=>i g f EL CO b (by rcases List.mem_append.mp c with hz|hz <;> simp[hz]) o) ?_
   refine go H' n B λg f E D b c o=>?_;refine y (a::(k.more++(l++g))) (f++q) (by rw[OV.CZ,s,E];simp[BY]) (λn=>by rw[OV.Gh ex,OV.CZ,m,D];simp[BY]) b (by rcases List.mem_append.mp c with hz|hz <;> simp[hz]) o
 |j::p,.tp xs,_,.tp h r,e=>by
  rw[OV.Ge]at e;cases ex:xs[j]? with
  |none=>rw[ex]at e;cases e
  |some x=>
   rw[ex]at e;obtain⟨J,Vp,C⟩:=r.get ex;obtain⟨w,d,go⟩:=AZ.at (t:=x) C e;refine⟨w,d,λH' n B y=>?_⟩;obtain⟨l2,A,I,G⟩:=OV.split e;obtain⟨l,q,s,m⟩:=IQ ex;rw[OV.IY ex];refine .tp h (r.swap ex Vp (λg f EL CO b c o=>?_) (go H' n B λg f E D b c o=>?_))
   .exact y (g++l2) (A++f) (by rw[OV.Ee,EL,I];simp[BY]) (λn=>by rw[OV.IY ex,OV.Ee,CO,G];simp[BY]) b (by rcases List.mem_append.mp c with hz|hz <;> simp[hz]) o
   .exact y (l++g) (f++q) (by rw[OV.Ee,s,E];simp[BY]) (λn=>by rw[OV.IY ex,OV.Ee,m,D];simp[BY]) b (by rcases List.mem_append.mp c with hz|hz <;> simp[hz]) o
theorem O5{l u r n:List Addr}(h:(l++u++r).Nodup)(g:n.Nodup)(hd:∀b∈n,b∈u∨b∉l++u++r):(l++n++r).Nodup:=by
 rw[BZ]at h ⊢;obtain⟨h1,h2,f⟩:=h;rw[BZ]at h1 ⊢;obtain⟨j,k,i⟩:=h1;refine⟨⟨j,g,λa c b d e=>?_⟩,h2,λa c b d e=>?_⟩
 .subst e;rcases hd a d with z|z
  .exact i a c a z rfl
  .exact z (by simp[c])
 .subst e;rcases List.mem_append.mp c with c|c
  .exact f a (by simp[c]) a d rfl
  .rcases hd a c with z|z
   .exact f a (by simp[z]) a d rfl
   .exact z (by simp[d])
theorem Sg.UP(S:Sg E ss O F H){k:NK}{xs:List OV}{ho:HO}{lt:Bool}(hi:ss[i]?=some (.ow lt t))(Ak:t.at p=some (.nd k a xs))(K:AZ F (upd H a ho) (.ref a) n)(nd:n.addrs.Nodup)
  (QX:∀b∈n.addrs,b∈(OV.nd k a xs).addrs∨(F b=none/\E.H0 b=none/\∀(j:Nat)s,ss[j]?=some s->¬ B3 s O[j]? b)):Sg E (ss.set i (.ow lt (t.put p n))) O F (upd H a ho):=by
 obtain⟨v,e,r,W0,q⟩:=S.ok i _ hi;obtain⟨l,G,g,y⟩:=OV.split Ak;have f:a∈(OV.nd k a xs).addrs:=by rw[OV.CZ];simp
 have u:∀b∈(OV.nd k a xs).addrs,b∈t.addrs:=λb c=>by rw[g];simp[c]
 have T:∀b∈n.addrs,b∈(OV.nd k a xs).addrs∨b∉t.addrs:=λb c=>(QX b c).imp id λz m=>z.2.2 i _ hi m;obtain⟨w,x,go⟩:=r.at Ak;have M:w=.ref a:=by cases x;rfl
 subst M;have h:∀(j:Nat)s,(ss.set i .any)[j]?=some s->∀b,b∈t.addrs->¬ B3 s O[j]? b:=λj s d b c m=>by
  by_cases z:j=i
  .subst z;rw[DD (List.getElem?_eq_some_iff.mp hi).1]at d;cases d;cases m
  .rw[Cb (Bk z)]at d;exact S.BD j i s _ b z d hi m c
 have R:=(S.drop i).K0 (o:=ho) (q a (u a f)).1 ((q a (u a f)).2.imp id λz=>z.2) λj s d=>h j s d a (u a f);have A:=W0;rw[g,BZ,BZ]at A;obtain⟨⟨_,_,σ⟩,_,N⟩:=A;have U:∀b,b∈l++G->b≠a:=λb c z=>by
  subst z;rcases List.mem_append.mp c with c|c
  .exact σ b c b f rfl
  .exact N b (by simp[f]) b c rfl
 have I:AZ F (upd H a ho) v (t.put p n):=go _ n K λW V L X b c o J=>by
  rw[Ab ?_];exact J;rintro rfl;have B:=W0;rw[L,BZ,BZ]at B;obtain⟨⟨_,_,Q⟩,_,P⟩:=B;rcases List.mem_append.mp c with c|c
  .exact Q b c b f rfl
  .exact P b (by simp[f]) b c rfl
 have C:∀b∈(t.put p n).addrs,b∈t.addrs∨(F b=none/\E.H0 b=none/\∀(j:Nat)s,ss[j]?=some s->¬ B3 s O[j]? b):=λb c=>by
  rw[y]at c;rcases List.mem_append.mp c with c|c
  .rcases List.mem_append.mp c with c|c
   .exact .inl (by rw[g];simp[c])
   .exact(QX b c).imp (u b) id
  .exact .inl (by rw[g];simp[c])
 have D:=R.setG (j:=i) (s:=.ow lt (t.put p n)) (v:=v) ⟨v,rfl,I,by rw[y];exact O5 (g▸W0) nd λb c=>(T b c).imp id (by rw[g];exact id),λb c=>(C b c).elim (q b) λz=>⟨z.1,.inl z.2.1⟩⟩ λb c j s d hs m=>by
  rcases C b c with z|z
  .exact h j s hs b z m
  .rw[Cb (Bk d)]at hs;exact z.2.2 j s hs m
 rw[LM e,Nc]at D;exact D
structure Wl [Xw] (ss:List Slot) (i:Nat) (t:OV) (te:TE) (k:List Nat->OV->Prop):Prop where
 hi:∃lt,ss[i]?=some (.ow lt t)
 go:∀(E:Ent)(O:L2.St)(F H:Hp)(Q:VK),Sg E ss O F H->(∀v p u F' H',Mv E ss O F H F' H'->AZ F' H' v u->t.at p=some u->k p u->Q v H')->te O H Q
noncomputable def Cg:List Nat->List Slot->List Slot
 | [],ss=>ss
 |i::m,ss=>Cg m (ss.set i .any)
structure Wx [Xw] (ss:List Slot) (te:TE) (k:List Nat->OV->Prop):Prop where
 go:∀(E:Ent)(O:L2.St)(F H:Hp)(Q:VK),Sg E ss O F H->(∀v m u F' H',Mv E ss O F H F' H'->AZ F' H' v u->u.addrs.Nodup->(∀a∈u.addrs,F' a=none/\E.H0 a=none/\((∃i∈m,∃s,s≠Slot.AO/\ss[i]?=some s/\B3 s O[i]? a)∨H a=none))->k m u->Q v H')->te O H Q
structure MU [Xw] (ss:List Slot) (te:TA) (k:List Nat->List OV->Prop):Prop where
 go:∀(E:Ent)(O:L2.St)(F H:Hp)(Q:List V->Hp->Prop),Sg E ss O F H->(∀vs m us F' H',Mv E ss O F H F' H'->Ae F' H' vs us->(OV.AL us).Nodup->(∀a∈OV.AL us,F' a=none/\E.H0 a=none/\((∃i∈m,∃s,s≠Slot.AO/\ss[i]?=some s/\B3 s O[i]? a)∨H a=none))->k m us->Q vs H')->te O H Q
section
variable[Xw]
variable{K:yo}{k:PV->Prop}
theorem OV.Ek(h:t.at p=some u):∀a∈u.addrs,a∈t.addrs:=λa b=>by
 obtain⟨l,r,e,_⟩:=OV.split h;rw[e];simp[b]
theorem AZ.mv(r:AZ F H v u)(S:Sg E ss O F H)(hi:∃lt,ss[i]?=some (.ow lt t))(h:t.at p=some u)(m:Mv E ss O F H F' H'):AZ F' H' v u:=
 r.mono m.ff λa b o e=>m.hh a o (S.Jv hi.choose_spec (OV.Ek h a b) (by simp)) e
theorem B6{lt:Bool}{k:List Nat->OV->Prop}(hi:ss[i]?=some (.ow lt t))(a:k [] t):Wl ss i t (BF i) k:=⟨⟨lt,hi⟩,λE O F H Q S q=>by
 obtain⟨v,e,r,_,_⟩:=S.ok i _ hi;exact⟨v,e,q v [] t F H (.refl S) r OV.Ej a⟩⟩
theorem IG{k:List Nat->OV->Prop}(h:Wl ss i t ta λp u=>∃a xs,u=.nd .lst a xs/\Wp ss tb λq=>∃(j:Int)(n:Nat)(w:OV),q=.int j/\Fn xs.length j=some n/\xs[n]?=some w/\k (p++[n]) w):Wl ss i t (BB (FT K) ta tb) k:=⟨h.hi,λE O F H Q S q=>
 h.go E O F H _ S λv p u F1 H1 b m h1⟨a,xs,s,h2⟩=>h2.go E O F1 H1 _ b.st λy p2 F2 H2 d l⟨j,n,w,e,o,hw,kk⟩=>by
  subst e;cases l.inv;have g:=m.mv b.st h.hi h1 d;subst s;obtain⟨_,rfl,r,z,A,c⟩:=g.inv;obtain⟨x,hx,f⟩:=c.get hw;refine⟨a,_,j,x,rfl,rfl,AS.of r,?_,q x (p++[n]) w F2 H2 (b.trans d) f (OV.L0 h1 (by rw[OV.Gy,hw];exact OV.Ej)) kk⟩;unfold L2.BS;rw[c.length,o];exact hx⟩
theorem LD{k:List Nat->OV->Prop}(h:Wl ss i t ta λp u=>∃xs,u=.tp xs/\Wp ss tb λq=>∃(j:Int)(n:Nat)(w:OV),q=.int j/\Fn xs.length j=some n/\xs[n]?=some w/\k (p++[n]) w):Wl ss i t (BB (FE K) ta tb) k:=⟨h.hi,λE O F H Q S q=>
 h.go E O F H _ S λv p u F1 H1 b l h1⟨xs,r,h2⟩=>h2.go E O F1 H1 _ b.st λs p2 F2 H2 a g⟨j,n,w,e,m,hw,kk⟩=>by
  subst e;cases g.inv;have f:=l.mv b.st h.hi h1 a;subst r;obtain⟨_,_,rfl,o,c⟩:=f.inv;obtain⟨x,hx,d⟩:=c.get hw;refine⟨_,_,j,x,rfl,rfl,Ao.of (a.st.fh _ _ o),?_,q x (p++[n]) w F2 H2 (b.trans a) d (OV.L0 h1 (by rw[OV.Ge,hw];exact OV.Ej)) kk⟩;unfold L2.BS;rw[c.length,m];exact hx⟩
theorem Gj(h:Wl ss i t te λ_ u=>∃p,u=.fz p/\k p):Wp ss te k:=⟨λE O F H Q S q=>
 h.go E O F H _ S λv p u F1 H1 b a h1 AE=>by obtain⟨p,c,kk⟩:=AE;subst c;cases a with|fz r=>exact q v p F1 H1 b r kk⟩
theorem LF{k:Bool->List PV->Prop}(h:Wl ss i t te λ_ u=>∃a ps,u=.nd .lst a (ps.map .fz)/\k false ps):Wq ss te k:=⟨λE O F H Q S q=>
 h.go E O F H _ S λv p u F1 H1 b d h1 AE=>by
  obtain⟨a,ps,f,kk⟩:=AE;subst f;have np:Bo ss O a:=b.st.Jv h.hi.choose_spec (OV.Ek h1 a (by rw[OV.CZ];simp)) (by simp);obtain⟨_,rfl,e,g,j,c⟩:=d.inv;exact q _ false ps F1 H1 b ⟨a,_,rfl,np,e,c.XF⟩ kk⟩
theorem Mm(h:Wl ss i t te λ_ u=>∃a xs,u=.nd .lst a xs/\k (.int xs.length)):Wp ss (ED (OW K) (Au te BW)) k:=⟨λE O F H Q S q=>
 h.go E O F H _ S λv p u F1 H1 d c h1 AE=>by
  obtain⟨a,xs,f,kk⟩:=AE;subst f;obtain⟨_,rfl,e,g,j,b⟩:=c.inv;refine⟨a,_,rfl,.inl (AS.of e),?_⟩;rw[b.length];exact q _ _ F1 H1 d (.int _) kk⟩
theorem CJ{k:List Nat->OV->Prop}(h:Wp ss te λp=>k [] (.fz p)):Wx ss te k:=⟨λE O F H Q S q=>
 h.go E O F H _ S λv p F1 H1 c r kk=>q v [] (.fz p) F1 H1 c (.fz r) (by rw[OV.D3];exact JW) (λa b=>by rw[OV.D3]at b;cases b) kk⟩
theorem JO(a:Addr)(xs:List PV):(OV.nd .lst a (xs.map .fz)).addrs=[a]:=by rw[OV.CZ,QP];rfl
theorem Jx{k:List Nat->OV->Prop}(h:Wn ss te λxs=>∀l,k [] (.nd .lst l (xs.map .fz))):Wx ss te k:=⟨λE O F H Q S q=>
 h.go E O F H _ S λl vs xs F1 H1 d f b M6 r kk=>q _ [] _ F1 H1 d (.nd (k:=.lst) M6 trivial trivial (TX r)) (by rw[JO];simp) (λa c=>by
  rw[JO]at c;have e:a=l:=by simpa using c
  subst e;exact⟨f,S.Cy b,.inr b⟩) (kk l)⟩
theorem wo{k:List Nat->OV->Prop}(hi:ss[i]?=some (.own xs))(h:∀l,k [i] (.nd .lst l (xs.map .fz))):Wx ss (BF i) k:=⟨λE O F H Q S q=>by
 obtain⟨l,vs,e,f,d,c,r⟩:=S.ok i _ hi;refine⟨_,e,q _ [i] _ F H (.refl S) (.nd (k:=.lst) c trivial trivial (TX r)) (by rw[JO];simp) (λa b=>?_) (h l)⟩;rw[JO]at b;have ea:a=l:=by simpa using b
 subst ea;exact⟨f,d,.inl ⟨i,by simp,_,by simp,hi,e⟩⟩⟩
theorem GN{k:List Nat->List OV->Prop}(h:k [] []):MU ss BW k:=⟨λE O F H Q S q=>q _ [] [] F H (.refl S) .nil (by rw[OV.D8];exact JW) (λa b=>by rw[OV.D8]at b;cases b) h⟩
theorem O3{k:List Nat->OV->Prop}(hi:ss[i]?=some (.ow false t))(h:k [i] t):Wx ss (BF i) k:=⟨λE O F H Q S q=>by
 obtain⟨v,e,r,nd,c⟩:=S.ok i _ hi;refine⟨_,e,q v [i] t F H (.refl S) r nd (λa b=>⟨(c a b).1,?_,.inl ⟨i,by simp,_,by simp,hi,b⟩⟩) h⟩;exact(c a b).2.elim id λz=>by cases z.1⟩
theorem Wx.bD(S:Sg E ss O F H)(h:(∃i∈m,∃s,s≠Slot.AO/\ss[i]?=some s/\B3 s O[i]? a)∨H a=none):Bo ss O a:=by
 rcases h with⟨j,_,s,b,hs,o⟩|z
 .exact S.Jv hs o b
 .exact S.GZ z
theorem Mv.SQ(m:Mv E ss O F H F' H')(h:F a=Option.none)(h2:H a≠Option.none):F' a=Option.none:=by
 cases e:F' a with
 |none=>rfl
 |some o=>
  rcases m.nn a o e with z|z
  .rw[h]at z;cases z
  .exact absurd z h2
theorem Cv{k:List Nat->List OV->Prop}(h:Wx ss te λm u=>MU ss tr λd us=>(∀i∈m,i∉d)/\k (m++d) (u::us)):MU ss (Au te tr) k:=⟨λE O F H Q S q=>
 h.go E O F H _ S λv m u F1 H1 n l Ey r h2=>h2.go E O F1 H1 _ n.st λvs Rj us F2 H2 d y EH x AE=>by
  obtain⟨C,kk⟩:=AE;have np:∀a∈u.addrs,Bo ss O a:=λa c=>Wx.bD S (r a c).2.2;refine q (v::vs) (m++Rj) (u::us) F2 H2 (n.trans d) (.cons (l.mono d.ff λa c o e=>d.hh a o (np a c) e) y) ?_ (λa c=>?_) kk
  .rw[OV.BN,BZ];refine⟨Ey,EH,λa c b B e=>?_⟩;subst e;rcases(x a B).2.2 with⟨A,Kq,s2,Tn,BE,t⟩|z
   .rcases(r a c).2.2 with⟨j,g,s,D,hs,o⟩|z
    .exact S.BD j A s s2 a (by rintro rfl;exact C j g Kq) hs BE o t
    .exact S.DU BE t z
   .exact l.there a c z
  .rw[OV.BN]at c;rcases List.mem_append.mp c with c|c
   .obtain⟨f,p,w⟩:=r a c;exact⟨d.SQ f (l.there a c),p,w.imp (λC9=>by obtain⟨j,g,z⟩:=C9;exact⟨j,by simp[g],z⟩) id⟩
   .obtain⟨f,p,w⟩:=x a c;exact⟨f,p,w.imp (λNI=>by obtain⟨j,g,z⟩:=NI;exact⟨j,by simp[g],z⟩) n.none⟩⟩
theorem Mj{k:List Nat->OV->Prop}(h:MU ss tr λm us=>us.length<=100000/\k m (.tp us)):Wx ss (QZ tr) k:=⟨λE O F H Q S q=>
 h.go E O F H _ S λvs m us F1 H1 i c Ey n AE=>by obtain⟨j,kk⟩:=AE;exact⟨small (by rw[c.length];exact j),λp d=>by
  have g:=i.st.alloc d (.tup vs);refine q _ m (.tp us) _ _ (i.trans g) (.tp Ay (c.mono g.ff λa b o e=>by rw[Ab (by rintro rfl;exact c.there _ b d)];exact e)) (by rw[OV.Ee];exact Ey) (λa b=>?_) kk;rw[OV.Ee]at b;obtain⟨f,l,w⟩:=n a b;exact⟨by rw[Ab (by rintro rfl;exact c.there _ b d)];exact f,l,w⟩⟩⟩
theorem Kr{k:List Nat->OV->Prop}(h:MU ss tr λm us=>us.length<=100000/\∀l,k m (.nd .lst l us)):Wx ss (OI tr) k:=⟨λE O F H Q S q=>
 h.go E O F H _ S λvs m us F1 H1 c g Ey s AE=>by obtain⟨n,kk⟩:=AE;exact⟨small (by rw[g.length];exact n),λp d=>by
  have i:=c.st.make d (.lst vs);have j:p∉OV.AL us:=λb=>g.there _ b d;refine q _ m (.nd .lst p us) _ _ (c.trans i) (.nd (k:=.lst) Ay trivial trivial (g.mono i.ff λa b o e=>by rw[Ab (by rintro rfl;exact j b)];exact e)) ?_ (λa b=>?_) (kk p)
  .rw[OV.CZ];exact List.nodup_cons.mpr ⟨j,Ey⟩
  .rw[OV.CZ]at b;rcases List.mem_cons.mp b with e|b
   .subst e;exact⟨c.st.Bq d,c.st.Cy d,.inr (c.none d)⟩
   .obtain⟨f,r,w⟩:=s a b;exact⟨f,r,w⟩⟩⟩
theorem LS{j:Nat}{s:Slot}:∀{m:List Nat}{ss:List Slot},(Cg m ss)[j]?=some s->s=.any∨(ss[j]?=some s/\j∉m)
 | [],ss,h=>.inr ⟨h,by simp⟩
 |i::m,ss,h=>by
  rcases LS (m:=m) (ss:=ss.set i .any) h with e|⟨e,hm⟩
  .exact .inl e
  .by_cases q:j=i
   .subst q;have a:j<ss.length:=by have:=(List.getElem?_eq_some_iff.mp e).1;simpa using this
    rw[DD a]at e;exact .inl (B9 e).symm
   .rw[Cb (Bk q)]at e;exact .inr ⟨e,by simp[q,hm]⟩
theorem Sg.Cg{E:Ent0}{O:L2.St}{F H:Hp}:∀(m:List Nat){ss:List Slot},Sg E ss O F H->Sg E (Fz.Cg m ss) O F H
 | [],_,S=>S
 |i::m,_,S=>Sg.Cg m (S.drop i)
theorem Sg.T7(S0:Sg E ss O F0 H0)(S:Sg E ss O F H)(r:AZ F H v u)(nd:u.addrs.Nodup)(c:∀a∈u.addrs,F a=none/\E.H0 a=none/\((∃i∈m,∃s,s≠Slot.AO/\ss[i]?=some s/\B3 s O[i]? a)∨H0 a=none)):
  Sg E ((Fz.Cg m ss).set j (.ow false u)) (O.set j (some v)) F H:=by
 refine(S.Cg m).setG ⟨v,rfl,r,nd,λa b=>⟨(c a b).1,.inl (c a b).2.1⟩⟩ λa b i s Fo hs o=>?_;rcases LS hs with e|⟨Em,hm⟩
 .subst e;cases o
 .rcases(c a b).2.2 with⟨i2,Fh,s2,_,BE,d⟩|z
  .exact S.BD i i2 s s2 a (by rintro rfl;exact hm Fh) Em BE o d
  .exact S0.DU Em o z
theorem GX(h:Wx ss te λm u=>nx ((Fz.Cg m ss).set j (.ow false u))):Ws ss (Dq te (Bt j)) nx R:=⟨λE D O F H S c hr=>
 h.go E O F H _ S λv m u F1 H1 a r nd b kk=>c _ _ F1 H1 kk (Sg.T7 S a.st r nd b) a.ff⟩
theorem AZ.rep(ff:AI F F1):∀{v:V}{t:OV},AZ F H v t->(∀a∈t.addrs,∀o,H a=some o->F1 a=some o)->Rep F1 v t.pv:=by
 intro v t r h;exact AZ.rec (motive_1:=λv t _=>(∀a∈t.addrs,∀o,H a=some o->F1 a=some o)->Rep F1 v t.pv) (motive_2:=λvs ts _=>(∀a∈OV.AL ts,∀o,H a=some o->F1 a=some o)->AG F1 vs (OV.BH ts))
  (λ{v p}r _=>by rw[OV.pv];exact r.mono ff)
  (λ{a vs xs}e _ c h=>by rw[OV.pv];exact .tup (ff _ _ e) (c (by rw[OV.Ee]at h;exact h)))
  (λ{k a vs xs}e i g _ c h=>by
   rw[OV.CZ]at h;have f:=c λa b=>h a (by simp[b]);have d:=h a (by simp) _ e;cases k with
   |lst=>rw[OV.pv];exact .lst d f
   |B1 ks=>rw[OV.pv];exact .B1 d g f
   |obj C dx ns=>rw[OV.pv];exact .obj d (h dx (by simp[NK.more]) _ i) g f)
  (λ_=>by rw[OV.BH];exact .nil)
  (λ_ _ NA N3 h=>by
   rw[OV.BN]at h;rw[OV.BH];exact .cons (NA λa b=>h a (by simp[b])) (N3 λa b=>h a (by simp[b])))
  r h
theorem qG{t':TS}(i:Nat)(hi:ss[i]?=some (.ow false t))(h:Ws (ss.set i (.is t.pv)) t' nx R):Ws ss t' nx R:=⟨λE D O F H S k hr=>by
 obtain⟨v,e,r,nd,f⟩:=S.ok i _ hi;obtain⟨S1,g⟩:=(S.drop i).lay t.addrs (λa b=>⟨(f a b).1,(f a b).2.elim id (λz=>by cases z.1),r.there a b⟩) λa b j s c m=>by
  by_cases q:j=i
  .subst q;rw[DD (List.getElem?_eq_some_iff.mp hi).1]at c;cases c;cases m
  .rw[Cb (Bk q)]at c;exact S.BD j i s _ a q c hi m b
 have d:=S1.Ei (j:=i) (v:=v) (p:=t.pv) (r.rep g λa b o ho=>by unfold BU;rw[hZ b];exact ho);rw[LM e,Nc]at d;exact h.go E D O _ H d (λC3 σ2 F2 H2 n d s2=>k C3 σ2 F2 H2 n d (g.trans s2)) hr⟩
variable{lt:Bool}
theorem CG:(OV.nd .lst a us).addrs=a::OV.AL us:=by rw[OV.CZ];rfl
theorem Er:∀(us ws:List OV),OV.AL (us++ws)=OV.AL us++OV.AL ws
 | [],ws=>by rw[Fb,OV.D8,Fb]
 |u::us,ws=>by rw[WT,OV.BN,OV.BN,Er us ws,BY]
theorem GV(u:OV):OV.AL [u]=u.addrs:=by rw[OV.BN,OV.D8,D0]
theorem Sg.MS{us':List OV}(S0:Sg E ss O F0 H0)(S:Sg E ss O F H)(hi:ss[i]?=some (.ow lt t))(Ak:t.at p=some (.nd .lst a us))
  (d:∀a∈u.addrs,F a=none/\E.H0 a=none/\((∃i∈m,∃s,s≠Slot.AO/\ss[i]?=some s/\B3 s O[i]? a)∨H0 a=none)) (Cr:i∉m)
  (hr:Ae F H Bp us') (N6:(OV.AL us').Nodup) (Hn:∀b∈OV.AL us',b∈OV.AL us∨b∈u.addrs):Sg E ((Fz.Cg m ss).set i (.ow lt (t.put p (.nd .lst a us')))) O F (upd H a (.lst Bp)):=by
 have I:(Fz.Cg m ss)[i]?=some (.ow lt t):=by
  have f:∀(m:List Nat)(ss:List Slot),ss[i]?=some (.ow lt t)->i∉m->(Fz.Cg m ss)[i]?=some (.ow lt t):=by
   intro m
   induction m with
   |nil=>intro ss h _;exact h
   |cons j m B=>
    intro ss h hm;refine B _ ?_ λz=>hm (by simp[z]);rw[Cb (by rintro rfl;exact hm (by simp))];exact h
  exact f m ss hi Cr
 obtain⟨v,e,r,nd,q⟩:=S.ok i _ hi;have x:∀b,b∈a::OV.AL us->b∈t.addrs:=λb c=>OV.Ek Ak b (by rw[CG];exact c);have G:∀b∈u.addrs,b∉t.addrs:=λb c z=>by
  rcases(d b c).2.2 with⟨j,C,s,_,hs,o⟩|w
  .exact S.BD j i s _ b (by rintro rfl;exact Cr C) hs hi o z
  .exact S0.DU hi z w
 have n:(OV.nd .lst a us).addrs.Nodup:=by
  obtain⟨l,J,D,_⟩:=OV.split Ak;rw[D,BZ,BZ]at nd;exact nd.1.2.1
 rw[CG]at n;have g:∀b∈OV.AL us',b≠a:=λb c z=>by
  subst z;rcases Hn b c with w|w
  .exact(List.nodup_cons.mp n).1 w
  .exact G b w (x b (by simp))
 refine(S.Cg m).UP I Ak (.nd (k:=.lst) Ay trivial trivial (hr.mono (AI.refl _) λb c o ho=>by rw[Ab (g b c)];exact ho)) (by rw[CG];exact List.nodup_cons.mpr ⟨λz=>g a z rfl,N6⟩) λb c=>?_;rw[CG]at c ⊢;rcases List.mem_cons.mp c with w|w
 .exact .inl (by simp[w])
 .rcases Hn b w with z|z
  .exact .inl (by simp[z])
  .refine .inr ⟨(d b z).1,(d b z).2.1,λj s hs o=>?_⟩;rcases LS hs with y|⟨Em,hm⟩
   .subst y;cases o
   .rcases(d b z).2.2 with⟨i2,Fh,s2,_,BE,A⟩|y
    .exact S.BD j i2 s s2 b (by rintro rfl;exact hm Fh) Em BE o A
    .exact S0.DU Em o y
theorem LP(h:Wl ss i t ta λp u=>∃lt a us,ss[i]?=some (.ow lt t)/\u=.nd .lst a us/\us.length<=99999/\Wx ss te λm w=>i∉m/\nx ((Cg m ss).set i (.ow lt (t.put p (.nd .lst a (us++[w])))))):Ws ss (Ff (Gv K "list" Mu ta (Au te BW))) nx R:=⟨λE D O F H S N hr=>
 h.go E O F H _ S λv p u F1 H1 c J h1⟨lt,a,us,hi,Q,L,hw⟩=>by
  subst Q;cases J with
  |@nd k Y vs _ r C P g=>
   refine .inl ⟨rfl,_,AS.of r⟩ |> λn=>⟨n,hw.go E O F1 H1 _ c.st λB m w F2 H2 d I EH z⟨Cr,kk⟩=>?_⟩;have G:=(AZ.nd (k:=.lst) r C P g).mv c.st h.hi h1 d;cases G with
   |@nd _ _ Ij _ N7 W X Ic=>
    refine⟨a,Ij,B,rfl,rfl,N7,Fp (by rw[Ic.length];exact L),?_⟩;refine N _ O F2 _ kk (Sg.MS (u:=w) c.st d.st hi h1 z Cr (Ic.append (.one I)) ?_ λb q=>?_) (c.ff.trans d.ff)
    .rw[Er,GV,BZ];obtain⟨U,e0,V,Br,n⟩:=d.st.ok i _ hi;have A:(OV.nd .lst a us).addrs.Nodup:=by
      obtain⟨l,g,T,_⟩:=OV.split h1;rw[T,BZ,BZ]at Br;exact Br.1.2.1
     rw[CG]at A;refine⟨(List.nodup_cons.mp A).2,EH,λx hx y M e=>?_⟩;subst e;have f:x∈t.addrs:=OV.Ek h1 x (by rw[CG];simp[hx]);rcases(z x M).2.2 with⟨j,σ,s,_,hs,o⟩|w
     .exact c.st.BD j i s _ x (by rintro rfl;exact Cr σ) hs hi o f
     .exact c.st.DU hi f w
    .rw[Er,GV]at q;exact List.mem_append.mp q⟩
theorem XQ{k:OV->Prop}(h:Wx ss te λ_ u=>k u):Ws ss (LV te) nx (.ow k):=⟨λE D O F H S e hr=>
 h.go E O F H _ S λv m u F1 H1 d r nd b kk=>hr v F1 H1 d.st.toFin ⟨u,r,nd,λa c=>⟨(b a c).1,(b a c).2.1⟩,kk⟩⟩
theorem Yh{ta:TA}{k:List Nat->OV->Prop}(h:Wa ss ta λl=>∃c,pre l (.ow c)/\∀u,c u->k [] u):Wx ss (EU (Ai pre) [] E0 ta) k:=⟨λE O F H Q S q=>
 h.go E O F H _ S λvs l F1 H1 b a⟨c,i,kk⟩=>by
  rw[D0];refine⟨l,.ow c,F1,[],i,b.st.PD a,λv F' H' f⟨u,r,nd,d,g⟩=>?_⟩;exact q v [] u F' H' (b.trans (b.st.back (λ_ h=>absurd h An) f)) r nd (λa e=>⟨(d a e).1,S.Cy (b.none (d a e).2),.inr (b.none (d a e).2)⟩) (kk u g)⟩
end
def ptr(a:Addr):Hp->V->Prop:=λ_ v=>v=.ref a
section
variable[Xw]
variable{K:yo}{k:PV->Prop}{lt:Bool}
theorem Sg.Sz(S:Sg E ss O F H)(hi:ss[i]?=some (.ow lt t))(Ak:t.at p=some (.nd .lst a (ps.map .fz)))(hr:AG F Bp PZ):Sg E (ss.set i (.ow lt (t.put p (.nd .lst a (PZ.map .fz))))) O F (upd H a (.lst Bp)):=
 Sg.MS (m:=[]) (u:=.fz .AA) S S hi Ak (λa d=>by rw[OV.D3]at d;cases d) (by simp) (TX hr) (by rw[QP];exact JW) λb c=>by rw[QP]at c;cases c
theorem Sg.MI(S:Sg E ss O F H)(hi:ss[i]?=some (.ow lt t))(Ak:t.at p=some (.nd .lst a (ps.map .fz))):∃vs,H a=some (.lst vs)/\AG F vs ps:=by
 obtain⟨v,e,r,_,_⟩:=S.ok i _ hi;obtain⟨w,b,_⟩:=r.at Ak;obtain⟨_,rfl,d,_,_,c⟩:=b.inv;exact⟨_,d,c.XF⟩
theorem Ni{k:List Nat->OV->Prop}{nk:NK}(g:ss[j]?=some (.raw (ptr a)))(hi:ss[i]?=some (.ow lt t))(Ak:t.at p=some (.nd nk a us))(f:k p (.nd nk a us)):Wl ss i t (BF j) k:=⟨⟨lt,hi⟩,λE O F H Q S q=>by
 obtain⟨v,e,c,_⟩:=S.ok j _ g;obtain⟨l,m,d,_,_⟩:=S.ok i _ hi;obtain⟨w,b,_⟩:=d.at Ak;have h:w=.ref a:=by cases b;rfl
 subst h;cases(show v=.ref a from c);exact⟨_,e,q _ p _ F H (.refl S) b Ak f⟩⟩
theorem ZA(h:Wp ss te λq=>Wl ss i t ta λp u=>∃(lt:Bool)(a:Addr)(ps:List PV),ss[i]?=some (.ow lt t)/\u=.nd .lst a (ps.map .fz)/\Wp ss ti λl=>∃n:Nat,l=.int n/\n<ps.length/\nx (ss.set i (.ow lt (t.put p (.nd .lst a ((ps.set n q).map .fz)))))):Ws ss (Dq te (V0 ta ti Yt)) nx R:=⟨λE D O F H S o hr=>
 h.go E O F H _ S λv q F1 H1 e g h2=>h2.go E O F1 H1 _ e.st λf p u F2 H2 c k Ak⟨lt,a,ps,hi,w,r⟩=>by
  subst w;have s:f=.ref a:=by cases k;rfl
  subst s;refine r.go E O F2 H2 _ c.st λy z F3 H3 b j⟨n,x,KI,kk⟩=>?_;subst x;cases j;obtain⟨vs,m,d⟩:=b.st.MI hi Ak;refine⟨a,vs,_,n,rfl,rfl,m,XW (by rw[d.length];exact KI),?_⟩;exact o _ O F3 _ kk (b.st.Sz hi Ak (d.set n (g.mono (c.ff.trans b.ff)))) (e.ff.trans (c.ff.trans b.ff))⟩
theorem Zd(h:Wl ss i t ta λp u=>∃(lt:Bool)(a:Addr)(ps:List PV),ss[i]?=some (.ow lt t)/\u=.nd .lst a (ps.map .fz)/\Wp ss tb λq=>∃n:Nat,q=.int n/\n<=ps.length/\Wp ss te λf=>ps.length<=99999/\nx (ss.set i (.ow lt (t.put p (.nd .lst a ((ps.take n++f::ps.drop n).map .fz)))))):
  Ws ss (Ff (Gv K "list" N9 ta (Au tb (Au te BW)))) nx R:=⟨λE D O F H S r hr=>
 h.go E O F H _ S λv p u F1 H1 d m Ak⟨lt,a,ps,hi,x,h2⟩=>by
  subst x;have w:v=.ref a:=by cases m;rfl
  subst w;obtain⟨GD,UR,_⟩:=d.st.MI hi Ak;refine⟨.inl ⟨rfl,_,AS.of UR⟩,h2.go E O F1 H1 _ d.st λz f F2 H2 g l⟨n,y,KI,s⟩=>?_⟩;subst y;cases l;refine s.go E O F2 H2 _ g.st λj A F3 H3 c k⟨B,kk⟩=>?_;obtain⟨vs,o,b⟩:=c.st.MI hi Ak;have e:=b.length;refine⟨a,vs,n,j,rfl,rfl,o,by omega,by omega,Fp (by omega),?_⟩;rw[HM];exact r _ O F3 _ kk (c.st.Sz hi Ak ((b.take n).append (.cons k (b.drop n)))) (d.ff.trans (g.ff.trans c.ff))⟩
theorem xS{m n:Nat}(h:m<n):seqIndex? (m:Int) n=some m:=by
 unfold seqIndex?;simp;omega
theorem AG.erase:∀{vs:List V}{xs:List PV}(n:Nat),AG F vs xs->AG F (vs.eraseIdx n) (xs.eraseIdx n):=by
 intro vs xs n r
 induction xs generalizing vs n with
 |nil=>cases r.Ca;exact .nil
 |cons p ps c=>
  obtain⟨v,ws,rfl,a,b⟩:=r.inv;cases n with
  |zero=>exact b
  |succ n=>exact .cons a (c n b)
end
def CS:List Slot->L2.St->List Addr
 | .own _::ss,some (.ref l)::O=>l::CS ss O
 | .ow _ t::ss,_::O=>t.addrs++CS ss O
 |_::ss,_::O=>CS ss O
 |_,_=>[]
theorem cS:∀{ss:List Slot}{O:L2.St}{a:Addr},a∈CS ss O->∃(i:Nat)(s:Slot),ss[i]?=some s/\s≠.AO/\B3 s O[i]? a
 | [],O,a,h=>absurd h An
 |s::ss,[],a,h=>by cases s <;> exact absurd h An
 |s::ss,o::O,a,h=>by
  have b:a∈CS ss O->∃(i:Nat)(s':Slot),(s::ss)[i]?=some s'/\s'≠.AO/\B3 s' (o::O)[i]? a:=λh=>by
   obtain⟨i,s',h1,h2,c⟩:=cS h;exact⟨i+1,s',by simpa using h1,h2,by simpa using c⟩
  cases s with
  |own xs=>
   cases o with
   |none=>exact b h
   |some v=>
    cases v with
    |ref l=>
     have h:a∈l::CS ss O:=h;rcases List.mem_cons.mp h with e|h
     .subst e;exact⟨0,_,rfl,by simp,rfl⟩
     .exact b h
    |_=>exact b h
  |ow lt t=>
   have h:a∈t.addrs++CS ss O:=h;rcases List.mem_append.mp h with h|h
   .exact⟨0,_,rfl,by simp,h⟩
   .exact b h
  |_=>exact b h
theorem OE:∀{ss:List Slot}{O:L2.St}{i:Nat}{s:Slot}{a:Addr},ss.length=O.length->ss[i]?=some s->s≠.AO->B3 s O[i]? a->a∈CS ss O
 | [],O,i,s,a,_,h,_,_=>by simp at h
 |s0::ss,[],i,s,a,hl,_,_,_=>by simp at hl
 |s0::ss,o::O,0,s,a,hl,h,hp,ho=>by
  simp at h;subst h;cases s0 with
  |own xs=>
   have e:o=some (.ref a):=by have:some o=some (some (V.ref a)):=ho;exact B9 this
   subst e;exact D2
  |ow lt t=>exact JV _ ho
  |AO=>exact absurd rfl hp
  |_=>cases ho
 |s0::ss,o::O,i+1,s,a,hl,h,hp,ho=>by
  have q:=OE (ss:=ss) (O:=O) (i:=i) (a:=a) (by simpa using hl) (by simpa using h) hp (by simpa using ho)
  cases s0 with
  |own xs=>cases o with
   |none=>exact q
   |some v=>cases v with
    |ref l=>exact CM _ q
    |_=>exact q
  |ow lt t=>exact Ep _ q
  |_=>exact q
theorem AZ.cJ(r:AZ F H v t):∀a∈t.addrs,∀vs,H a≠some (.tup vs):=
 AZ.rec (motive_1:=λ_ t _=>∀a∈t.addrs,∀vs,H a≠some (.tup vs)) (motive_2:=λ_ ts _=>∀a∈OV.AL ts,∀vs,H a≠some (.tup vs))
  (λ_ a c _=>by rw[OV.D3]at c;cases c)
  (λ_ _ i a c vs=>by rw[OV.Ee]at c;exact i a c vs)
  (λ{k}{b}{_}{_}h d _ _ i a c vs=>by
   rw[OV.CZ,IU,HP]at c;rcases c with rfl|c|c
   .rw[h];cases k <;> (intro z;cases z)
   .cases k with
    |obj C dx ns=>
     have e:a=dx:=List.mem_singleton.mp c;subst e;have f:H a=some (.own b):=d;rw[f];intro z;cases z
    |_=>exact absurd c An
   .exact i a c vs)
  (λa c _=>by rw[OV.D8]at c;cases c)
  (λ_ _ i k a c ws=>by
   rw[OV.BN,HP]at c;rcases c with c|c
   .exact i a c ws
   .exact k a c ws)
  r
mutual
def De:PV->Bool
 | .lst _=>false
 | .B1 _ _=>false
 | .obj _ _ _=>false
 | .exc _ _ _=>false
 | .tup xs=>FR xs
 |_=>true
def FR:List PV->Bool
 | []=>true
 |x::r=>De x && FR r
end
noncomputable def Df(F:Hp)(as:List Addr):Hp:=λa=>if a∈as then none else F a
theorem Rep.sub{as:List Addr}(h:∀a∈as,∀vs,F a≠some (.tup vs)):∀{v:V}{p:PV},Rep F v p->De p=true->Rep (Df F as) v p:=by
 intro v p r d;exact Rep.rec (motive_1:=λv p _=>De p=true->Rep (Df F as) v p) (motive_2:=λvs ps _=>FR ps=true->AG (Df F as) vs ps)
  (λ_=>.AA) (λb _=>.bl b) (λi _=>.int i) (λx _=>.str x)
  (λ_ _ _ z=>by simp[De]at z)
  (λ{a vs xs}e _ c z=>.tup (by unfold Df;rw[gp (λq=>h a q vs e)];exact e) (c (by simpa[De]using z)))
  (λ_ _ _ _ z=>by simp[De]at z)
  (λ_ _ _ _ _ z=>by simp[De]at z)
  (λ_=>.con)
  (λ_ z=>by simp[De]at z)
  (λ_ _ _ _ _ z=>by simp[De]at z)
  (λ_=>.nil)
  (λ_ _ NA N3 z=>by
   rw[FR,En]at z;exact .cons (NA z.1) (N3 z.2))
  r d
theorem AG.sub{as:List Addr}(h:∀a∈as,∀vs,F a≠some (.tup vs))(r:AG F vs ps)(z:FR ps=true):AG (Df F as) vs ps:=by
 induction ps generalizing vs with
 |nil=>cases r.Ca;exact .nil
 |cons p ps c=>
  obtain⟨v,ws,rfl,a,b⟩:=r.inv;have z:=(En _ _).mp z;exact .cons (a.sub h z.1) (c b z.2)
structure Wb [Xw] (ss:List Slot) (ta:TA) (k:List PV->Prop):Prop where
 go:∀(E:Ent)(O:L2.St)(F H:Hp)(Q:List V->Hp->Prop),Sg E ss O F H->(∀vs ps F' H',Mv E ss O F H F' H'->AG (BU F' H' (CS ss O)) vs ps->k ps->Q vs H')->ta O H Q
theorem Sg.as(S:Sg E ss O F H)(h:a∈CS ss O):F a=none/\H a≠none/\(∀vs,H a≠some (.tup vs))/\Bo ss O a:=by
 obtain⟨i,s,hs,b,ho⟩:=cS h;refine⟨S.gR hs ho,S.DU hs ho,?_,S.Jv hs ho b⟩;have k:=S.ok i s hs;cases s with
 |own xs=>obtain⟨l,vs,e,_,_,c,_⟩:=k;rw[show O[i]?=some (some (.ref a))from ho]at e;cases e;rw[c];simp
 |ow lt t=>obtain⟨v,_,r,_⟩:=k;exact r.cJ a ho
 |AO=>exact absurd rfl b
 |_=>cases ho
theorem Sg.GG(S:Sg E ss O F H):AI F (BU F H (CS ss O))/\AI (BU F H (CS ss O)) H:=by
 refine⟨λa o e=>?_,λa o e=>?_⟩
 .unfold BU;rw[gp (λq=>by rw[(S.as q).1]at e;cases e)];exact e
 .unfold BU at e;split at e
  .exact e
  .exact S.fh a o e
theorem Sg.lend(S:Sg E ss O F H)(r:AG (BU F H (CS ss O)) vs ps):Sg (E3 [] (BU F H (CS ss O)) H) (ps.map .is) (vs.map some) (BU F H (CS ss O)) H:=by
 have nn:∀{p:Prop}(a:Addr),a∈([]:List Addr)->p:=λa h=>absurd h An;refine⟨⟨S.GG.2,AI.refl _,λ_ _ _ e=>e,λ_ _ e=>.inl e,λa h=>nn a h,λa h=>nn a h,λa h=>nn a h,λa h=>nn a h,λa h=>nn a h,λa h=>nn a h⟩,by rw[AF,AF,r.length],λi s hi=>?_,λi j s u l Fo hi g c f=>?_⟩
 .rw[Aa]at hi;cases e:ps[i]? with
  |none=>rw[e]at hi;cases hi
  |some p=>
   rw[e]at hi;obtain⟨v,d,b⟩:=r.get e;have es:Slot.is p=s:=B9 hi;subst es;rw[Aa,d];exact⟨v,rfl,b⟩
 .rw[Aa]at hi;cases e:ps[i]? with
  |none=>rw[e]at hi;cases hi
  |some p=>rw[e]at hi;have es:Slot.is p=s:=B9 hi;subst es;cases c
theorem Sg.Oi(S:Sg E ss O F H)(f:Fin (E3 [] (BU F H (CS ss O)) H) F' H'):Mv E ss O F H (Df F' (CS ss O)) H'/\∀a∈CS ss O,∀vs,F' a≠some (.tup vs):=by
 have kp:∀a o,H a=some o->H' a=some o:=λa o e=>f.keep a o ⟨An,An⟩ e;refine⟨S.step (λa o e=>?_) (λa o e=>?_) (λa o _ e=>kp a o e) (λa o e=>?_) (λi l hi e=>Bd.keep (S.FH hi e) λo e=>kp l o e),λa c vs e=>?_⟩
 .unfold Df;rw[gp (λq=>by rw[(S.as q).1]at e;cases e)];exact f.f0 a o (S.GG.1 a o e)
 .unfold Df at e;split at e
  .cases e
  .exact f.fh a o e
 .unfold Df at e;split at e
  .cases e
  .rename_i q;rcases f.fresh a o e with z|z
   .left
    have b:BU F H (CS ss O) a=some o:=z;unfold BU at b;rw[gp q]at b;exact b
   .exact .inr z
 .obtain⟨o,ho⟩:=Option.ne_none_iff_exists'.mp (S.as c).2.1;have z:F' a=some o:=f.f0 a o (by show BU F H (CS ss O) a=some o;unfold BU;rw[hZ c];exact ho);rw[z]at e;cases e;exact(S.as c).2.2.1 vs ho
section
variable[Xw]
variable{K:yo}{k:PV->Prop}{lt:Bool}
theorem UN{k:List PV->Prop}(h:k []):Wb ss BW k:=⟨λE O F H Q S q=>q _ _ F H (.refl S) .nil h⟩
theorem aC{k:List PV->Prop}(h:Wp ss te λp=>Wb ss tr λps=>k (p::ps)):Wb ss (Au te tr) k:=⟨λE O F H Q S q=>
 h.go E O F H _ S λv p F1 H1 b d h2=>h2.go E O F1 H1 _ b.st λvs ps F2 H2 a c kk=>q _ _ F2 H2 (b.trans a) (.cons ((d.mono a.ff).mono a.st.GG.1) c) kk⟩
end
theorem rD{K:yo}{p:PV}(h:flat p=true):dat K d p:=by
 cases p <;> first|(cases h;done)|(cases d <;> trivial)
theorem hV{K:yo}(h:xs.all flat=true):∀x∈xs,dat K d x:=λx hx=>rD (List.all_eq_true.mp h x hx)
theorem Mc{K:yo}(ns:List Str):∀x∈ns.map PV.str,dat K d x:=hV (Vv ns)
theorem QN:∀{xs:List PV},(∀x∈xs,C4 x x=true)->Cf xs xs=true
 | [],_=>by rw[Cf]
 |x::r,h=>by rw[Pp,h x (by simp),QN (xs:=r) λy a=>h y (by simp[a])];rfl
theorem Vc{K:yo}:∀(d:Nat){p:PV},dat K d p->C4 p p=true:=by
 intro d
 induction d with
 |zero=>intro p h;cases p <;> first|exact h.elim|rfl|exact j3 _
 |succ d b=>
  intro p h;cases p with
  |lst xs=>show Cf xs xs=true;exact QN λx hx=>b (h x hx)
  |tup xs=>show Cf xs xs=true;exact QN λx hx=>b (h x hx)
  |con a xs=>show Cf xs xs=true;exact QN λx hx=>b (h.1 x hx)
  |_=>first|exact h.elim|rfl|exact j3 _
theorem Vd:∀(xs:List PV),OV.BH (xs.map .fz)=xs
 | []=>by rw[Gp,OV.BH]
 |x::r=>by rw[Ap,OV.BH,OV.pv,Vd r]
end Fz
namespace L2
variable{M:Model}{A:Around}{E xe:Value->Shared->Prop}{s:Shared}{ZB h:Heap}{env:Env}{outer:List Env}{C S ea f fI:Addr}{dd dx tb:Option Addr}{w:World}{mg:yq}{N ps sn:List Str}{n name par qual x:Str}{scope:Scope}{cd v:Value}{H:Hp}{X:Cx}{E':St->XK}{Cd QY np p pos:Pos}{e e0:Expr}{es:List Expr}{t:TA}{ab lK:Bool}{prog:Program}{Zn yg:yp}{O:St}{j kk:Nat}{fd:FuncData}{ZT body:List Stmt}{b0:Stmt}{bS:(St->XK)->TS}{th:TS}{sp:Sp}
section
variable{K:yo}{x t:Addr}
section
open PySem.Builtin PySem.Builtin.ObjectAttr
end
end
end L2
namespace Fz
open L2 Lw
variable{xs:List PV}{E:Ent0}{ss:List Slot}{O:L2.St}{F F' F1 H H':Hp}{ta tb tc te ti:TE}{tp:Bool}{nx:List Slot->Prop}{R:AX}
structure JC (K:yo) (a:Addr) (xs:List PV):Prop where
 JI:xs.all flat=true
 sq:∀H,Ao K H a (xs.map Fz.enc)
 ob:∃o:Obj,K.lookup a=some o/\o.cls=.type "tuple"
theorem JC.of{K:yo}{a:Addr}{vs:List V}(h:∀H,Ao K H a vs)(e:xs.map Fz.enc=vs)(f:xs.all flat=true):JC K a xs:=by
 subst e;refine⟨f,h,?_⟩;rcases h (λ_=>none)with h|⟨o,A1,n,h1,h2,_⟩
 .rcases h with h|⟨_,h⟩
  .cases h
  .cases h
 .exact⟨o,h1,h2⟩
def SV:Pre:=λl R=>∃i:Int,l=[.is (.int i)]/\R=.is λp=>p=.bl true
end Fz
namespace Fz
open L2 Lw
variable{E:Ent0}{ss:List Slot}{O:L2.St}{F F' H H':Hp}{te:TE}{nx:List Slot->Prop}{R:AX}{pre:Pl}
@[reducible] noncomputable def yc (X:XK) (D:Ex->Prop):Xw:=⟨λ_=>X,λ_=>True,D⟩
@[reducible] noncomputable def yM (E:Ent0) (J:List Slot->Prop) (D:Ex->Prop):Xw:=⟨λO C dx H=>∃ss F x,J ss/\Sg E ss O F H/\D x/\x.at F C dx,J,D⟩
end Fz
namespace Fz
open L2 Lw
variable{l ss:List Slot}{ta tb te:TE}{a a0:Addr}{N ns:List Str}{t t' u:OV}{pre:Pre}{X:XK}{F F' H H':Hp}{O:L2.St}{i j n:Nat}{E:Ent0}{vs:List V}{nk:NK}{us:List OV}{c:TT}{Q:VK}
theorem wu(bs:List Bool):(bs.map V.bl).all Dr=true:=by
 rw[Gm];intro x hx;obtain⟨y,_,rfl⟩:=List.mem_map.mp hx;rfl
section
variable[Xw]
variable{K:yo}{k:PV->Prop}
theorem cN{neg:Bool}(c:JC K a (ns.map .str))(h:Wp ss ta λp=>∃x,p=.str x/\k (.bl (if neg then !decide (x∈ns)else decide (x∈ns)))):Wp ss (BB (Ke K neg) ta (tC (.ref a))) k:=⟨λE O F H Q S q=>
 h.go E O F H _ S λv p F1 H1 d b AE=>by
  obtain⟨x,e,kk⟩:=AE;subst e;cases b.inv;have sq:=c.sq H1;rw[S9]at sq;refine⟨a,ns.map V.str,rfl,.inr sq,rfl,Jp ns,?_⟩;rw[Vi];exact q _ _ F1 H1 d (.bl _) kk⟩
variable{t u:TE}{pre:Pl}{tA:TA}
theorem j8(h:Wp ss te λp=>∃x,p=.str x/\x.length<=1000/\k (.bl (isNm x))):Wp ss (EU VB [] E0 (Au te BW)) k:=⟨λE O F H Q S q=>
 h.go E O F H _ S λv p F1 H1 a r AE=>by
  obtain⟨x,e,hx,kk⟩:=AE;subst e;cases r.inv;exact⟨x,rfl,hx,λH3 s=>q _ _ F1 H3 (a.trans (a.st.grow s)) (.bl _) kk⟩⟩
end
def cQ(K:yo):List V->Hp->VK->Prop:=λxs H Q=>∃p ys,xs=[.ref p]/\(AS K H p ys∨Ao K H p ys)/\∀l,H l=none->Q (.ref l) (upd H l (.lst ys))
theorem gP{X:Cx}:DF X (.type "list") (cQ X.K):=OK
def Dc(pre:Pre):Sp:=λvs H Q _=>∃(ss:List Slot)(R:AX)(F:Hp)(A B:List Addr),pre ss R/\Sg ⟨A,F,H,B⟩ ss (vs.map some) F H/\∀v F' H',Fin ⟨A,F,H,B⟩ F' H'->R.ok ⟨A,F,H,B⟩ F' H' v->Q v H'
inductive Hf (F:Hp):List V->List Slot->Prop where
 |nil:Hf F [] []
 |cons {v:V}{p:PV}{vs:List V}{l:List Slot}:Rep F v p->Hf F vs l->Hf F (v::vs) (.is p::l)
inductive Hh (O:L2.St) (F:Hp) (i:Nat) (t:OV):List V->List Slot->Prop where
 |here {v:V}{vs:List V}{l:List Slot}:O[i]?=some (some v)->Hf F vs l->Hh O F i t (v::vs) (.ow true t::l)
 |there {v:V}{p:PV}{vs:List V}{l:List Slot}:Rep F v p->Hh O F i t vs l->Hh O F i t (v::vs) (.is p::l)
theorem Hf.len:∀{vs:List V}{l:List Slot},Hf F vs l->l.length=vs.length:=by
 intro vs l h
 induction h with
 |nil=>rfl
 |cons _ _ a=>rw[D1,D1,a]
theorem Hh.len:∀{vs:List V}{l:List Slot},Hh O F i t vs l->l.length=vs.length:=by
 intro vs l h
 induction h with
 |here _ r=>rw[D1,D1,r.len]
 |there _ _ a=>rw[D1,D1,a]
theorem Hf.at:∀{vs:List V}{l:List Slot},Hf F vs l->∀{n:Nat}{s:Slot},l[n]?=some s->∃v p,vs[n]?=some v/\s=.is p/\Rep F v p:=by
 intro vs l h
 induction h with
 |nil=>intro n s e;rw[List.getElem?_nil]at e;cases e
 |cons r _ a=>
  intro n s e;cases n with
  |zero=>cases(show some _=some s from e);exact⟨_,_,rfl,rfl,r⟩
  |succ n=>exact a (n:=n) e
theorem Hh.at:∀{vs:List V}{l:List Slot},Hh O F i t vs l->∃m:Nat,∀{n:Nat}{s:Slot},l[n]?=some s->(n=m/\s=.ow true t/\∃v,vs[n]?=some v/\O[i]?=some (some v))∨∃v p,vs[n]?=some v/\s=.is p/\Rep F v p:=by
 intro vs l h
 induction h with
 |here e r=>
  refine⟨0,λ{n s}h=>?_⟩;cases n with
  |zero=>cases(show some _=some s from h);exact .inl ⟨rfl,rfl,_,rfl,e⟩
  |succ n=>exact .inr (r.at (n:=n) h)
 |there r _ b=>
  obtain⟨m,hm⟩:=b;refine⟨m+1,λ{n s}q=>?_⟩;cases n with
  |zero=>cases(show some _=some s from q);exact .inr ⟨_,_,rfl,rfl,r⟩
  |succ n=>
   rcases hm (n:=n) (s:=s) q with⟨e,es,a⟩|a
   .exact .inl ⟨jL Nat.succ e,es,a⟩
   .exact .inr a
structure Ms (E:Ent0) (ss:List Slot) (O:L2.St) (i:Nat) (lt:Bool) (t t':OV) (F H F' H':Hp):Prop where
 st:Sg E (ss.set i (.ow lt t')) O F' H'
 ff:AI F F'
 hh:∀a o,Bo ss O a->a∉t.addrs->H a=some o->H' a=some o
 nn:∀a o,F' a=some o->F a=some o∨H a=none
structure Lh [Xw] (ss:List Slot) (ta:TA) (k:List Slot->Prop):Prop where
 go:∀(E:Ent)(O:L2.St)(F H:Hp)(Q:List V->Hp->Prop),Sg E ss O F H->(∀vs l F' H',Mv E ss O F H F' H'->Hf F' vs l->k l->Q vs H')->ta O H Q
structure Q1 [Xw] (ss:List Slot) (i:Nat) (t:OV) (ta:TA) (k:List Slot->Prop):Prop where
 go:∀(E:Ent)(O:L2.St)(F H:Hp)(Q:List V->Hp->Prop),Sg E ss O F H->(∀vs l F' H',Mv E ss O F H F' H'->Hh O F' i t vs l->k l->Q vs H')->ta O H Q
structure Wm [Xw] (ss:List Slot) (i:Nat) (lt:Bool) (t:OV) (te:TE) (k:PV->OV->Prop):Prop where
 go:∀(E:Ent)(O:L2.St)(F H:Hp)(Q:VK),Sg E ss O F H->(∀v p t' F' H',Ms E ss O i lt t t' F H F' H'->Rep F' v p->k p t'->Q v H')->te O H Q
structure N8 [Xw] (ss:List Slot) (i:Nat) (lt:Bool) (t:OV) (c:TT) (k:Bool->OV->Prop):Prop where
 go:∀(E:Ent)(O:L2.St)(F H:Hp)(Q:Bool->Hp->Prop),Sg E ss O F H->(∀b t' F' H',Ms E ss O i lt t t' F H F' H'->k b t'->Q b H')->c O H Q
theorem Sg.Uk{lt:Bool}(S:Sg E ss O F H)(hi:ss[i]?=some (.ow lt t))(a:Hh O F i t vs l):Sg ⟨[],F,H,t.addrs⟩ l (vs.map some) F H:=by
 obtain⟨q,e0,c,Br,g⟩:=S.ok i _ hi;have nn:∀{p:Prop}(a:Addr),a∈([]:List Addr)->p:=λa h=>absurd h An;obtain⟨m,hm⟩:=a.at;refine⟨⟨S.fh,AI.refl _,λ_ _ _ e=>e,λ_ _ e=>.inl e,λa h=>nn a h,λa h=>nn a h,λa h=>nn a h,λa h=>(g a h).1,λa h=>c.there a h,λa h=>⟨c.there a h,An⟩⟩,by rw[AF];exact a.len,λn s f=>?_,λn j s u b w f z y x=>?_⟩
 .rcases hm f with⟨_,rfl,v,d,o⟩|⟨v,p,d,rfl,r⟩
  .rw[Aa,d];rw[e0]at o;cases o;exact⟨q,rfl,c,Br,λa k=>⟨(g a k).1,.inr ⟨rfl,k⟩⟩⟩
  .rw[Aa,d];exact⟨v,rfl,r⟩
 .rcases hm f with⟨B,rfl,_⟩|⟨_,_,_,rfl,_⟩
  .rcases hm z with⟨A,rfl,_⟩|⟨_,_,_,rfl,_⟩
   .exact w (B.trans A.symm)
   .cases x
  .cases y
theorem Sg.RV{lt:Bool}{FX:NK}{us':List OV}(S:Sg E ss O F H)(hi:ss[i]?=some (.ow lt (.nd nk a0 us)))(f:Fin ⟨[],F,H,(OV.nd nk a0 us).addrs⟩ F' H')(r:AZ F' H' (.ref a0) (.nd FX a0 us'))(nd:(OV.nd FX a0 us').addrs.Nodup)(q:∀a∈(OV.nd FX a0 us').addrs,F' a=none/\(H a=none∨a∈(OV.nd nk a0 us).addrs)):
  Ms E ss O i lt (.nd nk a0 us) (.nd FX a0 us') F H F' H':=by
 obtain⟨J,e0,K,Br,v⟩:=S.ok i _ hi;have P:J=.ref a0:=by cases K;rfl
 subst P;have I:i<ss.length:=(List.getElem?_eq_some_iff.mp hi).1;have kp:∀a o,a∉(OV.nd nk a0 us).addrs->H a=some o->H' a=some o:=λa o n e=>f.keep a o ⟨An,n⟩ e;have Bq:∀a,H a≠none->F a=none->F' a=none:=λa h1 h2=>by
  cases e:F' a with
  |none=>rfl
  |some o=>
   rcases f.fresh a o e with z|z
   .rw[show F a=some o from z]at h2;cases h2
   .exact absurd z h1
 have L:∀a,a∈E.A->a∉(OV.nd nk a0 us).addrs:=λa h hm=>by
  rcases(v a hm).2 with z|⟨_,z⟩
  .exact S.a0 a h z
  .exact(S.b0 a z).2 h
 have d:∀(j:Nat)s,j≠i->ss[j]?=some s->∀a,B3 s O[j]? a->a∉(OV.nd nk a0 us).addrs:=λj s g hs a ho hm=>S.BD j i s _ a g hs hi ho hm;refine⟨⟨⟨f.fh,S.f0.trans f.f0,λa o h e=>?_,λa o e=>?_,λa h=>?_,λa h=>?_,S.a0,λa t=>?_,λa t=>?_,S.b0⟩,by rw[JT];exact S.len,λj s g=>?_,λj k s u b QB g B x w=>?_⟩,f.f0,λa o _ n e=>kp a o n e,λa o e=>f.fresh a o e⟩
 .refine kp a o (λhm=>?_) (S.keep a o h e);rcases(v a hm).2 with z|⟨_,z⟩
  .rw[e]at z;cases z
  .exact h.2 z
 .rcases f.fresh a o e with z|z
  .exact S.fresh a o z
  .exact .inr (S.Cy z)
 .exact Bd.keep (S.HB a h) λo e=>kp a o (L a h) e
 .obtain⟨_,_,p,_⟩:=S.HB a h;exact Bq a (by rw[p];simp) (S.Mr a h)
 .exact Bq a (S.bH a t) (S.bF a t)
 .by_cases hm:a∈(OV.nd nk a0 us).addrs
  .exact f.bH a hm
  .intro z;cases e:H a with
   |none=>exact S.bH a t e
   |some o=>rw[kp a o hm e]at z;cases z
 .by_cases c:j=i
  .subst c;rw[DD I]at g;cases g;refine⟨.ref a0,e0,r,nd,λa C=>⟨(q a C).1,?_⟩⟩;rcases(q a C).2 with z|z
   .exact .inl (S.Cy z)
   .exact(v a z).2
  .rw[Cb (Bk c)]at g
   by_cases np:s=.AO
   .subst np;obtain⟨l,e,σ,N,pt⟩:=S.ok j _ g;obtain⟨_,_,p,_⟩:=id pt;exact⟨l,e,Bq l (by rw[p];simp) σ,N,Bd.keep pt λo z=>kp l o (d j _ c g l e) z⟩
   .exact Ok.go S g f.f0 (λa o ho e=>kp a o (d j s c g a ho) e) Bq np
 .have at_:∀(n:Nat)s,(ss.set i (.ow lt (.nd FX a0 us')))[n]?=some s->(n=i/\s=.ow lt (.nd FX a0 us'))∨(n≠i/\ss[n]?=some s):=λn s m=>by
   by_cases c:n=i
   .subst c;rw[DD I]at m;exact .inl ⟨rfl,(B9 m).symm⟩
   .rw[Cb (Bk c)]at m;exact .inr ⟨c,m⟩
  have G:∀(n:Nat)s,n≠i->ss[n]?=some s->B3 s O[n]? b->b∉(OV.nd FX a0 us').addrs:=λn s m hs ho hm=>by
   rcases(q b hm).2 with z|z
   .exact S.DU hs ho z
   .exact d n s m hs b ho z
  rcases at_ j s g with⟨p,rfl⟩|⟨M,h1⟩
  .rcases at_ k u B with⟨D,rfl⟩|⟨y,h2⟩
   .exact QB (p.trans D.symm)
   .exact G k u y h2 w x
  .rcases at_ k u B with⟨D,rfl⟩|⟨y,h2⟩
   .exact G j s M h1 x w
   .exact S.BD j k s u b QB h1 h2 x w
section
variable[Xw]
variable{ta:TA}{lt:Bool}{nx:List Slot->Prop}{R:AX}
theorem J9{k:List Slot->Prop}(h:k []):Lh ss BW k:=⟨λE O F H Q S q=>q [] [] F H (Mv.refl S) .nil h⟩
theorem JK{k:List Slot->Prop}(h:Wp ss te λp=>Lh ss ta λl=>k (.is p::l)):Lh ss (Au te ta) k:=⟨λE O F H Q S q=>
 h.go E O F H _ S λv p F1 H1 c r h2=>h2.go E O F1 H1 _ c.st λvs l F2 H2 b a kk=>q _ _ F2 H2 (c.trans b) (.cons (r.mono b.ff) a) kk⟩
theorem aR{k:List Slot->Prop}(hi:ss[i]?=some (.ow lt t))(h:Lh ss ta λl=>k (.ow true t::l)):Q1 ss i t (Au (BF i) ta) k:=⟨λE O F H Q S q=>by
 obtain⟨c,e0,_⟩:=S.ok i _ hi;exact⟨_,e0,h.go E O F H _ S λvs l F2 H2 b a kk=>q _ _ F2 H2 b (.here e0 a) kk⟩⟩
theorem L1{k:List Slot->Prop}(h:Wp ss te λp=>Q1 ss i t ta λl=>k (.is p::l)):Q1 ss i t (Au te ta) k:=⟨λE O F H Q S q=>
 h.go E O F H _ S λv p F1 H1 c r h2=>h2.go E O F1 H1 _ c.st λvs l F2 H2 b a kk=>q _ _ F2 H2 (c.trans b) (.there (r.mono b.ff) a) kk⟩
theorem Mv.YC{F1 H1 F2 H2:Hp}(hi:ss[i]?=some (.ow lt t))(a:Mv E ss O F H F1 H1)(b:Ms E ss O i lt t t' F1 H1 F2 H2):Ms E ss O i lt t t' F H F2 H2:=
 ⟨b.st,a.ff.trans b.ff,λc o n z e=>b.hh c o n z (a.hh c o n e),λc o e=>(b.nn c o e).elim (λe=>a.nn c o e) λe=>.inr (a.none e)⟩
theorem X2{k:PV->OV->Prop}(hi:ss[i]?=some (.ow lt (.nd nk a0 us)))(h:Q1 ss i (.nd nk a0 us) ta λl=>∃b,pre l (.mt b)/\∀p t',b p t'->∃FX us',t'=.nd FX a0 us'/\k p t'):Wm ss i lt (.nd nk a0 us) (EU (Dc pre) [] E0 ta) k:=⟨λE O F H Q S q=>
 h.go E O F H _ S λvs l F1 H1 c a⟨b,j,kk⟩=>by
  rw[D0];refine⟨l,.mt b,F1,[],(OV.nd nk a0 us).addrs,j,c.st.Uk hi a,λv F' H' f⟨p,t',r,d,nd,e,kp⟩=>?_⟩;obtain⟨FX,us',rfl,g⟩:=kk p t' kp;exact q v p _ F' H' (c.YC hi (c.st.RV hi f d nd e)) r g⟩
theorem da{k:Bool->OV->Prop}(h:Wm ss i lt t te λp t'=>∃c,p=.bl c/\k c t'):N8 ss i lt t (tB te) k:=⟨λE O F H Q S q=>
 h.go E O F H _ S λv p t' F1 H1 a r AE=>by
  obtain⟨c,e,kk⟩:=AE;subst e;cases r.inv;exact⟨c,rfl,q c t' F1 H1 a kk⟩⟩
theorem YF{k:Bool->OV->Prop}(h:N8 ss i lt t c λb t'=>k (!b) t'):N8 ss i lt t (Oa c) k:=⟨λE O F H Q S q=>
 h.go E O F H _ S λb t' F1 H1 a kk=>q (!b) t' F1 H1 a kk⟩
theorem mM{u v:TS}(h:N8 ss i lt t c λb t'=>if b=true then Ws (ss.set i (.ow lt t')) u nx R else Ws (ss.set i (.ow lt t')) v nx R):Ws ss (Li c u v) nx R:=⟨λE D O F H S d hr=>
 h.go E O F H _ S λb t' F1 H1 a kk=>by
  cases b with
  |true=>rw[hZ rfl]at kk;exact kk.go E D O F1 H1 a.st (λA7 σ' F' H' n S' s=>d A7 σ' F' H' n S' (a.ff.trans s)) hr
  |false=>rw[gp (by decide)]at kk;exact kk.go E D O F1 H1 a.st (λA7 σ' F' H' n S' s=>d A7 σ' F' H' n S' (a.ff.trans s)) hr⟩
theorem WK(h:Wm ss i lt t te λ_ t'=>nx (ss.set i (.ow lt t'))):Ws ss (Ff te) nx R:=⟨λE D O F H S b hr=>
 h.go E O F H _ S λv p t' F1 H1 a r kk=>b _ O F1 H1 kk a.st a.ff⟩
theorem mJ(h:Wm ss i lt t te λp t'=>nx ((ss.set i (.ow lt t')).set j (.is p))):Ws ss (Dq te (Bt j)) nx R:=⟨λE D O F H S b hr=>
 h.go E O F H _ S λv p t' F1 H1 a r kk=>b _ _ F1 H1 kk (a.st.Ei r) a.ff⟩
theorem ao{k:PV->OV->Prop}(hi:ss[i]?=some (.ow lt (.nd nk a0 us)))(h:Wp ss te λp=>k p (.nd nk a0 us)):Ws ss (LV te) nx (.mt k):=⟨λE D O F H S j hr=>
 h.go E O F H _ S λv p F1 H1 d r kk=>by
  obtain⟨f,e0,b,Br,c⟩:=d.st.ok i _ hi;have g:f=.ref a0:=by cases b;rfl
  subst g;exact hr v F1 H1 d.st.toFin ⟨p,.nd nk a0 us,r,b,Br,λa e=>⟨(c a e).1,(c a e).2.imp id λz=>z.2⟩,kk⟩⟩
end
theorem d3{t:TS}(h:Dc pre vs H Q X)(b:∀ss R,pre ss R->ss.length=n)
  (hw:∀ss R,pre ss R->Ws (ss++List.replicate (N.length - n) .any) t (λ_=>False) R):t { nx:=λ_ H'=>Q .AA H',rt:=Q } (L2.start N vs) H:=by
 obtain⟨ss,R,F,A,B,a,S,q⟩:=h;have e:vs.length=n:=by have:=S.len;rw[AF]at this;rw[<- this];exact b ss R a
 unfold L2.start;rw[e];exact(hw ss R a).go (P2 ⟨A,F,H,B⟩) _ _ F H (S.grown _) (λA7 σ' F' H' z S' _=>z.elim) λv F' H' f ok=>q v F' H' f ok
theorem KP(b:∀ss R,pre ss R->ss.length=n)(h:Dc pre vs H Q X):vs.length=n:=by
 obtain⟨ss,R,F,A,B,a,S,q⟩:=h;have:=S.len;rw[AF]at this;rw[<- this];exact b ss R a
theorem Sg.Nt(S:Sg E ss O F H)(d:ss[j]?=some (.ow false u)):Sg E (ss.set j (.is u.pv)) O (BU F H u.addrs) H/\AI F (BU F H u.addrs):=by
 obtain⟨v,e,r,nd,f⟩:=S.ok j _ d;obtain⟨S1,g⟩:=(S.drop j).lay u.addrs (λa b=>⟨(f a b).1,(f a b).2.elim id (λz=>by cases z.1),r.there a b⟩) λa b n s c m=>by
  by_cases q:n=j
  .subst q;rw[DD (List.getElem?_eq_some_iff.mp d).1]at c;cases c;cases m
  .rw[Cb (Bk q)]at c;exact S.BD n j s _ a q c d m b
 have h:=S1.Ei (j:=j) (v:=v) (p:=u.pv) (r.rep g λa b o ho=>by unfold BU;rw[hZ b];exact ho);rw[LM e,Nc]at h;exact⟨h,g⟩
theorem uB{p:Slot}(d:ss[j]?=some (.ow false u))(c:p≠.AO)(a:Addr):Bo ss O a->Bo (ss.set j p) O a:=λn k b=>by
 by_cases q:k=j
 .subst q;rw[DD (List.getElem?_eq_some_iff.mp d).1]at b;cases b;exact absurd rfl c
 .rw[Cb (Bk q)]at b;exact n k b
theorem Sg.vA(S:Sg E ss O F H)(d:ss[j]?=some (.ow false u))(ff:AI (BU F H u.addrs) F')(fh:AI F' H'):(∀a∈u.addrs,F' a=H a/\H' a=H a/\H a≠none)/\∀a∈u.addrs,∀ws,F' a≠some (.tup ws):=by
 obtain⟨v,e,r,nd,f⟩:=S.ok j _ d;have at_:∀a∈u.addrs,F' a=H a/\H' a=H a/\H a≠none:=λa b=>by
  cases q:H a with
  |none=>exact absurd q (r.there a b)
  |some o=>
   have c:F' a=some o:=ff a o (by unfold BU;rw[hZ b];exact q);exact⟨c,fh a o c,by simp⟩
 exact⟨at_,λa b ws q=>by rw[(at_ a b).1]at q;exact r.cJ a b ws q⟩
theorem Sg.W3(S:Sg E ss O F H)(b:ss[j]?=some (.ow false u))(m:Mv E (ss.set j (.is u.pv)) O (BU F H u.addrs) H F' H'):Mv E ss O F H (Df F' u.addrs) H'/\∀a∈u.addrs,∀ws,F' a≠some (.tup ws):=by
 obtain⟨v,e,r,nd,d⟩:=S.ok j _ b;obtain⟨S2,g⟩:=S.Nt b;obtain⟨at_,f⟩:=S.vA b m.ff m.st.fh;refine⟨S.step (λa o ea=>?_) (λa o ea=>?_) (λa o n ea=>m.hh a o (uB b (λz=>by cases z) a n) ea) (λa o ea=>?_) (λk l c h=>?_),f⟩
 .unfold Df;rw[gp (λq=>by rw[(d a q).1]at ea;cases ea)];exact m.ff a o (g a o ea)
 .unfold Df at ea;split at ea
  .cases ea
  .exact m.st.fh a o ea
 .unfold Df at ea;split at ea
  .cases ea
  .rename_i q;rcases m.nn a o ea with z|z
   .unfold BU at z;rw[gp q]at z;exact .inl z
   .exact .inr z
 .refine m.st.FH (i:=k) ?_ h;rw[Cb (λq=>by subst q;rw[b]at c;cases c)];exact c
section
variable[Xw]
variable{lt:Bool}
theorem sA{k:PV->Prop}(j:Nat)(a:ss[j]?=some (.ow false u))(h:Wp (ss.set j (.is u.pv)) te λp=>De p=true/\k p):Wp ss te k:=⟨λE O F H Q S q=>by
 obtain⟨S2,e⟩:=S.Nt a;refine h.go E O _ H Q S2 λv p F' H' m b⟨d,kk⟩=>?_;obtain⟨M,c⟩:=S.W3 a m;exact q v p _ H' M (b.sub c d) kk⟩
theorem nI{k:Bool->Prop}(j:Nat)(a:ss[j]?=some (.ow false u))(h:Wt (ss.set j (.is u.pv)) c k):Wt ss c k:=⟨λE O F H Q S q=>by
 obtain⟨S2,d⟩:=S.Nt a;refine h.go E O _ H Q S2 λb F' H' m kk=>?_;exact q b _ H' (S.W3 a m).1 kk⟩
theorem Qv{k:List PV->Prop}(j:Nat)(a:ss[j]?=some (.ow false u))(h:Wn (ss.set j (.is u.pv)) te λys=>FR ys=true/\k ys):Wn ss te k:=⟨λE O F H Q S q=>by
 obtain⟨S2,f⟩:=S.Nt a;refine h.go E O _ H Q S2 λl2 GJ ys F' H' m e h2 Dh b⟨d,kk⟩=>?_;obtain⟨M,c⟩:=S.W3 a m;exact q l2 GJ ys _ H' M (by unfold Df;split <;> first|rfl|exact e) h2 Dh (b.sub c d) kk⟩
end
end Fz
namespace L2
section
variable{X:Cx}{o i value:Expr}{td ty tv:TE}{pos pos':Pos}
theorem RA(j:X.A.units+1<cLine)(ho:QE X o td)(hi:QE X i ty)(hs:UB i):QE X (.Subscript o i pos) (Pr td ty):=⟨by
 have ho:=ho.h;have hi:=hi.h;intro Zn s O H Q I h;refine gQ PySem.F.slot_dict_getitem.lookup hs (AJ (ho Zn s O H _ I h) λu b⟨x,H1,I1,d,f⟩=>AJ (hi Zn b O H1 _ I1 f) λm s2⟨y,H2,I2,c,a,v,ex,g,e⟩=>?_);subst ex;obtain rfl:u=Value.ref a:=d;exact⟨xX I2 g,nJ j I2 g c λk l I3 GO=>⟨v,H2,I3,GO,e⟩⟩⟩
theorem RN(m:X.A.units+1<cLine)(ho:QE X o td)(hi:QE X i ty)(b:QE X value tv)(hs:swapsWith value (some (.Subscript o i pos')) pos.line X.env=pure false:=by rfl):
  QS X (.Assign [.Subscript o i pos'] value pos) (VX td ty tv):=⟨by
 have ho:=ho.h;have hi:=hi.h;have b:=b.h;intro Zn s O H D I h;refine wpAny_Assign_Subscript (AJ (b Zn s O H _ I h) λr c⟨v,H1,I1,f,l⟩=>AJ (ho Zn c O H1 _ I1 l) λu s2⟨x,H2,I2,e,k⟩=>AJ (hi Zn s2 O H2 _ I2 k) λp n⟨y,H3,I3,d,a,H4,ex,g,j⟩=>?_) hs;subst ex;obtain rfl:u=Value.ref a:=e;exact jc m I3 g d f λs4 I4=>⟨O,H4,I4,j⟩⟩
theorem W6:QE X (.Dict [] [] pos) TZ:=⟨λZn s O H Q I h=>
 wpAny_Dict_empty ⟨.ref s.heap.objs.size,_,I.laid (a:=s.heap.objs.size) (o:=.dK []) (t':=s.toks) (λ_ _ q=>CU _ q) (Aj _) (lT s.heap I.big),rfl,h _ (I.AN.fresh (Aj _))⟩⟩
end
end L2
namespace Fz
open L2 Lw
variable{F F0 H H0:Hp}{ss:List Slot}{ta td tv ty:TE}{nx:List Slot->Prop}{R:AX}{i:Nat}{ks:List Key}{Bp vs:List V}{t u w:OV}{C a dx:Addr}{us us':List OV}{E:Ent0}{O:L2.St}{m p:List Nat}{f:Str}{ns:List Str}{pre:Pre}
noncomputable def JP:Key->PV
 | .inl i=>.int i
 | .inr x=>.str x
noncomputable def KW:List Key->List PV->Key->Option PV
 |k'::ks,x::xs,k=>if k'=k then some x else KW ks xs k
 |_,_,_=>none
def Gs(ks:List Key)(k:Key):Bool:=ks.any λa=>decide (a=k)
def Jd(ks:List Key)(k:Key):List Key:=if Gs ks k=true then ks else ks++[k]
theorem Qb{v:V}{k:Key}(r:Rep F v (JP k)):v=kV k:=by
 cases k with
 |inl i=>cases r.inv;rfl
 |inr x=>cases r.inv;rfl
theorem qU{k:Key}{y:PV}:∀{ks:List Key}{vs:List V}{xs:List PV},AG F vs xs->ks.length=vs.length->KW ks xs k=some y->∃v,EG (ks.zip vs) k=some v/\Rep F v y:=by
 intro ks
 induction ks with
 |nil=>intro vs xs _ _ h;cases h
 |cons d ks e=>
  intro vs xs r f h;cases xs with
  |nil=>cases h
  |cons x xs=>
   obtain⟨v,ws,rfl,a,b⟩:=r.inv;have h:(if d=k then some x else KW ks xs k)=some y:=h
   rw[JX]
   by_cases c:d=k
   .rw[hZ c]at h;cases h;exact⟨v,Me c,a⟩
   .rw[gp c]at h;obtain⟨w,h1,h2⟩:=e b (Lq f) h;exact⟨w,by rw[NT c];exact h1,h2⟩
section
variable[Xw]
variable{k:PV->Prop}{lt:Bool}
theorem ZN(h:Wp ss td λp=>∃ks xs,p=.B1 ks xs/\Wp ss ty λq=>∃a y,q=JP a/\KW ks xs a=some y/\k y):Wp ss (Pr td ty) k:=⟨λE O F H Q S q=>
 h.go E O F H _ S λv p F1 H1 d i⟨ks,xs,e,h2⟩=>h2.go E O F1 H1 _ d.st λr p2 F2 H2 c g⟨a,y,n,j,kk⟩=>by
  subst e;subst n;have o:=i.mono c.ff;cases o with
  |B1 m l f=>
   obtain⟨w,hw,b⟩:=qU f l j;refine⟨_,w,rfl,?_,q w y F2 H2 (d.trans c) b kk⟩;rw[<- hw,Qb g];exact HD.k (c.st.fh _ _ m)⟩
theorem Ta{k:List Nat->OV->Prop}(h:∀a,k [] (.nd (.B1 []) a (([]:List PV).map .fz))):Wx ss TZ k:=⟨λE O F H Q S q p b=>by
 have m:=S.make b (.dK []);refine q _ [] (.nd (.B1 []) p (([]:List PV).map .fz)) F _ m (.nd (k:=.B1 []) (vs:=[]) Ay trivial rfl .nil) (by rw[OV.CZ];simp[NK.more,OV.D8]) (λa c=>?_) (h p);rw[OV.CZ]at c;have e:a=p:=by simpa[NK.more,OV.D8]using c
 subst e;exact⟨S.Bq b,S.Cy b,.inr b⟩⟩
theorem SF:∀{ks:List Key}{vs:List V}{a:Key},ks.length=vs.length->(ks.zip vs).any (λb=>decide (b.1=a))=Gs ks a
 | [],vs,a,h=>rfl
 |k'::ks,w::vs,a,h=>by
  rw[JX,Ki,SF (by simpa using h)]
  rfl
 |_::_,[],_,h=>by simp at h
noncomputable def GS:List Key->List V->Key->V->List V
 |k'::ks,x::xs,k,p=>(if k'=k then p else x)::GS ks xs k p
 |_,xs,_,_=>xs
theorem c6:∀{ks:List Key}{vs:List V}{a:Key}{v:V},(ks.zip vs).map (λb=>if b.1=a then(b.1,v)else b)=ks.zip (GS ks vs a v)
 | [],vs,a,v=>by simp
 |k'::ks,w::vs,a,v=>by
  rw[JX,Ap,c6,GS,JX]
  by_cases c:k'=a
  .rw[hZ c,hZ c]
  .rw[gp c,gp c]
 |_::_,[],_,_=>by simp[GS]
end
noncomputable def D5:List Key->Key->Option Nat
 | [],_=>none
 |k'::ks,k=>if k'=k then some 0 else(D5 ks k).map (· + 1)
theorem ag:∀{ks:List Key}{a:Key}{n:Nat},D5 ks a=some n->ks[n]?=some a
 | [],_,_,h=>by cases h
 |k'::ks,a,n,h=>by
  rw[D5]at h
  by_cases c:k'=a
  .rw[hZ c]at h;cases h;subst c;rfl
  .rw[gp c]at h;cases e:D5 ks a with
   |none=>rw[e]at h;cases h
   |some m=>rw[e]at h;cases h;exact ag (ks:=ks) e
theorem Up:∀{ks:List Key}{a:Key},(D5 ks a).isSome=Gs ks a
 | [],_=>rfl
 |k'::ks,a=>by
  rw[D5];unfold Gs;rw[Ki]
  by_cases c:k'=a
  .rw[hZ c,iN c];rfl
  .rw[gp c,ij c,Bool.false_or,fe,Up];rfl
theorem aw:∀{ks:List Key}{vs:List V}{a:Key}{n:Nat}{v:V},D5 ks a=some n->vs[n]?=some v->EG (ks.zip vs) a=some v
 | [],_,_,_,_,h,_=>by cases h
 |k'::ks,[],a,n,v,h,hv=>by simp at hv
 |k'::ks,w::vs,a,n,v,h,hv=>by
  rw[D5]at h;rw[JX]
  by_cases c:k'=a
  .rw[hZ c]at h;cases h;simp at hv;rw[Me c,hv]
  .rw[gp c]at h;cases e:D5 ks a with
   |none=>rw[e]at h;cases h
   |some m=>
    rw[e]at h;cases h;rw[NT c];exact aw e (by simpa using hv)
theorem gZ{a:Key}(b:ks.length=vs.length):(EG (ks.zip vs) a).isSome=Gs ks a:=by
 rw[<- Po,SF b]
theorem Yi:∀{ks:List Key}{vs:List V}{a:Key}{n:Nat}{v:V},ks.Nodup->D5 ks a=some n->GS ks vs a v=vs.set n v
 | [],_,_,_,_,_,h=>by cases h
 |k'::ks,[],a,n,v,_,h=>by rw[GS];simp;simp
 |k'::ks,w::vs,a,n,v,nd,h=>by
  rw[D5]at h;obtain⟨g,f⟩:=List.nodup_cons.mp nd;rw[GS]
  by_cases c:k'=a
  .rw[hZ c]at h;cases h;rw[hZ c,fU]
   congr 1
   subst c;have b:∀{ks:List Key}{vs:List V},k'∉ks->GS ks vs k' v=vs:=by
    intro ks
    induction ks with
    |nil=>intro vs _;rw[GS];simp
    |cons j ks i=>
     intro vs d;cases vs with
     |nil=>rw[GS];simp
     |cons u vs=>
      rw[GS,gp (λz=>d (by rw[z];simp)),i (λz=>d (by simp[z]))]
   exact b g
  .rw[gp c]at h;cases e:D5 ks a with
   |none=>rw[e]at h;cases h
   |some m=>
    rw[e]at h;cases h;rw[gp c,Nb,Yi f e]
section
variable[Xw]
variable{k:PV->Prop}
theorem lN{k:List Nat->OV->Prop}(h:Wl ss i t td λp u=>∃ks a us,u=.nd (.B1 ks) a us/\Wp ss ty λq=>∃b n w,q=JP b/\D5 ks b=some n/\us[n]?=some w/\k (p++[n]) w):Wl ss i t (Pr td ty) k:=⟨h.hi,λE O F H Q S q=>
 h.go E O F H _ S λv p u F1 H1 c m h1⟨ks,a,us,s,h2⟩=>h2.go E O F1 H1 _ c.st λy p2 F2 H2 d l⟨b,n,w,e,o,hw,kk⟩=>by
  subst e;have j:=m.mv c.st h.hi h1 d;subst s;obtain⟨vs,rfl,r,z,A,g⟩:=j.inv;obtain⟨x,hx,f⟩:=g.get hw;refine⟨a,x,rfl,?_,q x (p++[n]) w F2 H2 (c.trans d) f (OV.L0 h1 (by rw[OV.Gy,hw];exact OV.Ej)) kk⟩;rw[<- aw o hx,Qb l];exact HD.k r⟩
theorem lU(h:Wp ss ty λq=>Wp ss td λu=>∃ks xs b,u=.B1 ks xs/\q=JP b/\k (.bl (!Gs ks b))):Wp ss (Us ty td) k:=⟨λE O F H Q S q=>
 h.go E O F H _ S λv p F1 H1 d f h2=>h2.go E O F1 H1 _ d.st λm u F2 H2 c e AE=>by
  obtain⟨ks,xs,b,i,j,kk⟩:=AE;subst i;subst j;cases e with
  |@B1 a _ vs _ l g n=>
   refine⟨a,EG (ks.zip vs) b,rfl,by rw[Qb f];exact HD.k (c.st.fh _ _ l),?_⟩;rw[gZ g];exact q _ _ F2 H2 (d.trans c) (.bl _) kk⟩
theorem LH:(OV.nd (.B1 ks) a us).addrs=a::OV.AL us:=by rw[OV.CZ];rfl
theorem Z5{lt:Bool}:∀(m:List Nat)(ss:List Slot),ss[i]?=some (.ow lt t)->i∉m->(Fz.Cg m ss)[i]?=some (.ow lt t):=by
 intro m
 induction m with
 |nil=>intro ss h _;exact h
 |cons j m a=>
  intro ss h hm;refine a _ ?_ λz=>hm (by simp[z]);rw[Cb (by rintro rfl;exact hm (by simp))];exact h
theorem Sg.wW{lt:Bool}{OS:List Key}(S0:Sg E ss O F0 H0)(S:Sg E ss O F H)(hi:ss[i]?=some (.ow lt t))(Ak:t.at p=some (.nd (.B1 ks) a us))
  (d:∀a∈u.addrs,F a=none/\E.H0 a=none/\((∃i∈m,∃s,s≠Slot.AO/\ss[i]?=some s/\B3 s O[i]? a)∨H0 a=none)) (Cr:i∉m)
  (hr:Ae F H Bp us') (x:OS.length=Bp.length) (N6:(OV.AL us').Nodup) (Hn:∀b∈OV.AL us',b∈OV.AL us∨b∈u.addrs):Sg E ((Fz.Cg m ss).set i (.ow lt (t.put p (.nd (.B1 OS) a us')))) O F (upd H a (.dK (OS.zip Bp))):=by
 have D:=Z5 m ss hi Cr;obtain⟨v,e,r,nd,q⟩:=S.ok i _ hi;have h:∀b,b∈a::OV.AL us->b∈t.addrs:=λb c=>OV.Ek Ak b (by rw[LH];exact c);have C:∀b∈u.addrs,b∉t.addrs:=λb c z=>by
  rcases(d b c).2.2 with⟨j,A,s,_,hs,o⟩|w
  .exact S.BD j i s _ b (by rintro rfl;exact Cr A) hs hi o z
  .exact S0.DU hi z w
 have g:(OV.nd (.B1 ks) a us).addrs.Nodup:=by
  obtain⟨l,G,B,_⟩:=OV.split Ak;rw[B,BZ,BZ]at nd;exact nd.1.2.1
 rw[LH]at g;have f:∀b∈OV.AL us',b≠a:=λb c z=>by
  subst z;rcases Hn b c with w|w
  .exact(List.nodup_cons.mp g).1 w
  .exact C b w (h b (by simp))
 refine(S.Cg m).UP D Ak (.nd (k:=.B1 OS) Ay trivial x (hr.mono (AI.refl _) λb c o ho=>by rw[Ab (f b c)];exact ho)) (by rw[LH];exact List.nodup_cons.mpr ⟨λz=>f a z rfl,N6⟩) λb c=>?_;rw[LH]at c ⊢;rcases List.mem_cons.mp c with w|w
 .exact .inl (by simp[w])
 .rcases Hn b w with z|z
  .exact .inl (by simp[z])
  .refine .inr ⟨(d b z).1,(d b z).2.1,λj s hs o=>?_⟩;rcases LS hs with y|⟨Em,hm⟩
   .subst y;cases o
   .rcases(d b z).2.2 with⟨i2,Fh,s2,_,BE,n⟩|y
    .exact S.BD j i2 s s2 b (by rintro rfl;exact hm Fh) Em BE o n
    .exact S0.DU Em o y
def JH(ks:List Key)(us:List OV)(a:Key)(w:OV):List OV:=match D5 ks a with
 |some n=>us.set n w
 |none=>us++[w]
theorem TM(h:Wx ss tv λm w=>Wl ss i t td λp u=>∃lt a ks us,ss[i]?=some (.ow lt t)/\u=.nd (.B1 ks) a us/\us.length<=99999/\ks.Nodup/\i∉m/\Wp ss ty λq=>∃d,q=JP d/\nx ((Fz.Cg m ss).set i (.ow lt (t.put p (.nd (.B1 (Jd ks d)) a (JH ks us d w)))))):Ws ss (VX td ty tv) nx R:=⟨λE D O F H S hn hr=>
 h.go E O F H _ S λv m w F1 H1 T P Ey J h2=>h2.go E O F1 H1 _ T.st λv2 p u F2 H2 M σ Ak⟨lt,a,ks,us,hi,eu,hz,A,Cr,h3⟩=>h3.go E O F2 H2 _ M.st λv3 q F3 H3 I r3⟨d,eq,kk⟩=>by
  subst eu;subst eq;have ev:v2=.ref a:=by cases σ;rfl
  subst ev;have K:=M.trans I;have np:∀b∈w.addrs,Bo ss O b:=λb f k A W=>by
   rcases(J b f).2.2 with⟨j,U,s,hs,Ml,o⟩|z
   .exact S.BD j k s _ b (λe=>by subst e;rw[Ml]at A;exact hs (B9 A)) Ml A o W
   .exact S.DU A W z
  have Z:AZ F3 H3 v w:=P.mono K.ff λb f o e=>K.hh b o (np b f) e;have Uy:∀b∈w.addrs,F3 b=none/\E.H0 b=none/\((∃i∈m,∃s,s≠Slot.AO/\ss[i]?=some s/\B3 s O[i]? b)∨H b=none):=λb f=>by
   refine⟨?_,(J b f).2⟩;cases e:F3 b with
   |none=>rfl
   |some o=>
    rcases K.nn b o e with z|z
    .rw[(J b f).1]at z;cases z
    .exact absurd z (P.there b f)
  have r4:=σ.mv M.st ⟨lt,hi⟩ Ak I;cases r4 with
  |@nd _ _ vs _ ha sd ft G=>
   have L:ks.length=vs.length:=ft;have vl:=G.length;have pJ:(ks.zip vs).length<=99999:=by rw[WZ];omega
   refine⟨a,_,rfl,by rw[Qb r3];exact Ly.k ha (Fp pJ),?_⟩;obtain⟨v0,e0,r0,Br,q0⟩:=I.st.ok i _ hi;have N:(OV.nd (.B1 ks) a us).addrs.Nodup:=by
    obtain⟨l,G,B,_⟩:=OV.split Ak;rw[B,BZ,BZ]at Br;exact Br.1.2.1
   rw[LH]at N;have g:∀b∈w.addrs,b∉OV.AL us:=λb f z=>by
    have Y:b∈t.addrs:=OV.Ek Ak b (by rw[LH];simp[z]);rcases(J b f).2.2 with⟨j,U,s,_,hs,o⟩|y
    .exact S.BD j i s _ b (by rintro rfl;exact Cr U) hs hi o Y
    .exact S.DU hi Y y
   obtain⟨Bp,ep,Lx,Ii,EH,sb⟩:∃Bp:List V,putK (ks.zip vs) d v=(Jd ks d).zip Bp/\(Jd ks d).length=Bp.length/\Ae F3 H3 Bp (JH ks us d w)/\(OV.AL (JH ks us d w)).Nodup/\∀b∈OV.AL (JH ks us d w),b∈OV.AL us∨b∈w.addrs:=by
    unfold putK Jd JH;rw[SF L];cases e:D5 ks d with
    |some n=>
     have c:Gs ks d=true:=by rw[<- Up,e];rfl
     have MG:n<us.length:=by
      have:=(List.getElem?_eq_some_iff.mp (ag e)).1;omega
     obtain⟨l,r,B,X⟩:=IQ (Am MG);rw[hZ c,hZ c,c6,Yi A e];refine⟨vs.set n v,rfl,by rw[JT];exact L,G.set n Z,?_,λb f=>?_⟩
     .show(OV.AL (us.set n w)).Nodup;rw[X];have Q:=(List.nodup_cons.mp N).2;rw[B]at Q;exact O5 Q Ey λb f=>.inr (by rw[<- B];exact g b f)
     .have C:b∈OV.AL (us.set n w):=f;rw[X]at C;rcases List.mem_append.mp C with z|z
      .rcases List.mem_append.mp z with z|z
       .exact .inl (by rw[B];simp[z])
       .exact .inr z
      .exact .inl (by rw[B];simp[z])
    |none=>
     have c:¬ Gs ks d=true:=by rw[<- Up,e];decide
     rw[gp c,gp c];refine⟨vs++[v],by rw[List.zip_append L];rfl,by rw[C5,C5,L];rfl,G.append (.one Z),?_,λb f=>?_⟩
     .show(OV.AL (us++[w])).Nodup;rw[Er,GV,BZ];exact⟨(List.nodup_cons.mp N).2,Ey,λx hx y hy e=>g y hy (e▸hx)⟩
     .have C:b∈OV.AL (us++[w]):=f;rw[Er,GV]at C;exact List.mem_append.mp C
   rw[ep];exact hn _ O F3 _ kk (Sg.wW (u:=w) S I.st hi Ak Uy Cr Ii Lx EH sb) (T.ff.trans K.ff)⟩
end
noncomputable def Ck:List Str->Str->Option Nat
 | [],_=>none
 |g::ns,f=>if g=f then some 0 else(Ck ns f).map (· + 1)
def Jr(ns:List Str)(f:Str):List Str:=match Ck ns f with
 |some _=>ns
 |none=>ns++[f]
def Mq(ns:List Str)(us:List OV)(f:Str)(w:OV):List OV:=match Ck ns f with
 |some n=>us.set n w
 |none=>us++[w]
def JJ(ns:List Str)(vs:List V)(f:Str)(w:V):List V:=match Ck ns f with
 |some n=>vs.set n w
 |none=>vs++[w]
theorem Rp:∀{ns:List Str}{f:Str}{n:Nat},Ck ns f=some n->n<ns.length
 | [],_,_,h=>by cases h
 |g::ns,f,n,h=>by
  rw[Ck]at h
  by_cases c:g=f
  .rw[hZ c]at h;cases h;exact Qk _
  .rw[gp c]at h;cases e:Ck ns f with
   |none=>rw[e]at h;cases h
   |some m=>rw[e]at h;cases h;exact Nat.succ_lt_succ (Rp e)
theorem Pq:∀{ns:List Str}{vs:List V}{f:Str}{n:Nat}{v:V},Ck ns f=some n->vs[n]?=some v->(ns.zip vs).lookup f=some v
 | [],_,_,_,_,h,_=>by cases h
 |g::ns,[],f,n,v,h,hv=>by simp at hv
 |g::ns,w::vs,f,n,v,h,hv=>by
  rw[Ck]at h;rw[JX]
  by_cases c:g=f
  .rw[hZ c]at h;cases h;simp at hv;subst c;rw[List.lookup_cons_self,hv]
  .rw[gp c]at h;cases e:Ck ns f with
   |none=>rw[e]at h;cases h
   |some m=>
    rw[e]at h;cases h;rw[Gn];have:(f == g)=false:=by simpa using λz=>c z.symm
    rw[this];exact Pq e (by simpa using hv)
theorem So:∀{ns:List Str}{vs:List V}{f:Str}{v:V},ns.length=vs.length->DI f v (ns.zip vs)=(Jr ns f).zip (JJ ns vs f v)/\(Jr ns f).length=(JJ ns vs f v).length
 | [],[],f,v,_=>by simp[DI,Jr,JJ,Ck]
 | [],_::_,_,_,h=>by simp at h
 |_::_,[],_,_,h=>by simp at h
 |g::ns,w::vs,f,v,h=>by
  obtain⟨i1,i2⟩:=So (ns:=ns) (vs:=vs) (f:=f) (v:=v) (by simpa using h)
  rw[JX];rw[show DI f v ((g,w)::ns.zip vs)=(if g=f then(g,v)::ns.zip vs else(g,w)::DI f v (ns.zip vs))from rfl]
  unfold Jr JJ at i1 i2 ⊢;rw[Ck]
  by_cases c:g=f
  .rw[hZ c,hZ c];exact⟨by simp,by simpa using h⟩
  .rw[gp c,gp c,i1];cases e:Ck ns f with
   |none=>rw[e]at i2;exact⟨by simp,by simpa using i2⟩
   |some m=>rw[e]at i2;exact⟨by simp,by simpa using i2⟩
section
variable[Xw]
variable{k:PV->Prop}{K:yo}
theorem Kb{k:List Nat->OV->Prop}(h:Wl ss i t ta λp u=>∃C dx ns a us n w,u=.nd (.obj C dx ns) a us/\BK K C/\B0 K C f/\Ck ns f=some n/\us[n]?=some w/\k (p++[n]) w):Wl ss i t (Ht K ta f) k:=⟨h.hi,λE O F H Q S q=>
 h.go E O F H _ S λv p u F1 H1 e d h1 AE=>by
  obtain⟨C,dx,ns,a,us,n,w,m,j,g,hx,hw,kk⟩:=AE;subst m;obtain⟨vs,rfl,l,o,r,c⟩:=d.inv;obtain⟨x,KQ,b⟩:=c.get hw;exact⟨a,C,dx,ns.zip vs,x,rfl,l,j,g,Pq hx KQ,q x (p++[n]) w F1 H1 e b (OV.L0 h1 (by rw[OV.Gy,hw];exact OV.Ej)) kk⟩⟩
theorem Iq:(OV.nd (.obj C dx ns) a us).addrs=a::dx::OV.AL us:=by rw[OV.CZ];rfl
theorem Sg.cb{lt:Bool}{Jg:List Str}(S0:Sg E ss O F0 H0)(S:Sg E ss O F H)(hi:ss[i]?=some (.ow lt t))(Ak:t.at p=some (.nd (.obj C dx ns) a us))(MK:H dx=some (.own a))
  (d:∀a∈u.addrs,F a=none/\E.H0 a=none/\((∃i∈m,∃s,s≠Slot.AO/\ss[i]?=some s/\B3 s O[i]? a)∨H0 a=none)) (Cr:i∉m)
  (hr:Ae F H Bp us') (I:Jg.length=Bp.length) (N6:(OV.AL us').Nodup) (Hn:∀b∈OV.AL us',b∈OV.AL us∨b∈u.addrs):Sg E ((Fz.Cg m ss).set i (.ow lt (t.put p (.nd (.obj C dx Jg) a us')))) O F (upd H a (.ins C dx (Jg.zip Bp))):=by
 have L:=Z5 m ss hi Cr;obtain⟨v,e,r,nd,q⟩:=S.ok i _ hi;have f:∀b,b∈a::dx::OV.AL us->b∈t.addrs:=λb c=>OV.Ek Ak b (by rw[Iq];exact c);have x:∀b∈u.addrs,b∉t.addrs:=λb c z=>by
  rcases(d b c).2.2 with⟨j,J,s,_,hs,o⟩|w
  .exact S.BD j i s _ b (by rintro rfl;exact Cr J) hs hi o z
  .exact S0.DU hi z w
 have A:(OV.nd (.obj C dx ns) a us).addrs.Nodup:=by
  obtain⟨l,M,K,_⟩:=OV.split Ak;rw[K,BZ,BZ]at nd;exact nd.1.2.1
 rw[Iq]at A;obtain⟨h,G⟩:=List.nodup_cons.mp A;obtain⟨D,N⟩:=List.nodup_cons.mp G;have g:∀b∈OV.AL us',b≠a:=λb c z=>by
  subst z;rcases Hn b c with w|w
  .exact h (by simp[w])
  .exact x b w (f b (by simp))
 have JG:∀b∈OV.AL us',b≠dx:=λb c z=>by
  subst z;rcases Hn b c with w|w
  .exact D w
  .exact x b w (f b (by simp))
 have n:dx≠a:=λz=>h (by simp[z]);refine(S.Cg m).UP L Ak (.nd (k:=.obj C dx Jg) Ay (show upd H a _ dx=some (.own a) by rw[Ab n];exact MK) I (hr.mono (AI.refl _) λb c o ho=>by rw[Ab (g b c)];exact ho)) (by
  rw[Iq];exact List.nodup_cons.mpr ⟨λz=>by
   rcases List.mem_cons.mp z with z|z
   .exact n z.symm
   .exact g a z rfl,List.nodup_cons.mpr ⟨λz=>JG dx z rfl,N6⟩⟩) λb c=>?_
 rw[Iq]at c ⊢;rcases List.mem_cons.mp c with w|w
 .exact .inl (by simp[w])
 .rcases List.mem_cons.mp w with w|w
  .exact .inl (by simp[w])
  .rcases Hn b w with z|z
   .exact .inl (by simp[z])
   .refine .inr ⟨(d b z).1,(d b z).2.1,λj s hs o=>?_⟩;rcases LS hs with y|⟨Em,hm⟩
    .subst y;cases o
    .rcases(d b z).2.2 with⟨i2,Fh,s2,_,BE,B⟩|y
     .exact S.BD j i2 s s2 b (by rintro rfl;exact hm Fh) Em BE o B
     .exact S0.DU Em o y
theorem oF{F1 H1 F3 H3:Hp}{v:V}(S:Sg E ss O F H)(J5:Mv E ss O F1 H1 F3 H3)(g:AZ F1 H1 v w)(f:∀a∈w.addrs,F1 a=none/\E.H0 a=none/\((∃i∈m,∃s,s≠Slot.AO/\ss[i]?=some s/\B3 s O[i]? a)∨H a=none)):
  AZ F3 H3 v w/\∀b∈w.addrs,F3 b=none/\E.H0 b=none/\((∃i∈m,∃s,s≠Slot.AO/\ss[i]?=some s/\B3 s O[i]? b)∨H b=none):=by
 have np:∀b∈w.addrs,Bo ss O b:=λb c k d h=>by
  rcases(f b c).2.2 with⟨j,l,s,hs,Ml,o⟩|z
  .exact S.BD j k s _ b (λe=>by subst e;rw[Ml]at d;exact hs (B9 d)) Ml d o h
  .exact S.DU d h z
 refine⟨g.mono J5.ff λb c o e=>J5.hh b o (np b c) e,λb c=>⟨?_,(f b c).2⟩⟩;cases e:F3 b with
 |none=>rfl
 |some o=>
  rcases J5.nn b o e with z|z
  .rw[(f b c).1]at z;cases z
  .exact absurd z (g.there b c)
theorem JE(h:Wx ss tv λm w=>Wl ss i t ta λp u=>∃lt C dx ns a us,ss[i]?=some (.ow lt t)/\u=.nd (.obj C dx ns) a us/\BK K C/\B0 K C f/\ns.length<1000/\i∉m/\nx ((Fz.Cg m ss).set i (.ow lt (t.put p (.nd (.obj C dx (Jr ns f)) a (Mq ns us f w)))))):Ws ss (Nl K ta tv f) nx R:=⟨λE D O F H S V hr=>
 h.go E O F H _ S λv m w F1 H1 I T Ey M h2=>h2.go E O F1 H1 _ I.st λσ p u F2 H2 A G Ak AE=>by
  obtain⟨lt,C,dx,ns,a,us,hi,eu,X,To,hz,Cr,kk⟩:=AE;subst eu;have ev:σ=.ref a:=by cases G;rfl
  subst ev;obtain⟨FF,Uy⟩:=oF S A T M;cases G with
  |@nd _ _ vs _ Y P Z q=>
   have Io:ns.length=vs.length:=Z;have vl:=q.length;obtain⟨ep,Lx⟩:=So (f:=f) (v:=v) Io;refine⟨a,C,dx,ns.zip vs,rfl,Y,X,To,by rw[WZ];omega,?_⟩;obtain⟨v0,e0,r0,Br,q0⟩:=A.st.ok i _ hi;have N:(OV.nd (.obj C dx ns) a us).addrs.Nodup:=by
    obtain⟨l,q,g,_⟩:=OV.split Ak;rw[g,BZ,BZ]at Br;exact Br.1.2.1
   rw[Iq]at N;have B:=(List.nodup_cons.mp (List.nodup_cons.mp N).2).2;have c:∀b∈w.addrs,b∉OV.AL us:=λb d z=>by
    have L:b∈t.addrs:=OV.Ek Ak b (by rw[Iq];simp[z]);rcases(M b d).2.2 with⟨j,W,s,_,hs,o⟩|y
    .exact S.BD j i s _ b (by rintro rfl;exact Cr W) hs hi o L
    .exact S.DU hi L y
   obtain⟨Ii,EH,Q⟩:Ae F2 H2 (JJ ns vs f v) (Mq ns us f w)/\(OV.AL (Mq ns us f w)).Nodup/\∀b∈OV.AL (Mq ns us f w),b∈OV.AL us∨b∈w.addrs:=by
    unfold JJ Mq;cases e:Ck ns f with
    |some n=>
     have MG:n<us.length:=by have:=Rp e;omega
     obtain⟨l,r,g,J⟩:=IQ (Am MG);refine⟨q.set n FF,?_,λb d=>?_⟩
     .show(OV.AL (us.set n w)).Nodup;rw[J];rw[g]at B;exact O5 B Ey λb d=>.inr (by rw[<- g];exact c b d)
     .have k:b∈OV.AL (us.set n w):=d;rw[J]at k;rcases List.mem_append.mp k with z|z
      .rcases List.mem_append.mp z with z|z
       .exact .inl (by rw[g];simp[z])
       .exact .inr z
      .exact .inl (by rw[g];simp[z])
    |none=>
     refine⟨q.append (.one FF),?_,λb d=>?_⟩
     .show(OV.AL (us++[w])).Nodup;rw[Er,GV,BZ];exact⟨B,Ey,λx hx y U e=>c y U (e▸hx)⟩
     .have k:b∈OV.AL (us++[w]):=d;rw[Er,GV]at k;exact List.mem_append.mp k
   rw[ep];exact V _ O F2 _ kk (Sg.cb (u:=w) S A.st hi Ak P Uy Cr Ii Lx EH Q) (I.ff.trans A.ff)⟩
end
theorem Mf:∀{ns:List Str}{vs:List V}{f:Str},Ck ns f=none->(ns.zip vs).lookup f=none
 | [],_,_,_=>by simp
 |g::ns,[],f,h=>by simp
 |g::ns,w::vs,f,h=>by
  rw[Ck]at h
  by_cases c:g=f
  .rw[hZ c]at h;cases h
  .rw[gp c]at h;rw[JX,Gn];have:(f == g)=false:=by simpa using λz=>c z.symm
   rw[this];refine Mf ?_;cases e:Ck ns f with
   |none=>rfl
   |some m=>rw[e]at h;cases h
section
variable[Xw]
variable{te:TE}{ta:TA}{lt:Bool}{K:yo}
theorem P9{a0:Addr}{m:Str}{k:PV->OV->Prop}(hi:ss[i]?=some (.ow lt (.nd (.obj C dx ns) a0 us)))(hm:Ck ns m=none)(h:Lh ss ta λl=>∃b,pre (.ow true (.nd (.obj C dx ns) a0 us)::l) (.mt b)/\∀p t',b p t'->∃FX us',t'=.nd FX a0 us'/\k p t'):
  Wm ss i lt (.nd (.obj C dx ns) a0 us) (J2 C m (Dc pre) [] E0 (BF i) ta) k:=⟨λE O F H Q S q=>by
 obtain⟨e,e0,d,_,_⟩:=S.ok i _ hi;have t:e=.ref a0:=by cases d;rfl
 subst t;cases d with
 |@nd _ _ GD _ s u x w=>
  refine⟨_,e0,a0,dx,ns.zip GD,rfl,s,Mf hm,h.go E O F H _ S λvs l F1 H1 c a⟨b,o,kk⟩=>?_⟩;rw[D0];refine⟨.ow true (.nd (.obj C dx ns) a0 us)::l,.mt b,F1,[],(OV.nd (.obj C dx ns) a0 us).addrs,o,c.st.Uk hi (.here e0 a),λv F' H' f⟨p,t',r,g,nd,j,kp⟩=>?_⟩;obtain⟨FX,us',rfl,n⟩:=kk p t' kp;exact q v p _ F' H' (c.YC hi (c.st.RV hi f g nd j)) r n⟩
theorem gH{m:Str}{k:PV->Prop}(h:Wp ss te λo=>∃ns xs,o=.obj C ns xs/\Ck ns m=none/\Wa ss ta λl=>∃c,pre (.is o::l) (.is c)/\∀p,c p->k p):Wp ss (J2 C m (Ai pre) [] E0 te ta) k:=⟨λE O F H Q S q=>
 h.go E O F H _ S λv o F1 H1 d i⟨ns,xs,t,hm,h2⟩=>by
  subst t;cases i with
  |@obj a _ dx _ GD _ e u n g=>
   refine⟨a,dx,ns.zip GD,rfl,d.st.fh _ _ e,Mf hm,h2.go E O F1 H1 _ d.st λvs l F2 H2 b w⟨c,j,kk⟩=>?_⟩;rw[D0];refine⟨.is (.obj C ns xs)::l,.is c,F2,[],j,b.st.PD (.cons (s:=.is _) (Rep.obj (b.ff _ _ e) (b.ff _ _ u) n (g.mono b.ff)) w),λv F' H' f⟨p,r,kp⟩=>?_⟩;exact q v p F' H' (d.trans (b.trans (b.st.back (λ_ h=>absurd h An) f))) r (kk p kp)⟩
theorem HV{k:PV->Prop}(h:Wp ss te λo=>∃C ns xs n y,o=.obj C ns xs/\BK K C/\B0 K C f/\Ck ns f=some n/\xs[n]?=some y/\k y):Wp ss (Ht K te f) k:=⟨λE O F H Q S q=>
 h.go E O F H _ S λv o F1 H1 b e AE=>by
  obtain⟨C,ns,xs,n,y,m,l,j,hx,g,kk⟩:=AE;subst m;cases e with
  |@obj a _ dx _ GD _ p s r d=>
   obtain⟨u,i,c⟩:=d.get g;exact⟨a,C,dx,ns.zip GD,u,rfl,b.st.fh _ _ p,l,j,Pq hx i,q u y F1 H1 b c kk⟩⟩
theorem ZM{k:List Nat->OV->Prop}(h:Lh ss ta λl=>∀x dx:Addr,∃t,pre (.ow true (.nd (.obj C dx []) x [])::l) (.mt t)/\∀p t',t p t'->p=.AA/\∃Jg us',t'=.nd (.obj C dx Jg) x us'/\k [] t'):Wx ss (Tx C (Dc pre) [] E0 ta) k:=⟨λE O F H Q S q=>
 h.go E O F H _ S λvs l F1 H1 d R Iy x dx hx MK B2=>by
  rw[D0];have I:=d.st.make MK (.own x);have W:upd H1 dx (.own x) x=none:=by rw[Ab (Bk B2)];exact hx
  have U:=I.st.make W (.ins C dx []);have L:=I.trans U;have y:∀a o,H1 a=some o->upd (upd H1 dx (.own x)) x (.ins C dx []) a=some o:=λa o e=>by
   rw[Ab (DS e hx),Ab (DS e MK)];exact e
  have D:∀a,upd (upd H1 dx (.own x)) x (.ins C dx []) a=none->H1 a=none:=λa e=>by
   cases z:H1 a with
   |none=>rfl
   |some o=>rw[y a o z]at e;cases e
  have a0:(OV.nd (.obj C dx []) x []).addrs=[x,dx]:=by rw[Iq,OV.D8]
  have K:AZ F1 (upd (upd H1 dx (.own x)) x (.ins C dx [])) (.ref x) (.nd (.obj C dx []) x []):=.nd (k:=.obj C dx []) (vs:=[]) Ay (show upd _ x _ dx=some (.own x) by rw[Ab B2];exact Ay) rfl .nil;have f0:∀a∈(OV.nd (.obj C dx []) x []).addrs,H1 a=none:=λa b=>by
   rw[a0]at b;simp only[IU,An,qM]at b;rcases b with rfl|rfl
   .exact hx
   .exact MK
  have X:(OV.nd (.obj C dx []) x []).addrs.Nodup:=by
   rw[a0];simp[Bk B2]
  have G:=Sg.T7 (j:=ss.length) (m:=[]) (v:=.ref x) (u:=.nd (.obj C dx []) x []) (d.st.grown 1) (L.st.grown 1) K X λa b=>⟨d.st.Bq (f0 a b),d.st.Cy (f0 a b),.inr (f0 a b)⟩;have Z:=d.st.len;have hi:((ss++List.replicate 1 Slot.any).set ss.length (.ow false (.nd (.obj C dx []) x [])))[ss.length]?=some (.ow false (.nd (.obj C dx []) x [])):=DD (by simp);have e0:((O++List.replicate 1 none).set ss.length (some (V.ref x)))[ss.length]?=some (some (.ref x)):=DD (by simp;omega);obtain⟨t,N,kk⟩:=Iy x dx;refine⟨.ow true (.nd (.obj C dx []) x [])::l,.mt t,F1,[],(OV.nd (.obj C dx []) x []).addrs,N,G.Uk hi (.here e0 R),λv F' H' f⟨p,t',r,A,nd,w,kp⟩=>?_⟩;obtain⟨rfl,Jg,us',rfl,M⟩:=kk p t' kp;have B:=G.RV hi f A nd w;have at':∀n,n<ss.length->((ss++List.replicate 1 Slot.any).set ss.length (.ow false (.nd (.obj C dx []) x [])))[n]?=ss[n]?:=λn g=>by rw[Cb (by omega),E2 g]
  have J:∀n,n<ss.length->((O++List.replicate 1 none).set ss.length (some (V.ref x)))[n]?=O[n]?:=λn g=>by rw[Cb (by omega),E2 (by omega)]
  have np:∀a,H1 a≠none->Bo ss O a->Bo ((ss++List.replicate 1 Slot.any).set ss.length (.ow false (.nd (.obj C dx []) x []))) ((O++List.replicate 1 none).set ss.length (some (V.ref x))) a:=λa _ g n s=>by
   by_cases c:n<ss.length
   .rw[at' n c]at s;rw[J n c];exact g n s
   .by_cases P:n=ss.length
    .subst P;rw[hi]at s;cases s
    .rw[List.getElem?_eq_none (by simp;omega)]at s;cases s
  have T:Mv E ss O F1 H1 F' H':=d.st.step B.ff B.st.fh (λa o g e=>B.hh a o (np a (by rw[e];simp) g) (λz=>by rw[f0 a z]at e;cases e) (y a o e)) (λa o e=>(B.nn a o e).imp id (D a)) λn Y g σ=>by
   have c:n<ss.length:=(List.getElem?_eq_some_iff.mp g).1;refine B.st.FH (i:=n) ?_ (by rw[J n c];exact σ);rw[Cb (by omega)];exact(at' n c).trans g
  cases r.inv;refine⟨rfl,q (.ref x) [] _ F' H' (d.trans T) A nd (λa b=>?_) M⟩;have h1:H1 a=none:=(w a b).2.elim (D a) (f0 a);exact⟨(w a b).1,d.st.Cy h1,.inr (d.none h1)⟩⟩
end
end Fz
namespace L2
section
variable{X:Cx}{o e value:Expr}{f:Str}{pos pos' NO:Pos}{ta tv:TE}
theorem C7(b:QE X e ta)(i:attributeBase e f X.env (eval e X.env)=eval e X.env:=by rfl):QE X (.Attribute e f pos) (Ht X.K ta f):=⟨by
 have b:=b.h;intro Zn s O H Q I h;refine il i (AJ (b Zn s O H _ I h) λu k DH=>?_);obtain⟨x,H1,I1,d,a,C,dx,fs,v,ex,ea,c,n,l,q⟩:=DH;subst ex;obtain rfl:u=Value.ref a:=d;exact af I1 ea c n l λj s2 I2 g=>⟨v,H1,I2,g,q⟩⟩
theorem HE(d:QE X o ta)(b:QE X value tv)(hs:swapsWith value (some (.Attribute o f pos')) pos.line X.env=pure false:=by rfl):QS X (.Assign [.Attribute o f pos'] value pos) (Nl X.K ta tv f):=⟨by
 have d:=d.h;have b:=b.h;intro Zn s O H D I h;refine plainObj_wpAny_Assign_Attribute (AJ (b Zn s O H _ I h) λu e⟨y,H1,I1,g,q⟩=>AJ (d Zn e O H1 _ I1 q) λk s2⟨x,H2,I2,i,a,C,dx,fs,ex,ea,c,n,l,j⟩=>?_) hs;subst ex;obtain rfl:k=Value.ref a:=i;exact Yp I2 ea c n l g λm I3=>⟨O,_,I3,j⟩⟩
theorem kI{op:Operator}{e:V->V->Hp->VK->Prop}(d:QE X o ta)(b:QE X value tv)(U9:Ye X op e):QS X (.AugAssign (.Attribute o f NO) op value pos) (Mp X.K ta tv e f):=⟨by
 have d:=d.h;have b:=b.h;intro Zn s O H D I h;refine wpAny_AugAssign_AttributeAny (AJ (d Zn s O H _ I h) λw G DH=>?_);obtain⟨x,H1,I1,m,a,C,dx,fs,v,ex,ea,c,n,l,q⟩:=DH;subst ex;obtain rfl:w=Value.ref a:=m;refine af I1 ea c n l λu s2 I2 p=>AJ (b Zn s2 O H1 _ I2 q) λg i⟨y,H2,I3,k,t⟩=>AJ (U9 Zn i O H2 v y u g _ I3 p k t) λE s4 Vq=>?_;obtain⟨z,H3,I4,j,Ir,Kt,B,A,r⟩:=Vq;exact Yp I4 B c n A j λF I5=>⟨O,_,I5,r⟩⟩
end
end L2
namespace Fz
open L2 Lw
section
variable[Xw]
variable{ss:List Slot}{ta tv:TE}{nx:List Slot->Prop}{R:AX}{i:Nat}{t:OV}{K:yo}{f:Str}
theorem ud{g:Int->Int->Int}(h:Wl ss i t ta λp u=>∃lt C dx ns a us n x,ss[i]?=some (.ow lt t)/\u=.nd (.obj C dx ns) a us/\BK K C/\B0 K C f/\ns.length<1000/\Ck ns f=some n/\us[n]?=some (.fz (.int x))/\Wp ss tv λq=>∃y,q=.int y/\nx (ss.set i (.ow lt (t.put p (.nd (.obj C dx ns) a (us.set n (.fz (.int (g x y))))))))):Ws ss (Mp K ta tv (NY g) f) nx R:=⟨λE D O F H S U hr=>
 h.go E O F H _ S λv p u F1 H1 j o Ak z=>by
  obtain⟨lt,C,dx,ns,a,us,n,x,hi,eu,V,To,hz,hx,T,h2⟩:=z;subst eu;have Z:v=.ref a:=o.inv.elim λ_ h=>h.1;subst Z;have FF:=o;obtain⟨vs,_,W,sd,ft,s⟩:=o.inv;obtain⟨w,hw,k⟩:=s.get T;have Y:w=.int x:=(k.inv:Rep _ _ _).inv;subst Y;refine⟨a,C,dx,ns.zip vs,.int x,rfl,W,V,To,Pq hx hw,h2.go E O F1 H1 _ j.st λv2 q F2 H2 e P N=>?_⟩;obtain⟨y,X,kk⟩:=N;subst X;cases P.inv;refine⟨x,y,rfl,rfl,?_⟩;have σ:=FF.mv j.st ⟨lt,hi⟩ Ak e;obtain⟨GJ,_,Dg,Q,Lx,Ii⟩:=σ.inv;have Io:ns.length=GJ.length:=Lx;have vl:=Ii.length;obtain⟨ep,A⟩:=So (f:=f) (v:=.int (g x y)) Io;refine⟨dx,ns.zip GJ,Dg,by rw[WZ];omega,?_⟩;have MG:n<us.length:=by have:=Rp hx;omega
  obtain⟨v0,e0,r0,Br,q0⟩:=e.st.ok i _ hi;have L:(OV.nd (.obj C dx ns) a us).addrs.Nodup:=by
   obtain⟨l,s,d,_⟩:=OV.split Ak;rw[d,BZ,BZ]at Br;exact Br.1.2.1
  rw[Iq]at L;have J:=(List.nodup_cons.mp (List.nodup_cons.mp L).2).2;have G:Jr ns f=ns:=by unfold Jr;rw[hx]
  have B:JJ ns GJ f (.int (g x y))=GJ.set n (.int (g x y)):=by unfold JJ;rw[hx]
  rw[ep,G,B];rw[G,B]at A;obtain⟨l,r,d,I⟩:=IQ (Am MG);have M:=Sg.cb (m:=[]) (u:=.fz (.int (g x y))) (us':=us.set n (.fz (.int (g x y)))) j.st e.st hi Ak Q (λb c=>by rw[OV.D3]at c;cases c) (by simp) (Ii.set n (.fz (.int _))) A (by
   rw[I];rw[d]at J;exact O5 J (by rw[OV.D3];exact JW) λb c=>by rw[OV.D3]at c;cases c) λb c=>by
    rw[I,OV.D3]at c;rcases List.mem_append.mp c with z|z
    .rcases List.mem_append.mp z with z|z
     .exact .inl (by rw[d];simp[z])
     .cases z
    .exact .inl (by rw[d];simp[z])
  exact U _ O F2 _ kk M (j.ff.trans e.ff)⟩
end
end Fz
namespace L2
variable{pl:Sem Bool}
def DV(P:Program)(w:World)(K:yo)(mg:yq)(ZB:Heap)(C:Addr)(m:Str)(k:Nat)(ps:List Str)(sp:Sp):Prop:=
 ∃f fd,DN P w K mg ZB FZ k f fd ps sp/\Binds K fd ps []/\Meth K C m f/\BK K C
def NU(P:Program)(w:World)(K:yo)(mg:yq)(ZB:Heap)(C:Addr)(k:Nat)(ps:List Str)(sp:Sp):Prop:=
 ∃f fd,DN P w K mg ZB FZ k f fd ps sp/\Binds K fd ps []/\Mk K C f
section
variable{X:Cx}{o e:Expr}{es:List Expr}{m x:Str}{C:Addr}{k j:Nat}{ps:List Str}{sp:Sp}{ta:TE}{t:TA}{apos pos p:Pos}
theorem Lc(h:DV X.prog X.w X.K X.mg X.base C m k ps sp)(hr:Ba j X.A)(a:k<=j)(d:QE X o ta)(g:QA X (e::es) t)
  (FJ:starEach (e::es) X.env=(false,eval e X.env)::starEach es X.env:=by rfl) (CB:(backTo pos (starEach es X.env)).any (·.1)=false:=by rfl)
  (ht:eval (.Call (.Attribute o m apos) (e::es) [] pos) X.env=(do
   let ov <- eval o X.env
   standAt apos.atName
   let (f,first) <- holding [ov] (getMethod ov m pl)
   callWith pos f first (backTo pos (starEach (e::es) X.env)) (backToKw pos (keywordEach [] X.env))):=by rfl) :
  QE X (.Call (.Attribute o m apos) (e::es) [] pos) (J2 C m sp [] E0 ta t):=by
 obtain⟨f,fd,F,b,hm,c⟩:=h;exact⟨wK d.h c hm (F.mono a) hr b .nil PM g.h FJ CB ht⟩
theorem Pc(h:DV X.prog X.w X.K X.mg X.base C m k ps sp)(hr:Ba j X.A)(d:k<=j)(e:QE X o ta)
  (a:eval (.Call (.Attribute o m apos) [] [] pos) X.env=(do
   let ov <- eval o X.env
   standAt apos.atName
   let (f,first) <- holding [ov] (getMethod ov m pl)
   callWith pos f first (backTo pos (starEach [] X.env)) (backToKw pos (keywordEach [] X.env))):=by rfl) :
  QE X (.Call (.Attribute o m apos) [] [] pos) (J2 C m sp [] E0 ta BW):=by
 obtain⟨f,fd,F,b,hm,c⟩:=h;exact⟨vD e.h c hm (F.mono d) hr b .nil PM a⟩
theorem YB(h:NU X.prog X.w X.K X.mg X.base C k ps sp)(hr:Ba (j+1) X.A)(a:k<=j)(hm:X.mg x=some (.ref C))(d:QA X (e::es) t)(c:Gl X x:=by rfl)(Cs:(x == ("__debug__":Str))=false:=by decide)
  (he:starEach (e::es) X.env=(false,eval e X.env)::starEach es X.env:=by rfl) (CB:(backTo pos (starEach es X.env)).any (·.1)=false:=by rfl):QE X (.Call (.Name x p) (e::es) [] pos) (Tx C sp [] E0 t):=by
 obtain⟨f,fd,F,b,M⟩:=h;exact⟨sf M (F.mono a) hr c hm b .nil PM d.h Cs he CB⟩
variable{prog:Program}{w:World}{A:Around}{E:Value->Shared->Prop}{s:Shared}
end
end L2
set_option maxHeartbeats 200000
set_option maxHeartbeats 4000000
namespace Fz
open L2 Lw
section
variable[Xw]
variable{ss:List Slot}{nx:List Slot->Prop}{R:AX}{K:yo}{S:Addr}{tb:(L2.St->XK)->TS}{th:TS}{ta te ti:TE}{xs:List PV}{F:Hp}
theorem AG.rep{vs:List V}(h:AG F vs xs):∀n:Nat,AG F (List.replicate n vs).flatten (List.replicate n xs).flatten
 | 0=>.nil
 |n+1=>by rw[Kk,Kk,Lm,Lm];exact h.append (AG.rep h n)
theorem kZ{k:List PV->Prop}(h:Wq ss ta λtp xs=>tp=false/\Wp ss te λp=>∃n:Int,p=.int n/\-1000<=n/\n<=1000/\xs.length<=10/\k (List.replicate n.toNat xs).flatten):Wn ss (BB Y4 ta te) k:=⟨λE O F H Q S q=>
 h.go E O F H _ S λv tp xs F1 H1 c sv⟨j,h2⟩=>h2.go E O F1 H1 _ c.st λo p F2 H2 b e⟨n,m,n0,s,g,kk⟩=>by
  subst j;subst m;cases e.inv;obtain⟨l,vs,rfl,i,r⟩:=(sv.mv b).seq b.st;have hm:vs.length * n.toNat<=10 * 1000:=Nat.mul_le_mul (by rw[r.length];exact g) (by omega);refine⟨l,n,vs,rfl,rfl,i,by omega,by omega,small (ES hm (by decide)),λa d=>?_⟩;have f:=b.st.make d (.lst (List.replicate n.toNat vs).flatten);exact q a _ _ F2 _ (c.trans (b.trans f)) (b.st.Bq d) ((c.trans b).none d) Ay (r.rep _) kk⟩
end
end Fz
namespace L2
open Lw
section
variable{X:Cx}
theorem gS{i:Nat}{x:Str}{e:Expr}{te:TE}{op:Operator}{ti:Ls}{pos pos':Pos}(F:X.N.Nodup)(hi:X.N[i]?=some x)(hx:Loc X.env.scope x)(b:QE X e te)(ho:R0 X op ti)(C:X.fn x=true∨X.env.scope.names.lookup x=some .local:=by first|exact .inl rfl|exact .inr rfl|assumption):
  QS X (.AugAssign (.Name x pos') op e pos) (RF i te ti):=⟨by
 have b:=b.h;intro Zn s O H D I h;obtain⟨v,G,h⟩:=h;obtain⟨m,t,B⟩:=I.loc;have d:Nj X.env.scope x:=by rcases hx with k|k;exact .inl k;exact .inr (.inl k)
 obtain⟨u,r,l⟩:=B i x v hi G d;refine wpAny_AugAssign_Name ?_;have go:wpAny (model X.prog X.w) X.A (eval e X.env) (λw g=>wpAny (model X.prog X.w) X.A (inplaceOp op u w) (λr f=>wpAny (model X.prog X.w) X.A (storeName X.env x r) (λ_=>SP X Zn D .next) X.xe f) X.xe g) X.xe s:=by
  refine AJ (b Zn s O H _ I h) λw j Td=>?_;obtain⟨y,H1,I1,o,q⟩:=Td;refine AJ (ho Zn j O H1 v y u w _ I1 r o q) λz s2 Mb=>?_;obtain⟨J,H2,I2,n,p⟩:=Mb;exact Uj I2 F hi hx n (λK I3=>⟨_,H2,I3,p⟩) C
 rcases l with⟨a,hm⟩|⟨a,c,E,P1⟩
 .exact wpAny_loadName_local I.ok.kind a t hm go
 .rcases a with a|a
  .exact wpAny_loadName_cell I.ok.kind a E P1 go
  .rcases hx with k|k
   .have:X.env.scope.names.lookup x=some .free:=a;rw[k]at this;cases this
   .have:X.env.scope.names.lookup x=some .free:=a;rw[k]at this;cases this⟩
end
end L2
namespace Fz
open L2 Lw
variable{F H:Hp}{te:TE}{neg tp:Bool}{ps xs:List PV}{i:Nat}{js:List Nat}{wi:TI}{tt:TT}
section
variable[Xw]
variable{E:Ent0}{ss:List Slot}{O:L2.St}{F' H':Hp}{K:yo}{ta tb tc:TE}{k:PV->Prop}{v:V}{nx:List Slot->Prop}{R:AX}
theorem gq{a:Int}{f:Int->Int->Int}(hi:ss[i]?=some (.is (.int a)))(h:Wp ss te λp=>∃b,p=.int b/\nx (ss.set i (.is (.int (f a b))))):Ws ss (RF i te (NY f)) nx R:=⟨λE D O F H S g hr=>by
 obtain⟨v,e,r⟩:=S.ok i _ hi;cases r.inv;refine⟨_,e,h.go E O F H _ S λk p F1 H1 c d⟨b,j,kk⟩=>?_⟩;subst j;cases d.inv;exact⟨a,b,rfl,rfl,g _ _ F1 H1 kk (c.st.Ei (.int _)) c.ff⟩⟩
theorem kG(xs ys:List Int):G9 (xs.map V.int) (ys.map V.int)=decide (xs=ys):=by
 by_cases a:xs.length=ys.length
 .rw[Jb (by simpa using a)]
  cases c:(List.range (xs.map V.int).length).all λj=>DR ((xs.map V.int).getD j .AA) ((ys.map V.int).getD j .AA)with
  |false=>
   symm;rw[decide_eq_false_iff_not];rintro rfl;rw[<- Bool.not_eq_true]at c;apply c;rw[Gm];intro j e;have g:j<xs.length:=by simpa using List.mem_range.mp e
   have b:(xs.map V.int)[j]?=some (.int xs[j]):=by rw[Aa,Am g];rfl
   rw[J8 b];show(xs[j] == xs[j])=true;simp
  |true=>
   symm;rw[kR];apply xi a;intro j h1 h2;have q:=List.all_eq_true.mp c j (List.mem_range.mpr (by simpa using h1))
   have b:(xs.map V.int)[j]?=some (.int xs[j]):=by rw[Aa,Am h1];rfl
   have f:(ys.map V.int)[j]?=some (.int ys[j]):=by rw[Aa,Am h2];rfl
   rw[J8 b,J8 f]at q;have d:(xs[j] == ys[j])=true:=q
   simpa using d
 .rw[KU (by simpa using a),ij]
  rintro rfl;exact a rfl
theorem Xo(ns:List Int):(ns.map V.int).all Dr=true:=by
 rw[Gm];intro x hx;obtain⟨y,_,rfl⟩:=List.mem_map.mp hx;rfl
theorem nM(h:Wq ss ta λtp xs=>∃ns:List Int,xs=ns.map PV.int/\Wq ss tb λBn ys=>Bn=tp/\∃a:List Int,ys=a.map PV.int/\k (.bl (if neg then !decide (ns=a)else decide (ns=a)))):Wp ss (BB (LI K neg) ta tb) k:=⟨λE O F H Q S q=>
 h.go E O F H _ S λv tp xs F1 H1 c sv⟨ns,i,h2⟩=>h2.go E O F1 H1 _ c.st λj Bn ys F2 H2 b MO⟨f,a,g,kk⟩=>by
  subst i;subst g;subst f;obtain⟨l,vs,rfl,d,r⟩:=(sv.mv b).seq b.st;obtain⟨l2,GJ,rfl,DY,e⟩:=MO.seq b.st;rw[r.ints]at d;rw[e.ints]at DY;refine⟨l,l2,ns.map V.int,a.map V.int,rfl,rfl,?_,Xo _,Xo _,?_⟩
  .cases Bn
   .exact .inl ⟨AS.of d,AS.of DY⟩
   .exact .inr ⟨Ao.of d,Ao.of DY⟩
  .rw[kG];cases neg
   .exact q _ _ F2 H2 (c.trans b) (.bl _) kk
   .exact q _ _ F2 H2 (c.trans b) (.bl _) kk⟩
theorem nB(h:Wq ss ta λtp xs=>∃ns:List Int,xs=ns.map PV.int/\Wq ss tb λBn ys=>Bn=tp/\∃a:List Int,ys=a.map PV.int/\k (.bl (decide (ns=a)))):Wp ss (BB (LI K false) ta tb) k:=nM h
theorem bV{j:Nat}(h:js[i]?=some j):(BC js O)[i]?=some ((O[j]?).join):=by
 unfold BC;rw[Aa,h];rfl
theorem join_some{o:Option (Option V)}{a:Addr}(h:some o.join=some (some (V.ref a))):o=some (some (.ref a)):=by
 cases o with
 |none=>cases h
 |some q=>cases q with
  |none=>cases h
  |some v=>simpa using h
theorem Mv.OO{vs:List V}(S:Sg E ss O F H)(m:Mv E (Bm js ss++ps.map .is) (BC js O++vs.map some) F H F' H'):Mv E ss O F H F' H':=by
 have g:(Bm js ss).length=js.length:=by simp[Bm]
 have r:(BC js O).length=js.length:=by simp[BC]
 have k:∀(i:Nat)(a:Addr),(Bm js ss++ps.map .is)[i]?=some .AO->(BC js O++vs.map some)[i]?=some (some (.ref a))->∃j,js[i]?=some j/\ss[j]?=some .AO/\O[j]?=some (some (.ref a)):=λi a hi f=>by
  by_cases h:i<js.length
  .rw[E2 (by rw[g];exact h)]at hi;rw[E2 (by rw[r];exact h)]at f;have d:=Am h;have q:=aB d hi;rw[bV d]at f;refine⟨js[i],d,?_,join_some f⟩;cases w:ss[js[i]]? with
   |none=>rw[w]at q;cases q
   |some u=>rw[w]at q;cases q;rfl
  .rw[ER (by omega),Aa]at hi;cases w:ps[i - (Bm js ss).length]? with
   |none=>rw[w]at hi;cases hi
   |some p=>rw[w]at hi;cases hi
 refine S.step m.ff m.st.fh (λa o n e=>m.hh a o (λi hi f=>?_) e) m.nn λi l hi e=>?_
 .obtain⟨j,_,h1,h2⟩:=k i a hi f;exact n j h1 h2
 .by_cases c:∃b:Nat,js[b]?=some i
  .obtain⟨b,c⟩:=c;have lt:b < js.length:=(List.getElem?_eq_some_iff.mp c).1;refine m.st.FH (i:=b) ?_ ?_
   .rw[E2 (by rw[g];exact lt)];unfold Bm;rw[Aa,c];show some ((ss[i]?).getD .any)=_;rw[hi];rfl
   .rw[E2 (by rw[r];exact lt),bV c,e];rfl
  .refine Bd.keep (S.FH hi e) λo v=>m.hh l o (λb CQ s=>?_) v;obtain⟨j,t,h1,h2⟩:=k b l CQ s;have d:j≠i:=by rintro rfl;exact c ⟨b,t⟩
   exact S.BD j i _ _ l d h1 hi h2 e
theorem wR{k:List PV->Prop}(P:PV->PV->Prop)
  (h:Wi ss wi λxs=>xs.length<=100000/\(∀x∈xs,Wt (Bm js ss++[.is x]) tt λb=>b=true)/\(∀x∈xs,Wp (Bm js ss++[.is x]) te (P x))/\∀ys:List PV,ys.length=xs.length->(∀(j:Nat)x y,xs[j]?=some x->ys[j]?=some y->P x y)->k ys)
  (nd:js.Nodup:=by decide):Wn ss (J1 wi js tt te) k:=⟨λE O F H Q S q=>
 h.go E O F H _ S λJ xs F1 H1 f u⟨hz,V,W,kk⟩acc Ax=>by
  have EO:Bo ss O acc:=f.st.GZ Ax;have GP:=f.st.Cy Ax;have IK:∀(i:Nat)s,ss[i]?=some s->¬ B3 s O[i]? acc:=λi s hi=>f.st.II hi Ax;refine⟨λi m H2=>m=xs.length - i/\i<=xs.length/\∃F2 vs ys,Mv E ss O F1 H1 F2 H2/\F2 acc=none/\H2 acc=some (.lst vs)/\AG F2 vs ys/\ys.length=i/\∀(j:Nat)x y,xs[j]?=some x->ys[j]?=some y->P x y,⟨_,rfl,CN _,F1,[],[],f.st.make Ax _,f.st.Bq Ax,Ay,.nil,rfl,λj x y _ e=>by simp at e⟩,?_⟩;rintro i m H2⟨rfl,hi,F2,vs,ys,d,L,B,v,Ji,K⟩
  by_cases D:i<xs.length
  .refine .inr ⟨u.go ss O F2 H2 i d.ff d.st D,λx H3 y=>?_⟩;obtain⟨p,F3,I,z,G⟩:=u.E7 ss O F2 H2 i x H3 d.ff d.st D y;have N:p∈xs:=Dn I;have Fx:∀{F4:Hp},(∀a o,F4 a=some o->F2 a=some o∨H2 a=none)->F4 acc=none:=λ{F4}n=>by
    cases e:F4 acc with
    |none=>rfl
    |some o=>
     rcases n acc o e with w|w
     .rw[L]at w;cases w
     .rw[B]at w;cases w
   have S3:=z.st.AH (js:=js) nd (.one G);refine(V p N).go E _ F3 H3 _ S3 λb F4 H4 U g=>?_;have M:=U.OO (ps:=[p]) (vs:=[x]) z.st;have C:=z.trans M;show if b=true then _ else _
   rw[g,hZ rfl];have Z:=C.st.AH (js:=js) nd (.one (G.mono M.ff));refine(W p N).go E _ F4 H4 _ Z λw R F5 H5 T IS X=>?_;have Hb:=T.OO (ps:=[p]) (vs:=[x]) C.st;have t:=C.trans Hb;have IA:=t.hh acc _ EO B;have σ:=Fx t.nn;have l:vs.length<=99999:=by
    rw[v.length,Ji];omega
   refine⟨vs,IA,Fp l,xs.length - (i+1),by omega,rfl,D,F5,vs++[w],ys++[R],?_,σ,Ay,(v.mono t.ff).append (.one IS),by simp[Ji],λj a b A g=>?_⟩
   .have r:=d.trans t;refine⟨r.st.K0 σ (.inl GP) IK,r.ff,λa o n e=>?_,r.nn⟩;rw[Ab (DS e Ax)];exact r.hh a o n e
   .by_cases c:j<ys.length
    .rw[E2 c]at g;exact K j a b A g
    .have Y:j=i:=by
      have:=(List.getElem?_eq_some_iff.mp g).1;rw[C5,WY]at this;omega
     subst Y;rw[ER (by omega),Ji,Nf]at g;rw[I]at A;cases A;cases g;exact X
  .have e:i=xs.length:=by omega
   subst e;exact .inl ⟨u.stop ss O F2 H2 d.ff d.st,q acc vs _ F2 H2 (f.trans d) L (f.none Ax) B v (kk ys Ji K)⟩⟩
variable{t:OV}
theorem Ae.snoc{u:OV}(r:AZ F H v u):∀{vs:List V}{us:List OV},Ae F H vs us->Ae F H (vs++[v]) (us++[u]):=by
 intro vs us q
 induction us generalizing vs with
 |nil=>cases q.Ca;exact .cons r .nil
 |cons p ps c=>obtain⟨w,ws,rfl,a,b⟩:=q.inv;exact .cons a (c b)
theorem rX{k:List Nat->OV->Prop}(P:PV->OV->Prop)
  (h:Wi ss wi λxs=>xs.length<=100000/\(∀x∈xs,Wt (Bm js ss++[.is x]) tt λb=>b=true)/\(∀x∈xs,Wx (Bm js ss++[.is x]) te λm u=>m=[]/\P x u)/\∀(l:Addr)(us:List OV),us.length=xs.length->(∀(j:Nat)x u,xs[j]?=some x->us[j]?=some u->P x u)->k [] (.nd .lst l us))
  (nd:js.Nodup:=by decide):Wx ss (J1 wi js tt te) k:=⟨λE O F H Q S q=>
 h.go E O F H _ S λJ xs F1 H1 d G⟨hz,ht,he,kk⟩acc Ax=>by
  have EO:Bo ss O acc:=d.st.GZ Ax;have GP:=d.st.Cy Ax;have IK:∀(i:Nat)s,ss[i]?=some s->¬ B3 s O[i]? acc:=λi s hi=>d.st.II hi Ax;refine⟨λi m H2=>m=xs.length - i/\i<=xs.length/\∃F2 vs us,Mv E ss O F1 H1 F2 H2/\F2 acc=none/\H2 acc=some (.lst vs)/\Ae F2 H2 vs us/\(OV.AL us).Nodup/\acc∉OV.AL us/\(∀a∈OV.AL us,F2 a=none/\H1 a=none)/\us.length=i/\∀(j:Nat)x u,xs[j]?=some x->us[j]?=some u->P x u,⟨_,rfl,CN _,F1,[],[],d.st.make Ax _,d.st.Bq Ax,Ay,.nil,by rw[OV.D8];exact JW,by rw[OV.D8];exact An,λa r=>(by rw[OV.D8]at r;cases r),rfl,λj x y _ e=>(by simp at e)⟩,?_⟩;rintro i m H2⟨rfl,hi,F2,vs,us,f,X,r,B,Fd,VP,K4,HC,V⟩
  by_cases N:i<xs.length
  .refine .inr ⟨G.go ss O F2 H2 i f.ff f.st N,λx H3 y=>?_⟩;obtain⟨p,F3,U,I,R⟩:=G.E7 ss O F2 H2 i x H3 f.ff f.st N y;have G2:p∈xs:=Dn U;have S3:=I.st.AH (js:=js) nd (.one R);refine(ht p G2).go E _ F3 H3 _ S3 λb F4 H4 m4 g=>?_;have GY:=m4.OO (ps:=[p]) (vs:=[x]) I.st;have t:=I.trans GY;show if b=true then _ else _
   rw[g,hZ rfl];have S4:=t.st.AH (js:=js) nd (.one (R.mono GY.ff));refine(he p G2).go E _ F4 H4 _ S4 λw mm u F5 H5 m5 ru nu W⟨em,ew⟩=>?_;subst em;have Hb:=m5.OO (ps:=[p]) (vs:=[x]) t.st;have A:=t.trans Hb;have IA:=A.hh acc _ EO r;have there:∀a∈OV.AL us,H2 a≠none:=λa Dg=>B.there a Dg;have Fx:∀a,H2 a≠none->F2 a=none->F5 a=none:=λa h1 h2=>by
    cases e:F5 a with
    |none=>rfl
    |some o=>
     rcases A.nn a o e with w|w
     .rw[h2]at w;cases w
     .exact absurd w h1
   have FI:F5 acc=none:=Fx acc (by rw[r];simp) X;have M:∀a∈u.addrs,H4 a=none:=λa oJ=>by
    rcases(W a oJ).2.2 with⟨i,hi,_⟩|z
    .cases hi
    .exact z
   have Z:acc∉u.addrs:=λz=>by
    have:=M acc z;rw[t.hh acc _ EO r]at this;cases this
   have BD:∀a∈OV.AL us,a∉u.addrs:=λa Dg z=>by
    have T:=M a z;cases Y:H2 a with
    |none=>exact there a Dg Y
    |some o=>rw[t.hh a o (d.st.GZ (K4 a Dg).2) Y]at T;cases T
   have v:vs.length<=99999:=by
    rw[B.length,HC];omega
   have L:OV.AL (us++[u])=OV.AL us++u.addrs:=by rw[Er,GV]
   have σ:∀a,a≠acc->∀o,H5 a=some o->upd H5 acc (.lst (vs++[w])) a=some o:=λa B2 o e=>by rw[Ab B2];exact e
   refine⟨vs,IA,Fp v,xs.length - (i+1),by omega,rfl,N,F5,vs++[w],us++[u],?_,FI,Ay,?_,?_,?_,?_,by simp[HC],λj a b K g=>?_⟩
   .have C:=f.trans A;refine⟨C.st.K0 FI (.inl GP) IK,C.ff,λa o n e=>?_,C.nn⟩;rw[Ab (DS e Ax)];exact C.hh a o n e
   .refine Ae.snoc (ru.mono (AI.refl _) λa Dg o e=>σ a (λz=>Z (z▸Dg)) o e) (B.mono A.ff λa Dg o e=>σ a (λz=>VP (z▸Dg)) o (A.hh a o (d.st.GZ (K4 a Dg).2) e))
   .rw[L,BZ];exact⟨Fd,nu,λa Dg b L4 e=>BD a Dg (e▸L4)⟩
   .rw[L,HP];exact λz=>z.elim VP Z
   .intro a Dg;rw[L,HP]at Dg;rcases Dg with z|z
    .exact⟨Fx a (there a z) (K4 a z).1,(K4 a z).2⟩
    .exact⟨(W a z).1,f.none (t.none (M a z))⟩
   .by_cases c:j<us.length
    .rw[E2 c]at g;exact V j a b K g
    .have ej:j=i:=by
      have:=(List.getElem?_eq_some_iff.mp g).1;rw[C5,WY]at this;omega
     subst ej;rw[ER (by omega),HC,Nf]at g;rw[U]at K;cases K;cases g;exact ew
  .have e:i=xs.length:=by omega
   subst e;refine .inl ⟨G.stop ss O F2 H2 f.ff f.st,q (.ref acc) [] _ F2 H2 (d.trans f) (.nd (k:=.lst) r trivial trivial B) ?_ (λa Dg=>?_) (kk acc us HC V)⟩
   .rw[OV.CZ];exact List.nodup_cons.mpr ⟨VP,Fd⟩
   .rw[OV.CZ]at Dg;rcases List.mem_cons.mp Dg with z|z
    .subst z;exact⟨X,GP,.inr (d.none Ax)⟩
    .have D:a∈OV.AL us:=z;exact⟨(K4 a D).1,d.st.Cy (K4 a D).2,.inr (d.none (K4 a D).2)⟩⟩
end
end Fz
namespace L2
noncomputable def Gb(s:Stmt)(n:Nat):Stmt:=match s with
 | .ClassDef _ _ _ b ..=>b.getD n (.Pass ⟨0,0,0,0⟩)
 |s=>s
end L2
namespace Fz
open L2 Lw
@[reducible] noncomputable def ya (X:XK) (t:OV) (D:Ex->Prop):Xw:=⟨λ_=>X,λss=>ss[0]?=some (.ow true t),D⟩
variable{R:AX}{A7 ss:List Slot}
section
variable{pre:Pl}{H:Hp}
def TV(R:AX)(A7:List Slot):Prop:=∃(k:PV->OV->Prop)(nk:NK)(a:Addr)(us:List OV),R=.mt k/\A7[0]?=some (.ow true (.nd nk a us))/\k .AA (.nd nk a us)
theorem TV.ok{E:Ent0}{O:L2.St}{F:Hp}(h:TV R A7)(S:Sg E A7 O F H):R.ok E F H .AA:=by
 obtain⟨k,nk,a,us,rfl,i,g⟩:=h;obtain⟨f,e0,c,Br,d⟩:=S.ok 0 _ i;have j:f=.ref a:=by cases c;rfl
 subst j;exact⟨.AA,.nd nk a us,.AA,c,Br,λb e=>⟨(d b e).1,(d b e).2.imp id λz=>z.2⟩,g⟩
end
section
variable[Xw]
variable{te tv:TE}{ta:TA}{i:Nat}{lt:Bool}{t:OV}{nx:List Slot->Prop}{K:yo}{f:Str}
theorem dF{pre:Pre}{C:Addr}{m:Str}{k:List PV->Prop}(h:Wp ss te λo=>∃ns xs,o=.obj C ns xs/\Ck ns m=none/\Wa ss ta λl=>∃d,pre (.is o::l) (.new d)/\∀p,d p->k p):Wn ss (J2 C m (Ai pre) [] E0 te ta) k:=⟨λE O F H Q S q=>
 h.go E O F H _ S λv o F1 H1 c j⟨ns,xs,y,hm,h2⟩=>by
  subst y;cases j with
  |@obj a _ dx _ GD _ e z u i=>
   refine⟨a,dx,ns.zip GD,rfl,c.st.fh _ _ e,Mf hm,h2.go E O F1 H1 _ c.st λvs l F2 H2 b A⟨d,t,kk⟩=>?_⟩;rw[D0];refine⟨.is (.obj C ns xs)::l,.new d,F2,[],t,b.st.PD (.cons (s:=.is _) (Rep.obj (b.ff _ _ e) (b.ff _ _ z) u (i.mono b.ff)) A),λv F' H' f⟨a,n,g,x,w,h1,Dh,r,kp⟩=>?_⟩;subst x;exact q a n g F' H' (c.trans (b.trans (b.st.back (λ_ h=>absurd h An) f))) w (c.none (b.none h1)) Dh r (kk g kp)⟩
end
end Fz
namespace L2
section
variable{prog:Program}{w:World}{A:Around}{E:Value->Shared->Prop}{s:Shared}
theorem oU:typeLookup (.type "dict") "__len__"=pure (some (.builtin "dict.__len__")):=by rw[typeLookup_type,builtinLookup_eq_fast];kernel_rfl
variable{X:Cx}
end
end L2
namespace Fz
open L2 Lw
theorem bC:∀{ks:List Key}{vs:List V},ks.length=vs.length->(ks.zip vs).map (·.1)=ks
 | [],[],_=>rfl
 | [],_::_,h=>by simp at h
 |_::_,[],h=>by simp at h
 |k::ks,v::vs,h=>by
  rw[JX,Ap,bC (by simpa using h)]
end Fz
namespace L2
section
variable{prog:Program}{w:World}{A:Around}{s:Shared}{R:Result->Shared->Prop}
theorem gx{L S:Addr}{P:Nat}{res:Value}{A6:List (Key×Value)}{n:Nat}(hh:A.handled=none)(Kx:(S == sysModules)=false)(l:s.heap.get? L=some { cls:=.type "list", data:=.seq #[] P })(t7:s.heap.DictOf (Dk prog w) S A6)(en:A6.length=n)(hn:n<=sizeLine)
  (h:∀(s':Shared)(vs:List Value)(c:Nat),(∀b o,b≠L->s.heap.get? b=some o->s'.heap.get? b=some o)->L<s'.heap.objs.size->s'.gens=s.gens->s'.os=s.os->s'.heap.get? L=some { cls:=.type "list", data:=.seq vs.toArray c }->vs.length=n->(∀(i:Nat)v,vs[i]?=some v->∃k x,A6[i]?=some (k,x)/\(Dk prog w).is k v=true)->R (.ok (.ret res)) s') :
  wpAny (model prog w) A.in1 (Builtin.List.listExtendWith (.ref L) (.ref S) res)
   (λfin s'=>match fin with | .done f=>R (.ok f) s' | .again c=>c.quiet=true/\codeAny (model prog w) A c R s') (λe s'=>R (.error e) s') s:=by
 obtain⟨g,d⟩:=t7.dictAt;have U:S<s.heap.objs.size:=d.lt_size;have H:L≠S:=λz=>by
  subst z;obtain⟨o,ho,j⟩:=d.dictOf.typeIs;rw[l]at ho;cases ho;exact absurd j (by show ¬ Value.type "list"=Value.type "dict"; decide)
 have B:Shared.TypeIs s (.ref S) "dict" := d.dictOf.typeIs;have h1:Builtin.List.listSameRef (.ref L) (.ref S)=false:=by simp[Builtin.List.listSameRef,H]
 unfold Builtin.List.listExtendWith;refine gG (oS B ?_);rw[gp (by rw[h1];decide)];refine gG (wpAny_pyIter_dict (s:=s) Kx d ?_);dsimp only;generalize m:({ cls:=.type "dict_keyiterator", data:=.fields #[.ref S,.int 0 0,.int A6.length 0,.int g 0] }:Obj)=io;have kp:∀b o,s.heap.get? b=some o->(s.heap.push io).get? b=some o:=λb o e=>CU _ e;have T:S≠s.heap.objs.size:=Cp U;have W:∀A2:Around,A2.handled=none->Walks prog w A2 s.heap.objs.size [s.heap.objs.size,S] [s.heap.objs.size] A6.length _ _:=λA2 h2=>Walks.dictKeys (knd:=Dk prog w) h2 s.heap.objs.size S T A6 g;have D:(s.heap.push io).IsKeyIter s.heap.objs.size S 0 A6.length g/\(s.heap.push io).DictAt (Dk prog w) S A6 g:=⟨⟨io,DC _ (by rw[<- m];rfl),by rw[<- m],by rw[<- m];rfl⟩,d.push _⟩;have G:L∉[s.heap.objs.size,S]:=λhm=>by
  simp only[IU,An,qM]at hm;rcases hm with z|z
  .have q:L<s.heap.objs.size:=B8 l;rw[z]at q;exact Lo _ q
  .exact H z
 generalize V:s.heap.push io=h2 at kp D ⊢;have p:Shared.TypeIs { s with heap:=h2 } (.ref S) "dict" := by obtain⟨o,ho,j⟩:=B;exact⟨o,kp _ _ ho,j⟩
 refine gG (mC ?_);unfold Builtin.List.listLengthHint;refine gG (wpAny_specialOf p oU ?_);generalize C:("dict.__len__":String)=jS
 wp_delta
 rw[show splitId jS=some ("dict","__len__")from by subst C;decide +kernel];subst C;refine gG (wpAny_isInstance (b:=true) p (by rw[isSubtype_type];kernel_rfl) ?_);rw[gp (by decide)];refine wpAny_ite_split (λ_=>?_) (λHw=>absurd (by decide +kernel) Hw);refine gG (oS p ?_);refine iG ?_;refine wpAny_ite_split (λ_=>?_) (λHw=>absurd (by decide +kernel) Hw);refine gG (wpAny_rule ?_);refine gG ?_;show wpAny _ _ (updateSeq L (·.push .none) >>= λ_=>updateSeq L (·.pop)) _ _ _
 have K:(#[]:Array Value).size<=sizeLine:=CN _;have r:((#[]:Array Value).push Value.none).size<=sizeLine:=by show 1<=sizeLine;decide
 have J:((#[]:Array Value).push Value.none).size<=sizeLine+1:=Nat.le_succ_of_le r;have I:(((#[]:Array Value).push Value.none).pop).size<=sizeLine+1:=CN _;have E:=kp _ _ l;refine gG (pf (s:={ s with heap:=h2 }) E rfl ?_ K J)
 have t:=Qe (Obj.mapSeq (·.push Value.none)) E rfl
 refine pf t rfl ?_ r I;have M:=Qe (Obj.mapSeq (·.pop)) t rfl
 have y:∀b o,b≠L->h2.get? b=some o->((h2.update L (Obj.mapSeq (·.push Value.none))).update L (Obj.mapSeq (·.pop))).get? b=some o:=
  λb o a e=>(Qd _ _ (Bk a)).trans ((Qd _ _ (Bk a)).trans e)
 refine iG ⟨plainId_quiet PySem.F.plain_extend_loop _,codeAny_extend_loopS (W A.in1 hh).toS (en▸hn) _ G _ A6.length 0 _ #[] _ rfl (CN _) ?_ M (ItemsOf.nil _) λs' σ c hm u Ax=>?_⟩
 .exact(W A.in1 hh).frame 0 h2 _ D λb a o e=>y b o (λz=>G (z▸a)) e
 .have hsz:L<s'.heap.objs.size:=B8 u;refine h s' σ.toList c (λb o a e=>?_) hsz hm.gens hm.os u (by rw[Qc,Ax.1];exact en) λi v N=>Ax.2 i v (by rw[<- eh];exact N);have Q:b<s.heap.objs.size:=B8 e;refine hm.heap b o ?_ (y b o a (kp b o e));simp only[IU,An,qM,not_or];exact⟨a,Cp Q⟩
end
theorem Yx{prog:Program}{w:World}:∀{ks:List Key}{A6:List (Key×Value)}{vs:List Value},A6.map (·.1)=ks->vs.length=A6.length->(∀(i:Nat)v,vs[i]?=some v->∃k x,A6[i]?=some (k,x)/\(Dk prog w).is k v=true)->Vals (ks.map kV) vs
 | [],[],[],_,_,_=>.nil
 | [],[],_::_,_,h,_=>by simp at h
 | [],_::_,_,h,_,_=>by simp at h
 |_::_,[],_,h,_,_=>by simp at h
 |_::_,_::_,[],_,h,_=>by simp at h
 |n::ns,kv::A6,v::vs,e,hl,h=>by
  rw[Ap]at e;injection e with e1 e2
  obtain⟨k,x,d,c⟩:=h 0 v rfl;have a:kv=(k,x):=by simpa using d
  subst a;have f:k=n:=e1;subst f;refine .cons ?_ (Yx e2 (by simpa using hl) λi v b=>h (i+1) v b)
  rcases HL (show K8 k v=true from c)with⟨i,t,rfl,rfl⟩|⟨y,t,rfl,rfl⟩
  .exact⟨t,rfl⟩
  .exact⟨t,rfl⟩
section
variable{X:Cx}
def d7:List V->Hp->VK->Prop:=λxs H Q=>∃(p:Addr)(A6:List (Key×V)),xs=[.ref p]/\Rd H p (.dK A6)/\A6.length<=1000/\∀l:Addr,H l=none->Q (.ref l) (upd H l (.lst ((A6.map (·.1)).map kV)))
theorem uk(z:X.calm=true):DF X (.type "list") d7:=by
 intro Zn s O H xs us Q I r h;obtain⟨p,A6,rfl,B,XM,q⟩:=h;obtain⟨u,rfl,v⟩:=vals1 r;cases v;obtain⟨f,Kx,GD,rel,g⟩:=N1 I.AN B;have hh:X.A.handled=none:=I.ok.hd z;have K:p<s.heap.objs.size:=by obtain⟨i,h2⟩:=g.dictAt;exact h2.lt_size
 have N:p≠s.heap.objs.size:=Cp K;refine callType_codes (Q₁:=λobj d=>obj=.ref s.heap.objs.size/\d={ s with heap:=s.heap.push { cls:=.type "list", data:=.seq #[] } }) F.called_list (F.typeCall_list_1 _) F.entry_list_init
  (code_list_new _ ⟨rfl,rfl⟩) λobj d y=>?_
 obtain⟨rfl,rfl⟩:=y;have c:(s.heap.push { cls:=.type "list", data:=.seq #[] }).get? s.heap.objs.size=some { cls:=.type "list", data:=.seq #[] }:=DC _ rfl;refine⟨⟨_,c,rfl⟩,F.args_list_init_2 _ _,?_⟩;show wpAny _ X.A.in1.in1 (do let old <- Builtin.List.listItems (.ref s.heap.objs.size);Builtin.List.listUpdate (.ref s.heap.objs.size) (λ_=>#[]);letGo old.toList.reverse;Builtin.List.listExtendWith (.ref s.heap.objs.size) (.ref p) .none) _ _ _
 refine gG ?_;unfold Builtin.List.listItems;refine gG (qw c rfl (iG ?_));show wpAny _ X.A.in1.in1 (updateSeq s.heap.objs.size (λ_=>#[]) >>= λ_=>letGo (#[]:Array Value).toList.reverse >>= λ_=>Builtin.List.listExtendWith (.ref s.heap.objs.size) (.ref p) .none) _ _ _;refine gG (pf c rfl ?_);have x:=Qe (Obj.mapSeq (λ_=>(#[]:Array Value))) c rfl;have old:∀b o,s.heap.get? b=some o->((s.heap.push { cls:=.type "list", data:=.seq #[] }).update s.heap.objs.size (Obj.mapSeq (λ_=>(#[]:Array Value)))).get? b=some o:=λb o e=>
  (Qd _ _ (Nd (B8 e))).trans (CU _ e)
 have t:((s.heap.push { cls:=.type "list", data:=.seq #[] }).update s.heap.objs.size (Obj.mapSeq (λ_=>(#[]:Array Value)))).DictOf (Dk X.prog X.w) p GD:=by
  obtain⟨o,es,i,ho,rest⟩:=g;exact⟨o,es,i,old _ _ ho,rest⟩
 refine gG (wpAny_letGo ?_);refine gx (A:=X.A.in1) hh Kx x t rfl (by rw[<- rel.length];exact f) λs' vs D m J l k j G E=>?_;have n:Vals ((A6.map (·.1)).map kV) vs:=by
  rw[rel.keys];exact Yx rfl G E
 refine⟨rfl,?_⟩;obtain⟨h1,M,C,t1,L⟩:=s';simp only at m J l k j;subst l;subst k;refine⟨.ref _,_,(I.drew C).laid (a:=s.heap.objs.size) (h':=h1) (t':=t1) (o:=.lst ((A6.map (·.1)).map kV)) (λb o e=>m b o (Cp (B8 e)) (old b o e)) (Aj _) ?_,rfl,q _ (I.AN.fresh (Aj _))⟩
 exact⟨by rw[AF,AF];exact f,vs,D,n,j⟩
variable{i o:Expr}{ty td:TE}{pos:Pos}
theorem xG(a:X.A.units+1<cLine)(hi:QE X i ty)(ho:QE X o td)(hm:behindInMarks .NotIn o=false:=by with_unfolding_all rfl):QT X (.Compare i [.NotIn] [o] pos) (tB (Us ty td)):=⟨wB (mG a hi.h ho.h) hm⟩
end
end L2
namespace Fz
open L2 Lw
theorem WD{F:Hp}:∀ks:List Key,AG F (ks.map kV) (ks.map JP)
 | []=>.nil
 | .inl i::ks=>.cons (.int i) (WD ks)
 | .inr x::ks=>.cons (.str x) (WD ks)
section
variable[Xw]
variable{E:Ent0}{ss:List Slot}{O:L2.St}{F H F' H':Hp}{K:yo}{i:Nat}{t:OV}{ta tb tc te:TE}{nx:List Slot->Prop}{R:AX}
theorem ng{k:List PV->Prop}(h:Wp ss te λp=>∃(ks:List Key)(xs:List PV),p=.B1 ks xs/\ks.length<=1000/\k (ks.map JP)):Wn ss (ED d7 (Au te BW)) k:=⟨λE O F H Q S q=>
 h.go E O F H _ S λv p F1 H1 b c AE=>by
  obtain⟨ks,xs,e,j,kk⟩:=AE;subst e;cases c with
  |@B1 a _ vs _ g f i=>
   refine⟨a,_,rfl,.inl (b.st.fh _ _ g),by rw[WZ];omega,λl GF=>?_⟩;rw[bC f];have d:=b.st.make GF (.lst (ks.map kV));exact q l _ _ F1 _ (b.trans d) (b.st.Bq GF) (b.none GF) Ay (WD ks) kk⟩
end
end Fz
namespace L2
variable{w:World}{H H2:Hp}{a b it:Addr}{X:Cx}{Zn:yp}{s s2:Shared}{A:Around}{E:Value->Shared->Prop}{e elt tg:Expr}{pos tp:Pos}{ifs:List Expr}{tk:Nat}{outer scope:Scope}{js:List Nat}{tt:TT}{te:TE}{J:It}{fp:List Addr}{tn:Nat->Heap->Prop}{N zs:List Str}{wi:TI}
structure HY (N:List Str) (outer scope:Scope) (zs:List Str) (AH:List Str) (js:List Nat):Prop where
 kind:scope.kind=.function
 Jl:∀y∈scope.names,y.2≠.cell
 loc:∀y∈scope.names,y.2=.local->scope.names.lookup y.1=some .local
 JD:∀x∈zs,scope.names.lookup x=some .local
 at':js.map (λj=>N[j]?)=AH.map some
 cell:∀y∈AH,outer.names.lookup y=some .cell
 free:∀y∈AH,scope.names.lookup y=some .free
 all:∀y∈scope.names,y.2=.free->outer.names.lookup y.1=some .cell
 nd:(AH++zs).Nodup
def LY(K:yo)(n:Nat)(wi:TI)(js:List Nat)(tt:TT)(te:TE):TE:=λO H Q=>wi O H λJ H1=>∀acc,H1 acc=none->P7 K n J js tt te O H1 acc Q
section
variable{O:St}{iter:Expr}{es:List Expr}{AH:List Str}
theorem HY.G(S:HY N outer scope zs AH js):EV N outer scope none zs AH js:=.cV S.kind S.Jl S.loc S.at' S.cell S.free S.all S.nd
theorem tL(a:X.calm=true)(S:HY X.N X.env.scope scope zs AH js)(IC:Hq zs es)(IL:∀e,(assignEach es e).length=zs.length)(FD:∀e,(assignEach es e).findIdx? (·.1)=none)(hi:PI X (.Tuple es tk tp) iter wi)
  (Cz:∀fp C s H,Ga (EM X (AH++zs) scope (Bb X.env.cells scope.names) C s H fp) ifs tt) (Ct:∀fp C s H,PE (EM X (AH++zs) scope (Bb X.env.cells scope.names) C s H fp) elt te)
  (hs:∀v,foldedSetIterable iter X.env v=pure v:=by intro _;rfl):PE X (.ListComp elt [⟨.Tuple es tk tp,iter,ifs,0⟩] scope pos) (LY X.K zs.length wi js tt te):=
 Ym (CW:=λJ O H1 acc Q=>P7 X.K zs.length J js tt te O H1 acc Q) (XG S.G) a S.G hi (λ_ _ _ _=>dh a S.G S.JD IC IL FD) Cz Ct hs
theorem wt(a:X.calm=true)(S:HY X.N X.env.scope scope zs AH js)(IC:Hq zs es)(IL:∀e,(assignEach es e).length=zs.length)(FD:∀e,(assignEach es e).findIdx? (·.1)=none)(hi:QI X (.Tuple es tk tp) iter wi)(Cz:∀fp C s H,LB (EM X (AH++zs) scope (Bb X.env.cells scope.names) C s H fp) ifs tt)(Ct:∀fp C s H,QE (EM X (AH++zs) scope (Bb X.env.cells scope.names) C s H fp) elt te)
  (hs:∀v,foldedSetIterable iter X.env v=pure v:=by intro _;rfl):QE X (.ListComp elt [⟨.Tuple es tk tp,iter,ifs,0⟩] scope pos) (LY X.K zs.length wi js tt te):=⟨tL a S IC IL FD hi.h (λfp C s H=>(Cz fp C s H).h) (λfp C s H=>(Ct fp C s H).h) hs⟩
variable{prog:Program}{z TI TO i1 i2 l1 l2:Addr}{k:Nat}{t1 t2:Bool}{xs ys:Array Value}{x y a b:Value}
variable{l:Expr}{tl t:TE}{st:Stmt}{ts:TS}
end
end L2
namespace Fz
open L2 Lw
variable{ss:List Slot}{i j n:Nat}{pre:Pre}{R:AX}
section
variable[Xw]
variable{te:TE}{ta:TA}{t:OV}
theorem RL{C:Addr}{m:Str}{k:PV->Prop}(h:Wl ss i t te λ_ u=>∃dx ns a us,u=.nd (.obj C dx ns) a us/\Ck ns m=none/\Wb ss ta λps=>∃c,pre ((u.pv::ps).map .is) (.is c)/\∀p,c p->De p=true/\k p):Wp ss (J2 C m (Ai pre) [] E0 te ta) k:=⟨λE O F H Q S q=>
 h.go E O F H _ S λv p u F1 H1 d g Ak⟨dx,ns,a,us,w,hm,h2⟩=>by
  subst w;have y:=g;cases y with
  |@nd _ _ vs _ e z B A=>
   refine⟨a,dx,ns.zip vs,rfl,e,Mf hm,h2.go E O F1 H1 _ d.st λvs ps F2 H2 b l⟨c,s,kk⟩=>?_⟩;rw[D0];have j:=g.mv d.st h.hi Ak b;have x:AG (BU F2 H2 (CS ss O)) (V.ref a::vs) (_::ps):=.cons (j.rep b.st.GG.1 λa e o ho=>by
    unfold BU;obtain⟨lt,hi⟩:=h.hi;rw[hZ (OE b.st.len hi (by simp) (OV.Ek Ak a e))];exact ho) l
   refine⟨_,.is c,_,[],s,b.st.lend x,λv F' H' f⟨p,r,kp⟩=>?_⟩;obtain⟨mv,n⟩:=b.st.Oi f;exact q v p _ H' (d.trans (b.trans mv)) (r.sub n (kk p kp).1) (kk p kp).2⟩
theorem qA{nx:List Slot->Prop}(h:Wl ss i t te λ_ u=>∃nk a us,u=.nd nk a us/\nx (ss.set j (.raw (ptr a)))):Ws ss (Dq te (Bt j)) nx R:=⟨λE D O F H S c hr=>
 h.go E O F H _ S λv p u F1 H1 b r Ak AE=>by
  obtain⟨nk,a,us,d,kk⟩:=AE;subst d;cases r;exact c _ _ F1 H1 kk (b.st.setG ⟨_,rfl,rfl,λ_ _ _ h=>h⟩ λ_ z=>by cases z) b.ff⟩
end
theorem ML{H:Hp}{N:List Str}{vs:List V}{Q:VK}{X:XK}{t:TS}(h:Dc pre vs H Q X)(b:∀ss R,pre ss R->ss.length=n)
  (hw:∀ss R,pre ss R->Ws (ss++List.replicate (N.length - n) .any) t (TV R) R):t { nx:=λ_ H'=>Q .AA H',rt:=Q } (L2.start N vs) H:=by
 obtain⟨ss,R,F,A,B,a,S,q⟩:=h;have e:vs.length=n:=by have:=S.len;rw[AF]at this;rw[<- this];exact b ss R a
 unfold L2.start;rw[e];exact(hw ss R a).go (P2 ⟨A,F,H,B⟩) _ _ F H (S.grown _) (λA7 σ' F' H' z S' _=>q .AA F' H' S'.toFin (z.ok S')) λv F' H' f ok=>q v F' H' f ok
end Fz
namespace Fz
open L2 Lw
section
variable[Xw]
variable{ss:List Slot}{te:TE}{K:yo}{P:Program}{w:World}
variable{E:Ent0}{O:L2.St}{F H F' H':Hp}{js:List Nat}{ta tb:TE}
theorem bx{n:Nat}{wi:TI}{tt:TT}{te:TE}{k:List PV->Prop}(f:PV->Bool)(g:PV->PV)
  (h:Wi ss wi λxs=>xs.length<=100000/\(∀x∈xs,∃as:List PV,x=.tup as/\as.length=n/\Wt (Bm js ss++as.map .is) tt (λc=>c=f x)/\(f x=true->Wp (Bm js ss++as.map .is) te λp=>p=g x))/\k ((xs.filter f).map g))
  (nd:js.Nodup:=by decide) (np:Mh js ss=true:=by rfl):Wn ss (LY K n wi js tt te) k:=⟨λE O F H Q S q=>
 h.go E O F H _ S λJ xs F1 H1 d D⟨hz,X,kk⟩acc Ax=>by
  have R:Bo ss O acc:=d.st.GZ Ax;have GP:=d.st.Cy Ax;have IK:∀(i:Nat)s,ss[i]?=some s->¬ B3 s O[i]? acc:=λi s hi=>d.st.II hi Ax;refine⟨λi m H2=>m=xs.length - i/\i<=xs.length/\∃F2 vs,Mv E ss O F1 H1 F2 H2/\F2 acc=none/\H2 acc=some (.lst vs)/\AG F2 vs (((xs.take i).filter f).map g),⟨_,rfl,CN _,F1,[],d.st.make Ax _,d.st.Bq Ax,Ay,.nil⟩,?_⟩;rintro i m H2⟨rfl,hi,F2,vs,b,L,A,u⟩
  by_cases t:i<xs.length
  .refine .inr ⟨D.go ss O F2 H2 i b.ff b.st t,λx H3 y=>?_⟩;obtain⟨p,F3,G,z,I⟩:=D.E7 ss O F2 H2 i x H3 b.ff b.st t y;have G2:p∈xs:=Dn G;have Ik:(xs.take (i+1))=xs.take i++[p]:=by
    have e2:xs[i]=p:=by rw[Am t]at G;exact B9 G
    rw[Ln t,e2]
   have M:List.filter f (xs.take (i+1))=(xs.take i).filter f++(if f p=true then[p]else[]):=by
    rw[Ik,fH];congr 1
    by_cases j:f p=true <;> simp[j]
   have σ:∀{F4:Hp},(∀a o,F4 a=some o->F2 a=some o∨H2 a=none)->F4 acc=none:=λ{F4}n=>by
    cases e:F4 acc with
    |none=>rfl
    |some o=>
     rcases n acc o e with w|w
     .rw[L]at w;cases w
     .rw[A]at w;cases w
   obtain⟨as,ep,W,V,hw⟩:=X p G2;rw[ep]at I;obtain⟨_,_,rfl,e,r⟩:=I.inv;refine⟨_,_,rfl,Ao.of (z.st.fh _ _ e),by rw[r.length,W],?_⟩;have S3:=z.st.AH (js:=js) nd r;refine V.go E _ F3 H3 _ S3 λc F4 H4 U Y=>?_;have N:=U.out (ps:=as) z.st np;have l:=z.trans N;show if c=true then _ else _
   rw[Y]
   by_cases j:f p=true
   .rw[hZ j];have S4:=l.st.AH (js:=js) nd (r.mono N.ff);refine(hw j).go E _ F4 H4 _ S4 λw pw F5 H5 T IS Z=>?_;have Hb:=T.out (ps:=as) l.st np;have C:=l.trans Hb;have IA:=C.hh acc _ R A;have P:=σ C.nn;have v:vs.length<=99999:=by
     rw[u.length,AF];have:=Qg f (xs.take i);rw[DO]at this;omega
    refine⟨vs,IA,Fp v,xs.length - (i+1),by omega,rfl,t,F5,vs++[w],?_,P,Ay,?_⟩
    .have B:=b.trans C;refine⟨B.st.K0 P (.inl GP) IK,B.ff,λa o n e=>?_,B.nn⟩;rw[Ab (DS e Ax)];exact B.hh a o n e
    .rw[M,hZ j,Cc];rw[Z]at IS;exact(u.mono C.ff).append (.one IS)
   .have Lz:f p=false:=by simpa using j
    rw[Lz,gp (by decide)];refine⟨xs.length - (i+1),by omega,rfl,t,F4,vs,b.trans l,σ l.nn,l.hh acc _ R A,?_⟩;rw[M,gp j,D0];exact u.mono l.ff
  .have e:i=xs.length:=by omega
   subst e;refine .inl ⟨D.stop ss O F2 H2 b.ff b.st,q acc vs _ F2 H2 (d.trans b) L (d.none Ax) A ?_ kk⟩;rw[IV]at u;exact u⟩
end
end Fz
namespace L2
theorem wL{X:Cx}:Hl X "list.clear" R3:=sD
end L2
namespace L2
section
variable{X:Cx}{e:Expr}{t1 t2:TE}{u1 u2:TT}
def Rx(t1 t2:TT):TT:=λO H Q=>t1 O H Q∨t2 O H Q
theorem pK(h1:QT X e u1)(h2:QT X e u2):QT X e (Rx u1 u2):=⟨λZn s O H Q I h=>h.elim (h1.h Zn s O H Q I) (h2.h Zn s O H Q I)⟩
end
end L2
namespace Fz
open L2 Lw
variable{ss:List Slot}{te:TE}{a a0 b:Addr}
section
variable[Xw]
variable{K:yo}{ta tb tc ti t1 t2:TE}{u1 u2:TT}{nx:List Slot->Prop}{R:AX}{xs ps:List PV}{i j:Nat}{t:OV}{lt:Bool}{js:List Nat}
theorem iX{k:Bool->Prop}(h:Wt ss u1 k):Wt ss (Rx u1 u2) k:=⟨λE O F H Q S q=>.inl (h.go E O F H Q S q)⟩
theorem sF{k:Bool->Prop}(h:Wt ss u2 k):Wt ss (Rx u1 u2) k:=⟨λE O F H Q S q=>.inr (h.go E O F H Q S q)⟩
theorem iu{n:Nat}{wi:TI}{tt:TT}{k:List Nat->OV->Prop}(G:PV->OV->Prop)
  (h:Wi ss wi λxs=>xs.length<=99999/\(∀x∈xs,∃as:List PV,x=.tup as/\as.length=n/\Wt (Bm js ss++as.map .is) tt (λc=>c=true)/\Wx (Bm js ss++as.map .is) te λm u=>m=[]/\G x u)/\∀l us,us.length=xs.length->(∀(j:Nat)x u,xs[j]?=some x->us[j]?=some u->G x u)->k [] (.nd .lst l us))
  (nd:js.Nodup:=by decide) (np:Mh js ss=true:=by rfl):Wx ss (LY K n wi js tt te) k:=⟨λE O F H Q S q=>
 h.go E O F H _ S λJ xs F1 H1 g N⟨hz,he,kk⟩acc Ax=>by
  have EO:Bo ss O acc:=g.st.GZ Ax;have Z:=g.st.Cy Ax;have IK:∀(i:Nat)s,ss[i]?=some s->¬ B3 s O[i]? acc:=λi s hi=>g.st.II hi Ax;refine⟨λi m H2=>m=xs.length - i/\i<=xs.length/\∃F2 vs us,Mv E ss O F1 H1 F2 H2/\F2 acc=none/\H2 acc=some (.lst vs)/\Ae F2 H2 vs us/\(OV.AL us).Nodup/\(∀a∈OV.AL us,F2 a=none/\H1 a=none/\a≠acc)/\us.length=i/\∀(j:Nat)x u,xs[j]?=some x->us[j]?=some u->G x u,
   ⟨_,rfl,CN _,F1,[],[],g.st.make Ax _,g.st.Bq Ax,Ay,.nil,by rw[OV.D8];exact JW,λa v=>by(rw[OV.D8]at v;cases v),rfl,λj x u _ e=>by simp at e⟩,?_⟩
  rintro i m H2⟨rfl,hi,F2,vs,us,t,V,v,C,Fd,KO,Ho,U⟩
  by_cases P:i<xs.length
  .refine .inr ⟨N.go ss O F2 H2 i t.ff t.st P,λx H3 y=>?_⟩;obtain⟨p,F3,T,L,R⟩:=N.E7 ss O F2 H2 i x H3 t.ff t.st P y;have G2:p∈xs:=Dn T;have Fx:∀{F4:Hp},(∀a o,F4 a=some o->F2 a=some o∨H2 a=none)->F4 acc=none:=λ{F4}n=>by
    cases e:F4 acc with
    |none=>rfl
    |some o=>
     rcases n acc o e with w|w
     .rw[V]at w;cases w
     .rw[v]at w;cases w
   obtain⟨as,ep,hn,ht,hw⟩:=he p G2;rw[ep]at R;obtain⟨_,_,rfl,e,r⟩:=R.inv;refine⟨_,_,rfl,Ao.of (L.st.fh _ _ e),by rw[r.length,hn],?_⟩;have S3:=L.st.AH (js:=js) nd r;refine ht.go E _ F3 H3 _ S3 λc F4 H4 m4 d=>?_;have Y:=m4.out (ps:=as) L.st np;have A:=L.trans Y;show if c=true then _ else _
   rw[d,hZ rfl];have S4:=A.st.AH (js:=js) nd (r.mono Y.ff);refine hw.go E _ F4 H4 _ S4 λw mm u F5 H5 m5 IS sg hu⟨em,p9⟩=>?_;subst em;have Hb:=m5.out (ps:=as) A.st np;have B:=A.trans Hb;have IA:=B.hh acc _ EO v;have FI:=Fx B.nn;have D:vs.length<=99999:=by rw[C.length,Ho];omega
   have X:∀b∈OV.AL us,Bo ss O b:=λb d=>g.st.GZ (KO b d).2.1;have r5:=C.mono B.ff λb d o I=>B.hh b o (X b d) I;have r4:=C.mono A.ff λb d o I=>A.hh b o (X b d) I;have un:∀b∈u.addrs,F5 b=none/\H4 b=none:=λb d=>by
    obtain⟨f,_,w⟩:=hu b d;exact⟨f,w.elim (λ⟨_,z,_⟩=>absurd z (by simp)) id⟩
   have n6:H4 acc≠none:=by rw[A.hh acc _ EO v];simp
   have W:∀b∈u.addrs,b≠acc:=λb d z=>n6 (z▸(un b d).2);have σ:OV.AL (us++[u])=OV.AL us++u.addrs:=by rw[Er,GV]
   have jg:∀b,F2 b=none->H2 b≠none->F5 b=none:=λb h1 h2=>B.SQ h1 h2;refine⟨vs,IA,Fp D,xs.length - (i+1),by omega,rfl,P,F5,vs++[w],us++[u],?_,FI,Ay,?_,?_,λb d=>?_,by rw[C5,Ho];rfl,λj x u' hx Fe=>?_⟩
   .have M:=t.trans B;refine⟨M.st.K0 FI (.inl Z) IK,M.ff,λa o n e=>?_,M.nn⟩;rw[Ab (DS e Ax)];exact M.hh a o n e
   .refine(r5.append (.one IS)).mono (AI.refl _) λb d o I=>?_;rw[Ab ?_]
    .exact I
    .rw[σ]at d;rcases List.mem_append.mp d with d|d
     .exact(KO b d).2.2
     .exact W b d
   .rw[σ,BZ];refine⟨Fd,sg,λb d c hc sT=>?_⟩;subst sT;exact r4.there b d (un b hc).2
   .rw[σ]at d;rcases List.mem_append.mp d with d|d
    .exact⟨jg b (KO b d).1 (C.there b d),(KO b d).2⟩
    .exact⟨(un b d).1,(t.trans A).none (un b d).2,W b d⟩
   .by_cases c:j<us.length
    .rw[E2 c]at Fe;exact U j x u' hx Fe
    .rw[ER (by omega)]at Fe;have hj:j=us.length:=by
      have:=(List.getElem?_eq_some_iff.mp Fe).1;simp at this;omega
     subst hj;simp at Fe;subst Fe;rw[Ho,T]at hx;cases hx;exact p9
  .have e:i=xs.length:=by omega
   subst e;refine .inl ⟨N.stop ss O F2 H2 t.ff t.st,?_⟩;refine q _ [] (.nd .lst acc us) F2 H2 (g.trans t) (.nd (k:=.lst) v trivial trivial C) ?_ (λb d=>?_) (kk acc us Ho U)
   .rw[OV.CZ];exact List.nodup_cons.mpr ⟨λz=>(KO acc z).2.2 rfl,Fd⟩
   .rw[OV.CZ]at d;rcases List.mem_cons.mp d with e|d
    .subst e;exact⟨V,Z,.inr (g.none Ax)⟩
    .have d:b∈OV.AL us:=by simpa[NK.more]using d
     have z:=(KO b d).2.1;exact⟨(KO b d).1,g.st.Cy z,.inr (g.none z)⟩⟩
theorem h9(h:Wl ss i t ta λp u=>∃lt a us,ss[i]?=some (.ow lt t)/\u=.nd .lst a us/\nx (ss.set i (.ow lt (t.put p (.nd .lst a []))))):Ws ss (Ff (TB K "list" R3 ta)) nx R:=⟨λE D O F H S g hr=>
 h.go E O F H _ S λv p u F1 H1 d f Ak AE=>by
  obtain⟨lt,a,us,hi,j,kk⟩:=AE;subst j;obtain⟨vs,rfl,e,k,n,l⟩:=f.inv;refine⟨.inl ⟨rfl,_,AS.of e⟩,a,vs,rfl,rfl,e,g _ O F1 _ kk (Sg.MS (m:=[]) (u:=.fz .AA) d.st d.st hi Ak (λb c=>by rw[OV.D3]at c;cases c) (by simp) .nil (by rw[OV.D8];exact JW) λb c=>by rw[OV.D8]at c;cases c) d.ff⟩⟩
structure Yy (ss:List Slot) (g:TG) (u:OV) (k:List Slot->Prop):Prop where
 go:∀(E:Ent)(O:L2.St)(F H:Hp)(v:V)(Q:L2.St->Hp->Prop),Sg E ss O F H->AZ F H v u->(∀A7 σ',k A7->Sg E A7 σ' F H->Q σ' H)->g v O H Q
theorem vM{g d f:Nat}{p q:PV}{nk:NK}{us:List OV}{k:List Slot->Prop}(h:k (((ss.set g (.is p)).set d (.raw (ptr b))).set f (.is q))):Yy ss (JL K 3 (FP (Bt g) (FP (Bt d) (FP (Bt f) KZ)))) (.tp [.fz p,.nd nk b us,.fz q]) k:=⟨λE O F H v Q S r l=>by
 obtain⟨_,_,rfl,e,r⟩:=r.inv;obtain⟨_,_,rfl,c,r⟩:=r.inv;obtain⟨_,_,rfl,i,r⟩:=r.inv;obtain⟨_,_,rfl,a,r⟩:=r.inv;obtain rfl:=r.Ca;have c:Rep _ _ _:=c.inv;have a:Rep _ _ _:=a.inv;obtain⟨_,rfl,_,_,_,_⟩:=i.inv;refine⟨_,_,rfl,Ao.of (S.fh _ _ e),rfl,_,_,rfl,_,_,rfl,_,_,rfl,rfl,l _ _ h ?_⟩;exact((S.Ei c).setG (j:=d) (s:=.raw (ptr b)) (v:=.ref b) ⟨_,rfl,rfl,λ_ _ _ h=>h⟩ λ_ z=>by cases z).Ei a⟩
theorem mR{g:TG}{tb:TS}(N:Nat)(I:Nat->List Slot->Prop)(f:I 0 ss)(st:∀n A7,n<=N->I n A7->∃lt us,A7[i]?=some (.ow lt (.nd .lst a0 us))/\us.length=N/\(n<N->∃u,us[n]?=some u/\Yy A7 g u λC3=>Ws C3 tb (I (n+1)) R))(hd:∀A7,I N A7->nx A7):
  Ws ss (Oo (Ro K (BF i)) g tb) nx R:=⟨λE D O F H S A hr=>by
 have look:∀{A7:List Slot}{σ':L2.St}{F' H':Hp}{lt:Bool}{us:List OV},Sg E A7 σ' F' H'->A7[i]?=some (.ow lt (.nd .lst a0 us))->σ'[i]?=some (some (.ref a0))/\∃vs,H' a0=some (.lst vs)/\Ae F' H' vs us:=λ{A7 σ' F' H' lt us}S hi=>by
  obtain⟨v,e,r,_,_⟩:=S.ok i _ hi;obtain⟨_,rfl,B,_,_,p⟩:=r.inv;exact⟨e,_,B,p⟩
 obtain⟨lt,us,hi,M,_⟩:=st 0 ss (CN _) f;obtain⟨e,vs,t,J⟩:=look S hi;refine⟨_,e,a0,rfl,⟨vs,AS.of t⟩,?_⟩;refine⟨λn m σ' H'=>m=N - n/\n<=N/\∃A7 F',I n A7/\Sg E A7 σ' F' H'/\AI F F',⟨_,rfl,CN _,ss,F,f,S,AI.refl _⟩,?_⟩;rintro n m σ' H'⟨rfl,KI,A7,F',d,S',s'⟩;obtain⟨s,us',CQ,GF,tn⟩:=st n A7 KI d;obtain⟨_,Bp,Hx,XI⟩:=look S' CQ;have L:=XI.length
 by_cases j:n<N
 .obtain⟨u,z,k⟩:=tn j;obtain⟨v,h,l⟩:=XI.get z;refine .inr ⟨⟨Bp,v,AS.of Hx,h⟩,λσ2 H2=>∃C3 F2,I (n+1) C3/\Sg E C3 σ2 F2 H2/\AI F F2,λσ2 H2 AE=>by obtain⟨C3,F2,a,b,c⟩:=AE;exact⟨_,by omega,rfl,j,C3,F2,a,b,c⟩,λx H3 y=>?_⟩;obtain⟨C,hx⟩:=y;subst C;have ex:x=v:=by
   have:=hx Bp (AS.of Hx);rw[h]at this;exact(B9 this).symm
  subst ex;refine k.go E σ' F' H3 _ _ S' l λG σ4 w S4=>?_;exact w.go E _ σ4 F' H3 S4 (λMd σ5 F5 H5 q S5 o=>⟨Md,F5,q,S5,s'.trans o⟩) hr
 .have e:n=N:=by omega
  subst e;refine .inl ⟨⟨Bp,AS.of Hx,by omega⟩,?_⟩;exact A _ _ F' H' (hd _ d) S' s'⟩
end
noncomputable def GI:Slot->Slot
 | .own xs=>.is (.lst xs)
 | .ow _ t=>.is t.pv
 | .AO=>.any
 |s=>s
section
variable{E:Ent0}{O:L2.St}{F H F' H':Hp}
theorem Sg.Qz(S:Sg E ss O F H):Sg (E3 [] (BU F H (CS ss O)) H) (ss.map GI) O (BU F H (CS ss O)) H:=by
 have nn:∀{p:Prop}(a:Addr),a∈([]:List Addr)->p:=λa h=>absurd h An;refine⟨⟨S.GG.2,AI.refl _,λ_ _ _ e=>e,λ_ _ e=>.inl e,λa h=>nn a h,λa h=>nn a h,λa h=>nn a h,λa h=>nn a h,λa h=>nn a h,λa h=>nn a h⟩,by rw[AF,S.len],λi s hi=>?_,λi j s u l Fo hi w c q=>?_⟩
 .rw[Aa]at hi;cases e:ss[i]? with
  |none=>rw[e]at hi;cases hi
  |some s0=>
   rw[e]at hi;have es:GI s0=s:=B9 hi;subst es;have k:=S.ok i s0 e;cases s0 with
   |any=>trivial
   |is p=>obtain⟨v,b,r⟩:=k;exact⟨v,b,r.mono S.GG.1⟩
   |own xs=>
    obtain⟨l,vs,b,_,_,m,r⟩:=k;refine⟨_,b,.lst ?_ (r.mono S.GG.1)⟩;unfold BU;rw[hZ (OE S.len e (by simp) b)];exact m
   |AO=>trivial
   |sq tp xs=>
    cases tp with
    |true=>obtain⟨v,b,r⟩:=k;exact⟨v,b,r.mono S.GG.1⟩
    |false=>
     obtain⟨l,vs,b,g,n,r⟩:=k;exact⟨l,vs,b,⟨An,An⟩,S.keep l _ g n,r.mono S.GG.1⟩
   |raw P=>obtain⟨v,b,d,hm⟩:=k;exact⟨v,b,hm _ _ S.GG.1 d,hm⟩
   |ow lt t=>
    obtain⟨v,b,r,_,_⟩:=k;refine⟨v,b,r.rep S.GG.1 λa f o ho=>?_⟩;unfold BU;rw[hZ (OE S.len e (by simp) f)];exact ho
 .rw[Aa]at hi;cases e:ss[i]? with
  |none=>rw[e]at hi;cases hi
  |some s0=>
   rw[e]at hi;have es:GI s0=s:=B9 hi;subst es;cases s0 <;> cases c
mutual
def OV.G8:OV->Bool
 | .fz p=>De p
 | .tp xs=>OV.Hg xs
 | .nd _ _ xs=>OV.Hg xs
def OV.Hg:List OV->Bool
 | []=>true
 |x::r=>x.G8 && OV.Hg r
end
theorem AZ.wA{as:List Addr}(h:∀a∈as,∀vs,F a≠some (.tup vs)):∀{v:V}{t:OV},AZ F H v t->t.G8=true->AZ (Df F as) H v t:=by
 intro v t r d;exact AZ.rec (motive_1:=λv t _=>t.G8=true->AZ (Df F as) H v t) (motive_2:=λvs ts _=>OV.Hg ts=true->Ae (Df F as) H vs ts)
  (λ{v p}r z=>.fz (r.sub h (by simpa[OV.G8]using z)))
  (λ{a vs xs}e _ b z=>.tp (by unfold Df;rw[gp (λq=>h a q vs e)];exact e) (b (by simpa[OV.G8]using z)))
  (λ{k a vs xs}e c f _ b z=>.nd e c f (b (by simpa[OV.G8]using z)))
  (λ_=>.nil)
  (λ_ _ NA N3 z=>by
   rw[OV.Hg,En]at z;exact .cons (NA z.1) (N3 z.2))
  r d
end
section
variable{c:TT}
def Sq(E:Ent0)(F H:Hp)(as:List Addr):@Ent bw:=@Ent.mk bw (E3 [] (BU F H as) H) λ_ _ _ _ _ _ _ _ _ d _=>d.elim
theorem jh{k:PV->Prop}(h:Wp (ss.map GI) te λp=>De p=true/\k p):Wp ss te k:=⟨λE O F H Q S q=>by
 refine h.go (Sq E F H (CS ss O)) O _ H Q S.Qz λv p F' H' m a⟨c,kk⟩=>?_;obtain⟨M,b⟩:=S.Oi m.st.toFin;exact q v p _ H' M (a.sub b c) kk⟩
theorem RU{k:Bool->Prop}(h:Wt (ss.map GI) c k):Wt ss c k:=⟨λE O F H Q S q=>by
 refine h.go (Sq E F H (CS ss O)) O _ H Q S.Qz λb F' H' m kk=>?_;exact q b _ H' (S.Oi m.st.toFin).1 kk⟩
theorem r8{k:List Nat->OV->Prop}(h:Wx (ss.map GI) te λm u=>m=[]/\u.G8=true/\k [] u):Wx ss te k:=⟨λE O F H Q S q=>by
 refine h.go (Sq E F H (CS ss O)) O _ H Q S.Qz λv l u F' H' m c nd d⟨j,g,kk⟩=>?_;subst j;obtain⟨M,e⟩:=S.Oi m.st.toFin;refine q v [] u _ H' M (c.wA e g) nd (λa i=>?_) kk;obtain⟨f,b,_⟩:=d a i;have b:H a=none:=b;exact⟨by unfold Df;split <;> first|rfl|exact f,S.Cy b,.inr b⟩⟩
end
end Fz
namespace L2
section
variable{X:Cx}
theorem nK{tg l:Expr}{tl:TE}(d:QE X l tl):QI X tg l (Ro X.K tl):=⟨by
 have d:=d.h;intro Zn s O H R I h;refine AJ (d Zn s O H _ I h) λv c DH=>?_;obtain⟨x,H1,I1,f,g⟩:=DH;obtain⟨a,e,⟨xs,i⟩,q⟩:=g;subst e;cases f;obtain⟨A1,k,p,m⟩:=I1.list i;refine nR p.isList ?_;refine⟨c.heap.objs.size,[c.heap.objs.size],_,_,H1,rfl,I1.kept (t':=c.toks) λb o e=>CU _ e,Lk a _,⟨_,DC _ rfl,rfl,rfl⟩,λb j=>?_,q⟩;have e:b=c.heap.objs.size:=by simpa using j
 subst e;exact I1.LW (Aj _) (I1.AN.fresh (Aj _))⟩
variable{Zn:yp}{elt iter:Expr}{ifs es:List Expr}{zs:List Str}{tp pos:Pos}{tk:Nat}{scope:Scope}{AH:List Str}{js:List Nat}{tt:TT}{te:TE}
theorem Y9{wi:TI}{i:Nat}{y:Str}{py Es:Pos}(f:X.N.Nodup)(CQ:X.N[i]?=some y)(d:Loc X.env.scope y)(c:X.calm=true)(S:HY X.N X.env.scope scope zs AH js)(IC:Hq zs es)(IL:∀e,(assignEach es e).length=zs.length)(FD:∀e,(assignEach es e).findIdx? (·.1)=none)(hi:QI X (.Tuple es tk tp) iter wi)
  (a:∀fp C s H,LB (EM X (AH++zs) scope (Bb X.env.cells scope.names) C s H fp) ifs tt) (b:∀fp C s H,QE (EM X (AH++zs) scope (Bb X.env.cells scope.names) C s H fp) elt te)
  (IJ:swapsWith (.ListComp elt [⟨.Tuple es tk tp,iter,ifs,0⟩] scope pos) (some (.Name y py)) Es.line X.env=pure true:=by rfl)
  (hf:X.fn y=true∨X.env.scope.names.lookup y=some .local:=by first|exact .inl rfl|exact .inr rfl|assumption)
  (hs:∀v,foldedSetIterable iter X.env v=pure v:=by intro _;rfl):QS X (.Assign [.Name y py] (.ListComp elt [⟨.Tuple es tk tp,iter,ifs,0⟩] scope pos) Es) (Dq (LY X.K zs.length wi js tt te) (Bt i)):=⟨by have hi:=hi.h;have a:=λfp C s H=>(a fp C s H).h;have b:=λfp C s H=>(b fp C s H).h;exact XB (CW:=λJ O H1 acc Q=>P7 X.K zs.length J js tt te O H1 acc Q) (XG S.G) f CQ d c S.G hi (λ_ _ _ _=>dh c S.G S.JD IC IL FD) a b IJ hf hs⟩
variable{O:St}{H2:Hp}{s2:Shared}{x:Str}{px:Pos}{J:It}{fp:List Addr}{it:Addr}
 {tn:Nat->Heap->Prop}
end
end L2
namespace Fz
open L2 Lw
variable{ss:List Slot}{ta tb tc te ti:TE}{nx:List Slot->Prop}{R:AX}{ps xs:List PV}{i n:Nat}{t:Int}{us:List OV}{u w:OV}{ns:List Str}{x:Str}
section
variable[Xw]
variable{K:yo}{ys:List PV}{j:Nat}{k:PV->Prop}
variable{lt:Bool}
variable{t:OV}{a b:Addr}{nk:NK}
theorem ax{k:List Nat->OV->Prop}(g:ss[j]?=some (.ow false (.tp us)))(d:us[n]?=some w)(h:k [j] w):Wx ss (BB (FE K) (BF j) (tC (.int n))) k:=⟨λE O F H Q S q=>by
 obtain⟨v,e,r,nd,f⟩:=S.ok j _ g;obtain⟨a,vs,rfl,x,m⟩:=r.inv;obtain⟨u,s,i⟩:=m.get d;have sub:∀c∈w.addrs,c∈(OV.tp us).addrs:=λc b=>OV.Ek (p:=[n]) (by rw[OV.Ge,d];show w.at []=some w;rw[OV.Ej]) c b;have o:w.addrs.Nodup:=by
  obtain⟨l,r,y,_⟩:=OV.split (t:=OV.tp us) (p:=[n]) (u:=w) (by rw[OV.Ge,d];show w.at []=some w;rw[OV.Ej]);rw[y,BZ,BZ]at nd;exact nd.1.2.1
 refine⟨_,e,_,_,_,u,rfl,rfl,Ao.of (S.fh _ _ x),CV s,q u [j] w F H (.refl S) i o (λc b=>⟨(f c (sub c b)).1,?_,.inl ⟨j,by simp,_,by simp,g,sub c b⟩⟩) h⟩;exact(f c (sub c b)).2.elim id λz=>by cases z.1⟩
end
def VO:Pre:=λl R=>∃(g i:Nat),l=[.is (.int g),.is (.int i)]/\R=.is λp=>p=.int (Hv i g:Nat)
def VS:Pre:=λl R=>∃(g i:Nat),l=[.is (.int g),.is (.int i)]/\R=.is λp=>p=.int (NR i g:Nat)
section
variable[Xw]
theorem lV{k:List PV->Prop}(hi:ss[i]?=some .AO)(h:Wp ss te λx=>∃m,x=.int m/\0<=m/\m<=100/\∀ns:List Str,(ns.length:Int)=m->(∀x∈ns,Nm x)->ns.Nodup->k (ns.map PV.str)):Wn ss (EU VG [] E0 (Au (BF i) (Au te BW))) k:=⟨λE O F H Q S q=>by
 obtain⟨p,e,_⟩:=S.ok i _ hi;refine⟨_,e,h.go E O F H _ S λv x F1 H1 a r⟨m,j,d,Ju,kk⟩=>?_⟩;subst j;cases r.inv;refine⟨p,m,rfl,a.st.FH hi e,d,Ju,λl H2 ns b s DY f g nd=>?_⟩;have c:=a.st.ai hi e s;exact q l _ _ F1 H2 (a.trans c) (a.st.Bq b) (a.none b) DY (mH ns) (kk ns f g nd)⟩
end
theorem cE:∀ps:List PV,OV.BH (ps.map .fz)=ps
 | []=>rfl
 |p::ps=>by rw[Ap,OV.BH,OV.pv,cE ps]
theorem d8{n:Int}(h:n<=1000):n<10 ^ 18:=fB h (by decide)
theorem wX{k:Nat}(h:k<=ns.length):Cw ns none (some (k:Int))=ns.take k:=by
 unfold Cw;rw[show HT.AY ns.length 0 none=0 from rfl,NZ,Wk]
 congr 1
 simp only[HT.AY];split <;> omega
structure Kd where
 w:Str
 ps:List (Str×Str)
 g:Bool
def BV(p:Str×Str):PV:=.tup [.str p.1,.str p.2]
def Kd.P(k:Kd):PV:=.tup [.str k.w,.tup (k.ps.map BV),.bl k.g]
noncomputable def WH:List Str:=["next","last","back","first"]
theorem ae{α:Type}{xs:List α}{k:Nat}{x:α}(h:xs[k]?=some x):xs.take (k+1)=xs.take k++[x]:=by
 obtain⟨a,e⟩:=List.getElem?_eq_some_iff.mp h;rw[Ln a,e]
theorem sE(a:0<=t)(h:t<7):∃z:Nat,L2.BS [PV.int 0,.int 1,.int 1,.int 2,.int 2,.int 3,.int 6] t=some (.int (z:Int))/\z<=6:=by
 rcases(show t=0∨t=1∨t=2∨t=3∨t=4∨t=5∨t=6 by omega)with rfl|rfl|rfl|rfl|rfl|rfl|rfl
 .exact⟨0,rfl,by decide⟩
 .exact⟨1,rfl,by decide⟩
 .exact⟨1,rfl,by decide⟩
 .exact⟨2,rfl,by decide⟩
 .exact⟨2,rfl,by decide⟩
 .exact⟨3,rfl,by decide⟩
 .exact⟨6,rfl,by decide⟩
theorem Sn:∀{ps c:List (Str×Str)},ps.map BV=c.map BV->ps=c
 | [],[],_=>rfl
 | [],_::_,h=>by simp at h
 |_::_,[],h=>by simp at h
 |p::ps,q::c,h=>by
  rw[Ap,Ap]at h;injection h with h1 h2
  have d:p.1=q.1/\p.2=q.2:=by
   unfold BV at h1;injection h1 with h1
   injection h1 with a b
   injection a with a
   injection b with b _
   injection b with b
   exact⟨a,b⟩
  rw[Sn h2,Prod.ext d.1 d.2]
theorem Kd.inj(x y:Kd)(h:x.P=y.P):x=y:=by
 obtain⟨w,ps,g⟩:=x;obtain⟨e,PZ,g'⟩:=y;unfold Kd.P at h;injection h with h
 injection h with a b
 injection a with a
 injection b with b c
 injection b with b
 injection c with c _
 injection c with c
 have d:=Sn b;simp only at a d c;subst a d c;rfl
def Rb:Pre:=λl R=>∃(r:Str)(g i:Nat)(xs:List PV),l=[.is (.tup (.str r :: .int g::xs)),.is (.int i)]/\R=.is λp=>p=.bl (Lj r g i)
noncomputable def Bx(ns:List Str):List Key:=ns.map Sum.inr
theorem Wy(ns:List Str)(x:Str):Gs (Bx ns) (.inr x)=decide (x∈ns):=by
 unfold Gs Bx;rw[List.any_map]
 by_cases h:x∈ns
 .rw[iN h];exact List.any_eq_true.mpr ⟨x,h,iN rfl⟩
 .rw[ij h];rw[Bool.eq_false_iff];intro z;obtain⟨y,b,e⟩:=List.any_eq_true.mp z;have a:(Sum.inr y:Key)=Sum.inr x:=ib e;injection a with a
  exact h (a▸b)
theorem Yz:∀{ns:List Str}{x:Str},x∈ns->D5 (Bx ns) (.inr x)=some (ns.idxOf x)
 | [],_,h=>absurd h An
 |y::ns,x,h=>by
  unfold Bx;rw[Ap,D5,fP]
  by_cases c:y=x
  .subst c;rw[hZ rfl,show(y == y)=true from j3 y];rfl
  .rw[gp (λe=>c (by injection e)),show(y == x)=false from beq_eq_false_iff_ne.mpr c];have h1:D5 (ns.map λn:Str=>(Sum.inr n:Key)) (.inr x)=some (ns.idxOf x):=Yz ((List.mem_cons.mp h).resolve_left λz=>c z.symm);have a:D5 (ns.map (Sum.inr:Str->Key)) (.inr x)=some (ns.idxOf x):=h1;rw[a];rfl
theorem b6:∀{ns:List Str}{x:Str},x∉ns->D5 (Bx ns) (.inr x)=none
 | [],_,_=>rfl
 |y::ns,x,h=>by
  unfold Bx;rw[Ap,D5,gp (λe=>h (by injection e with e;subst e;exact D2))]
  have h1:D5 (ns.map (Sum.inr:Str->Key)) (.inr x)=none:=b6 (ns:=ns) λz=>h (CM _ z);rw[h1];rfl
theorem VD(h:ns.Nodup):(Bx ns).Nodup:=List.Pairwise.map _ (λa b(h:a≠b)=>λz=>h (by injection z)) h
theorem Zp(h:x∉ns):Jd (Bx ns) (.inr x)=Bx (ns++[x])/\JH (Bx ns) us (.inr x) u=us++[u]:=by
 unfold JH Jd;rw[b6 h,Wy,ij h];exact⟨by unfold Bx;rw[Cc];rfl,rfl⟩
theorem Q5(h:x∉ns):Jd (Bx ns) (.inr x)=Bx (ns++[x]):=(Zp (us:=[]) (u:=.fz .AA) h).1
theorem Qu(h:x∉ns):JH (Bx ns) us (.inr x) u=us++[u]:=(Zp h).2
theorem RK{y:PV}:∀{ns:List Str}{xs:List PV}{x:Str},x∈ns->xs[ns.idxOf x]?=some y->KW (Bx ns) xs (.inr x)=some y
 | [],_,_,h,_=>absurd h An
 |z::ns,xs,x,h,e=>by
  rw[fP]at e;unfold Bx
  by_cases c:z=x
  .subst c;rw[show(z == z)=true from j3 z]at e;cases xs with
   |nil=>cases e
   |cons w ws=>rw[Ap,KW,hZ rfl];exact e
  .rw[show(z == x)=false from beq_eq_false_iff_ne.mpr c]at e;cases xs with
   |nil=>cases e
   |cons w ws=>
    rw[Ap,KW,gp (λq=>c (by injection q))];exact RK ((List.mem_cons.mp h).resolve_left λq=>c q.symm) e
noncomputable def IX(tp:Bool)(xs:List PV):PV:=if tp=true then .tup xs else .lst xs
theorem lR(ns:List Str):(Bx ns).map JP=ns.map PV.str:=by
 unfold Bx;rw[CA];rfl
noncomputable abbrev wk(ks:List Kd):List Str:=ks.map Kd.w
structure KG (ks:List Kd):Prop where
 l1:1<=ks.length
 l8:ks.length<=8
 nd:(wk ks).Nodup
 nm:∀k∈ks,Nm k.w
 ps:∀k∈ks,k.ps.length<=6/\∀p∈k.ps,p.1∈WH/\p.2∈wk ks
noncomputable def Fi:List Str:=[("none":Str), "ahead","all"]
noncomputable def Ef(k:Kd):PV:=.tup [.str k.w,.lst (k.ps.map BV),.bl k.g]
noncomputable def Ea(ks:List Kd)(x:Str):List (Str×Str):=match ks[(wk ks).idxOf x]? with
 |some k=>k.ps
 |none=>[]
noncomputable def GK(ks:List Kd)(x:Str):Bool:=match ks[(wk ks).idxOf x]? with
 |some k=>k.g
 |none=>false
theorem KG.at{ks:List Kd}(h:KG ks)(hx:x∈wk ks):∃k,ks[(wk ks).idxOf x]?=some k/\k.w=x/\Ea ks x=k.ps/\GK ks x=k.g/\k∈ks:=by
 have hi:=List.idxOf_lt_length_iff.mpr hx;have a:(wk ks).idxOf x<ks.length:=by simpa using hi
 have e:=Am a;refine⟨_,e,?_,?_,?_,IT a⟩
 .have q:(wk ks)[(wk ks).idxOf x]'hi=x:=fN hi;rw[Kj]at q;exact q
 .unfold Ea;rw[e]
 .unfold GK;rw[e]
theorem jj(x y:Kd)(h:Ef x=Ef y):x=y:=by
 obtain⟨w,ps,g⟩:=x;obtain⟨a,PZ,g'⟩:=y;unfold Ef at h;injection h with h
 injection h with h1 h2
 injection h1 with h1
 injection h2 with h2 h3
 injection h2 with h2
 injection h3 with h3 _
 injection h3 with h3
 have h2:=Sn h2;subst h1 h2 h3;rfl
noncomputable def Hc:List Str:=["puts_by_word","goes_by_word"]
def BX(C:Addr)(ks:List Kd):PV:=.obj C Hc [.B1 (Bx (wk ks)) (ks.map λk=>.tup (k.ps.map BV)),.B1 (Bx (wk ks)) (ks.map λk=>.bl k.g)]
def Hs(C dx a c b:Addr)(ks:List Kd):OV:=.nd (.obj C dx Hc) a [.nd (.B1 (Bx (wk ks))) c (ks.map λk=>.fz (.tup (k.ps.map BV))),.nd (.B1 (Bx (wk ks))) b (ks.map λk=>.fz (.bl k.g))]
theorem Oj{α:Type}(g:α->PV):∀(l:List α),OV.BH (l.map λx=>OV.fz (g x))=l.map g
 | []=>by rw[Gp,OV.BH];rfl
 |x::r=>by rw[Ap,OV.BH,OV.pv,Oj g r];rfl
theorem qB(C dx a c b:Addr)(ks:List Kd):(Hs C dx a c b ks).pv=BX C ks:=by
 unfold Hs BX;rw[OV.pv,OV.BH,OV.pv,OV.BH,OV.pv,OV.BH,Oj,Oj]
theorem Vr{α:Type}(g:α->PV)(h:∀x,De (g x)=true):∀(l:List α),FR (l.map g)=true
 | []=>by rw[Gp,FR]
 |x::r=>by rw[Ap,FR,h x,Vr g h r];rfl
theorem U5{α:Type}(g:α->OV)(h:∀x,(g x).G8=true):∀(l:List α),OV.Hg (l.map g)=true
 | []=>by rw[Gp,OV.Hg]
 |x::r=>by rw[Ap,OV.Hg,h x,U5 g h r];rfl
theorem kC(p:Str×Str):De (BV p)=true:=by unfold BV;simp[De,FR]
theorem qd(C dx a c b:Addr)(ks:List Kd):(Hs C dx a c b ks).G8=true:=by
 unfold Hs;simp only[OV.G8,OV.Hg];rw[U5 _ λk=>?_,U5 _ λk=>?_]
 .rfl
 .simp[OV.G8,De]
 .rw[OV.G8,De];exact Vr _ kC _
def L3:Pre:=λl R=>∃(ws:List Str)(d:PV)(x:Str),l=[.is d,.is (.str x)]/\(d=.lst (ws.map .str)∨∃xs,d=.B1 (Bx ws) xs)/\ws.length<=1000/\x∈ws/\R=.is (λp=>p=.AA)
def VW:Pre:=λl R=>∃(ws:List Str)(ps:List (Str×Str)),l=[.is (.lst (ws.map .str)),.is (.lst (ps.map BV))]/\ws.length<=1000/\(∀p∈ps,p.1∈WH/\p.2∈ws)/\R=.is (λp=>p=.AA)
def TR:Pre:=λl R=>∃ks:List Kd,l=[.is (.lst (ks.map Ef))]/\KG ks/\R=.is (λp=>p=.AA)
def R4(C:Addr):Pre:=λl R=>∃(dx a:Addr)(ks:List Kd),l=[.ow true (.nd (.obj C dx []) a []),.is (.lst (ks.map Ef))]/\KG ks/\R=.mt (λp t'=>p=.AA/\∃c b,t'=Hs C dx a c b ks)
def Rl(C:Addr):Pre:=λl R=>∃ks:List Kd,l=[.is (BX C ks)]/\KG ks/\R=.new (λxs=>xs=(wk ks).map .str)
def U7(C:Addr):Pre:=λl R=>∃(ks:List Kd)(x:Str),l=[.is (BX C ks),.is (.str x)]/\KG ks/\x∈wk ks/\R=.new (λxs=>xs=(Ea ks x).map BV)
def Uz(C:Addr):Pre:=λl R=>∃(ks:List Kd)(x:Str),l=[.is (BX C ks),.is (.str x)]/\KG ks/\x∈wk ks/\R=.is (λp=>p=.bl (GK ks x))
def WE:Pre:=λl R=>∃r:Str,l=[.is (.str r)]/\r∈Fi/\R=.is (λp=>p=.AA)
def TU(C:Addr):Pre:=λl R=>∃(ks:List Kd)(tp:Bool)(cs:List Str),l=[.is (BX C ks),.sq tp (cs.map .str)]/\KG ks/\cs.length<=12/\(∀c∈cs,c∈wk ks)/\R=.is (λp=>p=.AA)
def Rw:Pre:=λl R=>l=[.AO]/\R=.is λp=>∃ks:List Kd,p=.lst (ks.map Kd.P)/\KG ks
def Vo(C:Addr):Pre:=λl R=>∃ks:List Kd,l=[.is (.lst (ks.map Kd.P))]/\KG ks/\R=.is (λp=>p=BX C ks)
def SM:Pre:=λl R=>∃ks:List Kd,l=[.AO,.is (.lst (ks.map Kd.P))]/\KG ks/\R=.new (λxs=>∃cs:List Str,xs=cs.map .str/\cs.length<=12/\∀c∈cs,c∈wk ks)
def SA:Pre:=λl R=>l=[.AO]/\R=.is (λp=>∃r∈Fi,p=.str r)
theorem tU(a:0<=t)(h:t<3):∃r∈Fi,L2.BS [PV.str "none",.str "ahead",.str "all"] t=some (.str r):=by
 rcases(show t=0∨t=1∨t=2 by omega)with rfl|rfl|rfl
 .exact⟨"none", by decide,rfl⟩
 .exact⟨"ahead", by decide,rfl⟩
 .exact⟨"all", by decide,rfl⟩
theorem jq(a:0<=t)(h:t<4):∃x∈WH,L2.BS [PV.str "next",.str "last",.str "back",.str "first"] t=some (.str x):=by
 rcases(show t=0∨t=1∨t=2∨t=3 by omega)with rfl|rfl|rfl|rfl
 .exact⟨"next", by decide,rfl⟩
 .exact⟨"last", by decide,rfl⟩
 .exact⟨"back", by decide,rfl⟩
 .exact⟨"first", by decide,rfl⟩
theorem p6(a:0<=t)(h:t<8):∃z:Nat,L2.BS [PV.int 0,.int 1,.int 1,.int 2,.int 3,.int 4,.int 6,.int 12] t=some (.int (z:Int))/\z<=12:=by
 rcases(show t=0∨t=1∨t=2∨t=3∨t=4∨t=5∨t=6∨t=7 by omega)with rfl|rfl|rfl|rfl|rfl|rfl|rfl|rfl
 .exact⟨0,rfl,by decide⟩
 .exact⟨1,rfl,by decide⟩
 .exact⟨1,rfl,by decide⟩
 .exact⟨2,rfl,by decide⟩
 .exact⟨3,rfl,by decide⟩
 .exact⟨4,rfl,by decide⟩
 .exact⟨6,rfl,by decide⟩
 .exact⟨12,rfl,by decide⟩
theorem Vk{P:Str->Prop}:∀{ys:List PV},(∀y∈ys,∃c,P c/\y=.str c)->∃cs:List Str,ys=cs.map .str/\∀c∈cs,P c
 | [],_=>⟨[],rfl,λc h=>absurd h An⟩
 |y::r,h=>by
  obtain⟨c,b,rfl⟩:=h y (by simp);obtain⟨cs,e,h2⟩:=Vk (ys:=r) λz a=>h z (by simp[a]);exact⟨c::cs,by rw[e];rfl,λd hd=>by
   rcases List.mem_cons.mp hd with rfl|hd
   .exact b
   .exact h2 d hd⟩
theorem ZY:∀{a b:List Str},a.map PV.str=b.map PV.str->a=b
 | [],[],_=>rfl
 | [],_::_,h=>by simp at h
 |_::_,[],h=>by simp at h
 |x::a,y::b,h=>by
  rw[Ap,Ap]at h;injection h with h1 h2
  injection h1 with h1
  rw[h1,ZY h2]
noncomputable def Dv:List Kd->List Addr->List OV
 |k::ks,b::bs=>.tp [.fz (.str k.w),.nd .lst b ((k.ps.map BV).map .fz),.fz (.bl k.g)]::Dv ks bs
 |_,_=>[]
theorem YL:∀{ks:List Kd}{us:List OV},us.length=(ks.map Kd.P).length->(∀(j:Nat)x u,(ks.map Kd.P)[j]?=some x->us[j]?=some u->∃(k:Kd)(b:Addr),x=k.P/\u=.tp [.fz (.str k.w),.nd .lst b ((k.ps.map BV).map .fz),.fz (.bl k.g)])->∃bs:List Addr,bs.length=ks.length/\us=Dv ks bs
 | [],[],_,_=>⟨[],rfl,rfl⟩
 | [],_::_,h,_=>by simp at h
 |_::_,[],h,_=>by simp at h
 |k::ks,u::us,h,hG=>by
  obtain⟨i,b,a,f⟩:=hG 0 _ _ rfl rfl;have a:=Kd.inj _ _ a;subst a;obtain⟨bs,c,e⟩:=YL (ks:=ks) (us:=us) (by simpa using h) λj x u hx d=>hG (j+1) x u hx d
  exact⟨b::bs,by simp[c],by rw[e,f];rfl⟩
theorem XA:∀(ks:List Kd)(bs:List Addr),bs.length=ks.length->(Dv ks bs).length=ks.length
 | [],_,_=>by simp[Dv]
 |_::_,[],h=>by simp at h
 |k::ks,b::bs,h=>by rw[Dv,D1,D1,XA ks bs (by simpa using h)]
theorem eT:∀(ks:List Kd)(bs:List Addr),bs.length=ks.length->∀{j:Nat}{u:OV},(Dv ks bs)[j]?=some u->∃(k:Kd)(b:Addr),k∈ks/\u=.tp [.fz (.str k.w),.nd .lst b ((k.ps.map BV).map .fz),.fz (.bl k.g)]
 | [],_,_,j,u,hu=>by simp[Dv]at hu
 |_::_,[],h,_,_,_=>by simp at h
 |k::ks,b::bs,h,0,u,hu=>by
  rw[Dv]at hu;exact⟨k,b,by simp,(B9 hu).symm⟩
 |k::ks,b::bs,h,j+1,u,hu=>by
  rw[Dv]at hu;obtain⟨c,d,a,e⟩:=eT ks bs (by simpa using h) (j:=j) (u:=u) (by simpa using hu)
  exact⟨c,d,by simp[a],e⟩
theorem eM:∀(ks:List Kd)(bs:List Addr),bs.length=ks.length->OV.BH (Dv ks bs)=ks.map Ef
 | [],_,_=>by rw[Dv,OV.BH];rfl;exact λ_ _ _ _ h=>by cases h
 |_::_,[],h=>by simp at h
 |k::ks,b::bs,h=>by
  rw[Dv,OV.BH,eM ks bs (by simpa using h),Ap]
  congr 1
  rw[OV.pv,OV.BH,OV.pv,OV.BH,OV.pv,OV.BH,OV.pv,OV.BH];unfold Ef;rw[CA,show(OV.fz ∘ BV)=λp=>OV.fz (BV p)from rfl,Oj]
theorem fo(ks:List Kd)(bs:List Addr)(l:Addr)(h:bs.length=ks.length):(OV.nd .lst l (Dv ks bs)).pv=.lst (ks.map Ef):=by rw[OV.pv,eM ks bs h]
noncomputable def DT(l:Addr)(hs:List (Addr×List PV)):OV:=.nd .lst l (hs.map λh=>.tp [.nd .lst h.1 (h.2.map .fz),.fz (.lst h.2)])
def Vh(K:yo)(hs:List (Addr×List PV)):Prop:=∀h∈hs,dat K 40 (.lst h.2)
theorem hJ(l:Addr):∀(hs:List (Addr×List PV)),(DT l hs).pv=.lst (hs.map λh=>.tup [.lst h.2,.lst h.2]):=λhs=>by
 unfold DT;rw[OV.pv]
 congr 1
 induction hs with
 |nil=>rw[Gp,OV.BH];rfl
 |cons h r a=>rw[Ap,OV.BH,a,OV.pv,OV.BH,OV.pv,OV.BH,OV.pv,OV.BH,cE];rfl
end Fz
namespace L2
open PySem.AutoSeq1 (wpAny_loadPart')
open PySem.MeetsSeq PySem.MeetsSeq2 PySem.MeetsSeq3 PySem.SeqRoads2 PySem.SeqAt
theorem o6(l:Addr)(a:Array Value)(n:Nat)(dd:Option Addr)(sl:Array (Option Value))(x:Value)(e:Value->Bool)(i:Nat)(t:Tok)(j:Nat)(k:j<a.size)(Fo:i<=j)(f:(j:Int)<2 ^ 63 - 1)
  (b:e a[j]=true) (Ti:∀m(hm:m<a.size),i<=m->m<j->e a[m]=false) :
  Meets (Builtin.«list.index» ⟨[.ref l,x,.int i t],[]⟩)
   (λA R s=>s.heap.get? l=some { cls:=.type "list", dict:=dd,data:=.seq a n,slots:=sl }/\(∀y,y∈a->SeqAt.EqAt A.in1 s y x (e y))/\R (.ok (.ret (.int j s.toks))) { s with toks:=s.toks+1 }):=by
 intro prog w A R s h;obtain⟨r,g,d,tk,os⟩:=s;obtain⟨c,o,h⟩:=h
 wp_walk using wpAny_loadPart' c
 have q:((λi:Int=>if i<0 then max 0 (i+(a.size:Int))else i) ((some (i:Int)).getD 0))=((i:Nat):Int):=by simp;omega
 have p:((λi:Int=>if i<0 then max 0 (i+(a.size:Int))else i) ((none:Option Int).getD (2 ^ 63 - 1)))=2 ^ 63 - 1:=by simp
 rw[q,p];exact⟨plainId_quiet plain_index_loop _,codeAny_builtin entry_index_loop (by
  rw[Around.under_plainId plain_index_loop _];exact SeqAt.index_loopAt l a n dd sl x e (2 ^ 63 - 1) j k f b _ i rfl Fo (λm hm h1 h2=>Ti m hm h1 h2) prog w A R _ ⟨c,o,h⟩)⟩
section
variable{X:Cx}
def bN(K:yo):V->List V->Hp->VK->Prop:=λx vs H Q=>∃(l:Addr)(bs:List Bool)(i:Nat),x=.ref l/\vs=[.bl true,.int i]/\AS K H l (bs.map V.bl)/\true∈bs.drop i/\Q (.int (i+(bs.drop i).idxOf true:Nat)) H
theorem nO:Hl X "list.index" (bN X.K):=by
 intro Zn s O H x vs v us Q I o y h;obtain⟨l,bs,i,rfl,rfl,D,C,q⟩:=h;cases o;obtain⟨u,P,rfl,a,⟨t,rfl⟩⟩:=vals2 y;cases a;obtain⟨A1,r,pl,b⟩:=I.list D;obtain⟨⟨c,d,S,sl⟩,n,ho,g,hd,OC⟩:=id pl;simp only at g hd OC;subst g;subst hd;subst OC;have E:=r.length;rw[AF]at E;have G:=List.idxOf_lt_length_iff.mpr C;have k:(bs.drop i)[(bs.drop i).idxOf true]=true:=fN G;have N:(bs.drop i).length=bs.length - i:=JS;have at':∀(m:Nat)(hm:m<A1.toArray.size),A1.toArray[m]=.bool (bs[m]'(by simp at hm;omega)):=λm hm=>by
  have A:m<A1.length:=by simpa using hm
  have L:(bs.map V.bl)[m]?=some (.bl (bs[m]'(by omega))):=by rw[Aa,Am (by omega)];rfl
  obtain⟨u,f,a⟩:=r.get L;rw[Am A]at f;cases f
  simpa using(show A1[m]=Value.bool _ from a)
 have j:i+(bs.drop i).idxOf true<A1.toArray.size:=by simp;omega
 refine o5 y3 ⟨_,ho,rfl⟩ PySem.F.entry_list_index (PySem.F.args_list_index_3 _ _ _) (o6 l A1.toArray n none sl (.bool true) (EN (.bl true)) i t (i+(bs.drop i).idxOf true) j (Nat.le_add_right _ _) ?_ ?_ (λm hm h1 h2=>?_)) ⟨ho,λz B=>L5 (x:=.bl true) rfl rfl r (by
   rw[Gm];intro w hw;obtain⟨σ,_,rfl⟩:=List.mem_map.mp hw;rfl) z (by simpa using B),?_⟩
 .have h1:bs.length<=sizeLine:=by rw[AF]at b;exact b
  have h2:=JF;have R:((sizeLine:Nat):Int)<2 ^ 63:=by exact_mod_cast h2
  omega
 .rw[at' _ j];rw[xl]at k;rw[k];rfl
 .rw[at' _ hm];have M:m - i<(bs.drop i).length:=by simp at hm;omega
  have:=xq (p:=(· == true)) (xs:=bs.drop i) (i:=m - i) (by show m - i<(bs.drop i).idxOf true;omega)
  rw[xl]at this;have e:i+(m - i)=m:=by omega
  simp only[e]at this;cases J:bs[m]'(by simp at hm;omega)with
  |true=>rw[J]at this;cases this
  |false=>rfl
 .exact⟨.int _,H,I.tok _,⟨_,rfl⟩,q⟩
end
end L2
namespace Fz
open L2 Lw
variable{ss:List Slot}{ta tb tc te ti tv:TE}{at_ g i j m n p:Nat}{t u u1 u2 v w:OV}{nx:List Slot->Prop}{R:AX}{c neg tp:Bool}{a aT aW b dx:Addr}{r wh:Str}{X Y us ys:List OV}{xs:List PV}{ks:List Kd}{ps:List (Str×Str)}
theorem xM(x:Bool)(ns:List Bool):Kg (.bl x) (ns.map V.bl)=decide (x∈ns):=by
 induction ns with
 |nil=>simp[Kg]
 |cons n r a=>
  unfold Kg at a ⊢;rw[Ap,Ki,a];cases x <;> cases n <;> simp[DR]
section
variable[Xw]
variable{K:yo}{k:PV->Prop}
theorem Yn(h:Wp ss ta λp=>∃x,p=.bl x/\Wq ss tb λ_ ys=>∃ns:List Bool,ys=ns.map PV.bl/\k (.bl (if neg then !decide (x∈ns)else decide (x∈ns)))):Wp ss (BB (Ke K neg) ta tb) k:=⟨λE O F H Q S q=>
 h.go E O F H _ S λv p F1 H1 b d AE=>by
  obtain⟨x,e,h2⟩:=AE;subst e;cases d.inv;exact h2.go E O F1 H1 _ b.st λg tp ys F2 H2 a sv C9=>by
   obtain⟨ns,f,kk⟩:=C9;subst f;obtain⟨l,vs,rfl,c,r⟩:=sv.seq a.st;rw[r.Pk]at c;refine⟨l,_,rfl,(Eu.sq (K:=K) c).or,rfl,wu ns,?_⟩;rw[xM];exact q _ _ F2 H2 (b.trans a) (.bl _) kk⟩
theorem kQ(h:Wq ss te λtp xs=>tp=false/\∃bs:List Bool,xs=bs.map PV.bl/\Wp ss tb λp=>∃n:Nat,p=.int n/\true∈bs.drop n/\k (.int (n+(bs.drop n).idxOf true:Nat))):Wp ss (Gv K "list" (bN K) te (Au (tC (.bl true)) (Au tb BW))) k:=⟨λE O F H Q S q=>
 h.go E O F H _ S λv tp xs F1 H1 b sv AE=>by
  obtain⟨g,bs,ex,h2⟩:=AE;subst g;subst ex;obtain⟨l,vs,rfl,f,r⟩:=sv.seq b.st;refine⟨.inl ⟨rfl,_,AS.of f⟩,h2.go E O F1 H1 _ b.st λj p2 F2 H2 a c C9=>?_⟩;obtain⟨n,e,hm,kk⟩:=C9;subst e;cases c.inv;obtain⟨m,Bp,i,GF,d⟩:=(sv.mv a).seq a.st;cases i;rw[d.Pk]at GF;exact⟨l,bs,n,rfl,rfl,AS.of GF,hm,q _ _ F2 H2 (b.trans a) (.int _) kk⟩⟩
theorem Xf(h:Wl ss i t ta λp u=>∃(lt:Bool)(a:Addr)(ps:List PV),ss[i]?=some (.ow lt t)/\u=.nd .lst a (ps.map .fz)/\Wp ss tb λq=>∃n:Nat,q=.int n/\n<ps.length/\ps.length<=99999/\nx (ss.set i (.ow lt (t.put p (.nd .lst a ((ps.eraseIdx n).map .fz)))))):
  Ws ss (Ff (Gv K "list" Si ta (Au tb BW))) nx R:=⟨λE D O F H S k hr=>
 h.go E O F H _ S λv p u F1 H1 c g Ak AE=>by
  obtain⟨lt,a,ps,hi,m,h2⟩:=AE;subst m;have l:v=.ref a:=by cases g;rfl
  subst l;obtain⟨GD,UR,_⟩:=c.st.MI hi Ak;refine⟨.inl ⟨rfl,_,AS.of UR⟩,h2.go E O F1 H1 _ c.st λr s F2 H2 b f C9=>?_⟩;obtain⟨n,o,KI,w,kk⟩:=C9;subst o;cases f.inv;obtain⟨vs,j,d⟩:=b.st.MI hi Ak;have e:=d.length;refine⟨a,vs,n,n,vs[n]'(by omega),rfl,rfl,j,by omega,by omega,xS (by omega),Am (by omega),?_⟩;exact k _ O F2 _ kk (b.st.Sz hi Ak (d.erase n)) (c.ff.trans b.ff)⟩
theorem hU{k:List Nat->OV->Prop}(hi:ss[i]?=some (.ow false t))(h:Wl ss i t te λ_ u=>k [i] u):Wx ss te k:=⟨λE O F H Q S q=>
 h.go E O F H _ S λv p u F1 H1 b c Ak kk=>by
  obtain⟨f,e,r,nd,a⟩:=b.st.ok i _ hi;obtain⟨l,g,es,_⟩:=OV.split Ak;have d:u.addrs.Nodup:=by
   rw[es]at nd;exact(List.nodup_append.mp (List.nodup_append.mp nd).1).2.1
  have sub:∀x∈u.addrs,x∈t.addrs:=OV.Ek Ak;exact q v [i] u F1 H1 b c d (λx hx=>⟨(a x (sub x hx)).1,(a x (sub x hx)).2.elim id λz=>(by cases z.1),.inl ⟨i,by simp,_,by simp,hi,sub x hx⟩⟩) kk⟩
end
abbrev AB:=Str×Bool
variable{x:AB}{l th:List AB}{ct:Addr->AB}{hs:List (Addr×AB)}
structure Rn where
 r:Str
 th:List AB
 gap:Nat
 Al:Nat
variable{s:Rn}
noncomputable def E6:List Str:=["rule","things","awaited","gap","rounds"]
noncomputable def C8(th:List AB):List PV:=th.map λx=>.str x.1
noncomputable def Cn(th:List AB):List PV:=th.map λx=>.bl x.2
def O2(C:Addr)(s:Rn):PV:=.obj C E6 [.str s.r,.lst (C8 s.th),.lst (Cn s.th),.int s.gap,.int s.Al]
def CF(C dx a aT aW:Addr)(r:Str)(ts ws:List PV)(g n:Int):OV:=.nd (.obj C dx E6) a [.fz (.str r),.nd .lst aT (ts.map .fz),.nd .lst aW (ws.map .fz),.fz (.int g),.fz (.int n)]
def Dd(C dx a aT aW:Addr)(s:Rn):OV:=CF C dx a aT aW s.r (C8 s.th) (Cn s.th) s.gap s.Al
theorem Vz{C:Addr}:(Dd C dx a aT aW s).pv=O2 C s:=by
 unfold Dd CF O2;simp only[OV.pv,OV.BH,Vd]
section
variable[Xw]
variable{C:Addr}{ts ws ys:List PV}{g n:Int}{lt:Bool}{K:yo}
theorem Uh{k:Bool->List PV->Prop}(hi:ss[i]?=some (.is (IX tp xs)))(h:k tp xs):Wz ss (BF i) k:=by
 cases tp
 .exact FY (A9 hi ⟨_,.inl ⟨rfl,h⟩⟩)
 .exact FY (A9 hi ⟨_,.inr ⟨rfl,h⟩⟩)
theorem ZI:(CF C dx a aT aW r ts ws g n).put [1] (.nd .lst aT (ys.map .fz))=CF C dx a aT aW r ys ws g n:=by unfold CF;rw[OV.Gh (x:=.nd .lst aT (ts.map .fz)) rfl,OV.CI];rfl
theorem Uq:(CF C dx a aT aW r ts ws g n).put [2] (.nd .lst aW (ys.map .fz))=CF C dx a aT aW r ts ys g n:=by unfold CF;rw[OV.Gh (x:=.nd .lst aW (ws.map .fz)) rfl,OV.CI];rfl
theorem OZ{k:List Nat->OV->Prop}(hi:ss[i]?=some (.ow lt (CF C dx a aT aW r ts ws g n)))(b:BK K C)(c:B0 K C "things")(h:k ([]++[1]) (.nd .lst aT (ts.map .fz))):Wl ss i (CF C dx a aT aW r ts ws g n) (Ht K (BF i) "things") k:=Kb (B6 hi ⟨C,dx,E6,a,_,1,_,rfl,b,c,by decide +kernel,rfl,h⟩)
theorem Mx{k:List Nat->OV->Prop}(hi:ss[i]?=some (.ow lt (CF C dx a aT aW r ts ws g n)))(b:BK K C)(c:B0 K C "awaited")(h:k ([]++[2]) (.nd .lst aW (ws.map .fz))):Wl ss i (CF C dx a aT aW r ts ws g n) (Ht K (BF i) "awaited") k:=Kb (B6 hi ⟨C,dx,E6,a,_,2,_,rfl,b,c,by decide +kernel,rfl,h⟩)
theorem sJ{k:PV->Prop}(hi:ss[i]?=some (.ow lt (CF C dx a aT aW r ts ws g n)))(b:BK K C)(c:B0 K C "rule")(h:k (.str r)):Wp ss (Ht K (BF i) "rule") k:=Gj (Kb (B6 hi ⟨C,dx,E6,a,_,0,_,rfl,b,c,by decide +kernel,rfl,_,rfl,h⟩))
theorem Lg{k:PV->Prop}(hi:ss[i]?=some (.ow lt (CF C dx a aT aW r ts ws g n)))(b:BK K C)(c:B0 K C "gap")(h:k (.int g)):Wp ss (Ht K (BF i) "gap") k:=Gj (Kb (B6 hi ⟨C,dx,E6,a,_,3,_,rfl,b,c,by decide +kernel,rfl,_,rfl,h⟩))
theorem YV{k:PV->Prop}(hi:ss[i]?=some (.ow lt (CF C dx a aT aW r ts ws g n)))(b:BK K C)(c:B0 K C "rounds")(h:k (.int n)):Wp ss (Ht K (BF i) "rounds") k:=Gj (Kb (B6 hi ⟨C,dx,E6,a,_,4,_,rfl,b,c,by decide +kernel,rfl,_,rfl,h⟩))
theorem SX(hi:ss[i]?=some (.ow lt (CF C dx a aT aW r ts ws g n)))(b:BK K C)(c:B0 K C "gap")(h:Wp ss tv λp=>∃g',p=.int g'/\nx (ss.set i (.ow lt (CF C dx a aT aW r ts ws g' n)))):Ws ss (Nl K (BF i) tv "gap") nx R:=
 JE (i:=i) (CJ (h.mono λp z=>by
  obtain⟨g',rfl,kk⟩:=z;refine B6 hi ⟨lt,C,dx,E6,a,_,hi,rfl,b,c,by decide,An,?_⟩;rw[OV.CI];exact kk))
theorem oN(hi:ss[i]?=some (.ow lt (CF C dx a aT aW r ts ws g n)))(b:BK K C)(c:B0 K C "rounds")(h:nx (ss.set i (.ow lt (CF C dx a aT aW r ts ws g (n+1))))):Ws ss (Mp K (BF i) (tC (.int 1)) (NY λi j=>i+j) "rounds") nx R:=
 ud (i:=i) (B6 hi ⟨lt,C,dx,E6,a,_,4,n,hi,rfl,b,c,by decide,by decide +kernel,rfl,Ac ⟨1,rfl,by rw[OV.CI];exact h⟩⟩)
end
def FW(C a:Addr)(s:Rn)(t:OV):Prop:=∃dx aT aW,t=Dd C dx a aT aW s
def Bf(th:List AB):Bool:=th.any (·.2)
theorem SN(th:List AB):Cn th=(th.map (·.2)).map PV.bl:=by unfold Cn;rw[CA];rfl
theorem Qn(th:List AB):Bf th=decide (true∈th.map (·.2)):=by
 unfold Bf;rw[JQ,WS,kR,List.mem_map]
theorem gn(th:List AB)(i:Nat):(Cn th).set i (.bl false)=Cn (th.modify i λx=>(x.1,false)):=by
 unfold Cn
 induction th generalizing i with
 |nil=>simp
 |cons x r a=>
  cases i with
  |zero=>rfl
  |succ i=>
   rw[Ap,Nb,a,xp,Ap]
theorem j4(th:List AB)(i:Nat):C8 (th.modify i λx=>(x.1,false))=C8 th:=by
 unfold C8
 induction th generalizing i with
 |nil=>simp
 |cons x r a=>
  cases i with
  |zero=>rfl
  |succ i=>rw[xp,Ap,a,Ap]
theorem lY(cs:List Str):C8 (cs.map λc=>(c,true))=cs.map .str:=by unfold C8;rw[CA];rfl
theorem w8(cs:List Str):Cn (cs.map λc=>(c,true))=cs.map λ_=>.bl true:=by unfold Cn;rw[CA];rfl
theorem Le(th:List AB):(C8 th).length=th.length:=AF ..
theorem NB(th:List AB):(Cn th).length=th.length:=AF ..
def Ua(C:Addr):Pre:=λl R=>∃(dx a:Addr)(tp:Bool)(cs:List Str)(r:Str),l=[.ow true (.nd (.obj C dx []) a []),.is (IX tp (cs.map .str)),.is (.str r)]/\cs.length<=100/\R=.mt λp t'=>p=.AA/\∃aT aW,t'=Dd C dx a aT aW ⟨r,cs.map λc=>(c,true),0,0⟩
def Sd(C:Addr):Pre:=λl R=>∃s:Rn,l=[.is (O2 C s)]/\R=.is λp=>p=.bl (Bf s.th)
def Bv(s:Rn):Bool:=!Bf (s.th.drop s.gap)
def As(s:Rn):Nat:=let st:=if Bv s then 0 else s.gap;st+(s.th.drop st).findIdx (·.2)
def C6(s:Rn):Rn:=⟨s.r,s.th.modify (As s) λx=>(x.1,false),As s+1,if Bv s=true∨s.Al=0 then s.Al+1 else s.Al⟩
theorem Tv(h:Bf s.th=true):∃x,s.th[As s]?=some (x,true)/\true∈((s.th.map (·.2)).drop (if Bv s then 0 else s.gap))/\As s=(if Bv s then 0 else s.gap)+((s.th.map (·.2)).drop (if Bv s then 0 else s.gap)).idxOf true:=by
 have d:Bf (s.th.drop (if Bv s then 0 else s.gap))=true:=by
  cases e:Bv s with
  |true=>exact h
  |false=>
   unfold Bv at e;show Bf (s.th.drop s.gap)=true;cases q:Bf (s.th.drop s.gap)with
   |true=>rfl
   |false=>rw[q]at e;cases e
 have i:∀l:List AB,l.findIdx (·.2)=(l.map (·.2)).idxOf true:=λl=>by
  induction l with
  |nil=>rfl
  |cons y r g=>
   rw[List.findIdx_cons,Ap,fP,g];cases y.2 <;> rfl
 have hm:true∈(s.th.map (·.2)).drop (if Bv s then 0 else s.gap):=by
  rw[<- HN];rw[Qn]at d;exact ib d
 have f:As s=(if Bv s then 0 else s.gap)+((s.th.map (·.2)).drop (if Bv s then 0 else s.gap)).idxOf true:=by
  unfold As;rw[<- HN,<- i]
 have c:=List.idxOf_lt_length_iff.mpr hm;have a:((s.th.map (·.2)).drop (if Bv s then 0 else s.gap))[((s.th.map (·.2)).drop (if Bv s then 0 else s.gap)).idxOf true]?=some true:=by rw[Am c,fN c]
 rw[xk,<- f,Aa]at a;obtain⟨⟨x,b⟩,hx,rfl⟩:=Option.map_eq_some_iff.mp a;exact⟨x,hx,hm,f⟩
def AQ(s:Rn):Str:=match s.th[As s]? with
 |some x=>x.1
 |none => ""
def WB(C:Addr):Pre:=λl R=>∃(a:Addr)(s:Rn)(t:OV),l=[.ow true t]/\FW C a s t/\Bf s.th=true/\s.th.length<=10000/\R=.mt λp t'=>p=.str (AQ s)/\FW C a (C6 s) t'
noncomputable def GC(s:Rn)(wh:Str)(n:Nat):Nat:=if wh="next" then s.gap+n else if wh="last" then s.th.length else if wh="back" then s.gap - 1 else 0
def Ry(C:Addr):Pre:=λl R=>∃(s:Rn)(wh:Str)(n:Nat),l=[.is (O2 C s),.is (.str wh),.is (.int n)]/\1<=s.gap/\R=.is λp=>p=.int (GC s wh n)
def Ng(s:Rn)(w:Str)(at_:Nat):Rn:=⟨s.r,s.th.take at_++(w,Lj s.r s.gap at_)::s.th.drop at_,Hv at_ s.gap,s.Al⟩
def W7(C:Addr):Pre:=λl R=>∃(a:Addr)(s:Rn)(t:OV)(w:Str)(i:Nat),l=[.ow true t,.is (.str w),.is (.int i)]/\FW C a s t/\i<=s.th.length/\s.th.length<=10000/\R=.mt λp t'=>p=.AA/\FW C a (Ng s w i) t'
def Nu(s:Rn)(i:Nat):Rn:=⟨s.r,s.th.eraseIdx i,NR i s.gap,s.Al⟩
theorem SG{α β:Type}(f:α->β):∀(a:List α)(j:Nat),(a.map f).eraseIdx j=(a.eraseIdx j).map f
 | [],_=>rfl
 |_::_,0=>rfl
 |x::t,j+1=>by rw[Ap,List.eraseIdx_cons_succ,SG f t j];rfl
theorem mY(th:List AB)(i:Nat)(x:AB):C8 (th.take i++x::th.drop i)=(C8 th).take i++.str x.1::(C8 th).drop i:=by unfold C8;rw[Cc,Ap,JU,HN]
theorem uM(th:List AB)(i:Nat)(x:AB):Cn (th.take i++x::th.drop i)=(Cn th).take i++.bl x.2::(Cn th).drop i:=by unfold Cn;rw[Cc,Ap,JU,HN]
theorem uZ(th:List AB)(i:Nat):(C8 th).eraseIdx i=C8 (th.eraseIdx i):=SG _ _ _
theorem iZ(th:List AB)(i:Nat):(Cn th).eraseIdx i=Cn (th.eraseIdx i):=SG _ _ _
def Sr(C:Addr):Pre:=λl R=>∃(a:Addr)(s:Rn)(t:OV)(i:Nat),l=[.ow true t,.is (.int i)]/\FW C a s t/\(i<s.th.length/\s.th.length<=10010)/\R=.mt λp t'=>p=.AA/\FW C a (Nu s i) t'
noncomputable def C1(r:Str)(q:List AB×List AB×List AB)(p:Str×Str):List AB×List AB×List AB:=
 if p.1="next" then(q.1,q.2.1++[(p.2,decide (r ≠"none"))],q.2.2)else if p.1="last" then(q.1,q.2.1,q.2.2++[(p.2,decide (r ≠"none"))])else if p.1="back" then(q.1++[(p.2,decide (r="all"))],q.2.1,q.2.2)else((p.2,decide (r="all"))::q.1,q.2.1,q.2.2)
def EK(r:Str)(ps:List (Str×Str))(q:List AB×List AB×List AB):List AB×List AB×List AB:=ps.foldl (C1 r) q
def EF(r:Str)(th:List AB)(at_:Nat)(x:AB)(ps:List (Str×Str))(g:Bool):List AB×Nat:=
 let q:=EK r ps (th.take at_,[],th.drop (at_+1))
 (q.1++(if g then[]else[x])++q.2.1++q.2.2,q.1.length+if g then 0 else 1)
noncomputable def CT(r:Str)(x:AB)(Al:Nat)(q:List AB×List AB×List AB):Rn:=⟨r,q.1++x::(q.2.1++q.2.2),q.1.length+1,Al⟩
theorem uh(h:s.th[s.gap - 1]?=some x)(b:1<=s.gap):s=CT s.r x s.Al (s.th.take (s.gap - 1),[],s.th.drop (s.gap - 1+1)):=by
 obtain⟨r,th,g,n⟩:=s;obtain⟨a,e⟩:=List.getElem?_eq_some_iff.mp h;have a:g - 1<th.length:=a;have b:1<=g:=b;have e:th[g - 1]=x:=e;show Rn.mk r th g n=Rn.mk r (th.take (g - 1)++x::([]++th.drop (g - 1+1))) ((th.take (g - 1)).length+1) n;rw[Fb,<- e,<- xh a,fV,DO,show min (g - 1) th.length+1=g by omega]
noncomputable def E4(q:List AB×List AB×List AB):Nat:=q.1.length+q.2.1.length+q.2.2.length
theorem kc(r:Str)(q:List AB×List AB×List AB)(p:Str×Str):E4 (C1 r q p)=E4 q+1:=by
 unfold C1 E4
 repeat' split
 all_goals simp only[C5,D1,WX];omega
theorem Yo(r:Str)(ps:List (Str×Str))(p:Str×Str)(q:List AB×List AB×List AB):EK r (ps++[p]) q=C1 r (EK r ps q) p:=by unfold EK;rw[List.foldl_append];rfl
theorem MR(r:Str):∀(ps:List (Str×Str))(q:List AB×List AB×List AB),E4 (EK r ps q)=E4 q+ps.length
 | [],q=>rfl
 |p::ps,q=>by
  show E4 (EK r ps (C1 r q p))=_;rw[MR r ps,kc,D1];omega
theorem O4(r:Str)(x:AB)(n:Nat)(q:List AB×List AB×List AB):(CT r x n q).th.length=E4 q+1:=by
 show(q.1++x::(q.2.1++q.2.2)).length=_;unfold E4;simp only[C5,D1];omega
theorem OY(hr:r∈Fi):Lj r g i=if g<=i then decide (r ≠"none")else decide (r="all"):=by
 have:r="none" ∨r="ahead" ∨r="all" := by
  unfold Fi at hr;rcases List.mem_cons.mp hr with h|h
  .exact .inl h
  .rcases List.mem_cons.mp h with h|h
   .exact .inr (.inl h)
   .exact .inr (.inr (List.mem_singleton.mp h))
 unfold Lj;have b:("none":Str)≠"all" := by decide +kernel
 have e:("none":Str)≠"ahead" := by decide +kernel
 have a:("ahead":Str)≠"all" := by decide +kernel
 have d:("all":Str)≠"none" := by decide +kernel
 have c:("ahead":Str)≠"none" := by decide +kernel
 rcases this with rfl|rfl|rfl
 .rw[gp (by simpa using b),gp (by simpa using e)]
  split <;> simp[b]
 .rw[gp (by simpa using a),hZ (by simp)]
  split <;> simp[a,c] <;> omega
 .rw[hZ (by simp)];split <;> simp[d]
theorem putAt{k:Str}{pre post:List AB}(e:th=pre++post)(a:m=pre.length):Ng ⟨r,th,g,n⟩ k m=⟨r,pre++(k,Lj r g m)::post,Hv m g,n⟩:=by
 subst e;subst a;show Rn.mk r ((pre++post).take pre.length++_::(pre++post).drop pre.length) _ n=_;rw[List.take_left,List.drop_left]
theorem gA{k:Str}{q:List AB×List AB×List AB}(hr:r∈Fi)(hw:wh∈WH):GC (CT r x n q) wh q.2.1.length<=(CT r x n q).th.length/\Ng (CT r x n q) k (GC (CT r x n q) wh q.2.1.length)=CT r x n (C1 r q (wh,k)):=by
 obtain⟨lo,nx,hi⟩:=q;have i:(lo++x::(nx++hi)).length=lo.length+nx.length+hi.length+1:=O4 r x n (lo,nx,hi);have f:("last":Str)≠"next" := by decide +kernel
 have e:("back":Str)≠"next" := by decide +kernel
 have d:("back":Str)≠"last" := by decide +kernel
 have c:("first":Str)≠"next" := by decide +kernel
 have b:("first":Str)≠"last" := by decide +kernel
 have a:("first":Str)≠"back" := by decide +kernel
 have hw:wh="next" ∨wh="last" ∨wh="back" ∨wh="first" := by
  unfold WH at hw;rcases List.mem_cons.mp hw with h|h
  .exact .inl h
  .rcases List.mem_cons.mp h with h|h
   .exact .inr (.inl h)
   .rcases List.mem_cons.mp h with h|h
    .exact .inr (.inr (.inl h))
    .exact .inr (.inr (.inr (List.mem_singleton.mp h)))
 rcases hw with rfl|rfl|rfl|rfl
 .rw[show GC (CT r x n (lo,nx,hi)) "next" (lo,nx,hi).2.1.length=lo.length+1+nx.length from hZ rfl]
  refine⟨by show _<=(lo++x::(nx++hi)).length;omega,?_⟩;refine(putAt (g:=lo.length+1) (pre:=lo++x::nx) (post:=hi) (by simp) (by simp;omega)).trans ?_;rw[OY hr,hZ (by omega),show C1 r (lo,nx,hi) ("next", k)=(lo,nx++[(k,decide (r ≠"none"))],hi)from hZ rfl]
  unfold CT Hv;dsimp only;rw[gp (by omega)];simp
 .rw[show GC (CT r x n (lo,nx,hi)) "last" (lo,nx,hi).2.1.length=(lo++x::(nx++hi)).length from by unfold GC;rw[gp f,hZ rfl];rfl];refine⟨Aj _,?_⟩;refine(putAt (g:=lo.length+1) (pre:=lo++x::(nx++hi)) (post:=[]) (by simp) rfl).trans ?_;rw[OY hr,hZ (by omega),show C1 r (lo,nx,hi) ("last", k)=(lo,nx,hi++[(k,decide (r ≠"none"))])from by unfold C1;rw[gp f,hZ rfl]];unfold CT Hv;dsimp only;rw[gp (by omega)];simp
 .rw[show GC (CT r x n (lo,nx,hi)) "back" (lo,nx,hi).2.1.length=lo.length from by unfold GC;rw[gp e,gp d,hZ rfl];rfl];refine⟨by show _<=(lo++x::(nx++hi)).length;omega,?_⟩;refine(putAt (g:=lo.length+1) (pre:=lo) (post:=x::(nx++hi)) rfl rfl).trans ?_;rw[OY hr,gp (by omega),show C1 r (lo,nx,hi) ("back", k)=(lo++[(k,decide (r="all"))],nx,hi)from by unfold C1;rw[gp e,gp d,hZ rfl]];unfold CT Hv;dsimp only;rw[hZ (by omega)];simp
 .rw[show GC (CT r x n (lo,nx,hi)) "first" (lo,nx,hi).2.1.length=0 from by unfold GC;rw[gp c,gp b,gp a]]
  refine⟨CN _,?_⟩;refine(putAt (m:=0) (g:=lo.length+1) (pre:=[]) (post:=lo++x::(nx++hi)) rfl rfl).trans ?_;rw[OY hr,gp (by simp),show C1 r (lo,nx,hi) ("first", k)=((k,decide (r="all"))::lo,nx,hi)from by unfold C1;rw[gp c,gp b,gp a]]
  unfold CT Hv;dsimp only;rw[hZ (Qk _)];simp
theorem kE{q:List AB×List AB×List AB}:Nu (CT r x n q) q.1.length=⟨r,q.1++(q.2.1++q.2.2),q.1.length,n⟩:=by
 unfold Nu CT NR;rw[hZ (Qj _),xr];show Rn.mk r ((q.1++x::(q.2.1++q.2.2)).eraseIdx q.1.length) _ n=_;rw[List.eraseIdx_append_of_length_le (Aj _),Nf];rfl
theorem xO(r:Str)(q:List AB×List AB×List AB)(wh k:Str):(C1 r q (wh,k)).2.1.length=q.2.1.length+if wh="next" then 1 else 0:=by
 unfold C1
 by_cases h:wh="next"
 .rw[hZ h,hZ h];simp
 .rw[gp h,gp h]
  repeat' split
  all_goals rfl
def UD(C:Addr):Pre:=λl R=>∃(a:Addr)(s:Rn)(t:OV)(ps:List (Str×Str))(g:Bool)(x:AB),l=[.ow true t,.is (.lst (ps.map BV)),.is (.bl g)]/\FW C a s t/\(s.th[s.gap - 1]?=some x/\1<=s.gap)/\s.r∈Fi/\((∀p∈ps,p.1∈WH)/\s.th.length+ps.length<=10000)/\R=.mt λp t'=>p=.AA/\FW C a ⟨s.r,(EF s.r s.th (s.gap - 1) x ps g).1,(EF s.r s.th (s.gap - 1) x ps g).2,s.Al⟩ t'
def Gz(ks:List Kd)(s:Rn):Rn:=⟨s.r,(EF s.r (C6 s).th (As s) (AQ s,false) (Ea ks (AQ s)) (GK ks (AQ s))).1,(EF s.r (C6 s).th (As s) (AQ s,false) (Ea ks (AQ s)) (GK ks (AQ s))).2,(C6 s).Al⟩
def Cu(ks:List Kd):Nat->Rn×List Str->Rn×List Str
 | 0,s=>s
 |n+1,s=>if Bf s.1.th=true then Cu ks n (Gz ks s.1,s.2++[AQ s.1])else s
theorem Zf(ks:List Kd){s:Rn×List Str}(h:Bf s.1.th=false):∀n,Cu ks n s=s
 | 0=>rfl
 |n+1=>by rw[Cu,gp (by rw[h];decide)]
theorem jN{q:List AB×List AB×List AB}{p:Str×Str}{Z:Str->Prop}(c:Z p.2)(h:∀y∈q.1++q.2.1++q.2.2,Z y.1):∀y∈(C1 r q p).1++(C1 r q p).2.1++(C1 r q p).2.2,Z y.1:=λy a=>by
 have b:y∈q.1++q.2.1++q.2.2∨y.1=p.2:=by
  unfold C1 at a
  repeat' split at a
  all_goals simp only[HP,IU,An,qM]at a ⊢
  .rcases a with(h|h|h)|h
   .exact .inl (.inl (.inl h))
   .exact .inl (.inl (.inr h))
   .rw[h];exact .inr rfl
   .exact .inl (.inr h)
  .rcases a with(h|h)|h|h
   .exact .inl (.inl (.inl h))
   .exact .inl (.inl (.inr h))
   .exact .inl (.inr h)
   .rw[h];exact .inr rfl
  .rcases a with((h|h)|h)|h
   .exact .inl (.inl (.inl h))
   .rw[h];exact .inr rfl
   .exact .inl (.inl (.inr h))
   .exact .inl (.inr h)
  .rcases a with((h|h)|h)|h
   .rw[h];exact .inr rfl
   .exact .inl (.inl (.inl h))
   .exact .inl (.inl (.inr h))
   .exact .inl (.inr h)
 rcases b with k|k
 .exact h y k
 .rw[k];exact c
theorem ZU{r:Str}{Z:Str->Prop}:∀(ps:List (Str×Str)){q:List AB×List AB×List AB},(∀p∈ps,Z p.2)->(∀y∈q.1++q.2.1++q.2.2,Z y.1)->∀y∈(EK r ps q).1++(EK r ps q).2.1++(EK r ps q).2.2,Z y.1
 | [],_,_,h=>h
 |p::ps,q,hp,h=>ZU ps (q:=C1 r q p) (λy a=>hp y (CM _ a)) (jN (hp p D2) h)
structure Hm (ks:List Kd) (n:Nat) (s:Rn):Prop where
 rl:s.r∈Fi
 wd:∀y∈s.th,y.1∈wk ks
 len:s.th.length<=12+6 * n
theorem iQ(r:Str)(th:List AB)(i:Nat)(x:AB)(ps:List (Str×Str))(g:Bool)(hi:i<th.length):(EF r th i x ps g).1.length<=th.length+ps.length:=by
 have:=MR r ps (th.take i,[],th.drop (i+1));unfold E4 at this;simp only[DO,JS,WX]at this;unfold EF;simp only[C5];have h2:(if g=true then([]:List AB)else[x]).length<=1:=by split <;> simp
 omega
theorem R1(h:Bf s.th=true):(C6 s).th[(C6 s).gap - 1]?=some (AQ s,false)/\As s<s.th.length/\(∃b,(AQ s,b)∈s.th)/\(C6 s).th.length=s.th.length:=by
 obtain⟨x,hx,_,_⟩:=Tv h;have a:AQ s=x:=by unfold AQ;rw[hx]
 refine⟨?_,(List.getElem?_eq_some_iff.mp hx).1,⟨true,?_⟩,List.length_modify ..⟩
 .show(s.th.modify (As s) _)[As s+1 - 1]?=_;rw[xr,fL,hx,a];simp
 .rw[a];exact Dn hx
theorem WM(g:KG ks)(h:Hm ks n s)(l:Bf s.th=true):Hm ks (n+1) (Gz ks s):=by
 obtain⟨_,e,⟨b,m⟩,t⟩:=R1 l;have hw:AQ s∈wk ks:=h.wd _ m;obtain⟨k,u,w,j,v,o⟩:=g.at hw;have kp:=g.ps k o;have f:∀y∈(C6 s).th,y.1∈wk ks:=λy c=>by
  obtain⟨i,hi⟩:=List.getElem?_of_mem c;have hi:(s.th.modify (As s) λx=>(x.1,false))[i]?=some y:=hi;rw[fL]at hi;cases q:s.th[i]? with
  |none=>rw[q]at hi;cases hi
  |some z=>
   rw[q]at hi;have a:=h.wd z (Dn q);have:y.1=z.1:=by
    have hi:=B9 hi;rw[<- hi];show(if As s=i then _ else _:AB).1=_
    split <;> rfl
   rw[this];exact a
 refine⟨h.rl,λy c=>?_,?_⟩
 .have c:y∈(EF s.r (C6 s).th (As s) (AQ s,false) (Ea ks (AQ s)) (GK ks (AQ s))).1:=c;unfold EF at c;have d:=ZU (r:=s.r) (Z:=(·∈wk ks)) (Ea ks (AQ s)) (q:=((C6 s).th.take (As s),[],(C6 s).th.drop (As s+1))) (λp e=>by rw[j]at e;exact(kp.2 p e).2) (λz a=>by
   simp only[D0,HP]at a;rcases a with a|a
   .exact f z (Wc a)
   .exact f z (fR a))
  simp only[HP]at c d;rcases c with((h1|h1)|h1)|h1
  .exact d y (.inl (.inl h1))
  .split at h1
   .cases h1
   .rw[List.mem_singleton.mp h1];exact hw
  .exact d y (.inl (.inr h1))
  .exact d y (.inr h1)
 .have:=iQ s.r (C6 s).th (As s) (AQ s,false) (Ea ks (AQ s)) (GK ks (AQ s)) (by omega);have l1:=h.len;have l2:(Ea ks (AQ s)).length<=6:=by rw[j];exact kp.1
  show(EF s.r (C6 s).th (As s) (AQ s,false) (Ea ks (AQ s)) (GK ks (AQ s))).1.length<=_;omega
def KA(l1 l2:Addr)(q:Rn×List Str):OV:=.tp [.nd .lst l1 ((q.2.map PV.str).map .fz),.nd .lst l2 ((C8 q.1.th).map .fz),.fz (.int q.1.Al),.fz (.bl (!Bf q.1.th))]
def Ci(q:Rn×List Str):PV:=.tup [.lst (q.2.map .str),.lst (C8 q.1.th),.int q.1.Al,.bl (!Bf q.1.th)]
theorem tZ{l1 l2:Addr}{q:Rn×List Str}:(KA l1 l2 q).pv=Ci q:=by
 unfold KA Ci;simp only[OV.pv,OV.BH,Vd]
noncomputable def EX(r:Str)(cs:List Str):Rn×List Str:=(⟨r,cs.map λc=>(c,true),0,0⟩,[])
def UM(C:Addr):Pre:=λl R=>∃(ks:List Kd)(tp:Bool)(cs:List Str)(r:Str)(m:Nat),l=[.is (BX C ks),.is (IX tp (cs.map .str)),.is (.str r),.is (.int m)]/\KG ks/\(cs.length<=12/\∀c∈cs,c∈wk ks)/\r∈Fi/\m<=400/\R=.ow λu=>∃l1 l2,u=KA l1 l2 (Cu ks m (EX r cs))
section
variable[Xw]
variable{K:yo}{k:PV->Prop}
theorem UY{k:List Nat->OV->Prop}(h:Wx ss ta λm u=>∃a us,u=.nd .lst a us/\Wx ss tb λd w=>∃b vs,w=.nd .lst b vs/\(∀i∈m,i∉d)/\us.length+vs.length<=100000/\∀c,k (m++d) (.nd .lst c (us++vs))):Wx ss (BB Vg ta tb) k:=⟨λE O F H Q S q=>
 h.go E O F H _ S λv m u F1 H1 p r Ey A P=>by
  obtain⟨a,us,rfl,h2⟩:=P;refine h2.go E O F1 H1 _ p.st λv2 Rj w F2 H2 d R EH N σ=>?_;obtain⟨b,vs,rfl,Y,U,kk⟩:=σ;have np:∀x∈(OV.nd .lst a us).addrs,Bo ss O x:=λx hx=>Wx.bD S (A x hx).2.2;have Z:=r.mono d.ff λx hx o e=>d.hh x o (np x hx) e;obtain⟨D,rfl,X,_,_,I⟩:=Z.inv;obtain⟨C,rfl,W,_,_,G⟩:=R.inv;refine⟨a,b,D,C,rfl,rfl,X,W,small (by rw[I.length,G.length];exact U),λc l=>?_⟩;have L:=d.st.make l (.lst (D++C));have M:=I.append G;have K:c∉OV.AL (us++vs):=λz=>M.there _ z l;refine q _ (m++Rj) (.nd .lst c (us++vs)) _ _ (p.trans (d.trans L)) (.nd (k:=.lst) Ay trivial trivial (M.mono L.ff λx hx o e=>by rw[Ab (by rintro rfl;exact K hx)];exact e)) ?_ (λx hx=>?_) (kk c)
  .rw[CG];refine List.nodup_cons.mpr ⟨K,?_⟩;rw[Er,BZ];rw[CG]at Ey EH;refine⟨(List.nodup_cons.mp Ey).2,(List.nodup_cons.mp EH).2,λx hx y V e=>?_⟩;subst e;have n:x∈(OV.nd .lst a us).addrs:=by rw[CG];exact CM _ hx
   have B:x∈(OV.nd .lst b vs).addrs:=by rw[CG];exact CM _ V
   rcases(N x B).2.2 with⟨T,Kq,s2,Tn,BE,J⟩|z
   .rcases(A x n).2.2 with⟨j,g,s,hp,hs,o⟩|z
    .exact S.BD j T s s2 x (by rintro rfl;exact Y j g Kq) hs BE o J
    .exact S.DU BE J z
   .exact r.there x n z
  .rw[CG]at hx;rcases List.mem_cons.mp hx with e|hx
   .subst e;exact⟨d.st.Bq l,d.st.Cy l,.inr ((p.trans d).none l)⟩
   .rw[Er]at hx;rcases List.mem_append.mp hx with hx|hx
    .have n:x∈(OV.nd .lst a us).addrs:=by rw[CG];exact CM _ hx
     obtain⟨f,t,w⟩:=A x n;exact⟨d.SQ f (r.there x n),t,w.imp (λC9=>by obtain⟨j,g,z⟩:=C9;exact⟨j,by simp[g],z⟩) id⟩
    .have B:x∈(OV.nd .lst b vs).addrs:=by rw[CG];exact CM _ hx
     obtain⟨f,t,w⟩:=N x B;exact⟨f,t,w.imp (λNI=>by obtain⟨j,g,z⟩:=NI;exact⟨j,by simp[g],z⟩) p.none⟩⟩
theorem vg(h:Wl ss i t ta λp u=>∃lt a us,ss[i]?=some (.ow lt t)/\u=.nd .lst a us/\us.length<=99999/\Wx ss te λm w=>i∉m/\nx ((Cg m ss).set i (.ow lt (t.put p (.nd .lst a (w::us)))))):Ws ss (Ff (Gv K "list" N9 ta (Au (tC (.int 0)) (Au te BW)))) nx R:=⟨λE D O F H S P hr=>
 h.go E O F H _ S λv p u F1 H1 c M h1 G=>by
  obtain⟨lt,a,us,hi,rfl,N,hw⟩:=G;obtain⟨vs,rfl,z,I,T,n⟩:=M.inv;refine .inl ⟨rfl,_,AS.of z⟩ |> λq=>⟨q,hw.go E O F1 H1 _ c.st λg m w F2 H2 d L EH A C=>?_⟩;obtain⟨Cr,kk⟩:=C;have J:=(AZ.nd (k:=.lst) z I T n).mv c.st h.hi h1 d;obtain⟨Ij,_,N7,X,Y,Ic⟩:=J.inv;refine⟨a,Ij,0,g,rfl,rfl,N7,by omega,by omega,Fp (by rw[Ic.length];exact N),?_⟩;show D.nx _ (upd H2 a (.lst (Ij.take 0++g::Ij.drop 0)));rw[Wd,NZ,Fb];refine P _ O F2 _ kk (Sg.MS (u:=w) c.st d.st hi h1 A Cr (.cons L Ic) ?_ λb r=>?_) (c.ff.trans d.ff)
  .rw[OV.BN,BZ];obtain⟨V,e0,W,Br,q⟩:=d.st.ok i _ hi;have B:(OV.nd .lst a us).addrs.Nodup:=by
    obtain⟨l,n,U,_⟩:=OV.split h1;rw[U,BZ,BZ]at Br;exact Br.1.2.1
   rw[CG]at B;refine⟨EH,(List.nodup_cons.mp B).2,λy σ x hx e=>?_⟩;subst e;have f:y∈t.addrs:=OV.Ek h1 y (by rw[CG];simp[hx]);rcases(A y σ).2.2 with⟨j,Q,s,_,hs,o⟩|w
   .exact c.st.BD i j _ s y (by rintro rfl;exact Cr Q) hi hs f o
   .exact c.st.DU hi f w
  .rw[OV.BN]at r;exact(List.mem_append.mp r).symm⟩
end
abbrev El:=Addr×Option AB
noncomputable def D9(e:El):OV:=match e.2 with
 |none=>.fz (.con e.1 [])
 |some x=>.nd .lst e.1 [.fz (.str x.1),.fz (.bl x.2)]
noncomputable def Az(ct:Addr->AB)(e:El):AB:=e.2.getD (ct e.1)
noncomputable def B5:List El->List Addr
 | []=>[]
 |e::r=>if e.2=none then e.1::B5 r else B5 r
noncomputable def Bs(h:Addr×AB):OV:=.nd .lst h.1 [.fz (.str h.2.1),.fz (.bl h.2.2)]
noncomputable def Hk(b:Addr):PV:=.con b []
theorem Pd(a b:List El):B5 (a++b)=B5 a++B5 b:=by
 induction a with
 |nil=>rfl
 |cons e r c=>
  rw[WT,B5,B5,c];split <;> rfl
theorem Xj(bs:List Addr):B5 (bs.map λb=>(b,none))=bs:=by
 induction bs with
 |nil=>rfl
 |cons b r a=>rw[Ap,B5,hZ rfl,a]
theorem Zh(bs:List Addr):(bs.map Hk).map OV.fz=(bs.map λb=>((b,none):El)).map D9:=by
 rw[CA,CA];rfl
theorem bp(ct:Addr->AB)(bs:List Addr):(bs.map λb=>((b,none):El)).map (Az ct)=bs.map ct:=by
 rw[CA];rfl
def J0(ct:Addr->AB)(r:Str)(bs:List Addr)(at_:Nat)(ps:List (Str×Str))(g:Bool):List AB×Nat:=EF r (bs.map ct) at_ (ct (bs.getD at_ 0)) ps g
def SK:Pre:=λl R=>∃(bs:List Addr)(at_:Nat)(ps:List (Str×Str))(g:Bool)(r:Str)(ct:Addr->AB),l=[.sq false (bs.map Hk),.is (.int at_),.is (.tup [.tup (ps.map BV),.bl g]),.is (.str r)]/\at_<bs.length/\bs.length<=10000/\(∀p∈ps,p.1∈WH)/\ps.length<=6/\R=.ow λt=>∃(c:Addr)(es:List El),t=.tp [.nd .lst c (es.map D9),.fz (.int (J0 ct r bs at_ ps g).2)]/\es.map (Az ct)=(J0 ct r bs at_ ps g).1/\(B5 es).Sublist bs
structure Im (ct:Addr->AB) (r:Str) (bs:List Addr) (at_:Nat) (ps:List (Str×Str)) (lo nx hi:List El):Prop where
 e:(lo.map (Az ct),nx.map (Az ct),hi.map (Az ct))=EK r ps ((bs.map ct).take at_,[],(bs.map ct).drop (at_+1))
 p1:B5 lo=bs.take at_
 p2:B5 nx=[]
 p3:B5 hi=bs.drop (at_+1)
theorem Rq(es:List El)(c:Addr)(x:AB):B5 (es++[(c,some x)])=B5 es:=by
 rw[Pd];show B5 es++(if(some x:Option AB)=none then _ else B5 [])=_
 rw[gp (by simp)];exact D0 _
theorem ou(hw:wh∈WH):wh="next" ∨wh="last" ∨wh="back" ∨wh="first" := by
 unfold WH at hw;rcases List.mem_cons.mp hw with h|h
 .exact .inl h
 .rcases List.mem_cons.mp h with h|h
  .exact .inr (.inl h)
  .rcases List.mem_cons.mp h with h|h
   .exact .inr (.inr (.inl h))
   .exact .inr (.inr (.inr (List.mem_singleton.mp h)))
theorem Im.step{kd:Str}{bs:List Addr}{lo nx hi Tz JG CQ:List El}(h:Im ct r bs at_ ps lo nx hi)
  (e:(Tz.map (Az ct),JG.map (Az ct),CQ.map (Az ct))=C1 r (lo.map (Az ct),nx.map (Az ct),hi.map (Az ct)) (wh,kd)) (h1:B5 Tz=B5 lo) (h2:B5 JG=B5 nx) (a:B5 CQ=B5 hi):Im ct r bs at_ (ps++[(wh,kd)]) Tz JG CQ:=
 ⟨by rw[Yo,<- h.e,e],h1.trans h.p1,h2.trans h.p2,a.trans h.p3⟩
theorem Im.len{bs:List Addr}{lo nx hi:List El}(h:Im ct r bs at_ ps lo nx hi)(a:at_<bs.length):lo.length+nx.length+hi.length+1=bs.length+ps.length:=by
 have z:=jL E4 h.e;rw[MR]at z;unfold E4 at z;simp only[AF,DO,JS,WX]at z;omega
theorem UH(ct:Addr->AB)(es:List El)(c:Addr)(x:AB):(es++[((c,some x):El)]).map (Az ct)=es.map (Az ct)++[x]:=by rw[Cc];rfl
theorem S7(es:List El)(c:Addr)(x:AB):(es++[((c,some x):El)]).map D9=es.map D9++[.nd .lst c [.fz (.str x.1),.fz (.bl x.2)]]:=by rw[Cc];rfl
theorem Yu(r s:Str):PV.bl (!alike (.str r) (.str s))=.bl (decide (r≠s)):=by
 congr 1 <;> simp[alike]
theorem eD(r s:Str):PV.bl (alike (.str r) (.str s))=.bl (decide (r=s)):=by
 congr 1 <;> simp[alike]
noncomputable def Kn(b:Addr)(g:Bool):List El:=if g then[]else[(b,none)]
theorem wF(b:Addr)(g:Bool):(Cw [Hk b] none (some (1 - if g=true then 1 else 0))).map OV.fz=(Kn b g).map D9:=by cases g <;> rfl
theorem ZF(b:Addr)(g:Bool):(Kn b g).length=if g then 0 else 1:=by cases g <;> rfl
theorem Im.fin{bs:List Addr}{g:Bool}{lo nx hi:List El}(h:Im ct r bs at_ ps lo nx hi)(a:at_<bs.length):(lo++Kn (bs.getD at_ 0) g++nx++hi).map (Az ct)=(J0 ct r bs at_ ps g).1/\lo.length+(Kn (bs.getD at_ 0) g).length=(J0 ct r bs at_ ps g).2/\(B5 (lo++Kn (bs.getD at_ 0) g++nx++hi)).Sublist bs:=by
 have e:=h.e;obtain⟨q,b⟩:∃q,q=EK r ps ((bs.map ct).take at_,[],(bs.map ct).drop (at_+1)):=⟨_,rfl⟩;have c:J0 ct r bs at_ ps g=(q.1++(if g then[]else[ct (bs.getD at_ 0)])++q.2.1++q.2.2,q.1.length+if g then 0 else 1):=by unfold J0 EF;rw[b]
 rw[<- b]at e;rw[c,<- e,ZF];refine⟨?_,by rw[AF],?_⟩
 .rw[Cc,Cc,Cc];cases g <;> rfl
 .rw[Pd,Pd,Pd,h.p1,h.p2,h.p3,D0];have d:bs=bs.take at_++([bs.getD at_ 0]++bs.drop (at_+1)):=by
   rw[Eo,Am a];show bs=bs.take at_++(bs[at_]::bs.drop (at_+1));rw[<- xh a,fV]
  rw[BY]
  conv=>rhs;rw[d]
  refine fE (WR _) (fE ?_ (WR _));cases g
  .exact WR _
  .exact List.nil_sublist _
theorem UT(h:Addr×AB):(Bs h).addrs=[h.1]:=by
 unfold Bs;rw[CG,OV.BN,OV.D3,OV.BN,OV.D3,OV.D8];rfl
theorem MJ:∀hs:List (Addr×AB),OV.AL (hs.map Bs)=hs.map (·.1)
 | []=>OV.D8
 |h::r=>by rw[Ap,OV.BN,UT,MJ r];rfl
theorem My:∀(es:List El)(e:El),e∈es->e.1∈OV.AL (es.map D9)∨e.1∈B5 es
 | [],e,h=>absurd h An
 |d::r,e,h=>by
  rw[Ap,OV.BN,B5];rcases List.mem_cons.mp h with rfl|h
  .obtain⟨b,x⟩:=e;cases x with
   |none=>exact .inr (by rw[hZ rfl];exact D2)
   |some x=>exact .inl (List.mem_append.mpr (.inl (by show b∈(Bs (b,x)).addrs;rw[UT];exact D2)))
  .rcases My r e h with z|z
   .exact .inl (List.mem_append.mpr (.inr z))
   .refine .inr ?_;split
    .exact CM _ z
    .exact z
theorem aD:∀(es:List El),(OV.AL (es.map D9)).Nodup->(B5 es).Nodup->(∀x∈OV.AL (es.map D9),x∉B5 es)->(es.map (·.1)).Nodup
 | [],_,_,_=>JW
 | (b,x)::r,h1,h2,h3=>by
  rw[Ap,OV.BN]at h1 h3;rw[B5]at h2 h3;have i:=(List.nodup_append.mp h1).2.1;have sub:∀y,y∈B5 r->y∈(if((b,x):El).2=none then((b,x):El).1::B5 r else B5 r):=λy a=>by
   split
   .exact CM _ a
   .exact a
  have h:(B5 r).Nodup:=by
   split at h2
   .exact(List.nodup_cons.mp h2).2
   .exact h2
  have g:=aD r i h λy a z=>h3 y (List.mem_append.mpr (.inr a)) (sub y z);refine List.nodup_cons.mpr ⟨λhm=>?_,g⟩;obtain⟨e,d,j⟩:=List.mem_map.mp hm;have c:e.1=b:=j;cases x with
  |none=>
   rw[hZ rfl]at h2 h3;rcases My r e d with z|z
   .exact h3 e.1 (List.mem_append.mpr (.inr z)) (by rw[c];exact D2)
   .exact(List.nodup_cons.mp h2).1 (show b∈B5 r from by rw[<- c];exact z)
  |some x=>
   have f:b∈(D9 (b,some x)).addrs:=by show b∈(Bs (b,x)).addrs;rw[UT];exact D2
   rcases My r e d with z|z
   .exact(List.nodup_append.mp h1).2.2 b f e.1 z c.symm
   .exact h3 b (List.mem_append.mpr (.inl f)) (sub b (by rw[<- c];exact z))
theorem Ae.dg{F H:Hp}:∀{us:List OV}{vs:List V},Ae F H vs us->∀u∈us,∃v,AZ F H v u
 | [],_,_,u,h=>absurd h An
 |w::r,_,q,u,h=>by
  obtain⟨v,ws,rfl,a,b⟩:=q.inv;rcases List.mem_cons.mp h with rfl|h
  .exact⟨v,a⟩
  .exact Ae.dg b u h
theorem Ae.fill{F H:Hp}{ct:Addr->AB}:∀{es:List El}{vs:List V},Ae F H vs (es.map D9)->(∀b∈B5 es,AZ F H (.ref b) (Bs (b,ct b)))->Ae F H vs (es.map λe=>Bs (e.1,Az ct e))
 | [],_,q,_=>q
 | (b,x)::r,_,q,h=>by
  obtain⟨v,ws,rfl,a,d⟩:=Ae.inv q;have sub:∀y,y∈B5 r->y∈B5 ((b,x)::r):=λy c=>by
   rw[B5];split
   .exact CM _ c
   .exact c
  refine .cons ?_ (Ae.fill d λy c=>h y (sub y c));cases x with
  |some x=>exact a
  |none=>
   have f:v=.ref b:=Rep.inv (AZ.inv a);subst f;exact h b (by rw[B5,hZ rfl];exact D2)
section
variable[Xw]
variable{K:yo}
theorem qO(hi:ss[i]?=some (.ow false (.nd .lst a (hs.map Bs))))(P:∀h∈hs,ct h.1=h.2)
  (h:Wx ss te λm u=>m=[]/\∃(c:Addr)(es:List El)(q:PV),u=.tp [.nd .lst c (es.map D9),.fz q]/\(B5 es).Sublist (hs.map (·.1))/\nx ((ss.set i (.ow false (.nd .lst c (es.map λe=>Bs (e.1,Az ct e))))).set j (.is q))) :
  Ws ss (Dq te (JL K 2 (FP (Bt i) (FP (Bt j) KZ)))) nx R:=⟨λE D O F H S T hr=>
 h.go E O F H _ S λv m u F1 H1 f r nd g z=>by
  obtain⟨rfl,c,es,q,rfl,sub,kk⟩:=z;obtain⟨_,_,rfl,e,r⟩:=r.inv;obtain⟨_,_,rfl,t,r⟩:=r.inv;obtain⟨_,_,rfl,l,r⟩:=r.inv;obtain rfl:=r.Ca;have l:Rep _ _ _:=l.inv;have FF:=t;obtain⟨vs,rfl,U,_,_,J⟩:=t.inv;refine⟨_,_,rfl,Ao.of (f.st.fh _ _ e),rfl,_,_,rfl,_,_,rfl,rfl,?_⟩;obtain⟨Z,e0,N,Br,w⟩:=f.st.ok i _ hi;rw[CG,MJ]at Br;have hd:(hs.map (·.1)).Nodup:=(List.nodup_cons.mp Br).2
  obtain⟨_,rfl,_,_,_,L⟩:=N.inv;have X:(OV.tp [OV.nd .lst c (es.map D9),.fz q]).addrs=c::OV.AL (es.map D9):=by
   rw[OV.Ee,OV.BN,OV.BN,OV.D3,OV.D8,CG,D0,D0]
  rw[X]at nd g;have own:∀b∈B5 es,b∈(OV.nd .lst a (hs.map Bs)).addrs:=λb o=>by
   rw[CG,MJ];exact CM _ (sub.subset o)
  have fresh:∀x∈c::OV.AL (es.map D9),H x=none:=λx hx=>by
   rcases(g x hx).2.2 with⟨_,z,_⟩|z
   .cases z
   .exact z
  have C:∀x∈c::OV.AL (es.map D9),x∉B5 es:=λx hx z=>S.DU hi (own x z) (fresh x hx);have Q:∀b∈B5 es,AZ F1 H1 (.ref b) (Bs (b,ct b)):=λb o=>by
   obtain⟨h',hm,rfl⟩:=List.mem_map.mp (sub.subset o);rw[P h' hm];obtain⟨v,p⟩:=L.dg (Bs h') (xo hm);have σ:=p;obtain⟨_,V,_⟩:=AZ.inv p;rw[<- V];exact σ
  have M:=J.fill Q;have G:OV.AL (es.map λe=>Bs (e.1,Az ct e))=es.map (·.1):=by
   have:=MJ (es.map λe=>(e.1,Az ct e));rw[CA,CA]at this;exact this
  have Y:=Sg.T7 (j:=i) (m:=[i]) (v:=.ref c) (u:=.nd .lst c (es.map λe=>Bs (e.1,Az ct e))) S f.st (.nd (k:=.lst) U trivial trivial M) (by
   rw[CG,G];refine List.nodup_cons.mpr ⟨λhm=>?_,aD es (List.nodup_cons.mp nd).2 (sub.nodup hd) λx hx=>C x (CM _ hx)⟩;obtain⟨d,VR,B⟩:=List.mem_map.mp hm;rcases My es d VR with z|z
   .exact(List.nodup_cons.mp nd).1 (B▸z)
   .exact C c D2 (B▸z)) λx hx=>?_
  .exact T _ _ F1 H1 kk (by
    have I:=Y.Ei (j:=j) l;have W:(Fz.Cg [i] ss).set i (.ow false (.nd .lst c (es.map λe=>Bs (e.1,Az ct e))))=ss.set i (.ow false (.nd .lst c (es.map λe=>Bs (e.1,Az ct e)))):=by show(ss.set i .any).set i _=_;rw[Nc]
    rw[W]at I;exact I) f.ff
  .rw[CG,G]at hx;have A:∀x∈c::OV.AL (es.map D9),F1 x=none/\E.H0 x=none/\((∃y∈[i],∃s,s≠Slot.AO/\ss[y]?=some s/\B3 s O[y]? x)∨H x=none):=λx hx=>⟨(g x hx).1,(g x hx).2.1,.inr (fresh x hx)⟩;rcases List.mem_cons.mp hx with d|hx
   .exact A x (by rw[d];exact D2)
   .obtain⟨d,VR,rfl⟩:=List.mem_map.mp hx;rcases My es d VR with z|z
    .exact A _ (CM _ z)
    .have n:=own _ z;exact⟨(w _ n).1,(w _ n).2.elim id (λz=>by cases z.1),.inl ⟨i,D2,_,by simp,hi,n⟩⟩⟩
end
theorem Ae.Y0{F H:Hp}:∀{hs:List (Addr×AB)}{vs:List V},Ae F H vs (hs.map Bs)->AG F vs (hs.map λh=>Hk h.1)
 | [],_,q=>by cases q.Ca;exact .nil
 |h::r,_,q=>by
  obtain⟨v,ws,rfl,a,b⟩:=Ae.inv q;obtain⟨_,rfl,_⟩:=AZ.inv a;exact .cons .con (Ae.Y0 b)
theorem ly[Xw]{k:Bool->List PV->Prop}(h:Wl ss i t te λ_ u=>∃(a:Addr)(hs:List (Addr×AB)),u=.nd .lst a (hs.map Bs)/\k false (hs.map λh=>Hk h.1)):Wq ss te k:=⟨λE O F H Q S q=>
 h.go E O F H _ S λv p u F1 H1 b d h1 AE=>by
  obtain⟨a,hs,rfl,kk⟩:=AE;have np:Bo ss O a:=b.st.Jv h.hi.choose_spec (OV.Ek h1 a (by rw[OV.CZ];simp)) (by simp);obtain⟨_,rfl,e,f,g,c⟩:=d.inv;exact q _ false _ F1 H1 b ⟨a,_,rfl,np,e,c.Y0⟩ kk⟩
noncomputable def HJ(x:AB):PV:=.lst [.str x.1,.bl x.2]
theorem ZK:∀hs:List (Addr×AB),OV.BH (hs.map Bs)=(hs.map (·.2)).map HJ
 | []=>by rw[Gp,OV.BH];rfl
 |h::r=>by
  rw[Ap,OV.BH,ZK r];unfold Bs;simp only[OV.pv,OV.BH];rfl
theorem MF:(OV.nd .lst a (hs.map Bs)).pv=.lst ((hs.map (·.2)).map HJ):=by
 show PV.lst (OV.BH _)=_;rw[ZK]
def b8(k:Kd):PV:=.tup [.tup (k.ps.map BV),.bl k.g]
def Ma(a:Addr)(ks:List Kd):OV:=.nd (.B1 (Bx (wk ks))) a (ks.map λk=>.fz (b8 k))
theorem Yf:∀{cs:List Str}{us:List OV},us.length=(cs.map PV.str).length->(∀(j:Nat)(x:PV)(u:OV),(cs.map PV.str)[j]?=some x->us[j]?=some u->∃(c:Str)(b:Addr),x=.str c/\u=Bs (b,(c,true)))->∃hs:List (Addr×AB),us=hs.map Bs/\hs.map (·.2)=cs.map λc=>(c,true)
 | [],us,hl,_=>by
  cases us with
  |nil=>exact⟨[],rfl,rfl⟩
  |cons u r=>cases hl
 |c::cs,us,hl,h=>by
  cases us with
  |nil=>cases hl
  |cons u r=>
   obtain⟨i,b,a,g⟩:=h 0 _ _ rfl rfl;injection a with a
   subst a;obtain⟨hs,f,e⟩:=Yf (cs:=cs) (us:=r) (Lq hl) λj x u hx d=>h (j+1) x u hx d;exact⟨(b,(c,true))::hs,by rw[g,f];rfl,by rw[Ap,e];rfl⟩
theorem UA:∀x y:AB,HJ x=HJ y->x=y:=λx y e=>by
 unfold HJ at e;injection e with e
 injection e with e1 e2
 injection e2 with e2 _
 injection e1 with e1
 injection e2 with e2
 exact Prod.ext e1 e2
theorem OD(th:List AB):((th.filter λ_=>true).map λx=>PV.bl x.2)=(th.map (·.2)).map PV.bl/\(th.map (·.2)).any id=Bf th:=by
 refine⟨?_,?_⟩
 .rw[List.filter_eq_self.mpr λ_ _=>rfl,CA];rfl
 .unfold Bf;rw[List.any_map];rfl
theorem cH:∀th:List AB,FR (th.map λx=>PV.str x.1)=true
 | []=>rfl
 |x::r=>by
  rw[Ap];unfold FR;rw[cH r];rfl
def V8:Pre:=λl R=>∃(ks:List Kd)(cs:List Str)(r:Str)(m:Nat),l=[.is (.lst (ks.map Kd.P)),.is (.lst (cs.map .str)),.is (.str r),.is (.int m)]/\KG ks/\(cs.length<=12/\∀c∈cs,c∈wk ks)/\r∈Fi/\m<=400/\R=.is λp=>p=Ci (Cu ks m (EX r cs))
noncomputable def isA(th:List AB)(n:Nat):Bool:=(th.getD n ("", false)).2
noncomputable def EY(s:Rn):List Nat:=(List.range (s.th.length - s.gap)).map (s.gap + ·)
def LL(s:Rn):List Nat:=(EY s).filter (isA s.th)
def XU(s:Rn):List Nat:=(List.range s.gap).filter (isA s.th)
theorem MW(h:th[n]?=some x):isA th n=x.2:=by
 unfold isA;rw[Eo,h];rfl
theorem YM(th:List AB)(g n:Nat):isA th (g+n)=isA (th.drop g) n:=by
 unfold isA;rw[Eo,Eo,xk]
theorem P4(b:Bf l=true):isA l (l.findIdx (·.2))=true/\l.findIdx (·.2)<l.length/\∀j,j<l.findIdx (·.2)->isA l j=false:=by
 have hi:l.findIdx (·.2)<l.length:=by
  refine List.findIdx_lt_length.mpr ?_;unfold Bf at b;exact List.any_eq_true.mp b
 refine⟨?_,hi,λj a=>?_⟩
 .rw[MW (Am hi)];exact List.findIdx_getElem (w:=hi)
 .have:=xq a;rw[MW (Am (fb a hi))]
  simpa using this
theorem Qq(c:Bf l=true)(a:l.findIdx (·.2)<n):((List.range n).filter (isA l)).head?=some (l.findIdx (·.2)):=by
 obtain⟨h1,h2,d⟩:=P4 c;rw[List.head?_filter,List.find?_range_eq_some];exact⟨h1,List.mem_range.mpr a,λj b=>by rw[d j b];rfl⟩
theorem Xv(a:Bf l=false)(j:Nat):isA l j=false:=by
 cases e:l[j]? with
 |none=>unfold isA;rw[Eo,e];rfl
 |some x=>
  rw[MW e];cases ex:x.2 with
  |false=>rfl
  |true=>
   have:Bf l=true:=List.any_eq_true.mpr ⟨x,Dn e,ex⟩;rw[this]at a;cases a
theorem ZW(s:Rn):LL s=((List.range (s.th.drop s.gap).length).filter (isA (s.th.drop s.gap))).map (s.gap + ·):=by
 unfold LL EY;rw[List.filter_map,JS]
 congr 2
 funext n
 exact YM _ _ _
theorem YI(s:Rn):decide (LL s=[])=Bv s:=by
 rw[ZW];unfold Bv;cases e:Bf (s.th.drop s.gap)with
 |true=>
  have:=Qq e (P4 e).2.1;rw[ij λz=>by
   have z:=List.map_eq_nil_iff.mp z;rw[z]at this;cases this];rfl
 |false=>
  rw[iN (by rw[List.filter_eq_nil_iff.mpr λj _=>by rw[Xv e j];decide];rfl)];rfl
theorem vc(b:Bf s.th=true):(LL s++XU s)[0]?=some (As s):=by
 rw[<- List.head?_eq_getElem?];unfold As;cases e:Bf (s.th.drop s.gap)with
 |true=>
  have a:Bv s=false:=by unfold Bv;rw[e];rfl
  rw[a,ZW];have h:=Qq e (P4 e).2.1;rw[List.head?_append,List.head?_map,h];rfl
 |false=>
  have a:Bv s=true:=by unfold Bv;rw[e];rfl
  have f:LL s=[]:=ib (by rw[YI,a]);rw[a,f,Fb];show _=some (0+(s.th.drop 0).findIdx (·.2))
  rw[NZ,Nat.zero_add];refine Qq b (Nat.lt_of_not_le λz=>?_);have h1:=(P4 b).1;obtain⟨d,c⟩:=Nat.exists_eq_add_of_le z;rw[c,YM,Xv e]at h1;cases h1
theorem tQ(s:Rn):KL (s.gap:Int) ((s.th.length:Int) - (s.gap:Int)).toNat=(EY s).map λn:Nat=>PV.int n:=by
 unfold KL EY;rw[CA,show((s.th.length:Int) - (s.gap:Int)).toNat=s.th.length - s.gap by omega];rfl
theorem dS(h:n∈EY s):n<s.th.length:=by
 obtain⟨j,a,rfl⟩:=List.mem_map.mp h;have:=List.mem_range.mp a;omega
theorem sS(r:Str)(th:List AB)(i:Nat)(x:AB)(ps:List (Str×Str))(g:Bool):(EF r th i x ps g).2<=(EF r th i x ps g).1.length:=by
 unfold EF;simp only[C5];cases g <;> simp <;> omega
theorem Xs(ns:List Nat):FR (ns.map λn:Nat=>PV.int n)=true:=Vr _ (λ_=>by simp[De]) ns
theorem uv(ns:List Nat):(ns.map λn:Nat=>PV.int n)=(ns.map λn:Nat=>(n:Int)).map PV.int:=by rw[CA];rfl
theorem XO(h:Bv s=true∨s.Al=0):(C6 s).Al=s.Al+1:=hZ h
theorem mB(h:¬ (Bv s=true∨s.Al=0)):(C6 s).Al=s.Al:=gp h
theorem nW(a:Bf s.th=true):(((EY s).filter (isA s.th)).map (λn:Nat=>PV.int n)++((List.range s.gap).filter (isA s.th)).map (λn:Nat=>PV.int n))[0]?=some (PV.int (As s:Nat)):=by
 rw[<- Cc,Aa,show(EY s).filter (isA s.th)++(List.range s.gap).filter (isA s.th)=LL s++XU s from rfl,vc a];rfl
theorem t4(s:Rn):(((EY s).filter (isA s.th)).map (λn:Nat=>PV.int n)).length+(((List.range s.gap).filter (isA s.th)).map (λn:Nat=>PV.int n)).length<=s.th.length+s.gap:=by
 have h1:=Qg (isA s.th) (EY s);have h2:=Qg (isA s.th) (List.range s.gap);have a:(EY s).length=s.th.length - s.gap:=by unfold EY;rw[AF,Qh]
 rw[Qh]at h2;rw[AF,AF];omega
theorem Xb[Xw]{t:TS}{lt:Bool}(hi:ss[i]?=some (.ow lt u))(h:u.addrs.Nodup->Ws ss t nx R):Ws ss t nx R:=⟨λE D O F H S a hr=>by
 obtain⟨_,_,_,nd,_⟩:=S.ok i _ hi;exact(h nd).go E D O F H S a hr⟩
noncomputable def He:List (Addr×AB)->Addr->AB
 | [],_=>("", false)
 |h::r,b=>if h.1=b then h.2 else He r b
theorem PN:∀{hs:List (Addr×AB)},(hs.map (·.1)).Nodup->∀h∈hs,He hs h.1=h.2
 | [],_,h,hm=>absurd hm An
 |g::r,nd,h,hm=>by
  have a:=List.nodup_cons.mp nd;rw[He];rcases List.mem_cons.mp hm with rfl|hm
  .rw[hZ rfl]
  .rw[gp λz=>a.1 (show g.1∈r.map (·.1)from by rw[z];exact xo hm)]
   exact PN a.2 h hm
theorem kz(E9:s.th=hs.map (·.2))(a:Bf s.th=true):∃b,hs[As s]?=some (b,(AQ s,true)):=by
 obtain⟨x,hx,_,_⟩:=Tv a;have c:AQ s=x:=by unfold AQ;rw[hx]
 rw[E9,Aa]at hx;obtain⟨⟨b,y⟩,h1,h2⟩:=Option.map_eq_some_iff.mp hx;refine⟨b,?_⟩;rw[h1,c,<- h2]
theorem qm{x:Str}(E9:s.th=hs.map (·.2))(h:hs[As s]?=some (b,(x,c))):(hs.set (As s) (b,(x,false))).map (·.2)=(C6 s).th:=by
 show _=s.th.modify (As s) λx=>(x.1,false);rw[E9];refine fF λi=>?_;rw[Aa,WV,fL,Aa]
 by_cases e:As s=i
 .rw[hZ e,hZ (by exact(List.getElem?_eq_some_iff.mp h).1),<- e,h];simp
 .rw[gp e];cases hs[i]? with
  |none=>rfl
  |some y=>simp[e]
theorem jJ(E9:s.th=hs.map (·.2))(h:hs[As s]?=some (b,(AQ s,true)))(nd:((hs.set (As s) (b,(AQ s,false))).map (·.1)).Nodup):
  J0 (He (hs.set (As s) (b,(AQ s,false)))) s.r ((hs.set (As s) (b,(AQ s,false))).map (·.1)) (As s) (Ea ks (AQ s)) (GK ks (AQ s))=((Gz ks s).th,(Gz ks s).gap):=by
 have e:((hs.set (As s) (b,(AQ s,false))).map (·.1)).map (He (hs.set (As s) (b,(AQ s,false))))=(C6 s).th:=by
  rw[<- qm E9 h,CA];exact xn λy a=>PN nd y a
 have c:=(List.getElem?_eq_some_iff.mp h).1;have e0:(hs.set (As s) (b,(AQ s,false)))[As s]?=some (b,(AQ s,false)):=by rw[WV,hZ rfl,hZ c]
 have d:He (hs.set (As s) (b,(AQ s,false))) (((hs.set (As s) (b,(AQ s,false))).map (·.1)).getD (As s) 0)=(AQ s,false):=by
  rw[Eo,Aa,e0];exact PN nd _ (Dn e0)
 unfold J0;rw[e,d];rfl
theorem qC{n:Nat}{q:Rn×List Str}{z:Rn×List Str}(e:Cu ks (m - q.2.length) q=z)(b:q.2.length<m)(a:Bf q.1.th=true):Cu ks (m - (q.2++[AQ q.1]).length) (Gz ks q.1,q.2++[AQ q.1])=z:=by
 rw[<- e,show m - q.2.length=(m - (q.2++[AQ q.1]).length)+1 by rw[C5];simp;omega]
 conv=>rhs;rw[Cu,hZ a]
theorem u7(s:Rn):(C6 s).Al≠0:=by
 unfold C6;show(if Bv s=true∨s.Al=0 then s.Al+1 else s.Al)≠0
 split
 .omega
 .next h=>exact λz=>h (.inr z)
theorem vn{x:Str}{d:Bool}(h:hs[p]?=some (b,(x,c))):(OV.nd .lst a (hs.map Bs)).put [p] (.nd .lst b [.fz (.str x),.fz (.bl d)])=.nd .lst a ((hs.set p (b,(x,d))).map Bs):=by
 rw[OV.Gh (x:=Bs (b,(x,c))) (by rw[Aa,h];rfl),OV.CI,List.map_set];rfl
theorem W5{x:Str}(h:hs[p]?=some (b,(x,c))):(OV.nd .lst a (hs.map Bs)).at [p]=some (.nd .lst b [.fz (.str x),.fz (.bl c)]):=by
 rw[OV.Gy,Aa,h];exact OV.Ej
section
variable[Xw]
variable{K:yo}{ps:List PV}{t0:OV}{lt lj:Bool}{nk:NK}
theorem eZ(j:Nat)(q:List Nat)(g:ss[j]?=some (.ow lj t0))(Q:t0.at q=some (.nd nk b us))
  (h:Wl ss i t ta λp u=>∃lt a us,ss[i]?=some (.ow lt t)/\j≠i/\u=.nd .lst a us/\us.length<=99999/\Wx ss te λm w=>i∉m/\(∀x∈(t0.put q (.fz (.con b []))).addrs,x∉w.addrs)/\nx (((Cg m ss).set i (.ow lt (t.put p (.nd .lst a (us++[w]))))).set j (.ow lj (t0.put q (.fz (.con b [])))))):Ws ss (Ff (Gv K "list" Mu ta (Au te BW))) nx R:=⟨λE D O F H S hn hr=>
 h.go E O F H _ S λv p u F1 H1 f r1 h1⟨lt,a,us,hi,Xh,eu,hz,hw⟩=>by
  subst eu;obtain⟨vs,rfl,U,sd,ft,M⟩:=r1.inv;refine .inl ⟨rfl,_,AS.of U⟩ |> λn=>⟨n,hw.go E O F1 H1 _ f.st λL m w F2 H2 c r2 EH X⟨Cr,qT,kk⟩=>?_⟩;have N:=(AZ.nd (k:=.lst) U sd ft M).mv f.st h.hi h1 c;obtain⟨Ij,e3,N7,eP,dM,Ic⟩:=N.inv;refine⟨a,Ij,L,rfl,rfl,N7,Fp (by rw[Ic.length];exact hz),?_⟩;have S3:=Sg.MS (u:=w) f.st c.st hi h1 X Cr (Ic.append (.one r2)) (by
   rw[Er,GV,BZ];obtain⟨A,e0,σ,Br,n⟩:=c.st.ok i _ hi;have Z:(OV.nd .lst a us).addrs.Nodup:=by
    obtain⟨l,M,r,_⟩:=OV.split h1;rw[r,BZ,BZ]at Br;exact Br.1.2.1
   rw[CG]at Z;refine⟨(List.nodup_cons.mp Z).2,EH,λx hx y hy e=>?_⟩;subst e;have I:x∈t.addrs:=OV.Ek h1 x (by rw[CG];simp[hx]);rcases(X x hy).2.2 with⟨j,g,s,_,hs,o⟩|w
   .exact f.st.BD j i s _ x (by rintro rfl;exact Cr g) hs hi o I
   .exact f.st.DU hi I w) (λb T=>by
   rw[Er,GV]at T;exact List.mem_append.mp T)
  obtain⟨A,e0,σ,Br,n⟩:=c.st.ok j _ g;obtain⟨l,yL,r,W⟩:=OV.split Q;have sub:∀x∈(t0.put q (.fz (.con b []))).addrs,x∈t0.addrs:=λx hx=>by
   rw[W,OV.D3,D0]at hx;rw[r];rcases List.mem_append.mp hx with z|z
   .simp[z]
   .simp[z]
  have at_:a∈t.addrs:=OV.Ek h1 a (by rw[CG];simp);have v7:(t0.put q (.fz (.con b []))).addrs.Nodup:=by
   rw[W,OV.D3,D0];rw[r,BY]at Br;exact Br.sublist (fE (WR _) (List.sublist_append_right _ _))
  obtain⟨wv,B,go⟩:=σ.at Q;obtain⟨_,lP,_⟩:=B.inv;subst lP;have r9:=go (upd H2 a (.lst (Ij++[L]))) (.fz (.con b [])) (.fz .con) λ_ _ G V x hx o ho=>by
   rw[Ab];exact ho;rintro rfl;have:x∈t0.addrs:=by
    rw[G];rcases List.mem_append.mp hx with z|z
    .simp[z]
    .simp[z]
   exact c.st.BD j i _ _ x Xh g hi this at_
  have Y:=S3.setG (j:=j) (s:=.ow lj (t0.put q (.fz (.con b [])))) (v:=A) ⟨A,rfl,r9,v7,λx hx=>n x (sub x hx)⟩ λx hx i2 s2 B2 BE d=>by
   have J:=sub x hx
   by_cases P:i2=i
   .subst P;have AU:i2<(Cg m ss).length:=by have:=(List.getElem?_eq_some_iff.mp BE).1;simpa using this
    rw[DD AU]at BE;cases BE;have d:x∈(t.put p (.nd .lst a (us++[w]))).addrs:=d;obtain⟨l3,N,G,V⟩:=OV.split h1;rw[V,CG,Er,GV]at d;have C:x∈t.addrs∨x∈w.addrs:=by
     rw[G,CG];simp only[HP,IU]at d ⊢;rcases d with(o|o|o|o)|o
     .exact .inl (.inl (.inl o))
     .exact .inl (.inl (.inr (.inl o)))
     .exact .inl (.inl (.inr (.inr o)))
     .exact .inr o
     .exact .inl (.inr o)
    rcases C with z|z
    .exact c.st.BD j i2 _ _ x Xh g hi J z
    .exact qT x hx z
   .rw[Cb (Bk P)]at BE;rcases LS BE with z|⟨z,_⟩
    .subst z;cases d
    .exact c.st.BD j i2 _ _ x (Bk B2) g z J d
  rw[LM e0]at Y;exact hn _ O F2 _ kk Y (f.ff.trans c.ff)⟩
theorem bU{p:List Nat}{k:List Nat->OV->Prop}(m:ss[j]?=some (.ow lj (.tp ys)))(h:ys[n]?=some (.fz (.con b [])))(hi:ss[i]?=some (.ow lt t))(Ak:t.at p=some (.nd nk b us))(l:k p (.nd nk b us)):Wl ss i t (BB (FE K) (BF j) (tC (.int n))) k:=⟨⟨lt,hi⟩,λE O F H Q S q=>by
 obtain⟨v,e,r,_,_⟩:=S.ok j _ m;obtain⟨a0,vs,rfl,o,d⟩:=r.inv;obtain⟨u,g,c⟩:=d.get h;have x:u=.ref b:=Rep.inv (AZ.inv c);subst x;obtain⟨y,z,f,_,_⟩:=S.ok i _ hi;obtain⟨w,a,_⟩:=f.at Ak;obtain⟨_,s,_⟩:=a.inv;subst s;exact⟨_,e,_,_,_,.ref b,rfl,rfl,Ao.of (S.fh _ _ o),CV g,q _ p _ F H (.refl S) a Ak l⟩⟩
end
theorem cL:(X++[u,w])[X.length]?=some u:=by
 rw[ER (Aj _),Nf];rfl
theorem eC:(X++[u,w])[X.length+1]?=some w:=by
 rw[ER (JY _),show X.length+1 - X.length=1 by omega];rfl
theorem eE{l:Addr}(h:Y[n]?=some (.tp [.nd .lst b us,w])):(OV.nd .lst l Y).at [n,0]=some (.nd .lst b us):=by
 rw[OV.Gy,h];show(OV.tp [.nd .lst b us,w]).at [0]=_;rw[OV.Ge];exact OV.Ej
theorem Zg{l:Addr}(h:Y[n]?=some (.tp [.nd .lst b us,w])):(OV.nd .lst l Y).put [n,0] v=.nd .lst l (Y.set n (.tp [v,w])):=by
 rw[OV.Gh h,OV.IY (x:=.nd .lst b us) rfl,OV.CI];rfl
theorem xU:(X++[u,w]).set X.length v=X++[v,w]:=by
 rw[fT _ _ (Aj _),Nf];rfl
theorem gT:(X++[u,w]).set (X.length+1) v=X++[u,v]:=by
 rw[fT _ _ (JY _),show X.length+1 - X.length=1 by omega];rfl
theorem p4[Xw]{c d:TT}{u v:TS}{lt:Bool}(h:N8 ss i lt t c λb t'=>b=false/\Ws (ss.set i (.ow lt t')) (Li d u v) nx R):Ws ss (Li (OH c d) u v) nx R:=⟨λE D O F H S f hr=>
 h.go E O F H _ S λb t' F1 H1 a z=>by
  obtain⟨e,kk⟩:=z;subst e;rw[gp (by decide)];exact kk.go E D O F1 H1 a.st (λA7 σ' F' H' n S' s=>f A7 σ' F' H' n S' (a.ff.trans s)) hr⟩
theorem eG{K:yo}(ws:List Str)(w:Str):dat K 40 (.lst (ws.map .str++[.str w])):=λx hx=>by
 rcases List.mem_append.mp hx with h|h
 .obtain⟨y,_,rfl⟩:=List.mem_map.mp h;trivial
 .rw[List.mem_singleton.mp h];trivial
structure EJ where
 ks:List Kd
 cs:List Str
 r:Str
 m:Nat
structure EJ.ok (c:EJ):Prop where
 g:KG c.ks
 l:c.cs.length<=12
 w:∀x∈c.cs,x∈wk c.ks
 hr:c.r∈Fi
 hm:c.m<=400
def EJ.P(c:EJ)(tp:Bool):PV:=.tup [.lst (c.ks.map Kd.P),IX tp (c.cs.map .str),.str c.r,.int c.m]
def EJ.q(c:EJ):Rn×List Str:=Cu c.ks c.m (EX c.r c.cs)
theorem Ys{ks:List Kd}(b:KG ks):∀(f n:Nat)(q:Rn×List Str),Hm ks n q.1->q.2.length<=n->∃a,a<=n+f/\Hm ks a (Cu ks f q).1/\(Cu ks f q).2.length<=a
 | 0,n,q,h,hl=>⟨n,Aj _,h,hl⟩
 |f+1,n,q,h,hl=>by
  rw[Cu];split
  .next hg=>
   obtain⟨a,h1,h2,c⟩:=Ys b f (n+1) (Gz ks q.1,q.2++[AQ q.1]) (WM b h hg) (by rw[C5];simp;omega);exact⟨a,by omega,h2,c⟩
  .exact⟨n,by omega,h,hl⟩
theorem EJ.ok.run{c:EJ}(h:c.ok):c.q.2.length<=400/\c.q.1.th.length<=2500:=by
 have d:Hm c.ks 0 (EX c.r c.cs).1:=⟨h.hr,λy b=>by
  obtain⟨z,a,rfl⟩:=List.mem_map.mp b;exact h.w z a,by
  show(c.cs.map _).length<=_;rw[AF];have:=h.l;omega⟩
 obtain⟨n,h1,h2,e⟩:=Ys h.g c.m 0 (EX c.r c.cs) d (CN _);have:=h.hm;have:=h2.len;exact⟨by unfold EJ.q;omega,by unfold EJ.q;omega⟩
noncomputable def HW(ks:List Kd):List Kd:=ks.map λk=>⟨k.w,Cw k.ps none (some 1),k.g⟩
noncomputable def YU:PV->PV
 | .tup [w,.tup qs,g]=>.tup [w,.tup (Cw qs none (some 1)),g]
 |p=>p
theorem jI(ks:List Kd):((ks.map Kd.P).filter λ_=>true).map YU=(HW ks).map Kd.P:=by
 rw[List.filter_eq_self.mpr λ_ _=>rfl,CA];unfold HW;rw[CA];refine xn λk _=>?_;show PV.tup [.str k.w,.tup (Cw (k.ps.map BV) none (some 1)),.bl k.g]=.tup [.str k.w,.tup ((Cw k.ps none (some 1)).map BV),.bl k.g];rw[e7]
theorem KG.HW(h:KG ks):KG (HW ks):=by
 have c:wk (Fz.HW ks)=wk ks:=by unfold Fz.HW wk;rw[CA];rfl
 refine⟨?_,?_,?_,λk b=>?_,λk b=>?_⟩
 .unfold Fz.HW;rw[AF];exact h.l1
 .unfold Fz.HW;rw[AF];exact h.l8
 .rw[c];exact h.nd
 .obtain⟨a,UI,rfl⟩:=List.mem_map.mp b;exact h.nm a UI
 .obtain⟨a,UI,rfl⟩:=List.mem_map.mp b;have:=h.ps a UI;refine⟨ES (lS _ _ _) this.1,λp d=>?_⟩;rw[c];exact this.2 p (fR (Wc d))
theorem vJ[Xw]{t:TS}{s:Slot}(i:Nat)(hi:ss[i]?=some s)(hs:s=.is (.lst xs)∨s=.own xs)(h:Ws (ss.set i (.is (.lst xs))) t nx R):Ws ss t nx R:=by
 rcases hs with rfl|rfl
 .have e:ss.set i (.is (.lst xs))=ss:=by
   refine fF λj=>?_;rw[WV];split
   .next e=>
    subst e;rw[hZ (List.getElem?_eq_some_iff.mp hi).1,hi]
   .rfl
  rw[e]at h;exact h
 .exact Gg i hi h
theorem KG.one{w:Str}(h:Nm w):KG [⟨w,[("next", w)],true⟩]:=by
 refine⟨Aj _,(show 1<=8 by decide),List.nodup_cons.mpr ⟨An,JW⟩,λk a=>?_,λk a=>?_⟩
 .rw[List.mem_singleton.mp a];exact h
 .rw[List.mem_singleton.mp a];refine⟨by show 1<=6;decide,λp b=>?_⟩;rw[List.mem_singleton.mp b];exact⟨show("next":Str)∈WH by decide,List.mem_singleton.mpr rfl⟩
theorem vi{t:Int}(a:0<=t)(h:t<8):∃z:Nat,L2.BS [PV.int 0,.int 1,.int 2,.int 5,.int 20,.int 40,.int 60,.int 120] t=some (.int (z:Int))/\z<=120:=by
 rcases(show t=0∨t=1∨t=2∨t=3∨t=4∨t=5∨t=6∨t=7 by omega)with rfl|rfl|rfl|rfl|rfl|rfl|rfl|rfl
 .exact⟨0,rfl,by decide⟩
 .exact⟨1,rfl,by decide⟩
 .exact⟨2,rfl,by decide⟩
 .exact⟨5,rfl,by decide⟩
 .exact⟨20,rfl,by decide⟩
 .exact⟨40,rfl,by decide⟩
 .exact⟨60,rfl,by decide⟩
 .exact⟨120,rfl,by decide⟩
theorem di(p:PV):∀n:Nat,(List.replicate n [p]).flatten=List.replicate n p
 | 0=>rfl
 |n+1=>by rw[Kk,Lm,di p n];rfl
def VA(K:yo):Pre:=λl R=>∃(sc:List Int)(k:Nat),l=[.raw (Ds K sc),.is (.int k)]/\sc.length<=63/\k<=60/\R=.is λp=>∃c:EJ,c.ok/\p=c.P false
def VM(K:yo)(C:Addr):Pre:=λa R=>∃(c:EJ)(tp:Bool)(l:Addr)(hs:List (Addr×List PV)),a=[.is (BX C c.ks),.is (c.P tp),.is (Ci c.q),.ow true (DT l hs)]/\c.ok/\Vh K hs/\hs.length<=99/\
 R=.mt (λp t'=>p=.bl true/\∃Em,t'=DT l Em/\Em.length<=hs.length+2/\Vh K Em)
theorem cX(th:List AB):C8 th=(th.map (·.1)).map .str:=by unfold C8;rw[CA];rfl
theorem Vx{K:yo}(q:Rn×List Str):dat K 40 (Ci q):=λx hx=>by
 simp only[IU,An,qM]at hx;rcases hx with rfl|rfl|rfl|rfl
 .exact Mc (K:=K) (d:=38) _
 .rw[cX];exact Mc (K:=K) (d:=38) _
 .trivial
 .trivial
def EE(u1 u2:OV)(q:Rn×List Str):OV:=.tp [u1,u2,.fz (.int q.1.Al),.fz (.bl (!Bf q.1.th))]
theorem pY{q:Rn×List Str}:(EE u1 u2 q).at [0]=some u1:=by
 unfold EE;rw[OV.Ge];exact OV.Ej
theorem pP{q:Rn×List Str}:(EE u1 u2 q).at [1]=some u2:=by
 unfold EE;rw[OV.Ge];exact OV.Ej
theorem aG{q:Rn×List Str}:(EE u1 u2 q).put [0] v=EE v u2 q:=by
 unfold EE;rw[OV.IY (x:=u1) rfl,OV.CI];rfl
theorem df{q:Rn×List Str}:(EE u1 u2 q).put [1] v=EE u1 v q:=by
 unfold EE;rw[OV.IY (x:=u2) rfl,OV.CI];rfl
theorem Tb{q:Rn×List Str}:(EE u1 u2 q).addrs=u1.addrs++u2.addrs:=by
 unfold EE;rw[OV.Ee,OV.BN,OV.BN,OV.BN,OV.BN,OV.D3,OV.D3,OV.D8];simp
theorem iP{p:PV}:(OV.tp [u,.fz p]).addrs=u.addrs:=by
 rw[OV.Ee,OV.BN,OV.BN,OV.D3,OV.D8];simp
theorem cM:∀{a b:List Kd},a.map Kd.P=b.map Kd.P->a=b
 | [],[],_=>rfl
 | [],_::_,h=>by cases h
 |_::_,[],h=>by cases h
 |x::a,y::b,h=>by
  rw[Ap,Ap]at h;injection h with h1 h2
  rw[Kd.inj _ _ h1,cM h2]
theorem YQ(a b:EJ)(h:a.P false=b.P false):a=b:=by
 obtain⟨k1,n,k,i⟩:=a;obtain⟨l,m,j,g⟩:=b;unfold EJ.P at h;injection h with h
 injection h with f h
 injection h with e h
 injection h with d h
 injection h with c _
 injection f with f
 injection e with e
 injection d with d
 injection c with c
 have c:(i:Int)=(g:Int):=c;have c:i=g:=by omega
 have d:k=j:=d;have f:k1=l:=cM f;have e:n=m:=ZY e;rw[f,e,d,c]
end Fz
set_option maxHeartbeats 8000000
namespace Pf
open L2 Lw
variable{w:World}{mg:yq}{ZB h:Heap}{A5 A8 Ie JA f:Addr}{α:Type}{Sk TF UL Uu VT:Tok}{l:PySem.W.OpenLaw}{gs u5:Option Addr}{gF qy:Array (Option Value)}
abbrev St:=L2.St
noncomputable def top(i:Nat):Stmt:=PySem.Challenge.pw_stirround_k73_loops_that_run.main.body.getD i (.Pass ⟨0,0,0,0⟩)
abbrev RI:Stmt:=top 32
abbrev SR:Stmt:=top 33
abbrev RW:Stmt:=top 34
abbrev V7:Stmt:=top 35
abbrev WI:Stmt:=top 37
abbrev Se:Stmt:=top 31
abbrev P8:Stmt:=top 38
abbrev Vu:Stmt:=top 39
abbrev Om:Stmt:=top 43
abbrev Ue:Stmt:=top 28
abbrev U8:Stmt:=top 27
abbrev OG:Stmt:=top 10
abbrev Oe:Stmt:=top 26
abbrev Tg:Stmt:=Gb (top 23) 0
abbrev QH:Stmt:=top 42
abbrev Ss:Stmt:=top 41
abbrev HX:Stmt:=top 40
abbrev PR:Stmt:=Gb (top 25) 0
abbrev Su:Stmt:=Gb (top 25) 1
abbrev SU:Stmt:=Gb (top 25) 2
abbrev SW:Stmt:=top 12
abbrev Sh:Stmt:=top 17
abbrev SY:Stmt:=Gb (top 25) 5
abbrev RS:Stmt:=Gb (top 25) 4
abbrev Ve:Stmt:=top 13
abbrev WJ:Stmt:=Gb (top 25) 6
abbrev RB:Stmt:=Gb (top 25) 3
abbrev T2:Stmt:=Gb (top 23) 2
abbrev Rr:Stmt:=Gb (top 23) 3
abbrev TC:Stmt:=top 16
abbrev Qr:Stmt:=Gb (top 23) 1
abbrev RH:Stmt:=top 29
abbrev UJ:Stmt:=top 24
abbrev UU:Stmt:=top 36
abbrev VI:Stmt:=top 44
abbrev ID:Stmt:=top 45
variable{P:Program}{K:yo}{fd:FuncData}
def Ux{us:List α}(h:us.length=1):∃a,us=[a]:=by
 rcases us with _|⟨a,_|⟨b,us⟩⟩
 .cases h
 .exact⟨a,rfl⟩
 .cases h
def ln2{us:List α}(h:us.length=2):∃a b,us=[a,b]:=by
 rcases us with _|⟨a,us⟩
 .cases h
 .obtain⟨b,rfl⟩:=Ux (Lq h);exact⟨a,b,rfl⟩
def cO{us:List α}(h:us.length=3):∃a b c,us=[a,b,c]:=by
 rcases us with _|⟨a,us⟩
 .cases h
 .obtain⟨b,c,rfl⟩:=ln2 (Lq h);exact⟨a,b,c,rfl⟩
def cv{us:List α}(h:us.length=4):∃a b c d,us=[a,b,c,d]:=by
 rcases us with _|⟨a,us⟩
 .cases h
 .obtain⟨b,c,d,rfl⟩:=cO (Lq h);exact⟨a,b,c,d,rfl⟩
def YE{us:List α}(h:us.length=5):∃a b c d e,us=[a,b,c,d,e]:=by
 rcases us with _|⟨a,us⟩
 .cases h
 .obtain⟨b,c,d,e,rfl⟩:=cv (Lq h);exact⟨a,b,c,d,e,rfl⟩
def m8{us:List α}(h:us.length=6):∃a b c d e f,us=[a,b,c,d,e,f]:=by
 rcases us with _|⟨a,us⟩
 .cases h
 .obtain⟨b,c,d,e,f,rfl⟩:=YE (Lq h);exact⟨a,b,c,d,e,f,rfl⟩
local macro_rules | `(tactic| walk_at "bD1")=>`(tactic| (intro _ _ _ _ _ _ us hl;obtain⟨_,e⟩:=Ux hl;subst e;rfl))
local macro_rules | `(tactic| walk_at "bD2")=>`(tactic| (intro _ _ _ _ _ _ us hl;obtain⟨_,_,e⟩:=ln2 hl;subst e;rfl))
local macro_rules | `(tactic| walk_at "bD3")=>`(tactic| (intro _ _ _ _ _ _ us hl;obtain⟨_,_,_,e⟩:=cO hl;subst e;rfl))
local macro_rules | `(tactic| walk_at "bD4")=>`(tactic| (intro _ _ _ _ _ _ us hl;obtain⟨_,_,_,_,e⟩:=cv hl;subst e;rfl))
local macro_rules | `(tactic| walk_at "bD5")=>`(tactic| (intro _ _ _ _ _ _ us hl;obtain⟨_,_,_,_,_,e⟩:=YE hl;subst e;rfl))
local macro_rules | `(tactic| walk_at "bD6")=>`(tactic| (intro _ _ _ _ _ _ us hl;obtain⟨_,_,_,_,_,_,e⟩:=m8 hl;subst e;rfl))
abbrev nS(K:yo)(x:Str)(v:Value):Prop:=PySem.W.nsIn K mainGlobals x=some (some v)
abbrev nN(K:yo)(x:Str):Prop:=PySem.W.nsIn K mainGlobals x=some none
open Fz
def ZWM(t:String):Lean.MacroM (Lean.TSyntax `tactic):=do
 let g:Lean.TSyntax `tactic←`(tactic| fail)
 let k←`(tactic| case wk=>rfl)
 let n (s:String):=`(tactic| walk_at $(Lean.quote s):str)
 (t.splitOn " ").foldrM (λs r=>do
  let l:=((s.drop 1).toString.splitOn "/").map λx=>Lean.mkIdent (`Fz++x.toName)
  let h:Lean.Ident:=l.getLast!
  let c:=s.front
  let w:=(h.getId.getString!.toLower.replace "o" "e").replace "i" "e"
  let z←if c=='j' then `($h ?wj ?wk ?_)else if c=='k'||c=='K' then `($h ?wk ?_)else `($h ?_)
  let z←l.dropLast.foldrM (λ(f:Lean.Ident)(z:Lean.Term)=>`($f ($z))) z
  let p←if c=='e' then `(tactic| show ∃_,_=$h _/\_)else if c=='s' then `(tactic| show $h _ _ _)else `(tactic| refine' $z)
  let p←if c=='K'||c=='R'||c=='j' then pure p else `(tactic| with_reducible $p:tactic)
  let q←if c=='e' then `(tactic| refine⟨_,rfl,?_⟩)else if c=='s' then n w else if c=='n' then n "wn" else if c=='p' then n "wp" else if c=='k'||c=='K' then pure k else if c=='j' then `(tactic| ((case wj=>rfl);$k:tactic))else `(tactic| skip)
  `(tactic| first|($p:tactic;$q:tactic) | $r:tactic)) g
local macro_rules | `(tactic| walk_at "wp")=>ZWM "kGj/LD/B6 kGj/IG/B6 kGj/LD/LD/B6 kGj/IG/IG/B6 kGj/IG/LD/B6 kMm/B6 kMm/IG/B6 kMm/LD/B6 kA9 rAc rEb rIB rgi rHd rXC rFQ rPj rTJ rTL rPL rwC rPY rDW rBi rmE rY5 rHA rtP rcT rbI rSl kU3 KvE KbG KYv KV2 KTN"
local macro_rules | `(tactic| walk_at "wn")=>ZWM "rHu rOP rLr KMQ"
local macro_rules | `(tactic| walk_at "wq")=>do
 let z←ZWM "kLF/B6 kLF/LD/B6 kLF/IG/B6 kYw kYg kG1 kC2"
 `(tactic| first | $z:tactic|(refine BO (Dm ?_);walk_at "wn")|(refine BO ?_;walk_at "wp"))
local macro_rules | `(tactic| walk_at "wz")=>`(tactic| first
 | ((with_reducible refine' Yq ?wk ?_);(case wk=>rfl))
 | (refine FY (Dm ?_);walk_at "wn")
 | (refine FY ?_;walk_at "wp"))
local macro_rules | `(tactic| walk_at "wt")=>ZWM "rDx rFG rG0 rL7 rWA rKz"
local macro_rules | `(tactic| walk_at "we")=>ZWM "rBg rDQ roK rqI rmz rtT rk9 rGd"
local macro_rules | `(tactic| walk_at "w")=>do
 let z←ZWM "rAW rFN rDt rCH kOh kZu kZ7 nG4 pFU nOx pEz"
 let z1←ZWM "eOV.tp eOV.fz"
 let z2←ZWM "sWn sWq sWz sWt sWe sWo sWi"
 let z3←ZWM "ePV.int ePV.str ePV.bl"
 `(tactic| first | $z1:tactic|((with_reducible show ∃_ _,_=OV.nd NK.lst _ _/\_);refine⟨_,_,rfl,?_⟩)|((with_reducible show ∃_ _ _,_=PV.int _/\_/\_/\_);refine⟨_,_,_,rfl,rfl,rfl,?_⟩)|((with_reducible show Wp _ _ _);first|walk_at "wp" | (refine Dm ?_;walk_at "wn")) | $z2:tactic|((with_reducible show Ws _ _ _ _);$z:tactic) | $z3:tactic|((with_reducible show(_:Bool)=_/\_);refine⟨rfl,?_⟩)|((with_reducible show ∃_ _,_=PV.int _/\L2.BS _ _=some _/\_);refine⟨_,_,rfl,rfl,?_⟩)|((with_reducible show ∃_,(_=PV.lst _/\_)∨(_=PV.tup _/\_));first|refine⟨_,.inl ⟨rfl,?_⟩⟩|refine⟨_,.inr ⟨rfl,?_⟩⟩)|((with_reducible show ∃_,_=List.map _ _/\_);first|refine⟨_,rfl,?_⟩|refine⟨[],rfl,?_⟩|refine⟨_,e7 _ _ _ _,?_⟩))
local macro_rules | `(tactic| walk_at "ww")=>`(tactic| repeat walk_at "w")
local macro_rules | `(tactic| walk_at "z1")=>`(tactic| exact⟨rfl,rfl,rfl,by decide +kernel,rfl,by decide +kernel,by decide +kernel⟩)
local macro_rules | `(tactic| walk_at "z2")=>`(tactic| exact⟨rfl,by decide +kernel,by decide +kernel,rfl,rfl,by decide +kernel,by decide +kernel,by decide +kernel,by decide +kernel⟩)
def cC:BA ["pot","many","found"] ["pot","many"] (Af RI):=by walk_at "z1"
variable(MN:AR P w K mg ZB "_law_letters" 1 ["number"] (d6))(Bz:AR P w K mg ZB "_law_take" 1 ["pot","many"] (Je))(BI:mg "len"=none)(Ub:AR P w K mg ZB "_law_name" 2 ["pot","names"] (ZX K))(Et:mg "range"=none)(V6:AR P w K mg ZB "_law_names" 3 ["pot","many"] (VG))(UC:mg "max"=none)(G6:mg "tuple"=none)(Uw:AR P w K mg ZB "_law_crowd" 2 ["pot","kinds"] (Ai SM))(UK:AR P w K mg ZB "_law_kinds" 4 ["pot"] (Ai Rw))(Q8:AR P w K mg ZB "_law_pot" 1 ["script","k"] (Nk K))(R7:AR P w K mg ZB "_law_rule" 2 ["pot"] (Ai SA))(Fc:mg "int"=none)(Ft:AR P w K mg ZB "check_word" 1 ["words","word"] (Ai L3))(Vm:mg "WHERES"=some (.ref Ie))(Vb:∀H,Ao K H Ie [.str "next",.str "last",.str "back",.str "first"])(Ko:mg "all"=none)(RJ:mg "LETTERS"=some (.str "abcdefghijklmnopqrstuvwxyz" TF))(Tp:mg "MOST_LETTERS"=some (.int 8 Sk))(Ra:AR P w K mg ZB "check_puts" 2 ["words","puts"] (Ai VW))(Rh:AR P w K mg ZB "is_name" 1 ["text"] (VB))(Ur:mg "enumerate"=none)(Vl:mg "MOST_KINDS"=some (.int 8 VT))(U0:mg "MOST_PUTS"=some (.int 6 Uu))(TQ:AR P w K mg ZB "check_kinds" 3 ["kinds"] (Ai TR))(DZ:BK K A8)(J3:B0 K A8 "goes_by_word")(GH:B0 K A8 "puts_by_word")(T4:NU P w K mg ZB A8 4 ["self","kinds"] (Dc (R4 A8)))(Dj:mg "list"=none)(Rv:mg "Errands"=some (.ref A8))(SI:AR P w K mg ZB "_law_errand" 2 ["stand","at","errand","rule"] (Ai SK))(QC:mg "any"=none)(Aq:BK K A5)(E8:B0 K A5 "awaited")(Cj:B0 K A5 "gap")(Gu:B0 K A5 "rounds")(LC:B0 K A5 "rule")(E1:B0 K A5 "things")(Um:AR P w K mg ZB "gap_behind_put" 1 ["gap","at"] (Ai VO))(Va:AR P w K mg ZB "joins" 1 ["loop","at"] (Ai Rb))(Sf:AR P w K mg ZB "gap_behind_take" 1 ["gap","place"] (Ai VS))(Vn:DV P w K mg ZB A5 "place_by" 2 ["self","where","nexts"] (Ai (Ry A5)))(Tq:DV P w K mg ZB A5 "put_in" 3 ["self","word","at"] (Dc (W7 A5)))(Uo:DV P w K mg ZB A5 "take_out" 3 ["self","place"] (Dc (Sr A5)))(Sa:mg "RULES"=some (.ref JA))(R8:∀H,Ao K H JA [.str "none",.str "ahead",.str "all"])(Ut:DV P w K mg ZB A8 "words" 1 ["self"] (Ai (Rl A8)))(Ug:mg "MOST_IN_CROWD"=some (.int 12 UL))(R5:DV P w K mg ZB A8 "goes" 2 ["self","word"] (Ai (Uz A8)))(WC:DV P w K mg ZB A8 "puts" 2 ["self","word"] (Ai (U7 A8)))(Sw:NU P w K mg ZB A5 2 ["self","crowd","rule"] (Dc (Ua A5)))(Ul:DV P w K mg ZB A5 "do_errand" 4 ["self","puts","goes"] (Dc (UD A5)))(Q3:DV P w K mg ZB A5 "goes_on" 2 ["self"] (Ai (Sd A5)))(Rc:DV P w K mg ZB A5 "tell" 3 ["self"] (Dc (WB A5)))(Sj:AR P w K mg ZB "check_crowd" 2 ["book","crowd"] (Ai (TU A8)))(SE:AR P w K mg ZB "check_rule" 1 ["rule"] (Ai WE))(Ui:mg "Run"=some (.ref A5))(L6:mg "bool"=none)(Gx:mg "isinstance"=none)(Uc:AR P w K mg ZB "_law_whole" 1 ["found"] (Ai SV))(VF:AR P w K mg ZB "ran" 6 ["book","crowd","rule","most"] (Ai (UM A8)))(Rz:AR P w K mg ZB "_law_book" 6 ["kinds"] (Ai (Vo A8)))(OL:AR P w K mg ZB "_law_case" 5 ["script","k"] (Ai (VA K)))(O7:AR P w K mg ZB "_law_right" 7 ["book","case","due","held"] (Dc (VM K A8)))(Rm:AR P w K mg ZB "_law_run" 3 ["kinds","crowd","rule","most"] (Ai V8))
def uP(F:AV K "_law_take" "_law_take" RI f fd)(m:mg "_law_take"=some (.ref f)):
  AR P w K mg ZB "_law_take" 1 ["pot","many"] (Je):=by
 refine AR.mk F (F.binds (by walk_at "bD2")) m (F.BQ (k:=0) cC (λvs H Q E h=>?_) (λAd A outer s H vs Q E hr h=>?_))
 .obtain⟨p,m,rfl,⟨a,b,d,a0,g,b0,l⟩,e,o,q⟩:=h;rfl
 obtain⟨p,m,rfl,⟨a,b,d,a0,g,b0,l⟩,e,o,q⟩:=h;refine⟨_,(AD rfl (BR (BP PF (AM BG (qv 0) A3) A3) (AD rfl (Ag 2 cC.nd (Ah IP (AM BG (qv 0) A3) (qv 1)))
   (AD rfl (M9 (Ah W2 (AM BG (qv 0) A3) (qv 1)) (Oq (qv 0) A3 set_list))
   (AK rfl (BJ (qv 2))))) Bw)
   (AD rfl (M9 (Ah IP (Ah Dy (Ah Iu (AM BG (qv 0) A3) A3) A3) A3) (Oq (qv 0) A3 set_list))
   (AK rfl (BJ (Ah IP (Ah W2 (Ah IP (Ah Iu (AM BG (qv 0) A3) (AM BG (qv 0) A3)) A3) A3) (qv 1)))))),?_⟩
 refine⟨_,rfl,p,_,_,_,rfl,rfl,AS.of d,rfl,_,_,rfl,rfl,_,rfl,?_⟩;refine BL (λc=>?_) (λc=>?_)
 .have t:0<a:=ib c;refine⟨_,rfl,p,_,_,_,rfl,rfl,AS.of d,rfl,_,rfl,_,_,rfl,rfl,e,?_⟩;refine⟨_,rfl,p,_,_,_,rfl,rfl,AS.of d,rfl,_,rfl,_,_,rfl,rfl,⟨e,Lf (by omega) (by omega)⟩,?_⟩;refine⟨_,rfl,p,_,_,_,rfl,rfl,d,rfl,?_⟩;refine⟨_,rfl,?_⟩;refine q _ _ (JR _ (by omega)) (Kh _ e) ⟨⟨a / m,b,Ay,Int.ediv_nonneg a0 (by omega),fB (Int.ediv_le_self _ a0) g,b0,l⟩,G7.upd⟩
 .refine⟨_,rfl,p,_,_,_,rfl,rfl,AS.of d,rfl,_,_,rfl,rfl,⟨Lf (by omega) (by omega),by decide +kernel⟩,_,_,rfl,rfl,_,_,rfl,rfl,(by show(0:Int)<2147483647;decide),?_⟩;refine⟨_,rfl,p,_,_,_,rfl,rfl,d,rfl,?_⟩;have n:0<=(b * 69621+12345) % 2147483647:=JR _ (by decide);have j:(b * 69621+12345) % 2147483647<2147483647:=Kh _ (by decide);generalize r:(b * 69621+12345) % 2147483647=b' at n j;have i:(upd H p (.lst [.int a,.int ((b * 69621+12345) % 2147483647)])) p=some (.lst [.int a,.int b']):=by rw[Ay,r]
  refine⟨_,rfl,p,_,_,_,rfl,rfl,AS.of i,rfl,_,rfl,p,_,_,_,rfl,rfl,AS.of i,rfl,_,_,rfl,rfl,⟨Lf (by omega) (by omega),Lf (by omega) (by omega)⟩,_,_,rfl,rfl,(by show(0:Int)<2147483629;decide),?_⟩;refine⟨_,_,rfl,rfl,⟨(by show(0:Int)<64;decide),by decide +kernel⟩,_,rfl,_,_,rfl,rfl,e,?_⟩;exact q _ _ (JR _ (by omega)) (Kh _ e) ⟨⟨a,b',i,a0,g,n,j⟩,G7.upd⟩
def PQ:BA ["number","word"] ["number"] (Af SR):=by walk_at "z1"
def pH(F:AV K "_law_letters" "_law_letters" SR f fd)(m:mg "_law_letters"=some (.ref f)):
  AR P w K mg ZB "_law_letters" 1 ["number"] (d6):=by
 refine AR.mk F (F.binds (by walk_at "bD1")) m (F.BQ (k:=0) PQ (λvs H Q E h=>?_) (λAd A outer s H vs Q E hr h=>?_))
 .obtain⟨r,rfl,l,t,q⟩:=h;rfl
 obtain⟨r,rfl,l,t,q⟩:=h;refine⟨_,(AD rfl (Ag 1 PQ.nd B4)
   (AD rfl (D6 (O8 ET (Kc (BP DG (qv 1) B4) (Ld (BP PF (qv 0) A3))).pt (AD rfl (Ag 1 PQ.nd (Ah eV (qv 1) (AM gD B4 (Ah IP (qv 0) A3))))
   (AK rfl (Ag 0 PQ.nd (Ah W2 (qv 0) A3))))))
   (AK rfl (BJ (qv 1))))),?_⟩
 obtain⟨n,rfl⟩:=WQ l;have o:n<26 ^ 8:=by omega
 rw[HM]at q;refine⟨λσ' H'=>∃v,σ'=[some v,some (.str (D7 (MA.lets n)))]/\H=H',?_,?_⟩
 .refine⟨λm σ' H'=>∃(k:Nat)(pre:List Nat),σ'=[some (.int k),some (.str (D7 pre))]/\H=H'/\((pre=[]/\k=n/\m=n+2)∨(pre≠[]/\m=k+1/\(0<k->pre++MA.lets k=MA.lets n)/\(k=0->pre=MA.lets n))),⟨n+2,n,[],rfl,rfl,.inl ⟨rfl,rfl,rfl⟩⟩,?_⟩;rintro m σ' H'⟨k,pre,rfl,rfl,p⟩;refine⟨_,rfl,rfl,_,rfl,?_⟩;refine BL (λc=>eN ?_) (λc=>⟨_,rfl,_,_,rfl,rfl,_,rfl,?_⟩)
  .have e:pre=[]:=dH.mp (ib c);obtain⟨_,b,hm⟩|⟨h,_⟩:=p
   .have d:pre++MA.lets k=MA.lets n:=by rw[e,b];rfl
    have a:pre.length+1<=8:=by
     have h1:=jL List.length d;rw[C5]at h1;have h2:=MA.Nn 7 n o;have u:=MA.W4 k;omega
    refine⟨λσ' H'=>σ'=[some (.int ((k:Int) / 26)),some (.str (D7 pre++⟨#[97+((k:Int) % 26).toNat]⟩))]/\H=H',?_,?_⟩
    .rintro σ' H'⟨rfl,rfl⟩;have nx:=e6 d;have i:((k:Int) % 26).toNat=k % 26:=by omega
     have g:(k:Int) / 26=((k / 26:Nat):Int):=by omega
     exact⟨k / 26+1,by omega,k / 26,pre++[97+k % 26],by rw[i,g,dw],rfl,.inr ⟨by simp,rfl,nx.1,nx.2⟩⟩
    .refine⟨_,rfl,_,rfl,_,_,rfl,rfl,(by show(0:Int)<26;decide),_,_,_,rfl,rfl,(by decide +kernel),c5 (JR _ (by decide)) (Kh _ (by decide)),_,_,rfl,rfl,?_,?_⟩
     .rw[Ph];exact small (show pre.length+1<=_ by omega)
     .exact⟨_,rfl,_,_,rfl,rfl,⟨(by show(0:Int)<26;decide),by decide +kernel⟩,rfl,rfl⟩
   .exact absurd e h
  .have e:pre≠[]:=λh=>c (iN (dH.mpr h));obtain⟨h,_⟩|⟨_,hm,h1,h2⟩:=p
   .exact absurd h e
   refine BL (λj=>?_) (λj=>?_)
   .have b:0<k:=by have:(0:Int)<k:=ib j;omega
    have d:=h1 b;have a:pre.length+1<=8:=by
     have h1:=jL List.length d;rw[C5]at h1;have h2:=MA.Nn 7 n o;have u:=MA.W4 k;omega
    refine⟨λσ' H'=>σ'=[some (.int ((k:Int) / 26)),some (.str (D7 pre++⟨#[97+((k:Int) % 26).toNat]⟩))]/\H=H',?_,?_⟩
    .rintro σ' H'⟨rfl,rfl⟩;have nx:=e6 d;have i:((k:Int) % 26).toNat=k % 26:=by omega
     have g:(k:Int) / 26=((k / 26:Nat):Int):=by omega
     exact⟨k / 26+1,by omega,k / 26,pre++[97+k % 26],by rw[i,g,dw],rfl,.inr ⟨by simp,rfl,nx.1,nx.2⟩⟩
    .refine⟨_,rfl,_,rfl,_,_,rfl,rfl,(by show(0:Int)<26;decide),_,_,_,rfl,rfl,(by decide +kernel),c5 (JR _ (by decide)) (Kh _ (by decide)),_,_,rfl,rfl,?_,?_⟩
     .rw[Ph];exact small (show pre.length+1<=_ by omega)
     .exact⟨_,rfl,_,_,rfl,rfl,⟨(by show(0:Int)<26;decide),by decide +kernel⟩,rfl,rfl⟩
   .have b:k=0:=by
     have:¬ (0:Int)<k:=λz=>j (iN z);omega
    exact⟨_,by rw[h2 b],rfl⟩
 .rintro σ' H'⟨v,rfl,rfl⟩;exact⟨_,rfl,q _ (AI.refl _)⟩
def Fg:BA ["pot","names","some","way","name","number"] ["pot","names"] (Af RW):=by walk_at "z1"
def nj(F:AV K "_law_name" "_law_name" RW f fd)(m:mg "_law_name"=some (.ref f)):
  AR P w K mg ZB "_law_name" 2 ["pot","names"] (ZX K):=by
 refine AR.mk F (F.binds (by walk_at "bD2")) m (F.BQ (k:=1) Fg (λvs H Q E h=>?_) (λAd A outer s H vs Q E hr h=>?_))
 .obtain⟨p,q,ns,rfl,W,t,B2,Y,hL,K1⟩:=h;rfl
 obtain⟨p,q,ns,rfl,W,t,B2,Y,hL,K1⟩:=h;refine⟨_,(AD rfl (Ag 2 Fg.nd (CP (A0 B4 (A0 B4 (A0 B4 (A0 B4 (A0 B4 (A0 B4 (A0 B4 (A0 B4 (A0 B4 (A0 B4 (A0 B4 (A0 B4 (A0 B4 A4)))))))))))))))
   (AD rfl (Ag 3 Fg.nd (Aw Bz hr (A0 (qv 0) (A0 A3 A4))))
   (AD rfl (Ag 4 Fg.nd (AM Ar (qv 2) (Aw Bz hr (A0 (qv 0) (A0 A3 A4)))))
   (AD rfl (D6 (BR (BP DG (qv 3) A3) (AK rfl (Ag 4 Fg.nd (Aw MN hr (A0 (Aw Bz hr (A0 (qv 0) (A0 (Ah Jo (Ah Lb A3 A3) A3) A4))) A4)))) Bw))
   (AD rfl (D6 (BR (Nv (BP DG (qv 3) A3) (QU (BP (YS hr.Ny) (qv 1) (Cq A4)))).pt (AD rfl (Ag 4 Fg.nd (AM BG (qv 1) (Aw Bz hr (A0 (qv 0) (A0 (CD P5 BI (A0 (qv 1) A4)) A4)))))
   (AK rfl (Ag 4 Fg.nd (J7 eQ (Ah eV (qv 4) (Aw MN hr (A0 (Aw Bz hr (A0 (qv 0) (A0 A3 A4))) A4))) IZ (Iw A3))))) Bw))
   (AD rfl (D6 (BR (Nv (BP DG (qv 3) A3) (QU (BP (YS hr.Ny) (qv 1) (Cq A4)))).pt (AD rfl (Ag 4 Fg.nd (AM BG (qv 1) (Aw Bz hr (A0 (qv 0) (A0 (CD P5 BI (A0 (qv 1) A4)) A4)))))
   (AK rfl (Ag 4 Fg.nd (J7 eQ (qv 4) IZ (Iw (Ah Dy A3 (Aw Bz hr (A0 (qv 0) (A0 (CD Z8 BI (A0 (qv 4) A4)) A4))))))))) Bw))
   (AD rfl (Ag 5 Fg.nd A3)
   (AD rfl (D6 (O8 ET (BP UG (qv 4) (qv 1)) (AD rfl (Ag 4 Fg.nd (Aw MN hr (A0 (qv 5) A4)))
   (AK rfl (Ag 5 Fg.nd (Ah Dy (qv 5) A3))))))
   (AK rfl (BJ (qv 4))))))))))),?_⟩
 have D:(ns.map V.str).length=ns.length:=AF _;have t:AS K H q (ns.map V.str):=AS.of t;refine⟨(by show 13<=sizeLine;decide +kernel),λl Kx=>?_⟩;have GR:l≠p:=by
  obtain⟨_,_,e,_⟩:=W;exact(DS e Kx).symm
 have g0:Bh p H (upd H l (.tup OF)):=Bh.of W (DX Kx _);refine⟨_,rfl,p,4,rfl,g0.AO,by decide,by decide,λd H1 w0 w1 T=>?_⟩;refine⟨_,rfl,_,rfl,p,13,rfl,T.AO,by decide,by decide,λi H2 i0 i1 s2=>?_⟩;have h2:H2 l=some (.tup OF):=s2.at' (T.at' Ay GR) GR;obtain⟨x,hx,nx⟩:=vQ i0 i1;refine⟨l,_,_,_,rfl,rfl,Ao.of h2,hx,?_⟩;have σ:=g0.trans (T.trans s2);refine⟨λσ' H'=>∃x,σ'=[some (.ref p),some (.ref q),some (.ref l),some (.int d),some (.str x),none]/\Nm x/\Bh p H H',?_,?_⟩
 .refine⟨_,rfl,rfl,_,rfl,?_⟩;refine BL (λc=>?_) (λc=>?_)
  .refine⟨_,rfl,_,_,rfl,rfl,⟨by decide,by decide,by decide +kernel⟩,_,_,rfl,rfl,p,_,rfl,σ.AO,pF,iF,λr H3 C M Z=>?_⟩;have I:r<26 ^ 8:=Int.lt_trans M gb;exact⟨r,rfl,C,I,λH4 s4=>⟨_,rfl,Tw (X8 C I),(σ.trans Z).trans (Bh.of Z.AO s4)⟩⟩
  .exact⟨x,rfl,nx,σ⟩
 clear h2 hx nx s2 σ i0 i1;rintro σ' H3⟨y,rfl,o,g⟩;refine⟨λσ' H'=>∃x,σ'=[some (.ref p),some (.ref q),some (.ref l),some (.int d),some (.str x),none]/\Nm x/\Bh p H H',?_,?_⟩
 .refine⟨_,rfl,rfl,_,rfl,?_⟩;refine BL (λc=>?_) (λc=>Qw ⟨y,rfl,o,g⟩);refine⟨_,rfl,(by show 0<=sizeLine;decide),λe X=>?_⟩;have b:=g.trans (Bh.of g.AO (DX X (.lst [])));have L:=b.MC t B2;refine⟨q,e,_,[],rfl,rfl,.inl ⟨L,AS.of Ay⟩,Jp ns,rfl,_,rfl,?_⟩;rw[Z1];refine BL (λJ=>?_) (λJ=>⟨y,rfl,o,b⟩);have QY:0<ns.length:=by
   cases ns with
   |nil=>simp at J
   |cons a r=>simp
  refine⟨_,rfl,_,rfl,_,rfl,q,_,rfl,.inl L,p,_,rfl,b.AO,(by rw[D];omega),(by rw[D];omega),λi H5 i0 i1 S=>?_⟩;rw[D]at i1;have B:=b.trans S;obtain⟨z,U,Sb,_⟩:=b7 i0 i1;have u:=Y z Sb;refine⟨q,_,_,_,rfl,rfl,B.MC t B2,U,?_⟩;refine⟨_,rfl,_,rfl,p,26,rfl,B.AO,by decide,by decide,λr H6 C M R=>?_⟩;have N:=B.trans R;have I:r<26 ^ 8:=Int.lt_trans M sL;refine⟨r,rfl,C,I,λH7 s7=>?_⟩;have N:=N.trans (Bh.of N.AO s7);have nl:=Tw (n:=r.toNat) (X8 C I);have hlen:z.length+(D7 (MA.lets r.toNat)).length<=16:=by have:=u.2.1;have:=nl.2.1;omega
  refine⟨_,_,rfl,rfl,small (by omega),?_⟩;refine⟨_,rfl,_,rfl,small (by rw[Xz];omega),?_⟩;refine⟨_,rfl,bf (by decide) (by decide) (by rw[Xz];have:=u.1;omega) (λc G=>?_),N⟩;rw[YJ]at G;rcases List.mem_append.mp G with G|G
  .exact u.2.2 c G
  .exact nl.2.2 c G
 clear o g;rintro σ' H3⟨y,rfl,o,g⟩;refine⟨λσ' H'=>∃x,σ'=[some (.ref p),some (.ref q),some (.ref l),some (.int d),some (.str x),none]/\Nm x/\Bh p H H',?_,?_⟩
 .refine⟨_,rfl,rfl,_,rfl,?_⟩;refine BL (λc=>?_) (λc=>Qw ⟨y,rfl,o,g⟩);refine⟨_,rfl,(by show 0<=sizeLine;decide),λe X=>?_⟩;have b:=g.trans (Bh.of g.AO (DX X (.lst [])));have L:=b.MC t B2;refine⟨q,e,_,[],rfl,rfl,.inl ⟨L,AS.of Ay⟩,Jp ns,rfl,_,rfl,?_⟩;rw[Z1];refine BL (λJ=>?_) (λJ=>⟨y,rfl,o,b⟩);have QY:0<ns.length:=by
   cases ns with
   |nil=>simp at J
   |cons a r=>simp
  refine⟨_,rfl,_,rfl,_,rfl,q,_,rfl,.inl L,p,_,rfl,b.AO,(by rw[D];omega),(by rw[D];omega),λi H5 i0 i1 S=>?_⟩;rw[D]at i1;have B:=b.trans S;obtain⟨z,U,Sb,_⟩:=b7 i0 i1;have u:=Y z Sb;refine⟨q,_,_,_,rfl,rfl,B.MC t B2,U,?_⟩;have mq:=u.1;have yl:=u.2.1;refine⟨_,rfl,_,rfl,_,rfl,_,rfl,small (by omega),p,_,rfl,B.AO,(by omega),(by omega),λr H6 C M R=>?_⟩;refine⟨_,_,rfl,rfl,_,rfl,_,rfl,small (by omega),?_⟩;exact⟨_,rfl,bf (by omega) (by omega) mq u.2.2,B.trans R⟩
 clear o g;rintro σ' H3⟨y,rfl,o,g⟩;refine⟨λσ' H'=>∃x v,σ'=[some (.ref p),some (.ref q),some (.ref l),some (.int d),some (.str x),some v]/\Nm x/\x∉ns/\Bh p H H',?_,?_⟩
 .refine⟨λm σ' H'=>∃(k:Nat)(x:Str),σ'=[some (.ref p),some (.ref q),some (.ref l),some (.int d),some (.str x),some (.int k)]/\Bh p H H'/\Nm x/\m=ns.length+1 - k/\k<=ns.length+1/\(0<k->x=D7 (MA.lets (k - 1)))/\(∀j,j+1<k->D7 (MA.lets j)∈ns),
   ⟨ns.length+1,0,y,rfl,g,o,rfl,CN _,λh=>absurd h (by decide),λj h=>absurd h (by omega)⟩,?_⟩
  rintro m σ' H'⟨k,x,rfl,b,nx,rfl,hk,hx,hj⟩;refine⟨_,rfl,_,rfl,q,_,rfl,.inl (b.MC t B2),rfl,Jp ns,_,rfl,?_⟩;rw[gp (by decide),Vi];refine BL (λc=>?_) (λc=>⟨x,_,rfl,nx,λz=>c (iN z),b⟩);have UQ:x∈ns:=ib c;have QJ:∀j,j<k->D7 (MA.lets j)∈ns:=λj MP=>by
   by_cases e:j+1<k
   .exact hj j e
   .have e2:j=k - 1:=by omega
    rw[e2,<- hx (by omega)];exact UQ
  have OA:=pC QJ;refine⟨λσ' H'=>σ'=[some (.ref p),some (.ref q),some (.ref l),some (.int d),some (.str (D7 (MA.lets k))),some (.int ((k:Int)+1))]/\Bh p H H',?_,?_⟩
  .rintro σ' H'⟨rfl,b⟩;exact⟨ns.length+1 - (k+1),by omega,k+1,D7 (MA.lets k),rfl,b,Tw (Lp (ES OA hL) xQ),rfl,by omega,λ_=>rfl,λj MP=>QJ j (by omega)⟩
  .refine⟨_,rfl,k,rfl,by omega,?_,λH4 s4=>?_⟩
   .have:(k:Int)<=1000:=by omega
    exact fB this pV
   .rw[HM];exact⟨_,rfl,_,_,rfl,rfl,rfl,b.trans (Bh.of b.AO s4)⟩
 rintro σ' H'⟨x,v,rfl,nx,hx,b⟩;exact⟨_,rfl,K1 x H' nx hx b⟩
def V5:BA ["pot","many","names","k"] ["pot","many"] (Af V7):=by walk_at "z1"
def rR(F:AV K "_law_names" "_law_names" V7 f fd)(m:mg "_law_names"=some (.ref f)):
  AR P w K mg ZB "_law_names" 3 ["pot","many"] (VG):=by
 refine AR.mk F (F.binds (by walk_at "bD2")) m (F.BQ (k:=2) V5 (λvs H Q E h=>?_) (λAd A outer s H vs Q E hr h=>?_))
 .obtain⟨p,m,rfl,j,r,o,q⟩:=h;rfl
 obtain⟨p,m,rfl,j,r,o,q⟩:=h;refine⟨_,(AD rfl (Ag 2 V5.nd (Cq A4))
   (AD rfl (D6 (FK ET rfl (NL rfl Et (A0 (qv 1) A4)) (DE 3 V5.nd) (AK rfl (By (Dl Dp Gq Gr Fm (qv 2) (A0 (Aw Ub hr (A0 (qv 0) (A0 (qv 2) A4))) A4))))))
   (AK rfl (BJ (qv 2))))),?_⟩
 refine⟨(by show 0<=sizeLine;decide),λl c=>?_⟩;have d:=j.ne c;refine⟨λσ' H'=>∃(ns:List Str)(v:Option V),σ'=[some (.ref p),some (.int m),some (.ref l),v]/\Bh p H H'/\H' l=some (.lst (ns.map V.str))/\(ns.length:Int)=m/\(∀x∈ns,Nm x)/\ns.Nodup,?_,?_⟩
 .refine⟨_,rfl,m,rfl,by omega,by omega,um (n:=m.toNat) (λi σ' H'=>∃(ns:List Str)(v:Option V),σ'=[some (.ref p),some (.int m),some (.ref l),v]/\Bh p H H'/\H' l=some (.lst (ns.map V.str))/\ns.length=i/\(∀x∈ns,Nm x)/\ns.Nodup) ?_ ?_ ?_⟩
  .exact⟨[],none,rfl,(Bh.of j (AI.refl H)).upd c d,Ay,rfl,λx hx=>absurd hx (by simp),by simp⟩
  .rintro i σ' H' hi⟨ns,v,rfl,g,e,a,b,nd⟩;refine⟨_,rfl,.inl ⟨rfl,_,AS.of e⟩,_,rfl,_,rfl,p,l,ns,rfl,g.AO,e,d,b,by omega,λx H2 nx hx s2=>?_⟩;refine⟨l,_,_,rfl,rfl,s2.at' e d,Lp (m:=100) (by rw[AF];omega) (by decide +kernel),?_⟩;refine⟨ns++[x],_,rfl,(g.trans s2).upd c d,by rw[Ay,Cc];rfl,by rw[C5];simp[a],λy t=>?_,tW nd hx⟩;rcases List.mem_append.mp t with h|h
   .exact b y h
   .have:y=x:=by simpa using h
    rw[this];exact nx
  .rintro σ' H'⟨ns,v,rfl,g,e,a,b,nd⟩;exact⟨ns,v,rfl,g,e,by omega,b,nd⟩
 rintro σ' H'⟨ns,v,rfl,g,e,a,b,nd⟩;exact⟨_,rfl,q l H' ns c g e a b nd⟩
def GU:BA ["pot","many","words","shape","kinds","k","puts","j","where","kind"] ["pot"] (Af WI):=by walk_at "z1"
def bA : ∀ss R,Rw ss R->ss.length=1:=by rintro _ _⟨rfl,rfl⟩;rfl
def gd(F:AV K "_law_kinds" "_law_kinds" WI f fd)(m:mg "_law_kinds"=some (.ref f)):
  AR P w K mg ZB "_law_kinds" 4 ["pot"] (Ai Rw):=by
 refine AR.mk F (F.binds (by walk_at "bD1")) m (F.BQ (k:=3) GU (λvs H Q E h=>Fz.DB bA h) (λAd A outer s H vs Q E hr h=>?_))
 refine⟨_,(AD rfl (Ag 1 GU.nd (Ah Dy A3 (Aw Bz hr (A0 (qv 0) (A0 A3 A4)))))
   (AD rfl (Ag 2 GU.nd (Aw V6 hr (A0 (qv 0) (A0 (qv 1) A4))))
   (AD rfl (Ag 3 GU.nd (Aw Bz hr (A0 (qv 0) (A0 A3 A4))))
   (AD rfl (Ag 4 GU.nd (Cq A4))
   (AD rfl (D6 (FK ET rfl (NL rfl Et (A0 (qv 1) A4)) (DE 5 GU.nd) (AD rfl (Ag 6 GU.nd (Cq A4))
   (AD rfl (D6 (FK ET rfl (NL rfl Et (A0 (AM Ar (CP (A0 A3 (A0 A3 (A0 A3 (A0 A3 (A0 A3 (A0 A3 (A0 A3 A4)))))))) (Aw Bz hr (A0 (qv 0) (A0 A3 A4)))) A4)) (DE 7 GU.nd) (AD rfl (Ag 8 GU.nd (AM Ar (CP (A0 B4 (A0 B4 (A0 B4 (A0 B4 A4))))) (Aw Bz hr (A0 (qv 0) (A0 A3 A4)))))
   (AD rfl (Ag 9 GU.nd (Aw Bz hr (A0 (qv 0) (A0 (qv 1) A4))))
   (AD rfl (D6 (BR (BP Jf (qv 3) A3) (AK rfl (Ag 9 GU.nd (Ah Dy (Ah Dy (qv 5) A3) (Ah IP (qv 9) (CD (wz rfl) UC (A0 A3 (A0 (Ah Jo (Ah Jo (qv 1) A3) (qv 5)) A4))))))) Bw))
   (AK rfl (BR (BP Jf (qv 9) (qv 1)) (AK rfl (By (Dl Dp Gq Gr Fm (qv 6) (A0 (CP (A0 (qv 8) (A0 (AM BG (qv 2) (qv 9)) A4))) A4)))) Bw)))))))
   (AK rfl (By (Dl Dp Ql Ww OM (qv 4) (A0 (Aw Bz hr (A0 (qv 0) (A0 (Ah Dy (qv 5) A3) A4))) (A0 (CP (A0 (AM BG (qv 2) (qv 5)) (A0 (GW RO G6 (A0 (qv 6) A4)) (A0 (Ed DG (Aw Bz hr (A0 (qv 0) (A0 A3 A4))) A3) A4)))) A4)))))))))
   (AK rfl (BJ (qv 4)))))))),?_⟩
 refine Fz.DA h bA ?_;rintro _ _⟨rfl,rfl⟩;show Ws [_,.any,.any,.any,.any,.any,.any,.any,.any,.any] _ _ _
 walk_at "ww"
 refine⟨by decide,by decide,λr a1 b1=>⟨_,rfl,?_⟩⟩;obtain⟨n,rfl⟩:=WQ a1;refine AW (G4 (lV rfl (A9 rfl ⟨_,rfl,by omega,by omega,λws hl hN nd=>?_⟩)));refine Gg 2 rfl ?_
 walk_at "ww"
 refine⟨by decide,by decide,λB s0 s1=>?_⟩
 walk_at "ww"
 refine⟨by decide,?_⟩;refine AW (FN (Gk (λ_ i A7=>∃(ks:List Kd)(D C g d b:Slot),A7=[.AO,.is (.int (1+(n:Int))),.is (.lst (ws.map .str)),.is (.int B),.own (ks.map Kd.P),D,C,g,d,b]/\(wk ks).Perm (ws.take i)/\∀k∈ks,k.ps.length<=6/\∀p∈k.ps,p.1∈WH/\p.2∈ws) ?_))
 walk_at "ww"
 rw[Hj];refine⟨by omega,by omega,⟨[],_,_,_,_,_,rfl,.refl _,λk l=>absurd l An⟩,?_,?_⟩
 .rintro k p A7 o⟨ks,D,C,g,d,b,rfl,u,ok⟩;obtain⟨l,rfl⟩:=aJ o;have Z:=u.length_eq;rw[AF,DO]at Z;refine JM ?_
  walk_at "ww"
  refine⟨by decide,?_⟩;refine AW (FN (Gk (λ_ j A7=>∃(a:List (Str×Str))(g d b:Slot),A7=[.AO,.is (.int (1+(n:Int))),.is (.lst (ws.map .str)),.is (.int B),.own (ks.map Kd.P),.is (.int k),.own (a.map BV),g,d,b]/\a.length<=j/\∀q∈a,q.1∈WH/\q.2∈ws) ?_))
  walk_at "ww"
  refine⟨by decide,_,.inr ⟨rfl,rfl,?_⟩⟩
  walk_at "ww"
  refine⟨by decide,by decide,λt t0 t1=>?_⟩;obtain⟨m,hm,lm⟩:=sE t0 t1;refine⟨_,_,rfl,hm,_,rfl,by omega,by omega,?_⟩;rw[Hj,HM];refine⟨⟨[],_,_,_,rfl,Aj _,λq G=>absurd G An⟩,?_,?_⟩
  .rintro j p A7 o⟨a,g,d,b,rfl,W,x⟩;obtain⟨hj,rfl⟩:=aJ o;refine JM ?_
   walk_at "ww"
   refine⟨by decide,_,.inr ⟨rfl,rfl,?_⟩⟩
   walk_at "ww"
   refine⟨by decide,by decide,λt2 N M=>?_⟩;obtain⟨wh,V,T⟩:=jq N M;refine⟨_,_,rfl,T,?_⟩
   walk_at "ww"
   refine⟨by omega,d8 (by omega),λkd a3 b3=>?_⟩;refine KH (λA7=>∃kd:Int,A7=[.AO,.is (.int (1+(n:Int))),.is (.lst (ws.map .str)),.is (.int B),.own (ks.map Kd.P),.is (.int k),.own (a.map BV),.is (.int j),.is (.str wh),.is (.int kd)]/\0<=kd) ?_ ?_
   .walk_at "ww"
    refine BL (λc=>?_) (λc=>CH ⟨kd,rfl,a3⟩)
    walk_at "ww"
    have σ:0<(if 1+(n:Int) - 1 - k > 1 then 1+(n:Int) - 1 - k else 1):=by split <;> omega
    have yb:=JR kd (Int.ne_of_gt σ);exact⟨σ,_,rfl,_,rfl,by omega⟩
   rintro _⟨kd,rfl,Y⟩
   walk_at "ww"
   refine BL (λc=>?_) (λc=>CH ⟨a,_,_,_,rfl,by omega,x⟩);have c':=ib c;obtain⟨v,rfl⟩:=WQ Y;have R:v<ws.length:=by omega
   have I:L2.BS (ws.map PV.str) (v:Int)=some (.str ws[v]):=LG (by omega) (by rw[HM,Aa,Am R];rfl);refine Oh rfl (HA ?_)
   walk_at "ww"
   refine⟨_,_,rfl,I,?_⟩
   walk_at "ww"
   refine⟨by show 2<=100000;decide,by rw[AF];omega,a++[(wh,ws[v])],.is (.int j),.is (.str wh),.is (.int v),?_,?_,?_⟩
   .rw[Cc];rfl
   .rw[C5,WY];omega
   .intro q G;rcases List.mem_append.mp G with z|z
    .exact x q z
    .rw[List.mem_singleton.mp z];exact⟨V,IT R⟩
  .rintro A7⟨a,g,d,b,rfl,W,x⟩;have L:k<ws.length:=by omega
   have I:L2.BS (ws.map PV.str) (k:Int)=some (.str ws[k]):=LG (by omega) (by rw[HM,Aa,Am L];rfl);refine Zu rfl ?_
   walk_at "ww"
   refine⟨by omega,d8 (by omega),λJ a9 b9=>⟨_,rfl,a9,by rw[AF];omega,?_⟩⟩;refine HA ?_
   walk_at "ww"
   refine⟨_,_,rfl,I,?_⟩
   walk_at "ww"
   refine⟨by decide,by decide,λU N M=>?_⟩
   walk_at "ww"
   refine⟨by show 3<=100000;decide,by rw[AF];omega,ks.take J.toNat++⟨ws[k],a,alike (.int U) (.int 1)⟩ :: ks.drop J.toNat,.is (.int k),.own (a.map BV),g,d,b,?_,?_,?_⟩
   .rw[<- JU,<- HN,Cc];rfl
   .rw[Ln L];show(List.map Kd.w (_++_::_)).Perm _;rw[Cc,Ap,JU,HN];refine(List.perm_middle.trans (List.Perm.cons _ ?_)).trans (List.perm_append_comm (l₁:=[ws[k]]));rw[fV];exact u
   .intro kk S;rcases List.mem_append.mp S with z|z
    .exact ok kk (Wc z)
    .rcases List.mem_cons.mp z with z|z
     .rw[z];exact⟨by show a.length<=6;omega,x⟩
     .exact ok kk (fR z)
 .rintro A7⟨ks,D,C,g,d,b,rfl,u,ok⟩;refine Gg 4 rfl ?_;have y:(wk ks).Perm ws:=by
   have e:ws.take (1+(n:Int)).toNat=ws:=Qi (by omega);rw[e]at u;exact u
  have X:=y.length_eq;rw[AF]at X;refine Ez (A9 rfl ⟨ks,rfl,by omega,by omega,y.nodup_iff.mpr nd,λk l=>hN _ (y.mem_iff.mp (List.mem_map.mpr ⟨k,l,rfl⟩)),λk l=>⟨(ok k l).1,λp o=>⟨((ok k l).2 p o).1,y.mem_iff.mpr ((ok k l).2 p o).2⟩⟩⟩)
def NJ:BA ["script","k","cell","rest_here"] ["script","k"] (Af Se):=by walk_at "z1"
def jl(F:AV K "_law_pot" "_law_pot" Se f fd)(m:mg "_law_pot"=some (.ref f)):
  AR P w K mg ZB "_law_pot" 1 ["script","k"] (Nk K):=by
 refine AR.mk F (F.binds (by walk_at "bD2")) m (F.BQ (k:=0) NJ (λvs H Q E h=>?_) (λAd A outer s H vs Q E hr h=>?_))
 .obtain⟨a,ns,k,rfl,b,e,k1,q⟩:=h;rfl
 obtain⟨a,ns,k,rfl,b,e,k1,q⟩:=h;refine⟨_,(AD rfl (Ag 2 NJ.nd A3)
   (AD rfl (D6 (BR (BP Jf (qv 1) (CD P5 BI (A0 (qv 0) A4))) (AK rfl (Ag 2 NJ.nd (Ah IP (AM BG (qv 0) (qv 1)) (Ah Iu (Ah Iu (Ah Iu (Ah Lb A3 A3) (Ah Lb A3 A3)) (Ah Lb A3 A3)) (Ah Lb A3 A3))))) Bw))
   (AD rfl (Ag 3 NJ.nd A3)
   (AD rfl (D6 (BR (BP Z2 (qv 2) (Ah Lb A3 A3)) (AK rfl (Ag 3 NJ.nd (qv 2))) Bw))
   (AK rfl (BJ (Cq (A0 (qv 3) (A0 (Ah IP (Ah Iu (Ah Dy (Ah Dy (Ah IP (qv 2) A3) (Ah Iu A3 (qv 1))) A3) A3) A3) A4))))))))),?_⟩
 have j:(ns.map V.int).length=ns.length:=AF _;refine⟨λσ' H'=>∃c:Int,σ'=[some (.ref a),some (.int k),some (.int c),none]/\H=H'/\0<=c/\c<10 ^ 256,?_,?_⟩
 .refine⟨_,rfl,_,rfl,a,_,rfl,.inl b,_,_,rfl,rfl,_,rfl,?_⟩;refine BL (λc=>?_) (λc=>?_)
  .have u:k<(((ns.map V.int).length:Nat):Int):=ib c;rw[j]at u;have l:k.toNat<ns.length:=by omega
   have i:BS (ns.map V.int) k=some (.int ns[k.toNat]):=LG e (by rw[Aa,Am l] <;> rfl)
   refine⟨_,rfl,_,rfl,a,_,_,_,rfl,rfl,b,i,_,_,rfl,rfl,⟨by decide,by decide,by decide +kernel⟩,_,_,rfl,rfl,⟨by decide,by decide,by decide +kernel⟩,_,_,rfl,rfl,⟨by decide +kernel,by decide +kernel⟩,_,_,rfl,rfl,⟨by decide,by decide,by decide +kernel⟩,_,_,rfl,rfl,⟨by decide +kernel,by decide +kernel⟩,
    _,_,rfl,rfl,⟨by decide,by decide,by decide +kernel⟩,_,_,rfl,rfl,⟨by decide +kernel,by decide +kernel⟩,_,_,rfl,rfl,(by show(0:Int)<_;decide +kernel),?_⟩
   exact⟨_,rfl,rfl,JR _ (by decide +kernel),Kh _ (by decide +kernel)⟩
  .exact⟨0,rfl,rfl,by decide,by decide +kernel⟩
 rintro σ' H'⟨c,rfl,rfl,t,r⟩;refine⟨λσ' H'=>∃d:Int,σ'=[some (.ref a),some (.int k),some (.int c),some (.int d)]/\H=H'/\0<=d/\d<10 ^ 256,?_,?_⟩
 .refine⟨_,rfl,_,_,rfl,rfl,⟨by decide,by decide,by decide +kernel⟩,_,_,rfl,rfl,_,rfl,?_⟩;refine BL (λ_=>?_) (λ_=>?_)
  .exact⟨_,rfl,c,rfl,rfl,t,r⟩
  .exact⟨0,rfl,rfl,by decide,by decide +kernel⟩
 rintro σ' H'⟨d,rfl,rfl,o,n⟩;have e0:0<=c % 2147483629:=JR _ (by decide);have v:c % 2147483629<2147483629:=Kh _ (by decide);refine⟨_,rfl,_,rfl,_,_,rfl,rfl,(by show(0:Int)<2147483629;decide),_,rfl,_,_,rfl,rfl,⟨by decide +kernel,Lf (by omega) (by omega)⟩,_,_,rfl,rfl,_,_,rfl,rfl,_,_,rfl,rfl,⟨Lf (by omega) (by omega),by decide +kernel⟩,_,_,rfl,rfl,(by show(0:Int)<2147483647;decide),?_⟩;refine⟨(by show 2<=sizeLine;decide),λp g=>?_⟩;exact q p _ g (DX g _) ⟨d,_,Ay,o,n,JR _ (by decide),Kh _ (by decide)⟩
def aO:BA ["pot","kinds","many"] ["pot","kinds"] (Af P8):=by walk_at "z1"
noncomputable abbrev Sc(l):=Scope.mk .function l false false []
def nZ:=Sc [(".0",.local),("k",.local),("_law_take",.globalImplicit),("len",.globalImplicit),("kinds",.free),("pot",.free)]
def lI:Dz ["pot","kinds","many"] (Af P8) nZ "k" ["kinds","pot"] [1,0]:=by walk_at "z2"
def X4 : ∀ss R,SM ss R->ss.length=2:=by rintro _ _⟨ks,rfl,_,rfl⟩;rfl
def sI(F:AV K "_law_crowd" "_law_crowd" P8 f fd)(m:mg "_law_crowd"=some (.ref f)):
  AR P w K mg ZB "_law_crowd" 2 ["pot","kinds"] (Ai SM):=by
 refine AR.mk F (F.binds (by walk_at "bD2")) m (F.BQ (k:=1) aO (λvs H Q E h=>Fz.DB X4 h) (λAd A outer s H vs Q E hr h=>?_))
 refine⟨_,(AD rfl (Ag 2 aO.nd (AM Ar (CP (A0 A3 (A0 A3 (A0 A3 (A0 A3 (A0 A3 (A0 A3 (A0 A3 (A0 A3 A4))))))))) (Aw Bz hr (A0 (qv 0) (A0 A3 A4)))))
   (AK rfl (BJ (Il rfl lI (NL rfl Et (A0 (qv 2) A4)) (λ_ _ _ _=>by exact FO) (λ_ _ _ _=>by exact(AM (show DK _ (FE K)from Ar) (AM (show DK _ (FT K)from BG) (qv 0) (Aw Bz hr (A0 (qv 1) (A0 (CD (show DF _ (.builtin "len") (OW K)from GB) BI (A0 (qv 0) A4)) A4)))) A3)))))),?_⟩
 refine Fz.DA h X4 ?_;rintro _ _⟨ks,rfl,g,rfl⟩;show Ws [_,_,.any] _ _ _;have l1:=g.l1;have l8:=g.l8
 walk_at "ww"
 refine⟨by decide,?_⟩
 walk_at "ww"
 refine⟨by decide,by decide,λt t0 t1=>?_⟩;obtain⟨z,e,r⟩:=p6 t0 t1;refine⟨_,_,rfl,e,?_⟩;refine Ox (wR (λ_ p=>∃c∈wk ks,p=.str c) ?_)
 walk_at "ww"
 rw[HM];refine⟨by omega,by omega,by rw[Hj];omega,λx hx=>G0 rfl,λx hx=>?_,λys Ji l=>?_⟩
 .walk_at "ww"
  rw[AF];refine⟨by omega,by omega,λq d o=>?_⟩;obtain⟨b,rfl⟩:=WQ d;have a:b<ks.length:=by omega
  refine⟨_,_,rfl,CV (by rw[Aa,Am a];rfl),_,.inr ⟨rfl,rfl,?_⟩⟩
  walk_at "ww"
  exact⟨_,List.mem_map.mpr ⟨_,IT a,rfl⟩,rfl⟩
 .rw[Hj]at Ji;have all:∀y∈ys,∃c∈wk ks,y=.str c:=λy i=>by
   obtain⟨q,a,n⟩:=WW i;have h1:ys[q]?=some y:=by rw[Am a,n]
   exact l q _ y (Am (show q<(JN z).length by rw[Hj];omega)) h1
  obtain⟨cs,rfl,j⟩:=Vk all;exact⟨cs,rfl,by rw[AF]at Ji;omega,j⟩
def rP:BA ["pot"] ["pot"] (Af Vu):=by walk_at "z1"
def Zk : ∀ss R,SA ss R->ss.length=1:=by rintro _ _⟨rfl,rfl⟩;rfl
def rS(F:AV K "_law_rule" "_law_rule" Vu f fd)(m:mg "_law_rule"=some (.ref f)):
  AR P w K mg ZB "_law_rule" 2 ["pot"] (Ai SA):=by
 refine AR.mk F (F.binds (by walk_at "bD1")) m (F.BQ (k:=1) rP (λvs H Q E h=>Fz.DB Zk h) (λAd A outer s H vs Q E hr h=>?_))
 refine⟨_,(AK rfl (BJ (AM Ar (CP (A0 B4 (A0 B4 (A0 B4 A4)))) (Aw Bz hr (A0 (qv 0) (A0 A3 A4)))))),?_⟩;refine Fz.DA h Zk ?_;rintro _ _⟨rfl,rfl⟩;show Ws [_] _ _ _
 walk_at "ww"
 refine⟨by decide,?_⟩
 walk_at "ww"
 refine⟨by decide,by decide,λt t0 t1=>?_⟩;obtain⟨r,hr,e⟩:=tU t0 t1;exact⟨_,_,rfl,e,r,hr,rfl⟩
def Hi:BA ["script","k","kinds","pot","most","crowd","rule","word"] ["script","k"] (Af Om):=by walk_at "z1"
def jZ:=Sc [(".0",.local),("word",.local),("puts",.local),("goes",.local)]
def kK:HY ["script","k","kinds","pot","most","crowd","rule","word"] (Af Om) jZ ["word","puts","goes"] [] []:=⟨rfl,by decide +kernel,by decide +kernel,by decide +kernel,rfl,by decide +kernel,by decide +kernel,by decide +kernel,by decide +kernel⟩
def ZD : ∀ss R,(VA K) ss R->ss.length=2:=by rintro _ _⟨sc,k,rfl,_,_,rfl⟩;rfl
def kH(F:AV K "_law_case" "_law_case" Om f fd)(m:mg "_law_case"=some (.ref f)):
  AR P w K mg ZB "_law_case" 5 ["script","k"] (Ai (VA K)):=by
 refine AR.mk F (F.binds (by walk_at "bD2")) m (F.BQ (k:=4) Hi (λvs H Q E h=>Fz.DB ZD h) (λAd A outer s H vs Q E hr h=>?_))
 refine⟨_,(AD rfl (Ag 2 Hi.nd (Aw UK hr (A0 (Aw Q8 hr (A0 (qv 0) (A0 (qv 1) A4))) A4)))
   (AD rfl (Ag 3 Hi.nd (Aw Q8 hr (A0 (qv 0) (A0 (Ah Dy (qv 1) A3) A4))))
   (AD rfl (Ag 4 Hi.nd (AM Ar (CP (A0 A3 (A0 A3 (A0 A3 (A0 A3 (A0 A3 (A0 A3 (A0 A3 (A0 A3 A4))))))))) (Aw Bz hr (A0 (qv 3) (A0 A3 A4)))))
   (AD rfl (D6 (BR (BP DG (qv 4) A3) (AK rfl (Y9 (i:=2) Hi.nd rfl (Or.inl rfl) rfl kK (.cons (.cons (.cons .nil))) (λ_=>rfl) (λ_=>rfl) (Di (qv 2)) (λ_ _ _ _=>by exact FO) (λ_ _ _ _=>by exact(CP (A0 (qv 0) (A0 (J7 (show Iz _ (Fz.Qx K)from Fz.nP) (qv 1) IZ (Iw A3)) (A0 (qv 2) A4))))))) Bw))
   (AD rfl (Ag 5 Hi.nd (Aw Uw hr (A0 (qv 3) (A0 (qv 2) A4))))
   (AD rfl (Ag 6 Hi.nd (Aw R7 hr (A0 (qv 3) A4)))
   (AD rfl (D6 (BR (BP DG (qv 6) B4) (AK rfl (Ag 4 Hi.nd (Ah Dy (qv 4) (Ah Iu A3 (GW Tc Fc (A0 (Ed DG (qv 4) A3) A4)))))) (AK rfl (BR (BP DG (Aw Bz hr (A0 (qv 3) (A0 A3 A4))) A3) (AD rfl (Ag 7 Hi.nd (AM Ar (AM BG (qv 2) A3) A3))
   (AK rfl (BJ (CP (A0 (Cq (A0 (CP (A0 (qv 7) (A0 (CP (A0 (CP (A0 B4 (A0 (qv 7) A4))) A4)) (A0 FC A4)))) A4)) (A0 (Ah nC (Cq (A0 (qv 7) A4)) (Ah Dy A3 (Aw Bz hr (A0 (qv 3) (A0 A3 A4))))) (A0 (qv 6) (A0 A3 A4)))))))) Bw))))
   (AK rfl (BJ (CP (A0 (qv 2) (A0 (qv 5) (A0 (qv 6) (A0 (qv 4) A4)))))))))))))),?_⟩
 refine Fz.DA h ZD ?_;rintro _ _⟨sc,k,rfl,MM,M,rfl⟩;show Ws [_,_,.any,.any,.any,.any,.any,.any] _ _ _;refine AW (FU (iS rfl (A9 rfl ⟨_,rfl,by omega,by omega,Ce ⟨[],_,rfl,⟨rfl,rfl⟩,?_⟩⟩)));rintro _⟨v,rfl,n⟩;refine AW (Z7 rfl (Hd (A9 rfl ⟨_,rfl,Ac ⟨_,rfl,_,rfl,by omega,by omega,?_⟩⟩)));refine AW (FU (Wp.mono (k:=λp=>∃z:Nat,p=PV.int (z:Int)/\z<=120) ?_ ?_))
 .walk_at "ww"
  refine⟨by decide,?_⟩
  walk_at "ww"
  refine⟨by decide,by decide,λt t0 t1=>?_⟩;obtain⟨z,e,q⟩:=vi t0 t1;exact⟨_,_,rfl,e,z,rfl,q⟩
 rintro _⟨z,rfl,q⟩;have G:=n.l8;refine KH (λA7=>∃(ks:List Kd)(s2:Slot),KG ks/\(s2=.is (.lst (ks.map Kd.P))∨s2=.own (ks.map Kd.P))/\A7=[.raw (Ds K sc),.is (.int k),s2,.AO,.is (.int z),.any,.any,.any]) ?_ ?_
 .refine FN (Dt (Dx (FQ (A9 rfl (Ac ⟨rfl,_,rfl,BL (λc=>?_) (λc=>CH ⟨v,_,n,.inl rfl,rfl⟩)⟩)))));refine G4 (bx (λ_=>true) YU (Gd (FY (A9 rfl ⟨_,.inl ⟨rfl,by rw[AF];omega,λx hx=>?_,?_⟩⟩))))
  .obtain⟨y,L,rfl⟩:=List.mem_map.mp hx;refine⟨_,rfl,rfl,G0 rfl,λ_=>?_⟩
   walk_at "ww"
   exact⟨by show 3<=100000;decide,rfl⟩
  .rw[jI];exact⟨_,_,n.HW,.inr rfl,rfl⟩
 rintro _⟨ks,s2,g,BE,rfl⟩;refine vJ 2 rfl BE ?_;have l1:=g.l1;have l8:=g.l8;refine AW (G4 (rG rfl (BM (A9 rfl (Ce ⟨_,⟨ks,rfl,g,rfl⟩,?_⟩)))));rintro _⟨cs,rfl,u,B⟩;refine Gg 5 rfl ?_;refine AW (FU (xW rfl (Ce ⟨_,⟨rfl,rfl⟩,?_⟩)));rintro _⟨r,hr,rfl⟩;show Ws [.raw (Ds K sc),.is (.int k),.is (.lst (ks.map Kd.P)),.AO,.is (.int z),.is (.lst (cs.map .str)),.is (.str r),.any] _ _ _;refine KH (λA7=>∃(m:Nat)(o:Slot),m<=400/\A7=[.raw (Ds K sc),.is (.int k),.is (.lst (ks.map Kd.P)),.AO,.is (.int m),.is (.lst (cs.map .str)),.is (.str r),o]) ?_ ?_
 .refine FN (Dt (Dx (FQ (A9 rfl (Eb ⟨rfl,_,rfl,BL (λc=>?_) (λc=>?_)⟩)))))
  .walk_at "ww"
   refine⟨by unfold bX;split <;> decide,_,rfl,z+280 * (if alike (PV.int (z:Int)) (.int 120)=true then 1 else 0),.any,?_,?_⟩
   .split
    .omega
    .omega
   .split <;> simp
  .refine Dt (Dx (FQ (U3 rfl (Ac ⟨_,rfl,by decide,by decide,λd σ N=>Ac ⟨rfl,_,rfl,BL (λD=>?_) (λD=>CH ⟨z,_,by omega,rfl⟩)⟩⟩))));obtain⟨l,rest,rfl⟩:∃l rest,ks=l::rest:=by
    cases ks with
    |nil=>simp at l1
    |cons a b=>exact⟨a,b,rfl⟩
   have C:=KG.one (g.nm l D2);refine AW (FU (Bi (BO (DW (G1 rfl ⟨rfl,Ac ⟨_,_,rfl,L2.CV (j:=0) rfl,_,.inr ⟨rfl,rfl,Ac ⟨_,_,rfl,L2.CV (j:=0) rfl,?_⟩⟩⟩⟩)))))
   walk_at "ww"
   refine⟨(show 2<=100000 by decide),DQ ⟨(show 1<=100000 by decide),Bg (IB (DQ ⟨(show 3<=100000 by decide),DQ ⟨(show 1<=100000 by decide),?_⟩⟩))⟩⟩;refine Bg (Dm (kZ (BO (Dm (Hu (Bg (A9 rfl (DQ ⟨(show 1<=100000 by decide),_,.inl ⟨rfl,rfl,?_⟩⟩))))))));refine Hd (Ac ⟨_,rfl,U3 rfl (Ac ⟨_,rfl,by decide,by decide,λy J I=>⟨_,rfl,_,rfl,by omega,by omega,(show 1<=10 by decide),?_⟩⟩)⟩);refine Bg (A9 rfl (Bg (Ac (DQ ⟨(show 4<=100000 by decide),⟨[⟨l.w,[("next", l.w)],true⟩],List.replicate (1+y).toNat l.w,r,400⟩,⟨C,?_,?_,hr,Aj _⟩,?_⟩))))
   .show(List.replicate _ _).length<=12;rw[fQ];omega
   .intro x hx;rw[(List.mem_replicate.mp hx).2];exact D2
   .rw[di];show _=PV.tup [_,.lst ((List.replicate (1+y).toNat l.w).map .str),_,_];rw[List.map_replicate];rfl
 rintro _⟨m,o,hm,rfl⟩;exact Ez (HA (Bg (A9 rfl (Bg (A9 rfl (Bg (A9 rfl (Bg (A9 rfl (DQ ⟨by simp,⟨ks,cs,r,m⟩,⟨g,u,B,hr,hm⟩,rfl⟩))))))))))
def lW:BA ["words","word"] ["words","word"] (Af Ue):=by walk_at "z1"
def ay : ∀ss R,L3 ss R->ss.length=2:=by rintro _ _⟨ws,d,x,rfl,_,_,_,rfl⟩;rfl
def uW(F:AV K "check_word" "check_word" Ue f fd)(m:mg "check_word"=some (.ref f)):
  AR P w K mg ZB "check_word" 1 ["words","word"] (Ai L3):=by
 refine AR.mk F (F.binds (by walk_at "bD2")) m (F.BQ (k:=0) lW (λvs H Q E h=>Fz.DB ay h) (λAd A outer s H vs Q E hr h=>?_))
 refine⟨_,(AK rfl (BR (pK (xG (KR hr) (qv 1) (qv 0)) (cR OR (qv 1) (qv 0) (by with_unfolding_all rfl))) (AK rfl J6) Bw)),?_⟩;refine Fz.DA h ay ?_;rintro _ _⟨ws,d,x,rfl,hd,a,hx,rfl⟩;show Ws [_,_] _ _ _;refine Dt ?_;rcases hd with rfl|⟨xs,rfl⟩
 .refine sF (Dx (Y5 (A9 rfl ⟨x,rfl,G1 rfl ⟨_,rfl,?_⟩⟩)));refine⟨_,rfl,DJ ?_ (CH ⟨_,rfl,rfl⟩)⟩;rw[iN hx];decide
 .refine iX (FG (lU (A9 rfl (A9 rfl ⟨_,_,.inr x,rfl,rfl,_,rfl,?_⟩))));rw[Wy,iN hx];exact DJ (by decide) (CH ⟨_,rfl,rfl⟩)
def bE:BA ["words","puts","put"] ["words","puts"] (Af U8):=by walk_at "z1"
def dI : ∀ss R,VW ss R->ss.length=2:=by rintro _ _⟨ws,ps,rfl,_,_,rfl⟩;rfl
def rE(F:AV K "check_puts" "check_puts" U8 f fd)(m:mg "check_puts"=some (.ref f)):
  AR P w K mg ZB "check_puts" 2 ["words","puts"] (Ai VW):=by
 refine AR.mk F (F.binds (by walk_at "bD2")) m (F.BQ (k:=1) bE (λvs H Q E h=>Fz.DB dI h) (λAd A outer s H vs Q E hr h=>?_))
 refine⟨_,(AK rfl (FK ET rfl (Di (qv 1)) (DE 2 bE.nd) (AD rfl (BR (BP OR (AM Ar (qv 2) A3) (Jq (v:=.ref Ie) (by rfl) Vm rfl)) (AK rfl J6) Bw)
   (AK rfl (By (Aw Ft hr (A0 (qv 0) (A0 (AM Ar (qv 2) A3) A4)))))))),?_⟩
 refine Fz.DA h dI ?_;rintro _ _⟨ws,ps,rfl,b,c,rfl⟩;show Ws [_,_,.any] _ _ _;have C:JC K Ie (WH.map .str):=JC.of Vb rfl rfl;refine Gk (λ_ i A7=>∃s2:Slot,A7=[.is (.lst (ws.map .str)),.is (.lst (ps.map BV)),s2]) ?_
 walk_at "ww"
 refine⟨⟨_,rfl⟩,?_,?_⟩
 .rintro k p A7 a⟨s2,rfl⟩;rw[Aa]at a;obtain⟨q,ex,rfl⟩:=Option.map_eq_some_iff.mp a;refine JM ?_;have sq:=c q (Dn ex);refine AW (Dt (Dx (cN (neg:=true) C (Bi (C2 rfl ⟨rfl,Ac ⟨_,_,rfl,rfl,q.1,rfl,_,rfl,?_⟩⟩)))));rw[iN sq.1];refine DJ (by decide) (CH ?_);refine Ih (wp_call (BM (A9 rfl (BM (Bi (C2 rfl ⟨rfl,Ac ⟨_,_,rfl,rfl,Ce ⟨_,⟨ws,_,q.2,rfl,.inl rfl,b,sq.2,rfl⟩,?_⟩⟩⟩))))));rintro _ rfl;exact⟨_,rfl⟩
 .rintro A7⟨s2,rfl⟩;exact⟨_,rfl,rfl⟩
def k7:BA ["text"] ["text"] (Af OG):=by walk_at "z1"
def tX:=Sc [(".0",.local),("sign",.local),("LETTERS",.globalImplicit)]
def ub:Dz ["text"] (Af OG) tX "sign" [] []:=by walk_at "z2"
def i6(F:AV K "is_name" "is_name" OG f fd)(m:mg "is_name"=some (.ref f)):
  AR P w K mg ZB "is_name" 1 ["text"] (VB):=by
 refine AR.mk F (F.binds (by walk_at "bD1")) m (F.BQ (k:=0) k7 (λvs H Q E h=>?_) (λAd A outer s H vs Q E hr h=>?_))
 .obtain⟨x,rfl,hx,q⟩:=h;rfl
 obtain⟨x,rfl,hx,q⟩:=h;refine⟨_,(AK rfl (BJ (Rf (n9 Qa Qa A3 (CD Z8 BI (A0 (qv 0) A4)) (Jq (v:=.int 8) (by rfl) Tp ⟨_,rfl⟩)) (MX (CD (bu rfl) Ko (A0 (Il rfl ub (j7 (qv 0)) (λ_ _ _ _=>by exact FO) (λ_ _ _ _=>by exact(Ed uu (qv 0) (Jq (v:=.str "abcdefghijklmnopqrstuvwxyz") (by rfl) RJ ⟨_,rfl⟩)))) A4)))))),?_⟩;refine⟨_,rfl,_,rfl,small (by omega),_,_,rfl,rfl,_,rfl,?_⟩;refine BL (λc=>?_) (λc=>⟨_,rfl,Qw ?_⟩)
 .refine⟨_,_,rfl,rfl,_,rfl,?_⟩;refine BL (λa=>?_) (λa=>?_)
  .refine⟨_,rfl,x,rfl,λacc Ax=>rM (λ_=>true) aA Ax (by rw[<- Qc,<- HF];exact small (by omega)) (λi v H' Q' _ _ h=>h H' (AI.refl _)) (λi v H' Q' g _ _ h=>?_) (λH' d b=>?_)⟩
   .obtain⟨j,rfl⟩:=signs_get g;exact⟨_,rfl,_,_,rfl,rfl,h H' (AI.refl _)⟩
   .rw[qu]at b;refine⟨acc,_,rfl,AS.of b,?_⟩;rw[all_map];have e:isNm x=x.cps.toList.all PB:=by unfold isNm;rw[c,a];rfl
    rw[<- e];exact q H' d
  .have e:isNm x=false:=by unfold isNm;rw[Bool.eq_false_iff.mpr a];simp
   rw[<- e];exact q H (AI.refl _)
 .have e:isNm x=false:=by unfold isNm;rw[Bool.eq_false_iff.mpr c];simp
  rw[<- e];exact q H (AI.refl _)
def Mi:BA ["kinds","words","number","kind"] ["kinds"] (Af Oe):=by walk_at "z1"
def pT:=Sc [(".0",.local),("kind",.local)]
def oH:Dz ["kinds","words","number","kind"] (Af Oe) pT "kind" [] []:=by walk_at "z2"
def cI : ∀ss R,TR ss R->ss.length=1:=by rintro _ _⟨ks,rfl,_,rfl⟩;rfl
def kB(F:AV K "check_kinds" "check_kinds" Oe f fd)(m:mg "check_kinds"=some (.ref f)):
  AR P w K mg ZB "check_kinds" 3 ["kinds"] (Ai TR):=by
 refine AR.mk F (F.binds (by walk_at "bD1")) m (F.BQ (k:=2) Mi (λvs H Q E h=>Fz.DB cI h) (λAd A outer s H vs Q E hr h=>?_))
 refine⟨_,(AD rfl (BR (IM (nY Qa Qa A3 (CD GB BI (A0 (qv 0) A4)) (Jq (v:=.int 8) (by rfl) Vl ⟨_,rfl⟩))) (AK rfl J6) Bw)
   (AD rfl (O0 (i:=1) Mi.nd rfl (Or.inl rfl) rfl oH (Di (qv 0)) (λ_ _ _ _=>by exact FO) (λ_ _ _ _=>by exact(AM (show DK _ (FE K)from Ar) (qv 0) A3)))
   (AD rfl (D6 (FK ET rfl (x3 rfl Ur (A0 (qv 0) A4)) (NW rfl (G3 (DE 2 Mi.nd) (G3 (DE 3 Mi.nd) Mw))) (AD rfl (BR (IM (Eg (Aw Rh hr (A0 (AM Ar (qv 3) A3) A4)))) (AK rfl J6) Bw)
   (AD rfl (BR (BP UG (AM Ar (qv 3) A3) (J7 Kw (qv 1) IZ (Iw (qv 2)))) (AK rfl J6) Bw)
   (AK rfl (BR (BP PF (CD GB BI (A0 (AM Ar (qv 3) A3) A4)) (Jq (v:=.int 6) (by rfl) U0 ⟨_,rfl⟩)) (AK rfl J6) Bw))))))
   (AK rfl (FK ET rfl (Di (qv 0)) (DE 3 Mi.nd) (AK rfl (By (Aw Ra hr (A0 (qv 1) (A0 (AM Ar (qv 3) A3) A4)))))))))),?_⟩
 refine Fz.DA h cI ?_;rintro _ _⟨ks,rfl,g,rfl⟩;show Ws [_,.any,.any,.any] _ _ _;have l1:=g.l1;have l8:=g.l8
 walk_at "ww"
 rw[AF];refine RE (iN (by omega)) ?_;refine Ac ⟨_,rfl,_,rfl,?_⟩;rw[iN (show(ks.length:Int)<=8 by omega)];refine DJ (by decide) (CH ?_);refine AW (G4 (I0 Ef (λ_=>true) (λk=>PV.str k.w) (Gd (FY (A9 rfl ⟨_,.inl ⟨rfl,ks,rfl,by omega,λk _=>G0 rfl,λk _ _=>Bi (C2 rfl ⟨rfl,Ac ⟨_,_,rfl,rfl,rfl⟩⟩),?_⟩⟩))) jj));rw[List.filter_eq_self.mpr λ_ _=>rfl];refine Gg 1 rfl ?_;have o:(ks.map λk=>PV.str k.w)=(wk ks).map PV.str:=by rw[CA];rfl
 rw[o];show Ws [.is (.lst (ks.map Ef)),.is (.lst ((wk ks).map .str)),.any,.any] _ _ _;refine AW (FN (Gk (λ_ i A7=>∃s2 a:Slot,A7=[.is (.lst (ks.map Ef)),.is (.lst ((wk ks).map .str)),s2,a]) ?_))
 walk_at "ww"
 refine⟨⟨_,_,rfl⟩,?_,?_⟩
 .rintro i q A7 l⟨s2,a,rfl⟩;obtain⟨r,hx,rfl⟩:=jR l;rw[Aa]at hx;obtain⟨k,ex,rfl⟩:=Option.map_eq_some_iff.mp hx;have hi:=(List.getElem?_eq_some_iff.mp ex).1;have b:=Dn ex;refine dR ⟨_,_,rfl,?_⟩
  walk_at "ww"
  refine j8 (Bi (C2 rfl ⟨rfl,Ac ⟨_,_,rfl,rfl,k.w,rfl,ES (g.nm k b).2.1 (by decide),_,rfl,?_⟩⟩));rw[ja (g.nm k b)];refine DJ (by decide) (CH ?_)
  walk_at "ww"
  rw[show Cw (wk ks) none (some (i:Int))=(wk ks).take i from wX (by rw[AF];omega)];refine DJ (λc=>?_) (CH ?_)
  .obtain⟨j,n,e⟩:=WW (ib c);rw[DO,AF]at n;rw[fO]at e;have q:=List.pairwise_iff_getElem.mp g.nd j i (by rw[AF];omega) (by rw[AF];exact hi) (by omega);refine q (e.trans ?_);rw[Kj,(List.getElem?_eq_some_iff.mp ex).2]
  refine Dt (Dx (XC (PY (BO (Bi (C2 rfl ⟨rfl,Ac ⟨_,_,rfl,rfl,_,.inl ⟨rfl,?_⟩⟩⟩))))))
  walk_at "ww"
  rw[AF];refine DJ (λc=>?_) (CH ⟨_,_,rfl⟩);have:=ib c;have:=(g.ps k b).1;omega
 .rintro A7⟨s2,a,rfl⟩;refine Gk (λ_ i A7=>∃s2 a:Slot,A7=[.is (.lst (ks.map Ef)),.is (.lst ((wk ks).map .str)),s2,a]) ?_
  walk_at "ww"
  refine⟨⟨_,_,rfl⟩,?_,?_⟩
  .rintro i p A7 d⟨s2,a,rfl⟩;rw[Aa]at d;obtain⟨k,ex,rfl⟩:=Option.map_eq_some_iff.mp d;have b:=Dn ex;refine JM ?_;refine Ih (wp_call (BM (A9 rfl (BM (Bi (C2 rfl ⟨rfl,Ac ⟨_,_,rfl,rfl,Ce ⟨_,⟨wk ks,k.ps,rfl,by rw[AF];omega,(g.ps k b).2,rfl⟩,?_⟩⟩⟩))))));rintro _ rfl;exact⟨_,_,rfl⟩
  .rintro A7⟨s2,a,rfl⟩;exact⟨_,rfl,rfl⟩
def XS:BA ["self","kinds","kind"] ["self","kinds"] (Af Tg):=by walk_at "z1"
def bW:∀ss R,(R4 A8) ss R->ss.length=2:=by rintro _ _⟨dx,a,ks,rfl,_,rfl⟩;rfl
def iM(F:AV K "__init__" "Errands.__init__" Tg f fd)(n:Mk K A8 f):
  NU P w K mg ZB A8 4 ["self","kinds"] (Dc (R4 A8)):=by
 refine⟨f,fd,F.BQ (k:=3) XS (λvs H Q E h=>Fz.KP bW h) (λAd A outer s H vs Q E hr h=>?_),(F.binds (by walk_at "bD2")),n⟩
 refine⟨_,(AD rfl (By (Aw TQ hr (A0 (qv 1) A4)))
   (AD rfl (HE (qv 0) W6)
   (AD rfl (HE (qv 0) W6)
   (AK rfl (FK ET rfl (Di (qv 1)) (DE 2 XS.nd) (AD rfl (RN (KR hr) (C7 (qv 0)) (AM Ar (qv 2) A3) (GW RO G6 (A0 (AM Ar (qv 2) A3) A4)))
   (AK rfl (RN (KR hr) (C7 (qv 0)) (AM Ar (qv 2) A3) (AM Ar (qv 2) A3))))))))),?_⟩
 refine Fz.ML h bW ?_;rintro _ _⟨dx,a,ks,rfl,g,rfl⟩;show Ws [_,_,.any] _ _ _;refine AW (Ih (wp_call (BM (A9 rfl (Ce ⟨_,⟨ks,rfl,g,rfl⟩,?_⟩)))));rintro _ rfl;refine AW (JE (i:=0) (Ta λb=>B6 rfl ⟨true,A8,dx,[],a,[],rfl,rfl,DZ,GH,by decide,An,?_⟩));rw[OV.CI];show Ws [.ow true (.nd (.obj A8 dx ["puts_by_word"]) a [.nd (.B1 []) b []]),.is (.lst (ks.map Ef)),.any] _ _ _;refine AW (JE (i:=0) (Ta λc=>B6 rfl ⟨true,A8,dx,_,a,_,rfl,rfl,DZ,J3,by decide,An,?_⟩));rw[OV.CI];have l8:=g.l8;refine Gk (λ_ i A7=>∃(s2:Slot),A7=[.ow true (Hs A8 dx a b c (ks.take i)),.is (.lst (ks.map Ef)),s2]) ?_
 walk_at "ww"
 refine⟨⟨_,rfl⟩,?_,?_⟩
 .rintro i p A7 d⟨s2,rfl⟩;rw[Aa]at d;obtain⟨k,ex,rfl⟩:=Option.map_eq_some_iff.mp d;have hi:=(List.getElem?_eq_some_iff.mp ex).1;have nk:k.w∉wk (ks.take i):=λm=>by
   obtain⟨j,o,e⟩:=WW m;rw[AF,DO]at o;rw[Kj,fO]at e;have q:=List.pairwise_iff_getElem.mp g.nd j i (by rw[AF];omega) (by rw[AF];exact hi) (by omega);refine q ?_;rw[Kj,Kj,e,(List.getElem?_eq_some_iff.mp ex).2]
  have l:(wk (ks.take i)).Nodup:=by
   rw[show wk (ks.take i)=(wk ks).take i from JU];exact g.nd.sublist (fW _ _)
  refine JM ?_;refine AW (TM (i:=0) (t:=Hs A8 dx a b c (ks.take i)) (CJ (TN rfl (BO (Bi (C2 rfl ⟨rfl,Ac ⟨_,_,rfl,rfl,_,.inl ⟨rfl,?_⟩⟩⟩))))));refine Kb (B6 rfl ⟨A8,dx,_,a,_,0,_,rfl,DZ,GH,rfl,rfl,true,b,_,_,rfl,rfl,by rw[AF,DO];omega,VD l,An,Bi (C2 rfl ⟨rfl,Ac ⟨_,_,rfl,rfl,.inr k.w,rfl,?_⟩⟩)⟩);rw[Fb,Q5 nk,Qu nk];unfold Hs;rw[OV.Gh (show _=some _ from rfl),OV.CI];refine TM (i:=0) (t:=.nd (.obj A8 dx Hc) a [.nd (.B1 (Bx (wk (ks.take i)++[k.w]))) b ((ks.take i).map (λk=>.fz (.tup (k.ps.map BV)))++[.fz (.tup (k.ps.map BV))]),.nd (.B1 (Bx (wk (ks.take i)))) c ((ks.take i).map λk=>.fz (.bl k.g))]) (CJ (Bi (C2 rfl ⟨rfl,Ac ⟨_,_,rfl,rfl,?_⟩⟩)));refine Kb (B6 rfl ⟨A8,dx,_,a,_,1,_,rfl,DZ,J3,by decide +kernel,rfl,true,c,_,_,rfl,rfl,by rw[AF,DO];omega,VD l,An,Bi (C2 rfl ⟨rfl,Ac ⟨_,_,rfl,rfl,.inr k.w,rfl,?_⟩⟩)⟩);rw[Fb,Q5 nk,Qu nk,OV.Gh (show _=some _ from rfl),OV.CI];refine⟨.is (Ef k),?_⟩;rw[ae ex];simp only[wk,Cc,Ap,Gp];rfl
 .rintro A7⟨s2,rfl⟩;rw[AF,IV];exact⟨_,_,_,_,rfl,rfl,rfl,b,c,rfl⟩
def LU:BA ["kinds","handed","book","word","puts","goes"] ["kinds"] (Af QH):=by walk_at "z1"
def tj:=Sc [(".0",.local),("word",.local),("puts",.local),("goes",.local),("list",.globalImplicit)]
def tN:HY ["kinds","handed","book","word","puts","goes"] (Af QH) tj ["word","puts","goes"] [] []:=⟨rfl,by decide +kernel,by decide +kernel,by decide +kernel,rfl,by decide +kernel,by decide +kernel,by decide +kernel,by decide +kernel⟩
def bZ:∀ss R,(Vo A8) ss R->ss.length=1:=by rintro _ _⟨ks,rfl,_,rfl⟩;rfl
def hC(F:AV K "_law_book" "_law_book" QH f fd)(m:mg "_law_book"=some (.ref f)):
  AR P w K mg ZB "_law_book" 6 ["kinds"] (Ai (Vo A8)):=by
 refine AR.mk F (F.binds (by walk_at "bD1")) m (F.BQ (k:=5) LU (λvs H Q E h=>Fz.DB bZ h) (λAd A outer s H vs Q E hr h=>?_))
 refine⟨_,(AD rfl (Y9 (i:=1) LU.nd rfl (Or.inl rfl) rfl tN (.cons (.cons (.cons .nil))) (λ_=>rfl) (λ_=>rfl) (Di (qv 0)) (λ_ _ _ _=>by exact FO) (λ_ _ _ _=>by exact(CP (A0 (qv 0) (A0 (GW (show DF _ (.type "list") (Fz.cQ K)from Fz.gP) Dj (A0 (qv 1) A4)) (A0 (qv 2) A4))))))
   (AD rfl (Ag 2 LU.nd (YB T4 hr (by decide) Rv (A0 (qv 1) A4)))
   (AD rfl (D6 (FK ET rfl (nK (qv 1)) (NW rfl (G3 (DE 3 LU.nd) (G3 (DE 4 LU.nd) (G3 (DE 5 LU.nd) Mw)))) (AK rfl (By (Dl Dp Gq Gr Fm (qv 4) (A0 (CP (A0 B4 (A0 (qv 3) A4))) A4))))))
   (AD rfl (By (rF Dp PySem.F.slot_list_clear PySem.F.type_list_clear wL (qv 1)))
   (AK rfl (BJ (qv 2))))))),?_⟩
 refine Fz.DA h bZ ?_;rintro _ _⟨ks,rfl,g,rfl⟩;show Ws [_,.any,.any,.any,.any,.any] _ _ _;have l8:=g.l8;refine AW (GX (iu (λx u=>∃(k:Kd)(b:Addr),x=k.P/\u=.tp [.fz (.str k.w),.nd .lst b ((k.ps.map BV).map .fz),.fz (.bl k.g)]) (Gd (FY (A9 rfl ⟨_,.inl ⟨rfl,by rw[AF];omega,λx hx=>?_,λl us o J=>?_⟩⟩)))))
 .obtain⟨k,B,rfl⟩:=List.mem_map.mp hx;refine⟨_,rfl,rfl,G0 rfl,?_⟩;refine Mj (Cv (CJ (A9 rfl (Cv (Jx (MQ rfl (C2 rfl λb=>Cv (CJ (A9 rfl (GN ⟨λ_ h=>absurd h An,λ_ h=>absurd h An,λ_ h=>absurd h An,by show 3<=100000;decide,rfl,k,b,rfl,rfl⟩))))))))))
 have σ:∃bs:List Addr,bs.length=ks.length/\us=Dv ks bs:=YL o J;obtain⟨bs,y,rfl⟩:=σ;show Ws [.is (.lst (ks.map Kd.P)),.ow false (.nd .lst l (Dv ks bs)),.any,.any,.any,.any] _ _ _;refine AW (GX (r8 ?_));show Wx [.is (.lst (ks.map Kd.P)),.is (OV.nd .lst l (Dv ks bs)).pv,.any,.any,.any,.any] _ _;refine ZM (JK (A9 rfl (J9 λx dx=>⟨_,⟨dx,x,ks,by rw[fo ks bs l y],g,rfl⟩,?_⟩)));rintro _ _⟨rfl,M,L,rfl⟩;refine⟨rfl,_,_,rfl,rfl,qd _ _ _ _ _ _,?_⟩;show Ws [.is (.lst (ks.map Kd.P)),.ow false (.nd .lst l (Dv ks bs)),.ow false (Hs A8 dx x M L ks),.any,.any,.any] _ _ _;refine qG 2 rfl ?_;rw[qB];show Ws [.is (.lst (ks.map Kd.P)),.ow false (.nd .lst l (Dv ks bs)),.is (BX A8 ks),.any,.any,.any] _ _ _;refine AW (FN (mR (i:=1) (a0:=l) ks.length (λn A7=>∃(us:List OV)(v s4 t:Slot),A7=[.is (.lst (ks.map Kd.P)),.ow false (.nd .lst l us),.is (BX A8 ks),v,s4,t]/\us.length=ks.length/\∀(j:Nat)u,us[j]?=some u->∃(k:Kd)(b:Addr)(a:List PV),u=.tp [.fz (.str k.w),.nd .lst b (a.map .fz),.fz (.bl k.g)]/\a.length<=7/\(n<=j->a.length<=6)) ⟨_,_,_,_,rfl,XA ks bs y,λj u d=>?_⟩ (λn A7 R I=>?_) ?_))
 .obtain⟨k,b,B,rfl⟩:=eT ks bs y d;have:=(g.ps k B).1;exact⟨k,b,_,rfl,by rw[AF];omega,λ_=>by rw[AF];exact this⟩
 .obtain⟨us,v,s4,t,rfl,o,d⟩:=I;refine⟨false,us,rfl,o,λAU=>?_⟩;obtain⟨u,r⟩:∃u,us[n]?=some u:=⟨_,Am (by omega)⟩;obtain⟨k,b,a,rfl,S,C⟩:=d n u r;have C:=C (Aj _);refine⟨_,r,vM ?_⟩;show Ws [.is (.lst (ks.map Kd.P)),.ow false (.nd .lst l us),.is (BX A8 ks),.is (.str k.w),.raw (ptr b),.is (.bl k.g)] _ _ _;have at':(OV.nd .lst l us).at [n,1]=some (.nd .lst b (a.map .fz)):=by rw[OV.Gy,r];show OV.at (.tp [.fz (.str k.w),.nd .lst b (a.map .fz),.fz (.bl k.g)]) [1]=_;rw[OV.Ge];exact OV.Ej
  refine LP (i:=1) (Ni (j:=4) (p:=[n,1]) rfl rfl at' ⟨false,b,_,rfl,rfl,by rw[AF];omega,CJ (HA (Bg (Eb (Bg (A9 rfl (DQ ⟨by show 2<=100000;decide,?_⟩))))))⟩);refine⟨An,us.set n (.tp [.fz (.str k.w),.nd .lst b ((a++[PV.tup [.str "first",.str k.w]]).map .fz),.fz (.bl k.g)]),.is (.str k.w),.raw (ptr b),.is (.bl k.g),?_,by rw[JT];exact o,λj u q=>?_⟩
  .rw[OV.Gh r,OV.IY (show _=some _ from rfl),OV.CI,Cc];rfl
  .by_cases c:j=n
   .subst c;rw[DD (by omega)]at q;cases q;exact⟨k,b,_,rfl,by rw[C5];show _+1<=_;omega,λz=>by omega⟩
   .rw[Cb (Bk c)]at q;obtain⟨G,N,D,e,h1,h2⟩:=d j u q;exact⟨G,N,D,e,h1,λz=>h2 (by omega)⟩
 .rintro A7⟨us,v,s4,t,rfl,o,d⟩;refine AW (h9 (i:=1) (B6 rfl ⟨false,l,us,rfl,rfl,?_⟩));exact Ez (A9 rfl rfl)
def Ka:BA ["stand","at","errand","rule","low","nexts","high","where","kind","told_here"] ["stand","at","errand","rule"] (Af Ss):=by walk_at "z1"
def cx : ∀ss R,SK ss R->ss.length=4:=by rintro _ _⟨bs,at_,ps,g,r,ct,rfl,_,_,_,_,rfl⟩;rfl
def gm(F:AV K "_law_errand" "_law_errand" Ss f fd)(m:mg "_law_errand"=some (.ref f)):
  AR P w K mg ZB "_law_errand" 2 ["stand","at","errand","rule"] (Ai SK):=by
 refine AR.mk F (F.binds (by walk_at "bD4")) m (F.BQ (k:=1) Ka (λvs H Q E h=>Fz.DB cx h) (λAd A outer s H vs Q E hr h=>?_))
 refine⟨_,(AD rfl (Ag 4 Ka.nd (J7 Kw (qv 0) IZ (Iw (qv 1))))
   (AD rfl (Ag 5 Ka.nd (Cq A4))
   (AD rfl (Ag 6 Ka.nd (J7 Kw (qv 0) (Iw (Ah Dy (qv 1) A3)) IZ))
   (AD rfl (D6 (FK ET rfl (Di (AM Ar (qv 2) A3)) (NW rfl (G3 (DE 7 Ka.nd) (G3 (DE 8 Ka.nd) Mw))) (AK rfl (BR (BP DG (qv 7) B4) (AK rfl (By (Dl Dp Gq Gr Fm (qv 5) (A0 (Cq (A0 (qv 8) (A0 (Ed Ru (qv 3) B4) A4))) A4)))) (AK rfl (BR (BP DG (qv 7) B4) (AK rfl (By (Dl Dp Gq Gr Fm (qv 6) (A0 (Cq (A0 (qv 8) (A0 (Ed Ru (qv 3) B4) A4))) A4)))) (AK rfl (BR (BP DG (qv 7) B4) (AK rfl (By (Dl Dp Gq Gr Fm (qv 4) (A0 (Cq (A0 (qv 8) (A0 (Ed DG (qv 3) B4) A4))) A4)))) (AK rfl (By (Dl Dp Ql Ww OM (qv 4) (A0 A3 (A0 (Cq (A0 (qv 8) (A0 (Ed DG (qv 3) B4) A4))) A4)))))))))))))
   (AD rfl (Ag 9 Ka.nd (J7 Kw (Cq (A0 (AM BG (qv 0) (qv 1)) A4)) IZ (Iw (Ah Jo A3 (GW Tc Fc (A0 (AM Ar (qv 2) A3) A4))))))
   (AK rfl (BJ (CP (A0 (Ah LK (Ah LK (Ah LK (qv 4) (qv 9)) (qv 5)) (qv 6)) (A0 (Ah Dy (CD GB BI (A0 (qv 4) A4)) (CD GB BI (A0 (qv 9) A4))) A4)))))))))),?_⟩
 refine Fz.DA h cx ?_;rintro _ _⟨bs,at_,ps,g,r,ct,rfl,q,T,hw,U,rfl⟩;show Ws [_,_,_,_,.any,.any,.any,.any,.any,.any] _ _ _;refine AW (GX (Jx (Lr ?_)))
 walk_at "ww"
 intro a;rw[iE,<- JU,Zh];refine AW (GX (Kr (GN ⟨by simp,λd=>?_⟩)));refine AW (GX (Jx (Lr ?_)))
 walk_at "ww"
 intro e;rw[show((at_:Int)+1)=((at_+1:Nat):Int)from rfl,cB,<- HN,Zh];refine AW (FN (Gk (λ_ i A7=>∃(lo nx hi:List El)(a d e:Addr)(u t:Slot),A7=[.sq false (bs.map Hk),.is (.int at_),.is (.tup [.tup (ps.map BV),.bl g]),.is (.str r),.ow false (.nd .lst a (lo.map D9)),.ow false (.nd .lst d (nx.map D9)),.ow false (.nd .lst e (hi.map D9)),u,t,.any]/\Im ct r bs at_ (ps.take i) lo nx hi) ?_))
 walk_at "ww"
 refine⟨⟨(bs.take at_).map λb=>(b,none),[],(bs.drop (at_+1)).map λb=>(b,none),a,d,e,.any,.any,rfl,⟨?_,Xj _,rfl,Xj _⟩⟩,?_,?_⟩
 .rw[bp,bp,Wd,JU,HN];rfl
 .rintro i p A7 Pu⟨lo,nx,hi,a,d,e,u,t,rfl,j⟩;rw[Aa]at Pu;obtain⟨⟨wh,kd⟩,G,rfl⟩:=Option.map_eq_some_iff.mp Pu;obtain⟨Fh,J⟩:=List.getElem?_eq_some_iff.mp G;have V:=ou (hw (wh,kd) (Dn G));have D:=j.len q;rw[DO]at D;have es:ps.take (i+1)=ps.take i++[(wh,kd)]:=by rw[Ln Fh,J]
  rw[es];refine dR ⟨_,_,rfl,?_⟩;show Ws [.sq false (bs.map Hk),.is (.int at_),.is (.tup [.tup (ps.map BV),.bl g]),.is (.str r),.ow false (.nd .lst a (lo.map D9)),.ow false (.nd .lst d (nx.map D9)),.ow false (.nd .lst e (hi.map D9)),.is (.str wh),.is (.str kd),.any] _ _ _;have S:("last":Str)≠"next" := by decide +kernel
  have R:("back":Str)≠"next" := by decide +kernel
  have σ:("back":Str)≠"last" := by decide +kernel
  have N:("first":Str)≠"next" := by decide +kernel
  have M:("first":Str)≠"last" := by decide +kernel
  have L:("first":Str)≠"back" := by decide +kernel
  have n:∀y:Str,alike (PV.str wh) (.str y)=true↔wh=y:=λy=>by simp[alike]
  refine Dt (Dx (FQ (A9 rfl (Eb ⟨rfl,_,rfl,BL (λc=>?_) (λc=>?_)⟩))))
  .have B:=(n _).mp c;have st:C1 r (lo.map (Az ct),nx.map (Az ct),hi.map (Az ct)) (wh,kd)=(lo.map (Az ct),nx.map (Az ct)++[(kd,decide (r ≠"none"))],hi.map (Az ct)):=by exact hZ B
   refine LP (i:=5) (B6 rfl ⟨false,d,_,rfl,rfl,by rw[AF];omega,Kr (Cv (CJ (A9 rfl (Cv (CJ (Pj (A9 rfl (Eb ⟨rfl,GN ⟨by simp,by simp,by simp,λc=>⟨by simp,lo,(nx++[(c,some (kd,decide (r ≠"none")))]),hi,a,d,e,.is (.str wh),.is (.str kd),?_,j.step (kd:=kd) (wh:=wh) ?_ rfl (Rq _ _ _) rfl⟩⟩⟩))))))))⟩)
   .rw[OV.CI,Yu];rw[S7];rfl
   .rw[st];rw[UH]
  have v:wh ≠"next" := λz=>c ((n _).mpr z)
  refine Dt (Dx (FQ (A9 rfl (Eb ⟨rfl,_,rfl,BL (λl=>?_) (λl=>?_)⟩))))
  .have l:=(n _).mp l;have st:C1 r (lo.map (Az ct),nx.map (Az ct),hi.map (Az ct)) (wh,kd)=(lo.map (Az ct),nx.map (Az ct),hi.map (Az ct)++[(kd,decide (r ≠"none"))]):=by unfold C1;rw[gp v,hZ l]
   refine LP (i:=6) (B6 rfl ⟨false,e,_,rfl,rfl,by rw[AF];omega,Kr (Cv (CJ (A9 rfl (Cv (CJ (Pj (A9 rfl (Eb ⟨rfl,GN ⟨by simp,by simp,by simp,λc=>⟨by simp,lo,nx,(hi++[(c,some (kd,decide (r ≠"none")))]),a,d,e,.is (.str wh),.is (.str kd),?_,j.step (kd:=kd) (wh:=wh) ?_ rfl rfl (Rq _ _ _)⟩⟩⟩))))))))⟩)
   .rw[OV.CI,Yu];rw[S7];rfl
   .rw[st];rw[UH]
  have C:wh ≠"last" := λz=>l ((n _).mpr z);refine Dt (Dx (FQ (A9 rfl (Eb ⟨rfl,_,rfl,BL (λo=>?_) (λo=>?_)⟩))))
  .have o:=(n _).mp o;have st:C1 r (lo.map (Az ct),nx.map (Az ct),hi.map (Az ct)) (wh,kd)=(lo.map (Az ct)++[(kd,decide (r="all"))],nx.map (Az ct),hi.map (Az ct)):=by unfold C1;rw[gp v,gp C,hZ o]
   refine LP (i:=4) (B6 rfl ⟨false,a,_,rfl,rfl,by rw[AF];omega,Kr (Cv (CJ (A9 rfl (Cv (CJ (FQ (A9 rfl (Eb ⟨rfl,GN ⟨by simp,by simp,by simp,λc=>⟨by simp,(lo++[(c,some (kd,decide (r="all")))]),nx,hi,a,d,e,.is (.str wh),.is (.str kd),?_,j.step (kd:=kd) (wh:=wh) ?_ (Rq _ _ _) rfl rfl⟩⟩⟩))))))))⟩)
   .rw[OV.CI,eD];rw[S7];rfl
   .rw[st];rw[UH]
  have I:wh ≠"back" := λz=>o ((n _).mpr z);have st:C1 r (lo.map (Az ct),nx.map (Az ct),hi.map (Az ct)) (wh,kd)=((kd,decide (r="all"))::lo.map (Az ct),nx.map (Az ct),hi.map (Az ct)):=by unfold C1;rw[gp v,gp C,gp I]
  refine vg (i:=4) (B6 rfl ⟨false,a,_,rfl,rfl,by rw[AF];omega,Kr (Cv (CJ (A9 rfl (Cv (CJ (FQ (A9 rfl (Eb ⟨rfl,GN ⟨by simp,by simp,by simp,λc=>⟨by simp,((c,some (kd,decide (r="all")))::lo),nx,hi,a,d,e,.is (.str wh),.is (.str kd),?_,j.step (kd:=kd) (wh:=wh) ?_ (gp (by simp)) rfl rfl⟩⟩⟩))))))))⟩)
  .rw[OV.CI,eD];rfl
  .rw[st];rfl
 .rintro A7⟨lo,nx,hi,a,d,e,u,t,rfl,j⟩;rw[AF,IV]at j;have D:=j.len q;have hx:(bs.map Hk)[at_]?=some (Hk (bs.getD at_ 0)):=by rw[Aa,Eo,Am q];rfl
  refine AW (GX (Jx (Lr (BO (Dm (Hu (Bg (DW (Yg rfl ⟨rfl,A9 rfl ⟨_,_,rfl,CV hx,DQ ⟨by simp,_,.inl ⟨rfl,rfl,?_⟩⟩⟩⟩)))))))))
  walk_at "ww"
  intro aT;rw[wF];have x:=j.fin (g:=g) q;have tl:(Kn (bs.getD at_ 0) g).length<=1:=by rw[ZF];split <;> omega
  refine XQ (Mj (Cv (UY (UY (UY (O3 (i:=4) rfl ⟨a,_,rfl,O3 (i:=9) rfl ⟨aT,_,rfl,by simp,by simp only[AF];omega,λB=>⟨B,_,rfl,O3 (i:=5) rfl ⟨d,_,rfl,by simp,by simp only[AF,C5];omega,λl=>⟨l,_,rfl,O3 (i:=6) rfl ⟨e,_,rfl,by simp,by simp only[AF,C5];omega,λc=>?_⟩⟩⟩⟩⟩⟩))))));refine Cv (CJ (Hd (Mm (i:=4) (B6 rfl ⟨a,_,rfl,_,rfl,Mm (i:=9) (B6 rfl ⟨aT,_,rfl,_,rfl,GN ⟨by simp,by simp,by simp,c,_,?_,x.1,x.2.2⟩⟩)⟩))));rw[<- x.2.1,Cc,Cc,Cc,AF,AF];rfl
def Ec:BA ["kinds","crowd","rule","most","errands","word","puts","goes","stand","heard","rounds","gap","ahead","at","thing"] ["kinds","crowd","rule","most"] (Af HX):=by walk_at "z1"
def jr:=Sc [(".0",.local),("word",.local)]
def u0:Dz ["kinds","crowd","rule","most","errands","word","puts","goes","stand","heard","rounds","gap","ahead","at","thing"] (Af HX) jr "word" [] []:=by walk_at "z2"
def pj:=Sc [(".0",.local),("thing",.local)]
def pG:Dz ["kinds","crowd","rule","most","errands","word","puts","goes","stand","heard","rounds","gap","ahead","at","thing"] (Af HX) pj "thing" [] []:=by walk_at "z2"
def jx:=Sc [(".0",.local),("at",.local),("stand",.free)]
def jG:Dz ["kinds","crowd","rule","most","errands","word","puts","goes","stand","heard","rounds","gap","ahead","at","thing"] (Af HX) jx "at" ["stand"] [8]:=by walk_at "z2"
def qS:=Sc [(".0",.local),("k",.local),("stand",.free)]
def gc:Dz ["kinds","crowd","rule","most","errands","word","puts","goes","stand","heard","rounds","gap","ahead","at","thing"] (Af HX) qS "k" ["stand"] [8]:=by walk_at "z2"
def rg:=Sc [(".0",.local),("thing",.local)]
def sY:Dz ["kinds","crowd","rule","most","errands","word","puts","goes","stand","heard","rounds","gap","ahead","at","thing"] (Af HX) rg "thing" [] []:=by walk_at "z2"
def wQ:=Sc [(".0",.local),("thing",.local)]
def iH:Dz ["kinds","crowd","rule","most","errands","word","puts","goes","stand","heard","rounds","gap","ahead","at","thing"] (Af HX) wQ "thing" [] []:=by walk_at "z2"
def eO : ∀ss R,V8 ss R->ss.length=4:=by rintro _ _⟨ks,cs,r,m,rfl,_,_,_,_,rfl⟩;rfl
def xB(F:AV K "_law_run" "_law_run" HX f fd)(m:mg "_law_run"=some (.ref f)):
  AR P w K mg ZB "_law_run" 3 ["kinds","crowd","rule","most"] (Ai V8):=by
 refine AR.mk F (F.binds (by walk_at "bD4")) m (F.BQ (k:=2) Ec (λvs H Q E h=>Fz.DB eO h) (λAd A outer s H vs Q E hr h=>?_))
 refine⟨_,(AD rfl (Ag 4 Ec.nd W6)
   (AD rfl (D6 (FK ET rfl (Di (qv 0)) (NW rfl (G3 (DE 5 Ec.nd) (G3 (DE 6 Ec.nd) (G3 (DE 7 Ec.nd) Mw)))) (AK rfl (RN (KR hr) (qv 4) (qv 5) (CP (A0 (qv 6) (A0 (qv 7) A4)))))))
   (AD rfl (Ag 8 Ec.nd (Il rfl u0 (Di (qv 1)) (λ_ _ _ _=>by exact FO) (λ_ _ _ _=>by exact(Cq (A0 (qv 0) (A0 FC A4))))))
   (AD rfl (Ag 9 Ec.nd (Cq A4))
   (AD rfl (Ag 10 Ec.nd A3)
   (AD rfl (Ag 11 Ec.nd A3)
   (AD rfl (D6 (O8 ET (Nv (BP Jf (CD GB BI (A0 (qv 9) A4)) (qv 3)) (QU (Eg (CD (aZ rfl) QC (A0 (Il rfl pG (Di (qv 8)) (λ_ _ _ _=>by exact FO) (λ_ _ _ _=>by exact(AM (show DK _ (FT K)from BG) (qv 0) A3))) A4))))).pt (AD rfl (O0 (i:=12) Ec.nd rfl (Or.inl rfl) rfl jG (uR rfl Et (A0 (qv 11) (A0 (CD GB BI (A0 (qv 8) A4)) A4))) (λ_ _ _ _=>by exact(dN (Eg (AM (show DK _ (FT K)from BG) (AM (show DK _ (FT K)from BG) (qv 0) (qv 1)) A3)))) (λ_ _ _ _=>by exact(qv 1)))
   (AD rfl (Ag 10 Ec.nd (Ah Dy (qv 10) (GW Tc Fc (A0 (Xc (Ed (YR hr.Ny) (qv 9) (Cq A4)) (MX (Ed (YR hr.Ny) (qv 12) (Cq A4)))) A4))))
   (AD rfl (Ag 13 Ec.nd (AM BG (Ah LK (qv 12) (Il rfl gc (NL rfl Et (A0 (qv 11) A4)) (λ_ _ _ _=>by exact(dN (Eg (AM (show DK _ (FT K)from BG) (AM (show DK _ (FT K)from BG) (qv 0) (qv 1)) A3)))) (λ_ _ _ _=>by exact(qv 1)))) A3))
   (AD rfl (Ag 14 Ec.nd (AM BG (qv 8) (qv 13)))
   (AD rfl (M9 FC (Oq (qv 14) A3 set_list))
   (AD rfl (By (Dl Dp Gq Gr Fm (qv 9) (A0 (AM BG (qv 14) A3) A4)))
   (AK rfl (M9 (Aw SI hr (A0 (qv 8) (A0 (qv 13) (A0 (RA (KR hr) (qv 4) (AM BG (qv 14) A3) (λ_ _=>rfl)) (A0 (qv 2) A4))))) (NW rfl (G3 (DE 8 Ec.nd) (G3 (DE 11 Ec.nd) Mw)))))))))))))
   (AK rfl (BJ (CP (A0 (qv 9) (A0 (Il rfl iH (Di (qv 8)) (λ_ _ _ _=>by exact FO) (λ_ _ _ _=>by exact(AM (show DK _ (FT K)from BG) (qv 0) A3))) (A0 (qv 10) (A0 (Qo (CD (aZ rfl) QC (A0 (Il rfl sY (Di (qv 8)) (λ_ _ _ _=>by exact FO) (λ_ _ _ _=>by exact(AM (show DK _ (FT K)from BG) (qv 0) A3))) A4))) A4)))))))))))))),?_⟩
 refine Fz.DA h eO ?_;rintro _ _⟨ks,cs,r,m,rfl,B,⟨hc,QF⟩,hr,hm,rfl⟩;show Ws [_,_,_,_,.any,.any,.any,.any,.any,.any,.any,.any,.any,.any,.any] _ _ _;have l8:=B.l8;refine AW (GX (Ta λI=>?_));refine AW (FN (Gk (λ_ i A7=>∃(o l d:Slot),A7=[.is (.lst (ks.map Kd.P)),.is (.lst (cs.map .str)),.is (.str r),.is (.int m),.ow false (Ma I (ks.take i)),o,l,d,.any,.any,.any,.any,.any,.any,.any]) ?_))
 walk_at "ww"
 refine⟨⟨_,_,_,rfl⟩,?_,?_⟩
 .rintro i p A7 C⟨o,l,d,rfl⟩;rw[Aa]at C;obtain⟨k,ex,rfl⟩:=Option.map_eq_some_iff.mp C;have hi:=(List.getElem?_eq_some_iff.mp ex).1;have nk:k.w∉wk (ks.take i):=λm=>by
   obtain⟨j,hj,U⟩:=WW m;rw[AF,DO]at hj;rw[Kj,fO]at U;have q:=List.pairwise_iff_getElem.mp B.nd j i (by rw[AF];omega) (by rw[AF];exact hi) (by omega);refine q ?_;rw[Kj,Kj,U,(List.getElem?_eq_some_iff.mp ex).2]
  have Q6:(wk (ks.take i)).Nodup:=by
   rw[show wk (ks.take i)=(wk ks).take i from JU];exact B.nd.sublist (fW _ _)
  unfold Kd.P;refine wI ⟨_,_,_,rfl,?_⟩;refine TM (i:=4) (t:=Ma I (ks.take i)) (CJ (HA (Bg (A9 rfl (Bg (A9 rfl (DQ ⟨by simp,?_⟩)))))));refine B6 rfl ⟨false,I,_,_,rfl,rfl,by rw[AF,DO];omega,VD Q6,An,A9 rfl ⟨.inr k.w,rfl,?_⟩⟩;rw[Q5 nk,Qu nk,OV.CI];refine⟨.is (.str k.w),.is (.tup (k.ps.map BV)),.is (.bl k.g),?_⟩;rw[ae ex];unfold Ma;simp only[wk,Cc,Ap,Gp];rfl
 .rintro A7⟨o,l,d,rfl⟩;rw[AF,IV];refine AW (GX (rX (λx u=>∃(c:Str)(b:Addr),x=.str c/\u=Bs (b,(c,true))) ?_))
  walk_at "ww"
  refine⟨by rw[AF];omega,λx hx=>by walk_at "ww"; rfl,λx hx=>?_,λaS us Ho HC=>?_⟩
  .obtain⟨c,_,rfl⟩:=List.mem_map.mp hx;exact Kr (Cv (CJ (A9 rfl (Cv (CJ (IB (GN ⟨by simp,by simp,by simp,λb=>⟨rfl,c,b,rfl,rfl⟩⟩)))))))
  obtain⟨hs,rfl,Y⟩:=Yf Ho HC;refine AW (G4 (Hu (DQ ⟨by simp,?_⟩)));refine AW (FU (Ac ?_));refine AW (FU (Ac ?_));refine KH (λA7=>∃(q:Rn×List Str)(hs:List (Addr×AB))(a:Addr)(o l d KJ Jj Jz:Slot),Cu ks (m - q.2.length) q=Cu ks m (EX r cs)/\(q.2.length<m->Bf q.1.th=false)/\(q.1.th=hs.map (·.2)/\q.1.th.length<=3000)/\A7=[.is (.lst (ks.map Kd.P)),.is (.lst (cs.map .str)),.is (.str r),.is (.int m),.ow false (Ma I ks),o,l,d,.ow false (.nd .lst a (hs.map Bs)),.own (q.2.map .str),.is (.int q.1.Al),.is (.int q.1.gap),KJ,Jj,Jz]) (FN (dy (λn A7=>∃(q:Rn×List Str)(hs:List (Addr×AB))(a:Addr)(o l d KJ Jj Jz:Slot),n=m - q.2.length/\Cu ks (m - q.2.length) q=Cu ks m (EX r cs)/\Hm ks q.2.length q.1/\q.1.r=r/\q.1.th=hs.map (·.2)/\((q.2=[]↔q.1.Al=0)/\q.2.length<=m/\q.1.gap<=q.1.th.length)/\A7=[.is (.lst (ks.map Kd.P)),.is (.lst (cs.map .str)),.is (.str r),.is (.int m),.ow false (Ma I ks),o,l,d,.ow false (.nd .lst a (hs.map Bs)),.own (q.2.map .str),.is (.int q.1.Al),.is (.int q.1.gap),KJ,Jj,Jz]) m ⟨EX r cs,hs,aS,o,l,d,.any,.any,.any,rfl,rfl,⟨hr,λy Z=>?_,?_⟩,rfl,Y.symm,⟨by simp[EX],CN _,CN _⟩,rfl⟩ ?_)) ?_
  .obtain⟨c,Hy,rfl⟩:=List.mem_map.mp Z;exact QF c Hy
  .show(cs.map _).length<=12+6 * 0;rw[AF];omega
  .rintro n A7⟨q,hs,a,o,l,d,KJ,Jj,Jz,rfl,G,ok,S,E9,⟨Vj,hle,UZ⟩,rfl⟩;have l1:=ok.len;refine WA (Dx ?_)
   walk_at "ww"
   rw[AF];refine BL (λc=>?_) (λc=>DJ (by decide) ⟨q,hs,a,o,l,d,KJ,Jj,Jz,G,λz=>absurd (iN (by omega)) c,⟨E9,by omega⟩,rfl⟩);have AU:q.2.length<m:=by have:=ib c;omega
   refine nI 8 rfl ?_;rw[MF,<- E9];refine FG (V2 rfl (BO (Dm (I0 HJ (λ_=>true) (λx=>PV.bl x.2) (Gd (FY (A9 rfl ⟨_,.inl ⟨rfl,q.1.th,rfl,by omega,λ_ _=>G0 rfl,λx hx _=>DW (BO (A9 rfl ⟨_,.inl ⟨rfl,rfl,Ac ⟨_,_,rfl,L2.CV (j:=1) rfl,rfl⟩⟩⟩)),?_⟩⟩))) UA))));rw[(OD _).1];refine⟨_,.inl ⟨rfl,rfl,_,rfl,_,rfl,?_⟩⟩;rw[(OD _).2];refine BL (λv=>?_) (λv=>⟨q,hs,a,o,l,d,KJ,Jj,Jz,G,λ_=>by cases e:Bf q.1.th with|true=>exact absurd e v|false=>rfl,⟨E9,by omega⟩,rfl⟩)
   refine AW (G4 (Qv 8 rfl ?_));rw[MF,<- E9];have gl:=UZ;refine I0 (λn:Nat=>PV.int n) (isA q.1.th) (λn=>PV.int n) ?_ Z0
   walk_at "ww"
   rw[AF];refine⟨by omega,EY q.1,tQ q.1,by unfold EY;rw[AF,Qh];omega,λx hx=>?_,λx hx _=>by walk_at "ww"; rfl,Xs _,?_⟩
   .have J:=Am (dS hx);exact FG (DW (BO (DW (BO (A9 rfl ⟨_,.inl ⟨rfl,rfl,A9 rfl ⟨_,HJ (q.1.th[x]'(dS hx)),rfl,L2.CV (by rw[Aa,J];rfl),_,.inl ⟨rfl,rfl,Ac ⟨_,_,rfl,L2.CV (j:=1) rfl,_,rfl,(MW J).symm⟩⟩⟩⟩⟩)))))
   refine Gg 12 rfl ?_;refine AW (FU (Wp.mono (k:=λp=>p=PV.int ((C6 q.1).Al:Nat)) ?_ ?_))
   .refine Hd (A9 rfl ⟨_,rfl,bG rfl (TL (cT (Yw rfl ⟨q.2,rfl,?_⟩)))⟩)
    walk_at "ww"
    refine⟨CN _,_,.inl ⟨rfl,rfl,[],rfl,_,rfl,BL (λc=>⟨_,rfl,_,rfl,?_⟩) (λc=>nB (BO (A9 rfl ⟨_,.inl ⟨rfl,_,uv _,?_⟩⟩)))⟩⟩
    .rw[XO (.inr (Vj.mp (ib c)))];rfl
    .walk_at "ww"
     refine⟨CN _,_,.inl ⟨rfl,rfl,[],rfl,_,rfl,_,rfl,?_⟩⟩;have c:=of_decide_eq_false (Bool.eq_false_iff.mpr c);have c2:¬ q.1.Al=0:=λz=>c (Vj.mpr z);have en:decide (((List.filter (isA q.1.th) (EY q.1)).map λn:Nat=>(n:Int))=[])=Bv q.1:=by
      rw[<- YI];exact decide_eq_decide.mpr List.map_eq_nil_iff
     rw[en];cases V:Bv q.1 with
     |true=>rw[XO (.inl V)];rfl
     |false=>rw[mB (by rw[V];simp[c2])];exact jL PV.int (Int.add_zero _)
   rintro _ rfl;refine AW (FU (DW (BO (Dm (OP (BO (A9 rfl ⟨_,.inl ⟨rfl,rfl,BO (Dm (Qv 8 rfl ?_))⟩⟩)))))));rw[MF,<- E9];refine I0 (λn:Nat=>PV.int n) (isA q.1.th) (λn=>PV.int n) ?_ Z0
   walk_at "ww"
   refine⟨by omega,by omega,List.range q.1.gap,by rw[HM];rfl,by rw[Qh];omega,λx hx=>?_,λx hx _=>by walk_at "ww"; rfl,Xs _,?_⟩
   .have hx:=DP (List.mem_range.mp hx) gl;have J:=Am hx;exact FG (DW (BO (DW (BO (A9 rfl ⟨_,.inl ⟨rfl,rfl,A9 rfl ⟨_,HJ (q.1.th[x]'hx),rfl,L2.CV (by rw[Aa,J];rfl),_,.inl ⟨rfl,rfl,Ac ⟨_,_,rfl,L2.CV (j:=1) rfl,_,rfl,(MW J).symm⟩⟩⟩⟩⟩)))))
   have zl:=t4 q.1;refine⟨_,.inl ⟨rfl,rfl,by omega,_,.inl ⟨rfl,rfl,Ac ⟨_,_,rfl,L2.CV (j:=0) (nW v),?_⟩⟩⟩⟩;obtain⟨b,D⟩:=kz E9 v;have σ:=(List.getElem?_eq_some_iff.mp D).1;obtain⟨_,C,⟨_,X⟩,_⟩:=R1 v;have hw:=ok.wd _ X;refine AW (qA (i:=8) (IG (B6 rfl ⟨a,_,rfl,A9 rfl ⟨_,As q.1,Bs (b,(AQ q.1,true)),rfl,XW (by rw[AF];exact σ),by rw[Aa,D];rfl,.lst,b,_,rfl,?_⟩⟩)));refine AW (ZA (i:=8) (IB (Ni (j:=14) rfl rfl (W5 D) ⟨false,b,[.str (AQ q.1),.bl true],rfl,rfl,Ac ⟨1,rfl,Qj 1,?_⟩⟩)));rw[show(([PV.str (AQ q.1),.bl true].set 1 (.bl false)).map OV.fz)=[.fz (.str (AQ q.1)),.fz (.bl false)]from rfl,vn D];have W:(hs.set (As q.1) (b,(AQ q.1,false)))[As q.1]?=some (b,(AQ q.1,false)):=by rw[WV,hZ rfl,hZ σ]
   refine AW (Oh (i:=9) rfl (Gj (i:=8) (IG (Ni (j:=14) rfl rfl (W5 W) ⟨b,_,rfl,Ac ⟨_,0,.fz (.str (AQ q.1)),rfl,rfl,rfl,_,rfl,by rw[AF];omega,?_⟩⟩))));refine Xb (i:=8) rfl λnd=>?_;rw[CG,MJ]at nd;have nd:=(List.nodup_cons.mp nd).2;have T:=jJ (ks:=ks) E9 D nd;obtain⟨k,ek,e1,M,e3,e4⟩:=B.at hw;have kp:=B.ps k e4;refine qO (i:=8) (hs:=hs.set (As q.1) (b,(AQ q.1,false))) rfl (PN nd) (Yh (Zi (ly (i:=8) (B6 rfl ⟨a,_,rfl,BM (A9 rfl (BM (Gj (i:=4) (lN (B6 rfl ⟨_,_,_,rfl,Gj (i:=8) (IG (Ni (j:=14) rfl rfl (W5 W) ⟨b,_,rfl,Ac ⟨_,0,.fz (.str (AQ q.1)),rfl,rfl,rfl,_,rfl,.inr (AQ q.1),_,.fz (b8 k),rfl,Yz hw,by rw[Aa,ek];rfl,_,rfl,BM (A9 rfl (Ce ⟨_,⟨(hs.set (As q.1) (b,(AQ q.1,false))).map (·.1),As q.1,Ea ks (AQ q.1),GK ks (AQ q.1),r,He (hs.set (As q.1) (b,(AQ q.1,false))),?_,by rw[AF,JT];exact σ,by rw[AF,JT,<- AF (f:=(·.2)),<- E9];omega,λp C=>(kp.2 p (by rw[<- M];exact C)).1,by rw[M];exact kp.1,rfl⟩,?_⟩))⟩⟩))⟩)))))⟩))))
   .rw[CA,M,e3];rfl
   .rintro _⟨N,es,rfl,R,Jw⟩;rw[S]at T;rw[T]at R ⊢;have L:(q.2++[AQ q.1]).length=q.2.length+1:=by rw[C5];rfl
    refine⟨rfl,N,es,_,rfl,Jw,_,?_,(Gz ks q.1,q.2++[AQ q.1]),es.map λe=>(e.1,Az (He (hs.set (As q.1) (b,(AQ q.1,false)))) e),N,o,l,d,.is (.lst (((EY q.1).filter (isA q.1.th)).map λn:Nat=>PV.int n)),.is (.int (As q.1:Nat)),.raw (ptr b),rfl,qC (n:=0) G AU v,?_,S,?_,⟨⟨λz=>?_,λz=>?_⟩,?_,sS ..⟩,?_⟩
    .show m - (q.2++[AQ q.1]).length<_;rw[L];omega
    .show Hm ks (q.2++[AQ q.1]).length _;rw[L];exact WM B ok v
    .rw[CA];exact R.symm
    .exact absurd z (by simp)
    .exact absurd z (u7 q.1)
    .show(q.2++[AQ q.1]).length<=m;rw[L];omega
    .show _=[_,_,_,_,_,_,_,_,Slot.ow false (.nd .lst N ((es.map λe=>(e.1,Az (He (hs.set (As q.1) (b,(AQ q.1,false)))) e)).map Bs)),Slot.own ((q.2++[AQ q.1]).map .str),_,_,_,_,_];rw[Cc,CA];rfl
  .rintro A7⟨q,hs,a,o,l,d,KJ,Jj,Jz,G,FJ,⟨E9,hz⟩,rfl⟩;have fin:Cu ks m (EX r cs)=q:=by
    rw[<- G]
    by_cases c:q.2.length<m
    .exact Zf ks (FJ c) _
    .rw[show m - q.2.length=0 by omega];rfl
   rw[fin];refine Gg 9 rfl ?_;refine Ez (HA (Bg (A9 rfl (Bg (Dm (Qv 8 rfl ?_))))));rw[MF,<- E9];refine I0 HJ (λ_=>true) (λx=>PV.str x.1) (Gd (FY (A9 rfl ⟨_,.inl ⟨rfl,q.1.th,rfl,by omega,λ_ _=>G0 rfl,λx hx _=>DW (BO (A9 rfl ⟨_,.inl ⟨rfl,rfl,Ac ⟨_,_,rfl,L2.CV (j:=0) rfl,rfl⟩⟩⟩)),?_⟩⟩))) UA;rw[List.filter_eq_self.mpr λ_ _=>rfl];refine⟨cH _,Bg (A9 rfl (Bg (PL (sA 8 rfl ?_))))⟩;rw[MF,<- E9];refine V2 rfl (BO (Dm (I0 HJ (λ_=>true) (λx=>PV.bl x.2) (Gd (FY (A9 rfl ⟨_,.inl ⟨rfl,q.1.th,rfl,by omega,λ_ _=>G0 rfl,λx hx _=>DW (BO (A9 rfl ⟨_,.inl ⟨rfl,rfl,Ac ⟨_,_,rfl,L2.CV (j:=1) rfl,rfl⟩⟩⟩)),?_⟩⟩))) UA)));rw[(OD _).1];refine⟨_,.inl ⟨rfl,rfl,_,rfl,rfl,_,rfl,DQ ⟨by simp,?_⟩⟩⟩;rw[(OD _).2];rfl
def uj:BA ["self","crowd","rule"] ["self","crowd","rule"] (Af PR):=by walk_at "z1"
def uN:=Sc [(".0",.local),("word",.local)]
def ur:Dz ["self","crowd","rule"] (Af PR) uN "word" [] []:=by walk_at "z2"
def c8:∀ss R,(Ua A5) ss R->ss.length=3:=by rintro _ _⟨dx,a,tp,cs,r,rfl,_,rfl⟩;rfl
def j6(F:AV K "__init__" "Run.__init__" PR f fd)(b:Mk K A5 f):
  NU P w K mg ZB A5 2 ["self","crowd","rule"] (Dc (Ua A5)):=by
 refine⟨f,fd,F.BQ (k:=1) uj (λvs H Q E h=>Fz.KP c8 h) (λAd A outer s H vs Q E hr h=>?_),(F.binds (by walk_at "bD3")),b⟩
 refine⟨_,(AD rfl (HE (qv 0) (qv 2))
   (AD rfl (HE (qv 0) (GW OK Dj (A0 (qv 1) A4)))
   (AD rfl (HE (qv 0) (Il rfl ur (Di (qv 1)) (λ_ _ _ _=>by exact FO) (λ_ _ _ _=>by exact FC)))
   (AD rfl (HE (qv 0) A3)
   (AK rfl (HE (qv 0) A3)))))),?_⟩
 refine Fz.ML h c8 ?_;rintro _ _⟨dx,a,tp,cs,r,rfl,c,rfl⟩;show Ws [_,_,_] _ _ _;refine AW (JE (i:=0) (CJ (A9 rfl (B6 rfl ⟨true,A5,dx,_,a,_,rfl,rfl,Aq,LC,by decide,An,?_⟩))));rw[OV.CI];show Ws [.ow true (.nd (.obj A5 dx ["rule"]) a [.fz (.str r)]),_,_] _ _ _;refine AW (JE (i:=0) (Jx (MQ rfl (RX (Uh rfl λaT=>B6 rfl ⟨true,A5,dx,_,a,_,rfl,rfl,Aq,E1,by decide,An,?_⟩)))));rw[OV.CI];show Ws [.ow true (.nd (.obj A5 dx ["rule","things"]) a [.fz (.str r),.nd .lst aT ((cs.map .str).map .fz)]),_,_] _ _ _;refine AW (JE (i:=0) (t:=.nd (.obj A5 dx ["rule","things"]) a [.fz (.str r),.nd .lst aT ((cs.map .str).map .fz)]) (Jx (I0 PV.str (λ_=>true) (λ_=>.bl true) (Gd (Uh rfl ?_)) str_inj)));refine⟨cs,rfl,by omega,λx _=>G0 rfl,λx _ _=>IB rfl,λaW=>B6 rfl ⟨true,A5,dx,_,a,_,rfl,rfl,Aq,E8,by decide,An,?_⟩⟩;rw[OV.CI,List.filter_eq_self.mpr (λ_ _=>rfl)];show Ws [.ow true (.nd (.obj A5 dx ["rule","things","awaited"]) a [.fz (.str r),.nd .lst aT ((cs.map .str).map .fz),.nd .lst aW ((cs.map λ_=>PV.bl true).map .fz)]),_,_] _ _ _;refine AW (JE (i:=0) (CJ (Ac (B6 rfl ⟨true,A5,dx,_,a,_,rfl,rfl,Aq,Cj,by decide,An,?_⟩))));rw[OV.CI];show Ws [.ow true (.nd (.obj A5 dx ["rule","things","awaited","gap"]) a [.fz (.str r),.nd .lst aT ((cs.map .str).map .fz),.nd .lst aW ((cs.map λ_=>PV.bl true).map .fz),.fz (.int 0)]),_,_] _ _ _;refine JE (i:=0) (CJ (Ac (B6 rfl ⟨true,A5,dx,_,a,_,rfl,rfl,Aq,Gu,by decide,An,?_⟩)));rw[OV.CI];refine⟨_,_,_,_,rfl,rfl,rfl,aT,aW,?_⟩;unfold Dd;rw[lY,w8];rfl
def rO:BA ["self"] ["self"] (Af Su):=by walk_at "z1"
def Zx:∀ss R,(Sd A5) ss R->ss.length=1:=by rintro _ _⟨s,rfl,rfl⟩;rfl
def ig(F:AV K "goes_on" "Run.goes_on" Su f fd)(a:Meth K A5 "goes_on" f):
  DV P w K mg ZB A5 "goes_on" 2 ["self"] (Ai (Sd A5)):=by
 refine⟨f,fd,F.BQ (k:=1) rO (λvs H Q E h=>Fz.DB Zx h) (λAd A outer s H vs Q E hr h=>?_),(F.binds (by walk_at "bD1")),a,Aq⟩
 refine⟨_,(AK rfl (BJ (Ed UG FC (C7 (qv 0))))),?_⟩;refine Fz.DA h Zx ?_;rintro _ _⟨s,rfl,rfl⟩;show Ws [_] _ _ _;refine Ez (Yn (IB ⟨_,rfl,BO (HV (A9 rfl ⟨A5,E6,_,2,_,rfl,Aq,E8,by decide +kernel,rfl,?_⟩))⟩));exact⟨_,.inl ⟨rfl,_,SN _,by rw[Qn];rfl⟩⟩
def Ts:BA ["self","goes_round","place"] ["self"] (Af SU):=by walk_at "z1"
def dB:∀ss R,(WB A5) ss R->ss.length=1:=by rintro _ _⟨a,s,t,rfl,_,_,_,rfl⟩;rfl
def gO(F:AV K "tell" "Run.tell" SU f fd)(g:Meth K A5 "tell" f):
  DV P w K mg ZB A5 "tell" 3 ["self"] (Dc (WB A5)):=by
 refine⟨f,fd,F.BQ (k:=2) Ts (λvs H Q E h=>Fz.KP dB h) (λAd A outer s H vs Q E hr h=>?_),(F.binds (by walk_at "bD1")),g,Aq⟩
 refine⟨_,(AD rfl (Ag 1 Ts.nd (Ed OR FC (J7 Kw (C7 (qv 0)) (Iw (C7 (qv 0))) IZ)))
   (AD rfl (D6 (BR (Kc (Eg (qv 1)) (Ld (BP DG (C7 (qv 0)) A3))).pt (AK rfl (kI (qv 0) A3 cy)) Bw))
   (AD rfl (Ag 2 Ts.nd (Dl Dp y3 PySem.F.type_list_index nO (C7 (qv 0)) (A0 FC (A0 (u6 (Eg (qv 1)) A3 (C7 (qv 0))) A4))))
   (AD rfl (M9 FC (Oq (C7 (qv 0)) (qv 2) set_list))
   (AD rfl (HE (qv 0) (Ah Dy (qv 2) A3))
   (AK rfl (BJ (AM BG (C7 (qv 0)) (qv 2))))))))),?_⟩
 refine Fz.d3 h dB ?_;rintro _ _⟨a,s,t,rfl,⟨dx,aT,aW,rfl⟩,m,q,rfl⟩;unfold Dd;show Ws [.ow true (CF A5 dx a aT aW s.r (C8 s.th) (Cn s.th) s.gap s.Al),.any,.any] _ _ _;refine AW (FU (Yn (IB ⟨_,rfl,BO (Dm (Lr (LF (Mx rfl Aq E8 ⟨aW,_,rfl,rfl,?_⟩))))⟩)))
 walk_at "ww"
 refine Lg rfl Aq Cj ?_
 walk_at "ww"
 obtain⟨x,hx,hm,b⟩:=Tv m;have l:=(List.getElem?_eq_some_iff.mp hx).1;refine⟨(s.th.map (·.2)).drop s.gap,by rw[cB,SN,<- HN],?_⟩
 have o:(!decide (true∈(s.th.map (·.2)).drop s.gap))=Bv s:=by unfold Bv;rw[Qn,HN]
 show Ws [.ow true (CF A5 dx a aT aW s.r (C8 s.th) (Cn s.th) s.gap s.Al),.is (.bl (!decide (true∈(s.th.map (·.2)).drop s.gap))),.any] _ _ _
 rw[o];refine KH (λA7=>A7=[.ow true (CF A5 dx a aT aW s.r (C8 s.th) (Cn s.th) s.gap (C6 s).Al),.is (.bl (Bv s)),.any]) ?_ ?_
 .have e:Bv s=true∨s.Al=0->Ws [.ow true (CF A5 dx a aT aW s.r (C8 s.th) (Cn s.th) s.gap s.Al),.is (.bl (Bv s)),.any] (Mp K (BF 0) (tC (V.int 1)) (NY λi j=>i+j) "rounds") (λA7=>A7=[.ow true (CF A5 dx a aT aW s.r (C8 s.th) (Cn s.th) s.gap (C6 s).Al),.is (.bl (Bv s)),.any]) (.mt λp t'=>p=.str (AQ s)/\FW A5 a (C6 s) t'):=λc=>by
   refine oN (i:=0) rfl Aq Gu ?_;rw[show(C6 s).Al=s.Al+1 from hZ c];rfl
  refine FN (Dt (Kz (FG (A9 rfl ⟨_,rfl,BL (λc=>RE rfl (e (.inl c))) (λc=>?_)⟩))));refine Dx (FQ (YV rfl Aq Gu (Ac ⟨rfl,_,rfl,BL (λd=>e (.inr ?_)) (λd=>CH ?_)⟩)))
  .have:(s.Al:Int)=0:=by simpa[alike]using d
   omega
  .rw[show(C6 s).Al=s.Al from gp λz=>z.elim c λz=>d (by rw[z];rfl)]
 rintro _ rfl;refine KH (λA7=>A7=[.ow true (CF A5 dx a aT aW s.r (C8 s.th) (Cn s.th) s.gap (C6 s).Al),.is (.bl (Bv s)),.is (.int (As s:Nat))]) ?_ ?_
 .refine FU (kQ (LF (Mx rfl Aq E8 ⟨aW,_,rfl,rfl,_,SN _,gN (FG (A9 rfl ⟨_,rfl,BL (λc=>?_) (λc=>?_)⟩))⟩)))
  .rw[hZ c]at hm b;exact Ac ⟨0,rfl,hm,by rw[b];rfl⟩
  .rw[gp c]at hm b;exact Lg rfl Aq Cj ⟨s.gap,rfl,hm,by rw[b];rfl⟩
 rintro _ rfl;refine AW (ZA (i:=0) (IB (Mx rfl Aq E8 ⟨true,aW,_,rfl,rfl,A9 rfl ⟨As s,rfl,by rw[NB];exact l,?_⟩⟩)));rw[Fb,Uq,gn];refine AW (SX (i:=0) rfl Aq Cj (Hd (A9 rfl ⟨_,rfl,Ac ⟨_,rfl,_,rfl,?_⟩⟩)));have n:AQ s=x:=by unfold AQ;rw[hx]
 refine ao (i:=0) (nk:=.obj A5 dx E6) (a0:=a) rfl (DW (LF (OZ (i:=0) rfl Aq E1 ⟨aT,_,rfl,rfl,A9 rfl ⟨_,_,rfl,L2.CV (j:=As s) (by unfold C8;rw[Aa,hx];rfl),?_⟩⟩)));refine⟨by rw[n],dx,aT,aW,?_⟩;unfold Dd;rw[show(C6 s).th=s.th.modify (As s) λx=>(x.1,false)from rfl,j4];rfl
def mX:BA ["gap","at"] ["gap","at"] (Af SW):=by walk_at "z1"
def Zj : ∀ss R,VO ss R->ss.length=2:=by rintro _ _⟨g,i,rfl,rfl⟩;rfl
def oC(F:AV K "gap_behind_put" "gap_behind_put" SW f fd)(m:mg "gap_behind_put"=some (.ref f)):
  AR P w K mg ZB "gap_behind_put" 1 ["gap","at"] (Ai VO):=by
 refine AR.mk F (F.binds (by walk_at "bD2")) m (F.BQ (k:=0) mX (λvs H Q E h=>Fz.DB Zj h) (λAd A outer s H vs Q E hr h=>?_))
 refine⟨_,(AD rfl (BR (BP Jf (qv 1) (qv 0)) (AK rfl (BJ (Ah Dy (qv 0) A3))) Bw)
   (AK rfl (BJ (qv 0)))),?_⟩
 refine Fz.DA h Zj ?_;rintro _ _⟨g,i,rfl,rfl⟩;show Ws [_,_] _ _ _
 walk_at "ww"
 refine BL (λc=>?_) (λc=>?_)
 .have h:i<g:=by have:=ib c;omega
  walk_at "ww"
  unfold Hv;rw[hZ h];rfl
 .have h:¬ i<g:=λz=>c (iN (by omega));refine CH ?_
  walk_at "ww"
  unfold Hv;rw[gp h]
def vy:BA ["loop","at"] ["loop","at"] (Af Sh):=by walk_at "z1"
def bz : ∀ss R,Rb ss R->ss.length=2:=by rintro _ _⟨r,g,i,xs,rfl,rfl⟩;rfl
def hX(F:AV K "joins" "joins" Sh f fd)(m:mg "joins"=some (.ref f)):
  AR P w K mg ZB "joins" 1 ["loop","at"] (Ai Rb):=by
 refine AR.mk F (F.binds (by walk_at "bD2")) m (F.BQ (k:=0) vy (λvs H Q E h=>Fz.DB bz h) (λAd A outer s H vs Q E hr h=>?_))
 refine⟨_,(AK rfl (BJ (Xc (Ed DG (AM Ar (qv 0) A3) B4) (MX (Rf (Ed DG (AM Ar (qv 0) A3) B4) (MX (Ed Z2 (qv 1) (AM Ar (qv 0) A3)))))))),?_⟩;refine Fz.DA h bz ?_;rintro _ _⟨r,g,i,xs,rfl,rfl⟩;show Ws [_,_] _ _ _;refine Ez (TL (FQ ?_))
 walk_at "ww"
 refine⟨0,.str r,rfl,CV (j:=0) rfl,?_⟩
 walk_at "ww"
 unfold Lj;have q:∀z:Str,alike (.str r) (.str z)=decide (V.str r=V.str z):=λz=>by
  show decide (r=z)=_;rw[JQ,kR,kR];exact⟨λh=>by rw[h],λh=>by injection h⟩
 rw[q];refine BL (λc=>by rw[hZ c]) (λc=>?_);rw[gp c];refine TJ (FQ ?_)
 walk_at "ww"
 refine⟨0,.str r,rfl,CV (j:=0) rfl,?_⟩
 walk_at "ww"
 rw[q];refine BL (λc=>?_) (λc=>by rw[gp c]);rw[hZ c]
 walk_at "ww"
 refine⟨1,.int g,rfl,CV (j:=1) rfl,?_⟩
 walk_at "ww"
 rfl
def iY:BA ["self","word","at"] ["self","word","at"] (Af SY):=by walk_at "z1"
def ZH:∀ss R,(W7 A5) ss R->ss.length=3:=by rintro _ _⟨a,s,t,w,i,rfl,_,_,_,rfl⟩;rfl
def mW(F:AV K "put_in" "Run.put_in" SY f fd)(b:Meth K A5 "put_in" f):
  DV P w K mg ZB A5 "put_in" 3 ["self","word","at"] (Dc (W7 A5)):=by
 refine⟨f,fd,F.BQ (k:=2) iY (λvs H Q E h=>Fz.KP ZH h) (λAd A outer s H vs Q E hr h=>?_),(F.binds (by walk_at "bD3")),b,Aq⟩
 refine⟨_,(AD rfl (By (Dl Dp Ql Ww OM (C7 (qv 0)) (A0 (qv 2) (A0 (Aw Va hr (A0 (CP (A0 (C7 (qv 0)) (A0 (C7 (qv 0)) A4))) (A0 (qv 2) A4))) A4))))
   (AD rfl (By (Dl Dp Ql Ww OM (C7 (qv 0)) (A0 (qv 2) (A0 (qv 1) A4))))
   (AK rfl (HE (qv 0) (Aw Um hr (A0 (C7 (qv 0)) (A0 (qv 2) A4))))))),?_⟩
 refine Fz.ML h ZH ?_;rintro _ _⟨a,s,t,w,i,rfl,⟨dx,aT,aW,rfl⟩,hi,c,rfl⟩;unfold Dd;show Ws [.ow true (CF A5 dx a aT aW s.r (C8 s.th) (Cn s.th) s.gap s.Al),_,_] _ _ _;refine AW (Zd (i:=0) (Mx rfl Aq E8 ⟨true,aW,_,rfl,rfl,A9 rfl ⟨i,rfl,by rw[NB];exact hi,wp_call (BM (HA (Bg (sJ rfl Aq LC (Bg (Lg rfl Aq Cj (DQ ⟨by simp,BM (A9 rfl (Ce ⟨_,⟨s.r,s.gap,i,[],rfl,rfl⟩,?_⟩))⟩)))))))⟩⟩));rintro _ rfl;refine⟨by rw[NB];omega,?_⟩;rw[Fb,Uq];refine AW (Zd (i:=0) (OZ rfl Aq E1 ⟨true,aT,_,rfl,rfl,A9 rfl ⟨i,rfl,by rw[Le];exact hi,A9 rfl ⟨by rw[Le];omega,?_⟩⟩⟩));rw[Fb,ZI];refine SX (i:=0) rfl Aq Cj (wp_call (BM (Lg rfl Aq Cj (BM (A9 rfl (Ce ⟨_,⟨s.gap,i,rfl,rfl⟩,?_⟩))))));rintro _ rfl;refine⟨_,rfl,_,_,_,_,rfl,rfl,rfl,dx,aT,aW,?_⟩;unfold Dd Ng;rw[mY,uM];rfl
def lE:BA ["self","where","nexts"] ["self","where","nexts"] (Af RS):=by walk_at "z1"
def dk:∀ss R,(Ry A5) ss R->ss.length=3:=by rintro _ _⟨s,wh,n,rfl,_,rfl⟩;rfl
def vo(F:AV K "place_by" "Run.place_by" RS f fd)(b:Meth K A5 "place_by" f):
  DV P w K mg ZB A5 "place_by" 2 ["self","where","nexts"] (Ai (Ry A5)):=by
 refine⟨f,fd,F.BQ (k:=1) lE (λvs H Q E h=>Fz.DB dk h) (λAd A outer s H vs Q E hr h=>?_),(F.binds (by walk_at "bD3")),b,Aq⟩
 refine⟨_,(AD rfl (BR (BP DG (qv 1) B4) (AK rfl (BJ (Ah Dy (C7 (qv 0)) (qv 2)))) Bw)
   (AD rfl (BR (BP DG (qv 1) B4) (AK rfl (BJ (CD GB BI (A0 (C7 (qv 0)) A4)))) Bw)
   (AD rfl (BR (BP DG (qv 1) B4) (AK rfl (BJ (Ah Jo (C7 (qv 0)) A3))) Bw)
   (AK rfl (BJ A3))))),?_⟩
 refine Fz.DA h dk ?_;rintro _ _⟨s,wh,n,rfl,d,rfl⟩;show Ws [_,_,_] _ _ _;have a:∀z:Str,alike (PV.str wh) (.str z)=true↔wh=z:=λz=>by simp[alike]
 unfold GC
 walk_at "ww"
 refine BL (λc=>?_) (λc=>CH ?_)
 .rw[hZ ((a _).mp c)];refine Ez (Hd (HV (A9 rfl ⟨A5,E6,_,3,_,rfl,Aq,Cj,by decide +kernel,rfl,?_⟩)));exact⟨_,rfl,A9 rfl ⟨_,rfl,rfl⟩⟩
 rw[gp λz=>c ((a _).mpr z)]
 walk_at "ww"
 refine BL (λc=>?_) (λc=>CH ?_)
 .rw[hZ ((a _).mp c)];refine Ez (PY (BO (HV (A9 rfl ⟨A5,E6,_,1,_,rfl,Aq,E1,by decide +kernel,rfl,?_⟩))));exact⟨_,.inl ⟨rfl,by rw[Le]⟩⟩
 rw[gp λz=>c ((a _).mpr z)]
 walk_at "ww"
 refine BL (λc=>?_) (λc=>CH ?_)
 .rw[hZ ((a _).mp c)];refine Ez (Hd (HV (A9 rfl ⟨A5,E6,_,3,_,rfl,Aq,Cj,by decide +kernel,rfl,?_⟩)));refine⟨_,rfl,Ac ⟨_,rfl,?_⟩⟩;rw[show(s.gap:Int) - 1=((s.gap - 1:Nat):Int) by omega]
 rw[gp λz=>c ((a _).mpr z)];exact Ez (Ac rfl)
def q8:BA ["gap","place"] ["gap","place"] (Af Ve):=by walk_at "z1"
def ah : ∀ss R,VS ss R->ss.length=2:=by rintro _ _⟨g,i,rfl,rfl⟩;rfl
def lz(F:AV K "gap_behind_take" "gap_behind_take" Ve f fd)(m:mg "gap_behind_take"=some (.ref f)):
  AR P w K mg ZB "gap_behind_take" 1 ["gap","place"] (Ai VS):=by
 refine AR.mk F (F.binds (by walk_at "bD2")) m (F.BQ (k:=0) q8 (λvs H Q E h=>Fz.DB ah h) (λAd A outer s H vs Q E hr h=>?_))
 refine⟨_,(AD rfl (BR (BP Jf (qv 1) (qv 0)) (AK rfl (BJ (Ah Jo (qv 0) A3))) Bw)
   (AK rfl (BJ (qv 0)))),?_⟩
 refine Fz.DA h ah ?_;rintro _ _⟨g,i,rfl,rfl⟩;show Ws [_,_] _ _ _
 walk_at "ww"
 refine BL (λc=>?_) (λc=>?_)
 .have h:i<g:=by have:=ib c;omega
  walk_at "ww"
  unfold NR;rw[hZ h];show PV.int _=PV.int _
  congr 1;omega
 .have h:¬ i<g:=λz=>c (iN (by omega));refine CH ?_
  walk_at "ww"
  unfold NR;rw[gp h]
def mT:BA ["self","place"] ["self","place"] (Af WJ):=by walk_at "z1"
def b5:∀ss R,(Sr A5) ss R->ss.length=2:=by rintro _ _⟨a,s,t,i,rfl,_,_,rfl⟩;rfl
def fv(F:AV K "take_out" "Run.take_out" WJ f fd)(b:Meth K A5 "take_out" f):
  DV P w K mg ZB A5 "take_out" 3 ["self","place"] (Dc (Sr A5)):=by
 refine⟨f,fd,F.BQ (k:=2) mT (λvs H Q E h=>Fz.KP b5 h) (λAd A outer s H vs Q E hr h=>?_),(F.binds (by walk_at "bD2")),b,Aq⟩
 refine⟨_,(AD rfl (By (Dl Dp y4 y6 Xg (C7 (qv 0)) (A0 (qv 1) A4)))
   (AD rfl (By (Dl Dp y4 y6 Xg (C7 (qv 0)) (A0 (qv 1) A4)))
   (AK rfl (HE (qv 0) (Aw Sf hr (A0 (C7 (qv 0)) (A0 (qv 1) A4))))))),?_⟩
 refine Fz.ML h b5 ?_;rintro _ _⟨a,s,t,i,rfl,⟨dx,aT,aW,rfl⟩,⟨hi,c⟩,rfl⟩;unfold Dd;show Ws [.ow true (CF A5 dx a aT aW s.r (C8 s.th) (Cn s.th) s.gap s.Al),_] _ _ _;refine AW (Xf (i:=0) (Mx rfl Aq E8 ⟨true,aW,_,rfl,rfl,A9 rfl ⟨i,rfl,by rw[NB];exact hi,by rw[NB];omega,?_⟩⟩));rw[Fb,Uq];refine AW (Xf (i:=0) (OZ rfl Aq E1 ⟨true,aT,_,rfl,rfl,A9 rfl ⟨i,rfl,by rw[Le];exact hi,by rw[Le];omega,?_⟩⟩));rw[Fb,ZI];refine SX (i:=0) rfl Aq Cj (wp_call (BM (Lg rfl Aq Cj (BM (A9 rfl (Ce ⟨_,⟨s.gap,i,rfl,rfl⟩,?_⟩))))));rintro _ rfl;refine⟨_,rfl,_,_,_,_,rfl,rfl,rfl,dx,aT,aW,?_⟩;unfold Dd Nu;rw[<- uZ,<- iZ];rfl
def Q0:BA ["self","puts","goes","nexts","put"] ["self","puts","goes"] (Af RB):=by walk_at "z1"
def XR:∀ss R,(UD A5) ss R->ss.length=3:=by rintro _ _⟨a,s,t,ps,g,x,rfl,_,_,_,_,rfl⟩;rfl
def mi(F:AV K "do_errand" "Run.do_errand" RB f fd)(y:Meth K A5 "do_errand" f):
  DV P w K mg ZB A5 "do_errand" 4 ["self","puts","goes"] (Dc (UD A5)):=by
 refine⟨f,fd,F.BQ (k:=3) Q0 (λvs H Q E h=>Fz.KP XR h) (λAd A outer s H vs Q E hr h=>?_),(F.binds (by walk_at "bD3")),y,Aq⟩
 refine⟨_,(AD rfl (Ag 3 Q0.nd A3)
   (AD rfl (D6 (FK ET rfl (Di (qv 1)) (DE 4 Q0.nd) (AD rfl (By (Lc Tq hr (by decide) (qv 0) (A0 (AM Ar (qv 4) A3) (A0 (Lc Vn hr (by decide) (qv 0) (A0 (AM Ar (qv 4) A3) (A0 (qv 3) A4))) A4))))
   (AK rfl (BR (BP DG (AM Ar (qv 4) A3) B4) (AK rfl (gS (i:=3) Q0.nd rfl (Or.inl rfl) A3 cy)) Bw)))))
   (AK rfl (BR (Eg (qv 2)) (AK rfl (By (Lc Uo hr (by decide) (qv 0) (A0 (Ah Jo (C7 (qv 0)) A3) A4)))) Bw)))),?_⟩
 refine Fz.ML h XR ?_;rintro _ _⟨a,s,t,ps,g,x,rfl,G,⟨hx,C⟩,hr,⟨hw,N⟩,rfl⟩;have σ:=(List.getElem?_eq_some_iff.mp hx).1;have e0:=uh hx C;obtain⟨b,e⟩:∃b,b=(s.th.take (s.gap - 1),([]:List AB),s.th.drop (s.gap - 1+1)):=⟨_,rfl⟩;have M:E4 b+1=s.th.length:=by rw[e0,O4,<- e]
 obtain⟨dx,aT,aW,rfl⟩:=id G;show Ws [.ow true (Dd A5 dx a aT aW s),.is (.lst (ps.map BV)),.is (.bl g),.any,.any] _ _ _
 walk_at "ww"
 refine Gk (λ_ i A7=>∃(t':OV)(s4:Slot),FW A5 a (CT s.r x s.Al (EK s.r (ps.take i) b)) t'/\A7=[.ow true t',.is (.lst (ps.map BV)),.is (.bl g),.is (.int (EK s.r (ps.take i) b).2.1.length),s4]) ?_
 walk_at "ww"
 have I:CT s.r x s.Al b=s:=by rw[e];exact e0.symm
 refine⟨⟨Dd A5 dx a aT aW s,.any,⟨dx,aT,aW,?_⟩,?_⟩,?_,?_⟩
 .rw[Wd];show _=Dd A5 dx a aT aW (CT s.r x s.Al b);rw[I]
 .rw[Wd];show _=[_,_,_,Slot.is (.int b.2.1.length),_];rw[e];rfl
 .rintro i p A7 u⟨t',s4,Iv,rfl⟩;rw[Aa]at u;obtain⟨⟨wh,kd⟩,v,rfl⟩:=Option.map_eq_some_iff.mp u;obtain⟨hi,L⟩:=List.getElem?_eq_some_iff.mp v;have D:=hw (wh,kd) (Dn v);obtain⟨q,KS⟩:∃q,q=EK s.r (ps.take i) b:=⟨_,rfl⟩;have es:EK s.r (ps.take (i+1)) b=C1 s.r q (wh,kd):=by rw[Ln hi,L,Yo,KS]
  have B:E4 q=E4 b+i:=by rw[KS,MR,DO];omega
  rw[<- KS]at Iv ⊢;rw[es];have m:=gA (k:=kd) (x:=x) (n:=s.Al) (q:=q) hr D;have o:=O4 s.r x s.Al q;obtain⟨Ir,T8,U1,rfl⟩:=id Iv;refine JM ?_;show Ws [.ow true (Dd A5 Ir a T8 U1 (CT s.r x s.Al q)),.is (.lst (ps.map BV)),.is (.bl g),.is (.int q.2.1.length),.is (.tup [.str wh,.str kd])] _ _ _;refine AW (WK (i:=0) (P9 (us:=_) rfl (by decide +kernel) (JK (Bi (C2 rfl ⟨rfl,Ac ⟨_,_,rfl,CV (j:=1) rfl,?_⟩⟩)))));refine JK (RL (i:=0) (B6 rfl ⟨Ir,E6,a,_,rfl,by decide +kernel,aC (Bi (C2 rfl ⟨rfl,Ac ⟨_,_,rfl,CV (j:=0) rfl,aC (A9 rfl (UN ⟨_,⟨CT s.r x s.Al q,wh,q.2.1.length,jL (λp=>[Slot.is p,.is (.str wh),.is (.int q.2.1.length)]) Vz,Qk _,rfl⟩,?_⟩))⟩⟩))⟩));rintro _ rfl;refine⟨rfl,J9 ⟨_,⟨a,CT s.r x s.Al q,_,kd,_,rfl,Iv,m.1,by omega,rfl⟩,?_⟩⟩;rintro _ t2⟨rfl,Ew⟩;rw[m.2]at Ew;obtain⟨MV,NF,MY,rfl⟩:=id Ew;refine⟨_,_,rfl,?_⟩;have d:=xO s.r q wh kd;show Ws [.ow true (Dd A5 MV a NF MY (CT s.r x s.Al (C1 s.r q (wh,kd)))),.is (.lst (ps.map BV)),.is (.bl g),.is (.int q.2.1.length),.is (.tup [.str wh,.str kd])] _ _ _;refine Dt (Dx (FQ (Bi (C2 rfl ⟨rfl,Ac ⟨_,_,rfl,CV (j:=0) rfl,Eb ⟨rfl,_,rfl,BL (λc=>?_) (λc=>CH ?_)⟩⟩⟩))))
  .have l:wh="next" := by simpa[alike]using c
   rw[hZ l]at d;refine gq rfl (Ac ⟨_,rfl,_,.is (.tup [.str wh,.str kd]),Ew,?_⟩);rw[d];rfl
  .have l:wh ≠"next" := λz=>c (by rw[z];simp[alike])
   rw[gp l]at d;exact⟨_,.is (.tup [.str wh,.str kd]),Ew,by rw[d];rfl⟩
 .rintro A7⟨t',s4,Iv,rfl⟩;rw[AF,IV]at Iv ⊢;obtain⟨q,KS⟩:∃q,q=EK s.r ps b:=⟨_,rfl⟩;have B:E4 q=E4 b+ps.length:=by rw[KS,MR]
  have J:EF s.r s.th (s.gap - 1) x ps g=(q.1++(if g then[]else[x])++q.2.1++q.2.2,q.1.length+if g then 0 else 1):=by unfold EF;rw[<- e,<- KS]
  rw[J];rw[<- KS]at Iv ⊢;have o:=O4 s.r x s.Al q;obtain⟨Ir,T8,U1,rfl⟩:=id Iv;refine Dt (FG (A9 rfl ⟨_,rfl,?_⟩));cases g with
  |true=>
   refine RE rfl ?_;refine WK (i:=0) (P9 (us:=_) rfl (by decide +kernel) (JK (Hd (Lg rfl Aq Cj ⟨_,rfl,Ac ⟨_,rfl,?_⟩⟩))));rw[show((CT s.r x s.Al q).gap:Int) - 1=(q.1.length:Nat)from by show((q.1.length+1:Nat):Int) - 1=_;omega];refine J9 ⟨_,⟨a,CT s.r x s.Al q,_,q.1.length,rfl,Iv,⟨by rw[o];unfold E4;omega,by omega⟩,rfl⟩,?_⟩;rintro _ t2⟨rfl,Ew⟩;rw[kE]at Ew;obtain⟨MV,NF,MY,rfl⟩:=id Ew;refine⟨_,_,rfl,_,_,_,_,rfl,rfl,rfl,MV,NF,MY,?_⟩;dsimp only;rw[hZ rfl,hZ rfl,D0,BY];rfl
  |false=>
   refine DJ (by decide) (CH ?_);refine⟨_,_,_,_,rfl,rfl,rfl,Ir,T8,U1,?_⟩;dsimp only;rw[gp (by decide),gp (by decide),BY,BY];rfl
def lr:BA ["self","word"] ["self","word"] (Af T2):=by walk_at "z1"
def YX:∀ss R,(U7 A8) ss R->ss.length=2:=by rintro _ _⟨ks,x,rfl,_,_,rfl⟩;rfl
def vx(F:AV K "puts" "Errands.puts" T2 f fd)(a:Meth K A8 "puts" f):
  DV P w K mg ZB A8 "puts" 2 ["self","word"] (Ai (U7 A8)):=by
 refine⟨f,fd,F.BQ (k:=1) lr (λvs H Q E h=>Fz.DB YX h) (λAd A outer s H vs Q E hr h=>?_),(F.binds (by walk_at "bD2")),a,DZ⟩
 refine⟨_,(AD rfl (By (Aw Ft hr (A0 (C7 (qv 0)) (A0 (qv 1) A4))))
   (AK rfl (BJ (GW OK Dj (A0 (RA (KR hr) (C7 (qv 0)) (qv 1) (λ_ _=>rfl)) A4))))),?_⟩
 refine Fz.DA h YX ?_;rintro _ _⟨ks,x,rfl,g,hx,rfl⟩;show Ws [_,_] _ _ _;have l8:=g.l8;obtain⟨k,c,_,b,_,_⟩:=g.at hx;refine AW (Ih (wp_call (BM (HV (A9 rfl ⟨A8,Hc,_,0,_,rfl,DZ,GH,by decide +kernel,rfl,BM (A9 rfl (Ce ⟨_,⟨wk ks,_,x,rfl,.inr ⟨_,rfl⟩,by rw[AF];omega,hx,rfl⟩,?_⟩))⟩)))));rintro _ rfl;refine Ox (MQ rfl (BO (ZN (HV (A9 rfl ⟨A8,Hc,_,0,_,rfl,DZ,GH,by decide +kernel,rfl,Bx (wk ks),_,rfl,A9 rfl ⟨.inr x,_,rfl,RK hx (by rw[Aa,c];rfl),_,.inr ⟨rfl,?_⟩⟩⟩)))));rw[b]
def qZ:BA ["self","word"] ["self","word"] (Af Rr):=by walk_at "z1"
def XE:∀ss R,(Uz A8) ss R->ss.length=2:=by rintro _ _⟨ks,x,rfl,_,_,rfl⟩;rfl
def nQ(F:AV K "goes" "Errands.goes" Rr f fd)(a:Meth K A8 "goes" f):
  DV P w K mg ZB A8 "goes" 2 ["self","word"] (Ai (Uz A8)):=by
 refine⟨f,fd,F.BQ (k:=1) qZ (λvs H Q E h=>Fz.DB XE h) (λAd A outer s H vs Q E hr h=>?_),(F.binds (by walk_at "bD2")),a,DZ⟩
 refine⟨_,(AD rfl (By (Aw Ft hr (A0 (C7 (qv 0)) (A0 (qv 1) A4))))
   (AK rfl (BJ (RA (KR hr) (C7 (qv 0)) (qv 1) (λ_ _=>rfl))))),?_⟩
 refine Fz.DA h XE ?_;rintro _ _⟨ks,x,rfl,g,hx,rfl⟩;show Ws [_,_] _ _ _;have l8:=g.l8;obtain⟨k,b,_,_,c,_⟩:=g.at hx;refine AW (Ih (wp_call (BM (HV (A9 rfl ⟨A8,Hc,_,1,_,rfl,DZ,J3,by decide +kernel,rfl,BM (A9 rfl (Ce ⟨_,⟨wk ks,_,x,rfl,.inr ⟨_,rfl⟩,by rw[AF];omega,hx,rfl⟩,?_⟩))⟩)))));rintro _ rfl;refine Ez (ZN (HV (A9 rfl ⟨A8,Hc,_,1,_,rfl,DZ,J3,by decide +kernel,rfl,Bx (wk ks),_,rfl,A9 rfl ⟨.inr x,_,rfl,RK hx (by rw[Aa,b];rfl),?_⟩⟩)));rw[c]
def xC:BA ["rule"] ["rule"] (Af TC):=by walk_at "z1"
def ZJ : ∀ss R,WE ss R->ss.length=1:=by rintro _ _⟨r,rfl,_,rfl⟩;rfl
def me(F:AV K "check_rule" "check_rule" TC f fd)(m:mg "check_rule"=some (.ref f)):
  AR P w K mg ZB "check_rule" 1 ["rule"] (Ai WE):=by
 refine AR.mk F (F.binds (by walk_at "bD1")) m (F.BQ (k:=0) xC (λvs H Q E h=>Fz.DB ZJ h) (λAd A outer s H vs Q E hr h=>?_))
 refine⟨_,(AK rfl (BR (BP OR (qv 0) (Jq (v:=.ref JA) (by rfl) Sa rfl)) (AK rfl J6) Bw)),?_⟩;refine Fz.DA h ZJ ?_;rintro _ _⟨r,rfl,hr,rfl⟩;have C:JC K JA (Fi.map .str):=JC.of R8 rfl rfl;show Ws [_] _ _ _;refine Dt (Dx (cN (neg:=true) C (A9 rfl ⟨r,rfl,_,rfl,?_⟩)));rw[iN hr];exact DJ (by decide) (CH ⟨_,rfl,rfl⟩)
def ma:BA ["self"] ["self"] (Af Qr):=by walk_at "z1"
def Z4:∀ss R,(Rl A8) ss R->ss.length=1:=by rintro _ _⟨ks,rfl,_,rfl⟩;rfl
def iC(F:AV K "words" "Errands.words" Qr f fd)(a:Meth K A8 "words" f):
  DV P w K mg ZB A8 "words" 1 ["self"] (Ai (Rl A8)):=by
 refine⟨f,fd,F.BQ (k:=0) ma (λvs H Q E h=>Fz.DB Z4 h) (λAd A outer s H vs Q E hr h=>?_),(F.binds (by walk_at "bD1")),a,DZ⟩
 refine⟨_,(AK rfl (BJ (GW (uk rfl) Dj (A0 (C7 (qv 0)) A4)))),?_⟩;refine Fz.DA h Z4 ?_;rintro _ _⟨ks,rfl,g,rfl⟩;show Ws [_] _ _ _;have l8:=g.l8;refine Ox (ng (HV (A9 rfl ⟨A8,Hc,_,0,_,rfl,DZ,GH,by decide +kernel,rfl,Bx (wk ks),_,rfl,by unfold Bx;rw[AF,AF];omega,lR _⟩)))
def c7:BA ["book","crowd","word"] ["book","crowd"] (Af RH):=by walk_at "z1"
def Yl:∀ss R,(TU A8) ss R->ss.length=2:=by rintro _ _⟨ks,tp,cs,rfl,_,_,_,rfl⟩;rfl
def nU(F:AV K "check_crowd" "check_crowd" RH f fd)(m:mg "check_crowd"=some (.ref f)):
  AR P w K mg ZB "check_crowd" 2 ["book","crowd"] (Ai (TU A8)):=by
 refine AR.mk F (F.binds (by walk_at "bD2")) m (F.BQ (k:=1) c7 (λvs H Q E h=>Fz.DB Yl h) (λAd A outer s H vs Q E hr h=>?_))
 refine⟨_,(AD rfl (BR (BP PF (CD GB BI (A0 (qv 1) A4)) (Jq (v:=.int 12) (by rfl) Ug ⟨_,rfl⟩)) (AK rfl J6) Bw)
   (AK rfl (FK ET rfl (Di (qv 1)) (DE 2 c7.nd) (AK rfl (By (Aw Ft hr (A0 (Pc Ut hr (by decide) (qv 0)) (A0 (qv 2) A4)))))))),?_⟩
 refine Fz.DA h Yl ?_;rintro _ _⟨ks,tp,cs,rfl,g,d,b,rfl⟩;show Ws [_,_,.any] _ _ _;have l8:=g.l8
 walk_at "ww"
 rw[AF];refine DJ (λc=>by have:=ib c;omega) (CH ?_);refine Gk (λ_ i A7=>∃(s2:Slot),A7=[.is (BX A8 ks),.sq tp (cs.map .str),s2]) ?_
 walk_at "ww"
 refine⟨⟨_,rfl⟩,?_,?_⟩
 .rintro i p A7 a⟨s2,rfl⟩;rw[Aa]at a;obtain⟨c,ex,rfl⟩:=Option.map_eq_some_iff.mp a;refine JM ?_;refine Ih (wp_call (BM (Dm (dF (A9 rfl ⟨Hc,_,rfl,by decide +kernel,Ce ⟨_,⟨ks,rfl,g,rfl⟩,?_⟩⟩)))));rintro _ rfl;refine BM (A9 rfl (Ce ⟨_,⟨wk ks,_,c,rfl,.inl rfl,by rw[AF];omega,b c (Dn ex),rfl⟩,?_⟩));rintro _ rfl;exact⟨_,rfl⟩
 .rintro A7⟨s2,rfl⟩;exact⟨_,rfl,rfl⟩
def Ow:BA ["book","crowd","rule","most","run","told","word"] ["book","crowd","rule","most"] (Af UJ):=by walk_at "z1"
def Zs:∀ss R,(UM A8) ss R->ss.length=4:=by rintro _ _⟨ks,tp,cs,r,m,rfl,_,_,_,_,rfl⟩;rfl
def rT(F:AV K "ran" "ran" UJ f fd)(m:mg "ran"=some (.ref f)):
  AR P w K mg ZB "ran" 6 ["book","crowd","rule","most"] (Ai (UM A8)):=by
 refine AR.mk F (F.binds (by walk_at "bD4")) m (F.BQ (k:=5) Ow (λvs H Q E h=>Fz.DB Zs h) (λAd A outer s H vs Q E hr h=>?_))
 refine⟨_,(AD rfl (By (Aw SE hr (A0 (qv 2) A4)))
   (AD rfl (By (Aw Sj hr (A0 (qv 0) (A0 (qv 1) A4))))
   (AD rfl (Ag 4 Ow.nd (YB Sw hr (by decide) Ui (A0 (qv 1) (A0 (qv 2) A4))))
   (AD rfl (Ag 5 Ow.nd (Cq A4))
   (AD rfl (D6 (O8 ET (Nv (BP Jf (CD GB BI (A0 (qv 5) A4)) (qv 3)) (QU (Eg (Pc Q3 hr (by decide) (qv 4))))).pt (AD rfl (Ag 6 Ow.nd (Pc Rc hr (by decide) (qv 4)))
   (AD rfl (By (Lc Ul hr (by decide) (qv 4) (A0 (Lc WC hr (by decide) (qv 0) (A0 (qv 6) A4)) (A0 (Lc R5 hr (by decide) (qv 0) (A0 (qv 6) A4)) A4))))
   (AK rfl (By (Dl Dp Gq Gr Fm (qv 5) (A0 (qv 6) A4))))))))
   (AK rfl (BJ (CP (A0 (qv 5) (A0 (C7 (qv 4)) (A0 (C7 (qv 4)) (A0 (Qo (Pc Q3 hr (by decide) (qv 4))) A4)))))))))))),?_⟩
 refine Fz.DA h Zs ?_;rintro _ _⟨ks,tp,cs,r,m,rfl,d,⟨L,QF⟩,hr,hm,rfl⟩;show Ws [_,_,_,_,.any,.any,.any] _ _ _;refine AW (Ih (wp_call (BM (A9 rfl (Ce ⟨_,⟨r,rfl,hr,rfl⟩,?_⟩)))));rintro _ rfl;refine AW (Ih (wp_call (BM (A9 rfl (Zi (RX (Uh rfl (Ce ⟨_,⟨ks,tp,cs,rfl,d,L,QF,rfl⟩,?_⟩))))))));rintro _ rfl;refine AW (GX (ZM (JK (A9 rfl (JK (A9 rfl (J9 λb e=>⟨_,⟨e,b,tp,cs,r,rfl,by omega,rfl⟩,?_⟩)))))));rintro _ _⟨rfl,aT,aW,rfl⟩;refine⟨rfl,_,_,rfl,?_⟩;refine AW (G4 (Hu (DQ ⟨by simp,?_⟩)));refine KH (λA7=>∃(q:Rn×List Str)(t:OV)(a:Slot),Cu ks (m - q.2.length) q=Cu ks m (EX r cs)/\(q.2.length<m->Bf q.1.th=false)/\FW A5 b q.1 t/\A7=[.is (BX A8 ks),.is (IX tp (cs.map .str)),.is (.str r),.is (.int m),.ow false t,.own (q.2.map .str),a]) (FN (dy (λn A7=>∃(q:Rn×List Str)(t:OV)(a:Slot),n=m - q.2.length/\Cu ks (m - q.2.length) q=Cu ks m (EX r cs)/\Hm ks q.2.length q.1/\FW A5 b q.1 t/\A7=[.is (BX A8 ks),.is (IX tp (cs.map .str)),.is (.str r),.is (.int m),.ow false t,.own (q.2.map .str),a]) m ⟨EX r cs,Dd A5 e b aT aW (EX r cs).1,.any,rfl,rfl,⟨hr,λy J=>?_,?_⟩,⟨e,aT,aW,rfl⟩,rfl⟩ ?_)) ?_
 .obtain⟨c,Hy,rfl⟩:=List.mem_map.mp J;exact QF c Hy
 .show(cs.map _).length<=12+6 * 0;rw[AF];omega
 .rintro n A7⟨q,t,a,rfl,l,ok,j,rfl⟩;obtain⟨dx,aT,aW,rfl⟩:=id j;refine WA (Dx ?_)
  walk_at "ww"
  rw[AF];refine BL (λc=>?_) (λc=>DJ (by decide) ⟨q,_,a,l,λz=>absurd (iN (by omega)) c,j,rfl⟩);have U:q.2.length<m:=by have:=ib c;omega
  refine FG (RL (i:=4) (B6 rfl ⟨dx,E6,b,_,rfl,by decide +kernel,UN ⟨_,⟨q.1,jL (λp=>[Slot.is p]) Vz,rfl⟩,?_⟩⟩));rintro _ rfl;refine⟨rfl,_,rfl,BL (λg=>?_) (λg=>⟨q,_,a,l,λ_=>by cases e:Bf q.1.th with|true=>exact absurd e g|false=>rfl,j,rfl⟩)⟩
  obtain⟨B,σ,⟨tb,x⟩,tl⟩:=R1 g;have hw:=ok.wd _ x;have l1:=ok.len;obtain⟨kd,R,T,v,S,N⟩:=d.at hw;have kp:=d.ps kd N;refine AW (mJ (i:=4) (P9 (us:=_) rfl (by decide +kernel) (J9 ⟨_,⟨b,q.1,_,rfl,j,g,by omega,rfl⟩,?_⟩)));rintro _ t2⟨rfl,Ew⟩;obtain⟨MV,NF,MY,rfl⟩:=id Ew;refine⟨_,_,rfl,?_⟩;show Ws [.is (BX A8 ks),.is (IX tp (cs.map .str)),.is (.str r),.is (.int m),.ow false (Dd A5 MV b NF MY (C6 q.1)),.own (q.2.map .str),.is (.str (AQ q.1))] _ _ _;refine AW (WK (i:=4) (P9 (us:=_) rfl (by decide +kernel) (JK (Dm (dF (A9 rfl ⟨_,_,rfl,by decide +kernel,BM (A9 rfl (Ce ⟨_,⟨ks,AQ q.1,rfl,d,hw,rfl⟩,?_⟩))⟩))))));rintro _ rfl;refine JK (gH (A9 rfl ⟨_,_,rfl,by decide +kernel,BM (A9 rfl (Ce ⟨_,⟨ks,AQ q.1,rfl,d,hw,rfl⟩,?_⟩))⟩));rintro _ rfl;refine J9 ⟨_,⟨b,C6 q.1,_,Ea ks (AQ q.1),GK ks (AQ q.1),(AQ q.1,false),rfl,Ew,⟨B,Qk _⟩,ok.rl,⟨λp u=>?_,?_⟩,rfl⟩,?_⟩
  .rw[show Ea ks (AQ q.1)=kd.ps from v]at u;exact(kp.2 p u).1
  .rw[show Ea ks (AQ q.1)=kd.ps from v,tl];have:=kp.1;omega
  rintro _ C⟨rfl,o⟩;have o:FW A5 b (Gz ks q.1) C:=o;obtain⟨I,G,M,rfl⟩:=id o;refine⟨_,_,rfl,?_⟩;show Ws [.is (BX A8 ks),.is (IX tp (cs.map .str)),.is (.str r),.is (.int m),.ow false (Dd A5 I b G M (Gz ks q.1)),.own (q.2.map .str),.is (.str (AQ q.1))] _ _ _;refine Oh rfl (A9 rfl ⟨by rw[AF];omega,?_⟩);have D:(q.2++[AQ q.1]).length=q.2.length+1:=by rw[C5];rfl
  refine⟨m - (q.2++[AQ q.1]).length,by omega,(Gz ks q.1,q.2++[AQ q.1]),_,.is (.str (AQ q.1)),rfl,?_,?_,o,by rw[Cc];rfl⟩
  .rw[<- l,show m - q.2.length=(m - (q.2++[AQ q.1]).length)+1 by omega,Cu,hZ g]
  .show Hm ks (q.2++[AQ q.1]).length _;rw[D];exact WM d ok g
 .rintro A7⟨q,t,a,l,FJ,j,rfl⟩;obtain⟨dx,aT,aW,rfl⟩:=id j;have fin:Cu ks m (EX r cs)=q:=by
   rw[<- l]
   by_cases c:q.2.length<m
   .exact Zf ks (FJ c) _
   .rw[show m - q.2.length=0 by omega];rfl
  rw[fin];refine XQ (Mj (Cv (wo rfl λl1=>Cv (hU (i:=4) rfl (OZ rfl Aq E1 (Cv (CJ (YV rfl Aq Gu (Cv (CJ (PL (RL (i:=4) (B6 rfl ⟨dx,E6,b,_,rfl,by decide +kernel,UN ⟨_,⟨q.1,jL (λp=>[Slot.is p]) Vz,rfl⟩,?_⟩⟩)))))))))))));rintro _ rfl;exact⟨rfl,_,rfl,GN ⟨by simp,by simp,by simp,by simp,by simp,l1,aT,rfl⟩⟩
def oB:BA ["found"] ["found"] (Af UU):=by walk_at "z1"
def dX : ∀ss R,SV ss R->ss.length=1:=by rintro _ _⟨i,rfl,rfl⟩;rfl
def nE(F:AV K "_law_whole" "_law_whole" UU f fd)(m:mg "_law_whole"=some (.ref f)):
  AR P w K mg ZB "_law_whole" 1 ["found"] (Ai SV):=by
 refine AR.mk F (F.binds (by walk_at "bD1")) m (F.BQ (k:=0) oB (λvs H Q E h=>Fz.DB dX h) (λAd A outer s H vs Q E hr h=>?_))
 refine⟨_,(AK rfl (BJ (Rf (CD LX Gx (A0 (qv 0) (A0 (Ku "int" Fc) A4))) (MX (Qo (CD LX Gx (A0 (qv 0) (A0 (Ku "bool" L6) A4)))))))),?_⟩;refine Fz.DA h dX ?_;rintro _ _⟨i,rfl,rfl⟩;show Ws [_] _ _ _;refine Ez (TJ (Ky (A9 rfl ⟨true,MH _ _,_,rfl,eN ?_⟩)));exact PL (Ky (A9 rfl ⟨false,sZ _,_,rfl,rfl⟩))
def YA:BA ["book","case","due","held","found"] ["book","case","due","held"] (Af VI):=by walk_at "z1"
def aQ:∀ss R,(VM K A8) ss R->ss.length=4:=by rintro _ _⟨c,tp,l,hs,rfl,_,_,_,rfl⟩;rfl
def qD(F:AV K "_law_right" "_law_right" VI f fd)(m:mg "_law_right"=some (.ref f)):
  AR P w K mg ZB "_law_right" 7 ["book","case","due","held"] (Dc (VM K A8)):=by
 refine AR.mk F (F.binds (by walk_at "bD4")) m (F.BQ (k:=6) YA (λvs H Q E h=>Fz.KP aQ h) (λAd A outer s H vs Q E hr h=>?_))
 refine⟨_,(AD rfl (Ag 4 YA.nd (Aw VF hr (A0 (qv 0) (A0 (AM Ar (qv 1) A3) (A0 (AM Ar (qv 1) A3) (A0 (AM Ar (qv 1) A3) A4))))))
   (AD rfl (BR (Kc (IM (Eg (CD LX Gx (A0 (qv 4) (A0 (Ku "tuple" G6) A4))))) (Kc (BP Ru (CD GB BI (A0 (qv 4) A4)) A3) (Ld (BP (Fz.X5 hr.units) (qv 4) (qv 2))))).pt (AK rfl (BJ FC)) Bw)
   (AD rfl (BR (Kc (IM (Eg (CD LX Gx (A0 (AM Ar (qv 4) A3) (A0 (Ku "list" Dj) A4))))) (Ld (IM (Eg (CD LX Gx (A0 (AM Ar (qv 4) A3) (A0 (Ku "list" Dj) A4))))))).pt (AK rfl (BJ FC)) Bw)
   (AD rfl (BR (Kc (IM (Eg (Aw Uc hr (A0 (AM Ar (qv 4) A3) A4)))) (Ld (IM (Eg (CD LX Gx (A0 (AM Ar (qv 4) A3) (A0 (Ku "bool" L6) A4))))))).pt (AK rfl (BJ FC)) Bw)
   (AD rfl (By (Dl Dp Gq Gr Fm (qv 3) (A0 (CP (A0 (AM Ar (qv 4) A3) (A0 (Ah LK (AM Ar (qv 2) A3) (Cq (A0 B4 A4))) A4))) A4)))
   (AD rfl (By (Dl Dp Gq Gr Fm (qv 3) (A0 (CP (A0 (AM Ar (qv 4) A3) (A0 (Ah LK (AM Ar (qv 2) A3) (Cq (A0 B4 A4))) A4))) A4)))
   (AD rfl (By (Dl Dp Gq Gr Fm (AM Ar (qv 4) A3) (A0 B4 A4)))
   (AD rfl (By (Dl Dp Gq Gr Fm (AM Ar (qv 4) A3) (A0 B4 A4)))
   (AK rfl (BJ FC)))))))))),?_⟩
 refine Fz.d3 h aQ ?_;rintro _ _⟨c,tp,l,hs,rfl,ok,hh,y,rfl⟩;show Ws [.is (BX A8 c.ks),.is (c.P tp),.is (Ci c.q),.ow true (DT l hs),.any] _ _ _;obtain⟨Ux,ln2⟩:=ok.run;refine AW (GX (Yh (BM (A9 rfl (BM (Bi (C2 rfl ⟨rfl,Ac ⟨_,_,rfl,rfl,BM (Bi (C2 rfl ⟨rfl,Ac ⟨_,_,rfl,rfl,BM (Bi (C2 rfl ⟨rfl,Ac ⟨_,_,rfl,rfl,Ce ⟨_,⟨c.ks,tp,c.cs,c.r,c.m,rfl,ok.g,⟨ok.l,ok.w⟩,ok.hr,ok.hm,rfl⟩,?_⟩⟩⟩))⟩⟩))⟩⟩)))))));rintro _⟨l1,l2,rfl⟩;show Ws [.is (BX A8 c.ks),.is (c.P tp),.is (Ci c.q),.ow true (DT l hs),.ow false (KA l1 l2 c.q)] _ _ _;have Du:List.map GI [.is (BX A8 c.ks),.is (c.P tp),.is (Ci c.q),.ow true (DT l hs),.ow false (KA l1 l2 c.q)]=[.is (BX A8 c.ks),.is (c.P tp),.is (Ci c.q),.is (DT l hs).pv,.is (Ci c.q)]:=by
  show[_,_,_,_,Slot.is (KA l1 l2 c.q).pv]=_;rw[tZ];rfl
 refine AW (Dt (RU ?_));rw[Du];refine Kz (L7 (FG (Ky (A9 rfl ⟨true,MH _ _,_,rfl,DJ (by decide) ?_⟩))));refine Kz (Dx (Pj (PY (C2 rfl (Ac ⟨rfl,_,rfl,DJ (by simp[alike]) ?_⟩)))));refine Dx (Sl (A9 rfl (A9 rfl ⟨Vx _,Vx _,_,rfl,DJ (by rw[Vc 40 (Vx (K:=K) c.q)];decide) (CH ?_)⟩)));refine AW (Dt (RU ?_));rw[Du];refine Kz (L7 (FG (Ky (Bi (C2 rfl ⟨rfl,Ac ⟨_,_,rfl,rfl,true,MH _ _,_,rfl,DJ (by decide) ?_⟩⟩)))));refine L7 (FG (Ky (Bi (C2 rfl ⟨rfl,Ac ⟨_,_,rfl,rfl,true,MH _ _,_,rfl,DJ (by decide) (CH ?_)⟩⟩))));refine AW (Dt (RU ?_));rw[Du];refine Kz (L7 (FG (wp_call (BM (Bi (C2 rfl ⟨rfl,Ac ⟨_,_,rfl,rfl,Ce ⟨_,⟨_,rfl,rfl⟩,?_⟩⟩⟩))))));rintro _ rfl;refine⟨_,rfl,DJ (by decide) ?_⟩;refine L7 (FG (Ky (Bi (C2 rfl ⟨rfl,Ac ⟨_,_,rfl,rfl,true,MH _ _,_,rfl,DJ (by decide) (CH ?_)⟩⟩))));refine Xb (i:=4) rfl λnd=>?_;have o:KA l1 l2 c.q=EE (.nd .lst l1 ((c.q.2.map PV.str).map .fz)) (.nd .lst l2 ((C8 c.q.1.th).map .fz)) c.q:=rfl;rw[o]at nd ⊢;rw[Tb,JO,JO]at nd;have e:l1≠l2:=λz=>(List.nodup_cons.mp nd).1 (by rw[z];exact List.mem_singleton.mpr rfl);refine AW (eZ (i:=3) (t:=DT l hs) 4 [0] rfl pY (B6 rfl ⟨true,l,_,rfl,by decide,rfl,by rw[AF];omega,?_⟩));refine Mj (Cv (ax rfl rfl (Cv (CJ (Dm (OP (BO (Bi (C2 rfl ⟨rfl,Ac ⟨_,_,rfl,rfl,_,.inl ⟨rfl,rfl,BO (Dm (Hu (Bg (Eb (DQ ⟨(show 1<=100000 by decide),_,.inl ⟨rfl,rfl,?_⟩⟩)))))⟩⟩⟩)))))))));refine⟨by rw[AF];show _+1<=_;omega,GN ⟨(λ_ h=>by cases h),(λ_ _ h=>by cases h),(show 2<=100000 by decide),by decide,λx hx hw=>?_,?_⟩⟩
 .rw[aG,Tb,JO,OV.D3,Fb]at hx;rw[iP,JO]at hw;exact e ((List.mem_singleton.mp hw).symm.trans (List.mem_singleton.mp hx))
 rw[aG,OV.CI];obtain⟨X,b⟩:∃X,X=hs.map λh=>OV.tp [.nd .lst h.1 (h.2.map .fz),.fz (.lst h.2)]:=⟨_,rfl⟩;obtain⟨A,d⟩:∃A,A=c.q.2.map PV.str:=⟨_,rfl⟩;obtain⟨B,a⟩:∃B,B=C8 c.q.1.th:=⟨_,rfl⟩;have p:X.length=hs.length:=by rw[b,AF]
 have v:A.length=c.q.2.length:=by rw[d,AF]
 have u:B.length=c.q.1.th.length:=by rw[a,Le]
 rw[<- b,<- d,<- a];show Ws [.is (BX A8 c.ks),.is (c.P tp),.is (Ci c.q),.ow true (.nd .lst l (X++[.tp [.nd .lst l1 (A.map .fz),.fz (.lst (A++[.str ""]))]])),.ow false (EE (.fz (.con l1 [])) (.nd .lst l2 (B.map .fz)) c.q)] _ _ _;refine AW (eZ (i:=3) (t:=.nd .lst l (X++[.tp [.nd .lst l1 (A.map .fz),.fz (.lst (A++[.str ""]))]])) 4 [1] rfl pP (B6 rfl ⟨true,l,_,rfl,by decide,rfl,by rw[C5];show _+1<=_;omega,?_⟩));refine Mj (Cv (ax rfl rfl (Cv (CJ (Dm (OP (BO (Bi (C2 rfl ⟨rfl,Ac ⟨_,_,rfl,rfl,_,.inl ⟨rfl,rfl,BO (Dm (Hu (Bg (Eb (DQ ⟨(show 1<=100000 by decide),_,.inl ⟨rfl,rfl,?_⟩⟩)))))⟩⟩⟩)))))))));rw[<- a];refine⟨by show _+1<=_;omega,GN ⟨(λ_ h=>by cases h),(λ_ _ h=>by cases h),(show 2<=100000 by decide),by decide,λx hx hw=>?_,?_⟩⟩
 .rw[df,Tb,OV.D3,OV.D3]at hx;cases hx
 rw[df,OV.CI,BY];show Ws [.is (BX A8 c.ks),.is (c.P tp),.is (Ci c.q),.ow true (.nd .lst l (X++[.tp [.nd .lst l1 (A.map .fz),.fz (.lst (A++[.str ""]))],.tp [.nd .lst l2 (B.map .fz),.fz (.lst (B++[.str ""]))]])),.ow false (EE (.fz (.con l1 [])) (.fz (.con l2 [])) c.q)] _ _ _;refine AW (LP (i:=3) (bU (j:=4) (i:=3) (n:=0) rfl rfl rfl (eE cL) ⟨true,l1,_,rfl,rfl,by rw[AF];omega,CJ (Eb ⟨by decide,?_⟩)⟩));rw[Zg cL,xU];show Ws [.is (BX A8 c.ks),.is (c.P tp),.is (Ci c.q),.ow true (.nd .lst l (X++[.tp [.nd .lst l1 (A.map .fz++[.fz (.str "")]),.fz (.lst (A++[.str ""]))],.tp [.nd .lst l2 (B.map .fz),.fz (.lst (B++[.str ""]))]])),.ow false (EE (.fz (.con l1 [])) (.fz (.con l2 [])) c.q)] _ _ _;refine AW (LP (i:=3) (bU (j:=4) (i:=3) (n:=1) rfl rfl rfl (eE eC) ⟨true,l2,_,rfl,rfl,by rw[AF];omega,CJ (Eb ⟨by decide,?_⟩)⟩));rw[Zg eC,gT];refine ao (i:=3) rfl (IB ⟨rfl,hs++[(l1,A++[.str ""]),(l2,B++[.str ""])],?_,by rw[C5];exact Aj _,λh hm=>?_⟩)
 .unfold DT;rw[Cc,b];simp only[Ap,Gp,Cc]
 .rcases List.mem_append.mp hm with z|z
  .exact hh h z
  .simp only[IU,An,qM]at z;rcases z with rfl|rfl
   .rw[d];exact eG _ _
   .rw[a,cX];exact eG _ _
def Hz:BA ["script","cases","books","dues","held","k","crowd","case"] ["script"] (Af ID):=by walk_at "z1"
def oE:=Sc [(".0",.local),("case",.local),("_law_book",.globalImplicit)]
def iV:Dz ["script","cases","books","dues","held","k","crowd","case"] (Af ID) oE "case" [] []:=by walk_at "z2"
def t5:=Sc [(".0",.local),("case",.local),("_law_run",.globalImplicit)]
def u4:Dz ["script","cases","books","dues","held","k","crowd","case"] (Af ID) t5 "case" [] []:=by walk_at "z2"
def uJ:=Sc [(".0",.local),("found",.local),("due",.local)]
def sX:HY ["script","cases","books","dues","held","k","crowd","case"] (Af ID) uJ ["found","due"] [] []:=⟨rfl,by decide +kernel,by decide +kernel,by decide +kernel,rfl,by decide +kernel,by decide +kernel,by decide +kernel,by decide +kernel⟩
def pk(F:AV K "law" "law" ID f fd)(m:mg "law"=some (.ref f)):
  DN P w K mg ZB FZ 8 f fd ["script"] (M5 K):=by
 refine(F.BQ (k:=7) Hz (λvs H Q E h=>by obtain⟨a,ns,rfl,_⟩:=h;rfl) (λAd A outer s H vs Q E hr h=>?_));refine⟨_,(AD rfl (Ag 1 Hz.nd (Cq (A0 (Aw OL hr (A0 (qv 0) (A0 A3 A4))) (A0 (Aw OL hr (A0 (qv 0) (A0 A3 A4))) A4))))
   (AD rfl (O0 (i:=2) Hz.nd rfl (Or.inl rfl) rfl iV (Di (qv 1)) (λ_ _ _ _=>by exact FO) (λ_ _ _ _=>by exact(Aw Rz hr (A0 (AM (show DK _ (FE K)from Ar) (qv 0) A3) A4))))
   (AD rfl (O0 (i:=3) Hz.nd rfl (Or.inl rfl) rfl u4 (Di (qv 1)) (λ_ _ _ _=>by exact FO) (λ_ _ _ _=>by exact(Aw Rm hr (A0 (AM (show DK _ (FE K)from Ar) (qv 0) A3) (A0 (AM (show DK _ (FE K)from Ar) (qv 0) A3) (A0 (AM (show DK _ (FE K)from Ar) (qv 0) A3) (A0 (AM (show DK _ (FE K)from Ar) (qv 0) A3) A4)))))))
   (AD rfl (Ag 4 Hz.nd (Cq A4))
   (AD rfl (D6 (FK ET rfl (Di (CP (A0 A3 (A0 A3 (A0 A3 (A0 A3 A4)))))) (DE 5 Hz.nd) (AD rfl (Ag 6 Hz.nd (GW OK Dj (A0 (AM Ar (AM BG (qv 1) (qv 5)) A3) A4)))
   (AD rfl (Ag 7 Hz.nd (CP (A0 (AM Ar (AM BG (qv 1) (qv 5)) A3) (A0 (qv 6) (A0 (AM Ar (AM BG (qv 1) (qv 5)) A3) (A0 (AM Ar (AM BG (qv 1) (qv 5)) A3) A4))))))
   (AD rfl (BR (Kc (IM (Eg (Aw O7 hr (A0 (AM BG (qv 2) (qv 5)) (A0 (qv 7) (A0 (AM BG (qv 3) (qv 5)) (A0 (qv 4) A4))))))) (Ld (BP (Fz.X5 hr.units) (qv 6) (AM Ar (AM BG (qv 1) (qv 5)) A3)))).pt (AK rfl (BJ FC)) Bw)
   (AD rfl (Ag 7 Hz.nd (CP (A0 (AM Ar (AM BG (qv 1) (qv 5)) A3) (A0 (GW RO G6 (A0 (qv 6) A4)) (A0 (AM Ar (AM BG (qv 1) (qv 5)) A3) (A0 (AM Ar (AM BG (qv 1) (qv 5)) A3) A4))))))
   (AK rfl (BR (IM (Eg (Aw O7 hr (A0 (AM BG (qv 2) (qv 5)) (A0 (qv 7) (A0 (AM BG (qv 3) (qv 5)) (A0 (qv 4) A4))))))) (AK rfl (BJ FC)) Bw))))))))
   (AK rfl (BJ (CD (bu rfl) Ko (A0 (wt rfl sX (.cons (.cons .nil)) (λ_=>rfl) (λ_=>rfl) (Di (qv 4)) (λ_ _ _ _=>by exact FO) (λ_ _ _ _=>by exact(Ed (show B7 _ (compareOp .Eq) (Fz.N4 K false)from(Fz.oT hr.units)) (qv 0) (qv 1)))) A4))))))))),?_⟩
 refine Fz.qx h ?_;intro sc MM;show Ws [_,.any,.any,.any,.any,.any,.any,.any] _ _ _;refine AW (G4 (Hu (Bg (wp_call (bh rfl (BM (Ac (Ce ⟨_,⟨sc,0,rfl,MM,by decide,rfl⟩,?_⟩))))))));rintro _⟨y,X,rfl⟩;refine Bg (wp_call (bh rfl (BM (Ac (Ce ⟨_,⟨sc,2,rfl,MM,by decide,rfl⟩,?_⟩)))));rintro _⟨u,UZ,rfl⟩;refine DQ ⟨by show 2<=100000;decide,?_⟩;refine Gg 1 rfl ?_;have R:∀x∈[y,u],x.ok:=λx hx=>by
  rcases List.mem_cons.mp hx with e|e
  .rw[e];exact X
  .rw[List.mem_singleton.mp e];exact UZ
 refine AW (G4 (I0 (λc:EJ=>c.P false) (λ_=>true) (λc=>BX A8 c.ks) (Gd (FY (A9 rfl ⟨_,.inl ⟨rfl,[y,u],rfl,(show 2<=100000 by decide),λ_ _=>G0 rfl,λx hx _=>?_,?_⟩⟩))) YQ))
 .refine wp_call (BM (Bi (C2 rfl ⟨rfl,Ac ⟨_,_,rfl,rfl,Ce ⟨_,⟨x.ks,rfl,(R x hx).g,rfl⟩,?_⟩⟩⟩)));rintro _ rfl;rfl
 refine Gg 2 rfl ?_;refine AW (G4 (I0 (λc:EJ=>c.P false) (λ_=>true) (λc=>Ci c.q) (Gd (FY (A9 rfl ⟨_,.inl ⟨rfl,[y,u],rfl,(show 2<=100000 by decide),λ_ _=>G0 rfl,λx hx _=>?_,?_⟩⟩))) YQ))
 .have o:=R x hx;refine wp_call (BM (Bi (C2 rfl ⟨rfl,Ac ⟨_,_,rfl,rfl,BM (Bi (C2 rfl ⟨rfl,Ac ⟨_,_,rfl,rfl,BM (Bi (C2 rfl ⟨rfl,Ac ⟨_,_,rfl,rfl,BM (Bi (C2 rfl ⟨rfl,Ac ⟨_,_,rfl,rfl,Ce ⟨_,⟨x.ks,x.cs,x.r,x.m,rfl,o.g,⟨o.l,o.w⟩,o.hr,o.hm,rfl⟩,?_⟩⟩⟩))⟩⟩))⟩⟩))⟩⟩)));rintro _ rfl;rfl
 refine Gg 3 rfl ?_;refine AW (GX (Jx (Hu (DQ ⟨by decide,λl=>?_⟩))));show Ws [.raw (Ds K sc),.is (.lst ([y,u].map λc=>c.P false)),.is (.lst ([y,u].map λc=>BX A8 c.ks)),.is (.lst ([y,u].map λc=>Ci c.q)),.ow false (DT l []),.any,.any,.any] _ _ _;refine AW (FN (Gk (λ_ i A7=>∃(hs:List (Addr×List PV))(I C D:Slot),A7=[.raw (Ds K sc),.is (.lst ([y,u].map λc=>c.P false)),.is (.lst ([y,u].map λc=>BX A8 c.ks)),.is (.lst ([y,u].map λc=>Ci c.q)),.ow false (DT l hs),I,C,D]/\hs.length<=4 * i/\Vh K hs) ?_))
 walk_at "ww"
 refine⟨(show 4<=100000 by decide),_,.inr ⟨rfl,⟨[],_,_,_,rfl,CN _,λ_ h=>by cases h⟩,?_,?_⟩⟩
 .rintro i p A7 G⟨hs,I,C,D,rfl,M,U⟩;obtain⟨hi,n,rfl,c,J⟩:i<4/\∃n:Nat,p=.int n/\∃c,[y,u][n]?=some c:=by
   rcases(show i=0∨i=1∨i=2∨i=3∨4<=i by omega)with rfl|rfl|rfl|rfl|h
   .cases G;exact⟨by decide,0,rfl,y,rfl⟩
   .cases G;exact⟨by decide,1,rfl,u,rfl⟩
   .cases G;exact⟨by decide,0,rfl,y,rfl⟩
   .cases G;exact⟨by decide,1,rfl,u,rfl⟩
   .exact absurd (List.getElem?_eq_some_iff.mp G).1 (Nat.not_lt.mpr h)
  have ok:=R c (Dn J);have L:L2.BS ([y,u].map λc=>c.P false) (n:Int)=some (c.P false):=L2.CV (by rw[Aa,J];rfl);have T:L2.BS ([y,u].map λc=>BX A8 c.ks) (n:Int)=some (BX A8 c.ks):=L2.CV (by rw[Aa,J];rfl);have S:L2.BS ([y,u].map λc=>Ci c.q) (n:Int)=some (Ci c.q):=L2.CV (by rw[Aa,J];rfl);refine JM ?_;refine AW (G4 (MQ rfl (BO (Bi (BO (DW (G1 rfl ⟨rfl,A9 rfl ⟨_,_,rfl,L,_,.inr ⟨rfl,rfl,Ac ⟨_,_,rfl,rfl,_,.inl ⟨rfl,?_⟩⟩⟩⟩⟩)))))));refine Gg 6 rfl ?_;have B:∀(j:Nat)(v:PV){C:Slot}{kk:PV->Prop},L2.BS [.lst (c.ks.map Kd.P),.lst (c.cs.map .str),.str c.r,.int c.m] (j:Int)=some v->kk v->Wp [.raw (Ds K sc),.is (.lst ([y,u].map λc=>c.P false)),.is (.lst ([y,u].map λc=>BX A8 c.ks)),.is (.lst ([y,u].map λc=>Ci c.q)),.ow false (DT l hs),.is (.int n),C,D] (BB (FE K) (BB (FT K) (BF 1) (BF 5)) (tC (.int j))) kk:=λj v C kk σ N=>Bi (BO (DW (G1 rfl ⟨rfl,A9 rfl ⟨_,_,rfl,L,_,.inr ⟨rfl,rfl,Ac ⟨_,_,rfl,σ,N⟩⟩⟩⟩)));refine AW (FU (HA (Bg (B 0 _ rfl (Bg (A9 rfl (Bg (B 2 _ rfl (Bg (B 3 _ rfl (DQ ⟨(show 4<=100000 by decide),?_⟩)))))))))));show Ws [.raw (Ds K sc),.is (.lst ([y,u].map λc=>c.P false)),.is (.lst ([y,u].map λc=>BX A8 c.ks)),.is (.lst ([y,u].map λc=>Ci c.q)),.ow false (DT l hs),.is (.int n),.is (.lst (c.cs.map .str)),.is (c.P false)] _ _ _;refine AW (p4 (i:=4) (lt:=false) (t:=DT l hs) (YF (da (X2 rfl (L1 (DW (G1 rfl ⟨rfl,A9 rfl ⟨_,_,rfl,T,L1 (A9 rfl (L1 (DW (G1 rfl ⟨rfl,A9 rfl ⟨_,_,rfl,S,aR rfl (J9 ⟨_,⟨c,false,l,hs,rfl,ok,U,by omega,rfl⟩,?_⟩)⟩⟩))))⟩⟩)))))));rintro _ _⟨rfl,Jw,rfl,yN,W⟩;refine⟨_,_,rfl,_,rfl,rfl,?_⟩;show Ws [.raw (Ds K sc),.is (.lst ([y,u].map λc=>c.P false)),.is (.lst ([y,u].map λc=>BX A8 c.ks)),.is (.lst ([y,u].map λc=>Ci c.q)),.ow false (DT l Jw),.is (.int n),.is (.lst (c.cs.map .str)),.is (c.P false)] _ _ _;refine Dt (Dx (Sl (A9 rfl (Bi (BO (DW (G1 rfl ⟨rfl,A9 rfl ⟨_,_,rfl,L,_,.inr ⟨rfl,rfl,Ac ⟨_,_,rfl,rfl,Mc (K:=K) (d:=39) _,Mc (K:=K) (d:=39) _,_,rfl,DJ ?_ (CH ?_)⟩⟩⟩⟩)))))))
  .show ¬(!C4 (.lst (c.cs.map .str)) (.lst (c.cs.map .str)))=true;rw[Vc 40 (show dat K 40 (.lst (c.cs.map .str))from Mc (K:=K) (d:=39) _)];decide
  have B:∀(j:Nat)(v:PV){C D:Slot}{kk:PV->Prop},L2.BS [.lst (c.ks.map Kd.P),.lst (c.cs.map .str),.str c.r,.int c.m] (j:Int)=some v->kk v->Wp [.raw (Ds K sc),.is (.lst ([y,u].map λc=>c.P false)),.is (.lst ([y,u].map λc=>BX A8 c.ks)),.is (.lst ([y,u].map λc=>Ci c.q)),.ow false (DT l Jw),.is (.int n),C,D] (BB (FE K) (BB (FT K) (BF 1) (BF 5)) (tC (.int j))) kk:=λj v C D kk σ N=>Bi (BO (DW (G1 rfl ⟨rfl,A9 rfl ⟨_,_,rfl,L,_,.inr ⟨rfl,rfl,Ac ⟨_,_,rfl,σ,N⟩⟩⟩⟩)));refine AW (FU (HA (Bg (B 0 _ rfl (Bg (TN rfl (G1 rfl (Bg (B 2 _ rfl (Bg (B 3 _ rfl (DQ ⟨(show 4<=100000 by decide),?_⟩))))))))))));show Ws [.raw (Ds K sc),.is (.lst ([y,u].map λc=>c.P false)),.is (.lst ([y,u].map λc=>BX A8 c.ks)),.is (.lst ([y,u].map λc=>Ci c.q)),.ow false (DT l Jw),.is (.int n),.is (.lst (c.cs.map .str)),.is (c.P true)] _ _ _;refine mM (i:=4) (lt:=false) (t:=DT l Jw) (YF (da (X2 rfl (L1 (DW (G1 rfl ⟨rfl,A9 rfl ⟨_,_,rfl,T,L1 (A9 rfl (L1 (DW (G1 rfl ⟨rfl,A9 rfl ⟨_,_,rfl,S,aR rfl (J9 ⟨_,⟨c,true,l,Jw,rfl,ok,W,by omega,rfl⟩,?_⟩)⟩⟩))))⟩⟩))))));rintro _ _⟨rfl,BE,rfl,yV,V⟩;exact⟨_,_,rfl,_,rfl,DJ (by decide) (CH ⟨BE,_,_,_,rfl,by omega,V⟩)⟩
 .rintro A7⟨hs,I,C,D,rfl,M,ok⟩;have M:hs.length<=16:=M;refine Ez (jh ?_);rw[show List.map GI _=[.raw (Ds K sc),.is (.lst ([y,u].map λc=>c.P false)),.is (.lst ([y,u].map λc=>BX A8 c.ks)),.is (.lst ([y,u].map λc=>Ci c.q)),.is (DT l hs).pv,GI I,GI C,GI D]from rfl,hJ];refine Yv rfl (BO (Dm (bx (λ_=>true) (λ_=>PV.bl true) (Gd (FY (A9 rfl ⟨_,.inl ⟨rfl,by rw[AF];omega,λz Y=>?_,?_⟩⟩))))))
  .obtain⟨h,hm,rfl⟩:=List.mem_map.mp Y;refine⟨_,rfl,rfl,G0 rfl,λ_=>bI (A9 rfl (A9 rfl ⟨ok h hm,ok h hm,?_⟩))⟩;rw[Vc 40 (ok h hm)]
  .rw[List.filter_eq_self.mpr λ_ _=>rfl];refine⟨_,.inl ⟨rfl,rfl,hs.map λ_=>true,by rw[CA,CA];rfl,by rfl,?_⟩⟩;rw[show(hs.map λ_=>true).all id=true from List.all_eq_true.mpr λb Z=>by obtain⟨_,_,rfl⟩:=List.mem_map.mp Z;rfl]
def all_mk{fa f1 f2 f3 f4 f5 f6 f7 f8 f9 cY dC de bK Oz cZ XJ XZ Pa O1 QV eJ Zy Q9 Pt eI Nh Pe Nr O9 YD Pm YT ZR ak Zv X1:Addr}{g1 g2 g3 g4 g5 g6 g7 g8 g9 qF vV rh i8 ke gr sV iU ni we wN mF oP ql lp xY oZ iR mN uo mK pX uz qP t6 vY kj:FuncData}(X:K.In h)(G:h.Ns mainGlobals mg)(rk:mg "law"=some (.ref fa))
  
  (mI:PySem.W.nsIn K mainGlobals "Errands"=some (some (.ref A8)))
  (oo:PySem.W.plainGet K A8 Str.empty=true)
  (iL:PySem.W.hasDictIn K A8=true)
  (jk:PySem.W.plainOver K A8=true)
  (nD:PySem.W.findIn K (.ref A8) "__setattr__"=some (some (.builtin "object.__setattr__")))
  (pR:PySem.W.makesIn K A8=true)
  (rL:PySem.W.keepIn K (.ref A8)=true)
  (wq:PySem.W.nsIn K mainGlobals "Run"=some (some (.ref A5)))
  (jt:PySem.W.plainGet K A5 Str.empty=true)
  (o8:PySem.W.hasDictIn K A5=true)
  (oy:PySem.W.plainOver K A5=true)
  (nr:PySem.W.findIn K (.ref A5) "__setattr__"=some (some (.builtin "object.__setattr__")))
  (qQ:PySem.W.makesIn K A5=true)
  (rm:PySem.W.keepIn K (.ref A5)=true)
  (J3:PySem.W.findIn K (.ref A8) "goes_by_word"=some none)
  (GH:PySem.W.findIn K (.ref A8) "puts_by_word"=some none)
  (E8:PySem.W.findIn K (.ref A5) "awaited"=some none)
  (Cj:PySem.W.findIn K (.ref A5) "gap"=some none)
  (Gu:PySem.W.findIn K (.ref A5) "rounds"=some none)
  (LC:PySem.W.findIn K (.ref A5) "rule"=some none)
  (E1:PySem.W.findIn K (.ref A5) "things"=some none)
  (a1:nS K "_law_take" (.ref f1)) (F1:AV K "_law_take" "_law_take" RI f1 g1)
  (a2:nS K "_law_letters" (.ref f2)) (F2:AV K "_law_letters" "_law_letters" SR f2 g2)
  (a3:nS K "_law_name" (.ref f3)) (F3:AV K "_law_name" "_law_name" RW f3 g3)
  (a4:nS K "_law_names" (.ref f4)) (F4:AV K "_law_names" "_law_names" V7 f4 g4)
  (a5:nS K "_law_kinds" (.ref f5)) (F5:AV K "_law_kinds" "_law_kinds" WI f5 g5)
  (a6:nS K "_law_pot" (.ref f6)) (F6:AV K "_law_pot" "_law_pot" Se f6 g6)
  (a7:nS K "_law_crowd" (.ref f7)) (F7:AV K "_law_crowd" "_law_crowd" P8 f7 g7)
  (a8:nS K "_law_rule" (.ref f8)) (F8:AV K "_law_rule" "_law_rule" Vu f8 g8)
  (a9:nS K "_law_case" (.ref f9)) (F9:AV K "_law_case" "_law_case" Om f9 g9)
  (uC:nS K "check_word" (.ref cY)) (gU:AV K "check_word" "check_word" Ue cY qF)
  (tM:nS K "check_puts" (.ref dC)) (jz:AV K "check_puts" "check_puts" U8 dC vV)
  (sk:nS K "is_name" (.ref de)) (jO:AV K "is_name" "is_name" OG de rh)
  (vW:nS K "check_kinds" (.ref bK)) (ie:AV K "check_kinds" "check_kinds" Oe bK i8)
  (tV:PySem.W.findIn K (.ref A8) "__init__"=some (some (.ref Oz))) (lF:AV K "__init__" "Errands.__init__" Tg Oz ke)
  (sN:PySem.W.isFn K (.ref Oz)=true)
  (nh:nS K "_law_book" (.ref cZ)) (xE:AV K "_law_book" "_law_book" QH cZ gr)
  (nL:nS K "_law_errand" (.ref XJ)) (jX:AV K "_law_errand" "_law_errand" Ss XJ sV)
  (jb:nS K "_law_run" (.ref XZ)) (xZ:AV K "_law_run" "_law_run" HX XZ iU)
  (tO:PySem.W.findIn K (.ref A5) "__init__"=some (some (.ref Pa))) (o7:AV K "__init__" "Run.__init__" PR Pa ni)
  (vd:PySem.W.isFn K (.ref Pa)=true)
  (jV:PySem.W.findIn K (.ref A5) "goes_on"=some (some (.ref O1))) (e9:AV K "goes_on" "Run.goes_on" Su O1 we)
  (rq:PySem.W.isFn K (.ref O1)=true)
  (tE:PySem.W.findIn K (.ref A5) "tell"=some (some (.ref QV))) (Xn:AV K "tell" "Run.tell" SU QV wN)
  (jW:PySem.W.isFn K (.ref QV)=true)
  (qo:nS K "gap_behind_put" (.ref eJ)) (qR:AV K "gap_behind_put" "gap_behind_put" SW eJ mF)
  (tJ:nS K "joins" (.ref Zy)) (kS:AV K "joins" "joins" Sh Zy oP)
  (uE:PySem.W.findIn K (.ref A5) "put_in"=some (some (.ref Q9))) (Zb:AV K "put_in" "Run.put_in" SY Q9 ql)
  (uF:PySem.W.isFn K (.ref Q9)=true)
  (kb:PySem.W.findIn K (.ref A5) "place_by"=some (some (.ref Pt))) (Yb:AV K "place_by" "Run.place_by" RS Pt lp)
  (vO:PySem.W.isFn K (.ref Pt)=true)
  (jT:nS K "gap_behind_take" (.ref eI)) (vP:AV K "gap_behind_take" "gap_behind_take" Ve eI xY)
  (ue:PySem.W.findIn K (.ref A5) "take_out"=some (some (.ref Nh))) (dA:AV K "take_out" "Run.take_out" WJ Nh oZ)
  (qp:PySem.W.isFn K (.ref Nh)=true)
  (qX:PySem.W.findIn K (.ref A5) "do_errand"=some (some (.ref Pe))) (Zt:AV K "do_errand" "Run.do_errand" RB Pe iR)
  (pD:PySem.W.isFn K (.ref Pe)=true)
  (oY:PySem.W.findIn K (.ref A8) "puts"=some (some (.ref Nr))) (ZS:AV K "puts" "Errands.puts" T2 Nr mN)
  (uX:PySem.W.isFn K (.ref Nr)=true)
  (kL:PySem.W.findIn K (.ref A8) "goes"=some (some (.ref O9))) (Xl:AV K "goes" "Errands.goes" Rr O9 uo)
  (se:PySem.W.isFn K (.ref O9)=true)
  (ot:nS K "check_rule" (.ref YD)) (l9:AV K "check_rule" "check_rule" TC YD mK)
  (nG:PySem.W.findIn K (.ref A8) "words"=some (some (.ref Pm))) (d9:AV K "words" "Errands.words" Qr Pm pX)
  (vT:PySem.W.isFn K (.ref Pm)=true)
  (qt:nS K "check_crowd" (.ref YT)) (gL:AV K "check_crowd" "check_crowd" RH YT uz)
  (fq:nS K "ran" (.ref ZR)) (jw:AV K "ran" "ran" UJ ZR qP)
  (gk:nS K "_law_whole" (.ref ak)) (uK:AV K "_law_whole" "_law_whole" UU ak t6)
  (rf:nS K "_law_right" (.ref Zv)) (vt:AV K "_law_right" "_law_right" VI Zv vY)
  (YW:nS K "law" (.ref X1)) (dv:AV K "law" "law" ID X1 kj)
  (wx:nN K "all")
  (t8:nN K "any")
  (wZ:nN K "bool")
  (vR:nN K "enumerate")
  (wj:nN K "int")
  (sP:nN K "isinstance")
  (jf:nN K "len")
  (mf:nN K "list")
  (vw:nN K "max")
  (oe:nN K "range")
  (uG:nN K "tuple")
  (mU:nS K "LETTERS" (.str "abcdefghijklmnopqrstuvwxyz" TF))
  (rH:nS K "MOST_IN_CROWD" (.int 12 UL))
  (kq:nS K "MOST_KINDS" (.int 8 VT))
  (x4:nS K "MOST_LETTERS" (.int 8 Sk))
  (nv:nS K "MOST_PUTS" (.int 6 Uu))
  (gj:nS K "RULES" (.ref JA))
  {m9:Nat}{gz om rV:Tok}(mV:K.lookup JA=some ⟨.type "tuple", gs,.seq #[.str "none" gz,.str "ahead" om,.str "all" rV] m9,qy⟩)
  (kW:nS K "WHERES" (.ref Ie))
  {i4:Nat}{xH gW uf kr:Tok}(vX:K.lookup Ie=some ⟨.type "tuple", u5,.seq #[.str "next" xH,.str "last" gW,.str "back" uf,.str "first" kr] i4,gF⟩)
  : ∃fd:FuncData,(∀(s:Shared)(v:Value),BindsTo s fd ⟨[v],[]⟩ [("script", v)])/\∀ZB:Heap,K.In ZB->ZB.Ns mainGlobals mg->DN l.prog w K mg ZB FZ 8 fa fd ["script"] (M5 K):=by
 have e:=rk.symm.trans (Be X G YW);cases e;have DZ:BK K A8:=⟨oo,iL,jk,nD⟩;have Aq:BK K A5:=⟨jt,o8,oy,nr⟩;have oX:Mk K A8 Oz:=⟨pR,tV,sN,rL⟩;have pe:Mk K A5 Pa:=⟨qQ,tO,vd,rm⟩;have ir:Meth K A5 "goes_on" O1:=⟨jV,rq,e9.kp⟩;have lZ:Meth K A5 "tell" QV:=⟨tE,jW,Xn.kp⟩;have md:Meth K A5 "put_in" Q9:=⟨uE,uF,Zb.kp⟩;have x5:Meth K A5 "place_by" Pt:=⟨kb,vO,Yb.kp⟩;have my:Meth K A5 "take_out" Nh:=⟨ue,qp,dA.kp⟩;have nH:Meth K A5 "do_errand" Pe:=⟨qX,pD,Zt.kp⟩;have tG:Meth K A8 "puts" Nr:=⟨oY,uX,ZS.kp⟩;have lO:Meth K A8 "goes" O9:=⟨kL,se,Xl.kp⟩;have r6:Meth K A8 "words" Pm:=⟨nG,vT,d9.kp⟩;have Ko:=HR X G wx;have QC:=HR X G t8;have L6:=HR X G wZ;have Ur:=HR X G vR;have Fc:=HR X G wj;have Gx:=HR X G sP;have BI:=HR X G jf;have Dj:=HR X G mf;have UC:=HR X G vw;have Et:=HR X G oe;have G6:=HR X G uG;have RJ:=Be X G mU;have Ug:=Be X G rH;have Vl:=Be X G kq;have Tp:=Be X G x4;have U0:=Be X G nv;have Sa:=Be X G gj;have R8:∀H,Ao K H JA [.str "none",.str "ahead",.str "all"]:=λH=>.inr ⟨_,_,_,mV,rfl,rfl,(by show 3<=sizeLine;decide +kernel),(.cons ⟨_,rfl⟩ (.cons ⟨_,rfl⟩ (.cons ⟨_,rfl⟩ .nil)))⟩;have Vm:=Be X G kW;have Vb:∀H,Ao K H Ie [.str "next",.str "last",.str "back",.str "first"]:=λH=>.inr ⟨_,_,_,vX,rfl,rfl,(by show 4<=sizeLine;decide +kernel),(.cons ⟨_,rfl⟩ (.cons ⟨_,rfl⟩ (.cons ⟨_,rfl⟩ (.cons ⟨_,rfl⟩ .nil))))⟩
 have Rv:=Be X G mI;have Ui:=Be X G wq;obtain⟨_,_,kV,dc,pm,an,cd,ct,_,rfl,_,_⟩:=id dv.ex;refine⟨PySem.W.fnOf "law" "law" (Mo ID) (Jc ID) (Af ID) .none kV dc pm an cd ct,λs v=>.of_eq rfl,λZB _ _=>?_⟩;have Bz:=uP (P:=l.prog) (w:=w) (ZB:=ZB) F1 (Be X G a1);have MN:=pH (P:=l.prog) (w:=w) (ZB:=ZB) F2 (Be X G a2);have Ub:=nj MN Bz BI F3 (Be X G a3);have V6:=rR Ub Et F4 (Be X G a4);have UK:=gd Bz Et V6 UC G6 F5 (Be X G a5);have Q8:=jl (P:=l.prog) (w:=w) (ZB:=ZB) BI F6 (Be X G a6);have Uw:=sI Bz BI Et F7 (Be X G a7);have R7:=rS Bz F8 (Be X G a8);have OL:=kH Bz Uw UK Q8 R7 Fc F9 (Be X G a9);have Ft:=uW (P:=l.prog) (w:=w) (ZB:=ZB) gU (Be X G uC);have Ra:=rE Ft Vm Vb jz (Be X G tM);have Rh:=i6 (P:=l.prog) (w:=w) (ZB:=ZB) BI Ko RJ Tp jO (Be X G sk);have TQ:=kB BI Ra Rh Ur Vl U0 ie (Be X G vW);have T4:=iM (P:=l.prog) (w:=w) (mg:=mg) (ZB:=ZB) (A8:=A8) G6 TQ DZ J3 GH lF oX;have Rz:=hC (A8:=A8) T4 Dj Rv xE (Be X G nh);have SI:=gm (P:=l.prog) (w:=w) (ZB:=ZB) BI Fc jX (Be X G nL);have Rm:=xB BI Et Fc SI QC xZ (Be X G jb);have Sw:=j6 (P:=l.prog) (w:=w) (mg:=mg) (ZB:=ZB) (A5:=A5) Dj Aq E8 Cj Gu LC E1 o7 pe;have Q3:=ig (P:=l.prog) (w:=w) (mg:=mg) (ZB:=ZB) (A5:=A5) Aq E8 e9 ir;have Rc:=gO (P:=l.prog) (w:=w) (mg:=mg) (ZB:=ZB) (A5:=A5) Aq E8 Cj Gu E1 Xn lZ;have Um:=oC (P:=l.prog) (w:=w) (ZB:=ZB) qR (Be X G qo);have Va:=hX (P:=l.prog) (w:=w) (ZB:=ZB) kS (Be X G tJ);have Tq:=mW (P:=l.prog) (w:=w) (mg:=mg) (ZB:=ZB) (A5:=A5) Aq E8 Cj LC E1 Um Va Zb md;have Vn:=vo (P:=l.prog) (w:=w) (mg:=mg) (ZB:=ZB) (A5:=A5) BI Aq Cj E1 Yb x5;have Sf:=lz (P:=l.prog) (w:=w) (ZB:=ZB) vP (Be X G jT);have Uo:=fv (P:=l.prog) (w:=w) (mg:=mg) (ZB:=ZB) (A5:=A5) Aq E8 Cj E1 Sf dA my;have Ul:=mi (P:=l.prog) (w:=w) (mg:=mg) (ZB:=ZB) (A5:=A5) Aq Cj Vn Tq Uo Zt nH;have WC:=vx (P:=l.prog) (w:=w) (mg:=mg) (ZB:=ZB) (A8:=A8) Ft DZ GH Dj ZS tG;have R5:=nQ (P:=l.prog) (w:=w) (mg:=mg) (ZB:=ZB) (A8:=A8) Ft DZ J3 Xl lO;have SE:=me (P:=l.prog) (w:=w) (ZB:=ZB) Sa R8 l9 (Be X G ot);have Ut:=iC (P:=l.prog) (w:=w) (mg:=mg) (ZB:=ZB) (A8:=A8) DZ GH Dj d9 r6;have Sj:=nU (A8:=A8) BI Ft Ut Ug gL (Be X G qt);have VF:=rT (A8:=A8) (A5:=A5) BI Aq Gu E1 R5 WC Sw Ul Q3 Rc Sj SE Ui jw (Be X G fq);have Uc:=nE (P:=l.prog) (w:=w) (ZB:=ZB) Fc L6 Gx uK (Be X G gk);have O7:=qD (A8:=A8) BI G6 Dj L6 Gx Uc VF vt (Be X G rf);exact pk (A8:=A8) G6 Ko Dj Rz OL O7 Rm dv (Be X G YW)
def walk{q:Program}{loose:List Str}{XP:(yq)->Heap->Prop}{YP:World->Heap->Prop}{d:DefRec}{K:Params->yo}(hn:l.most=some 63)(N5:d.params.defaults=[])
  (hY:∀(w:World)(h:Heap),YP w h->(K w.params).In h)
  (F:∀(w:World)(mg:yq)(fa:Addr)(h:Heap),(K w.params).In h->h.Ns mainGlobals mg->mg d.name=some (.ref fa)->
   ∃fd:FuncData,(∀(s:Shared)(u:Value),BindsTo s fd ⟨[u],[]⟩ [("script", u)])/\∀ZB:Heap,(K w.params).In ZB->ZB.Ns mainGlobals mg->DN l.prog w (K w.params) mg ZB FZ 8 fa fd ["script"] (M5 (K w.params))) :
  PySem.W.WalkO q loose XP YP l.row.toRowW d [] (λf vs=>PySem.call f vs):=
 L2.qN (n:=63) (k:=8) (x:="script") (CX:=λ_=>FZ) (sp:=λw=>M5 (K w.params)) hn (by decide) N5 ⟨rfl,by decide,by decide⟩ hY F (λ_ _ a ns hl _ hS=>⟨a,ns,rfl,hS,hl,λ_=>rfl⟩) λ_ _ _ _ _ z=>z
end Pf
open PySem.W
local macro_rules | `(tactic| walk_at "kF")=>`(tactic| (refine' L2.uV ?_ ?_ ?_;all_goals try k_is;all_goals k_is))
set_option maxRecDepth 100000 in
set_option maxHeartbeats 0 in
theorem PySem.Challenge.cw_stirround_k73_loops_that_run_holds : PySem.Challenge.rw_stirround_k73_loops_that_run.Holds := by
 w_on;o_law;k_head;(case hw=>w_witness2)
 k_fill
 refine Pf.walk (l:=PySem.Challenge.rw_stirround_k73_loops_that_run) rfl rfl (λw h Y=>PySem.W.kIn_of Y) ?F
 case F=>
  intro w mg fa h KX G Lu;refine' Pf.all_mk KX G Lu ?_ ?_ ?_ ?_ ?_ ?_ ?_ ?_ ?_ ?_ ?_ ?_ ?_ ?_ ?_ ?_ ?_ ?_ ?_ ?_ ?_ ?_ ?_ ?_ ?_ ?_ ?_ ?_ ?_ ?_ ?_ ?_ ?_ ?_ ?_ ?_ ?_ ?_ ?_ ?_ ?_ ?_ ?_ ?_ ?_ ?_ ?_ ?_ ?_ ?_ ?_ ?_ ?_ ?_ ?_ ?_ ?_ ?_ ?_ ?_ ?_ ?_ ?_ ?_ ?_ ?_ ?_ ?_ ?_ ?_ ?_ ?_ ?_ ?_ ?_ ?_ ?_ ?_ ?_ ?_ ?_ ?_ ?_ ?_ ?_ ?_ ?_ ?_ ?_ ?_ ?_ ?_ ?_ ?_ ?_ ?_ ?_ ?_ ?_ ?_ ?_ ?_ ?_ ?_ ?_ ?_ ?_ ?_ ?_ ?_ ?_ ?_ ?_ ?_ ?_ ?_ ?_ ?_ ?_ ?_ ?_ ?_ ?_ ?_
  any_goals first|k_is|(show _=_;k_is)|kernel_rfl|walk_at "kF"
#print axioms PySem.Challenge.cw_stirround_k73_loops_that_run_holds
