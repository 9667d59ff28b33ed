import PyProof.Rows.All
import Wide.All
import OpenK.AllK
import Wide.FinOn
import Lean
import PyProof.EqAt
import PyProof.EqKinds
import PyProof.TupleCall
import KE.KRevIter
import PyProof.CallType
import PyProof.EnumMake
import PyProof.EnumFor
import PyProof.Rows.SortStr
import PyProof.Rows.TupAdd
import KE.KLcPair
import PyProof.Draws
import PyProof.TupleIter
import PyProof.IsRules
import PyProof.ListRange
import PyProof.NeKinds
import KE.KTryMore
import OpenK.KOwn
import PyProof.ExcInit
import PyProof.FString
import PyProof.ReprStr
import PyProof.StrLawsRepr
import PyProof.CallStr
import OpenK.KCls
import PyProof.ExcArgsOwn
import PyProof.Rows.StrJoin2
import PyProof.ZipIter
import PyProof.Rows.ZipGen
import PyProof.FactsAll.set_2
import PyProof.MeetsSeq2
import PyProof.Rows.Range3
import PyProof.Rows.ChunkLeaf
import PyProof.DictWalks
import PyProof.ListMulRoad
import PyProof.ListCopy
import PySem.Challenge.RW_stirround_k23_tallies
def AV:=@List.length_map
def An:=@Nat.le_refl
def B1:=@List.getElem?_eq_getElem
def B5:=@PySem.W.mg_of
def BA:=@PySem.Heap.lt_size
def BF:=@List.getElem?_map
def BH:=@List.not_mem_nil
def BS:=@Ne.symm
def BU:=@Option.some.inj
def Bc:=@List.length_cons
def Bl:=@PySem.Heap.get?_push_of_some
def Bm:=@List.length_append
def Bq:=@List.map_cons
def Br:=@List.size_toArray
def Bx:=@Nat.ne_of_lt
def CD:=@List.append_assoc
def CF:=@List.length_take
def CG:=@List.mem_of_getElem?
def CI:=@PySem.Heap.get?_push_size
def CJ:=@List.getElem?_set_ne
def Ca:=@List.getElem?_set_self
def Cb:=@List.nodup_append
def Cc:=@Nat.zero_le
def Cj:=@Array.length_toList
def Cs:=@Nat.le_trans
def DF:=@Bool.false_ne_true
def E8:=@List.length_drop
def E9:=@List.map_append
def EA:=@List.mem_cons_self
def EB:=@Nat.lt_of_lt_of_le
def EO:=@Int.eq_ofNat_of_zero_le
def El:=@Bool.and_eq_true
def Em:=@PySem.Heap.get?_update_other
def En:=@List.getElem?_append_left
def Fx:=@List.append_nil
def Fy:=@List.mem_cons_of_mem
def GU:=@List.getElem?_append_right
def GV:=@PySem.W.mg_none_of
def HB:=@PySem.Heap.get?_update_self
def HC:=@List.all_eq_true
def HD:=@List.map_map
def HE:=@List.mem_cons
def Hk:=@List.mem_append_right
def Hl:=@PySem.W.kia_one
def Ic:=@Decidable.byContradiction
def Ie:=@List.mem_append
def Ig:=@List.zip_cons_cons
def Ih:=@PySem.PassesOwn.never
def JY:=@PySem.Heap.size_push
def JZ:=@List.getElem?_eq_none
def Ja:=@List.lookup_cons
def Jb:=@Nat.le_succ
def Kz:=@Bool.true_and
def L0:=@Int.emod_lt_of_pos
def L1:=@Int.emod_nonneg
def L3:=@List.take_append_drop
def L4:=@Nat.lt_irrefl
def L5:=@Nat.lt_of_le_of_lt
def L6:=@Nat.ne_of_gt
def L7:=@PySem.mem_of_lookup
def MN:=@List.any_cons
def MO:=@List.length_set
def MP:=@List.take_length
def MQ:=@PySem.F.plainAttrs_list
def OQ:=@Bool.eq_iff_iff
def OR:=@List.eraseIdx_cons_succ
def OS:=@List.find?_cons
def OT:=@List.getElem_mem
def OU:=@List.length_reverse
def OW:=@List.length_singleton
def OX:=@List.length_zip
def OY:=@List.map_drop
def OZ:=@List.map_take
def Oa:=@List.nodup_nil
def Ob:=@Nat.le_of_lt
def Oc:=@Nat.lt_succ_of_lt
def Od:=@PySem.Obj.data_mapFields
def Oe:=@PyProof.Rows.callWith_type1
def Ri:=@PySem.Heap.size_after_update
def Rj:=@List.ext_getElem?
def Rk:=@List.getD_eq_getElem?_getD
def Rm:=@List.getElem?_range
def Rn:=@List.idxOf_eq_length
def Ro:=@List.length_filter_le
def Rp:=@List.length_nil
def Rq:=@List.map_nil
def Rr:=@List.mem_append_left
def Rt:=@List.set_cons_succ
def Ru:=@List.set_cons_zero
def Rv:=@List.set_set
def Rw:=@List.take_of_length_le
def Rx:=@Nat.lt_trichotomy
def Ry:=@Nat.min_eq_left
def Rz:=@Nat.succ.inj
def S6:=@Option.map_some
def S7:=@Option.some.injEq
def S8:=@PySem.F.slot_list_index
def YF:=@PySem.Heap.SameBut.update
def YG:=@Int.toNat_natCast
def YH:=@List.all_cons
def YI:=@List.cons_append
def YJ:=@List.cons_lt_cons_iff
def YK:=@List.eraseIdx_sublist
def YL:=@List.filterMap_cons
def YM:=@List.filter_append
def YN:=@List.filter_cons
def YO:=@List.flatten_cons
def YQ:=@List.getElem_idxOf
def YR:=@List.nil_append
def YS:=@List.of_mem_zip
def YT:=@List.replicate_succ
def YU:=@List.reverse_cons
def YV:=@List.take_succ_eq_append_getElem
def YW:=@Nat.lt_succ_self
def YX:=@Nat.sub_self
def YY:=@PySem.Obj.isFreed_of_fields
def YZ:=@Option.isSome_map
def Ya:=@PyProof.Rows.slot_tuple_getitem
def Yb:=@PySem.F.type_list_index
def iK:=@Array.getElem?_toList
def iL:=@PySem.Calls.spliced_cons
def iM:=@PySem.Calls.spliced_nil
def iN:=@List.all_map
def iO:=@List.drop_eq_getElem_cons
def iP:=@List.drop_zero
def iQ:=@List.filter_map
def iR:=@List.foldl_cons
def iS:=@List.getElem?_modify_eq
def iT:=@List.getElem?_modify_ne
def iU:=@List.getElem_inj
def iV:=@List.idxOf_cons
def iW:=@List.map_id'
def iX:=@List.mem_filter
def iY:=@List.mem_of_mem_drop
def iZ:=@List.mem_of_mem_take
def ia:=@List.take_zero
def ib:=@Nat.le_of_eq
def ie:=@Nat.le_total
def ig:=@Nat.lt_trans
def ij:=@Nat.min_eq_right
def ik:=@Nat.sub_zero
def il:=@PySem.Paired.length
def iq:=@PySem.F.args_tuple_add_2
def ir:=@PySem.F.entry_tuple_add
def iu:=@PySem.F.slot_tuple_add
def iw:=@PySem.W.callWith_K
def iy:=@PySem.W.plainGet_of
def iz:=@PySem.SeqAt.EqAt.same
def ZBl:=@Array.toList_push
def ZBm:=@PySem.Calls.Name_function_global
def ZBn:=@PySem.Calls.callWith_builtin
def ZBo:=@Int.lt_of_le_of_lt
def ZBp:=@List.Pairwise.imp
def ZBq:=@List.Pairwise.map
def ZBr:=@List.Pairwise.sublist
def ZBs:=@List.Sublist.refl
def ZBt:=@List.any_eq_false
def ZBu:=@List.exists_cons_of_ne_nil
def ZBv:=@List.filter_congr
def ZBw:=@List.filter_eq_self
def ZBx:=@List.getElem?_eraseIdx_of_ge
def ZBy:=@List.getElem?_eraseIdx_of_lt
def ZBz:=@List.getElem?_replicate
def ZC0:=@List.getElem_drop
def ZC1:=@List.getElem_take
def ZC2:=@List.length_eraseIdx_of_lt
def ZC3:=@List.length_erase_of_mem
def ZC4:=@List.length_pos_of_mem
def ZC5:=@List.map_reverse
def ZC6:=@List.mem_erase_of_ne
def ZC7:=@List.pairwise_lt_range
def ZC8:=@List.take_sublist
def ZC9:=@Nat.le_add_right
def ZCA:=@Nat.le_of_not_lt
def ZCB:=@Nat.le_succ_of_le
def ZCC:=@Nat.min_le_right
def ZCD:=@Option.getD_none
def ZCE:=@PySem.F.plain_extend_loop
def ZCF:=@PySem.F.slot_dict_pop
def ZCG:=@PySem.F.slot_list_append
def ZCH:=@PySem.F.slot_list_insert
def ZCI:=@PySem.F.slot_tuple_index
def ZCJ:=@PySem.F.type_list_append
def ZCK:=@PySem.W.cellsFrom_some
def ZCL:=@PySem.W.kitx_dict
def ZCM:=@PySem.W.kitx_list
open PySem PySem.Spec PyProof.Rows
abbrev ZCy:=PySem.W.Frag
abbrev ZCz:=(List (Addr×Obj))
abbrev ZD0:=(Str->Option Value)
namespace PySem.W.Fast
noncomputable def tw3617676292806163568:=0
noncomputable def tw10155150720799110337:=0
noncomputable def tw16585337378173816705:=0
noncomputable def tw3899277336344849127:=0
noncomputable def tw13389415438159893913:=0
noncomputable def tw2847789418263573564:=0
noncomputable def tw647145469729213259:=0
noncomputable def tw17306009581491613243:=0
noncomputable def tw1194835306683041277:=0
noncomputable def tw578749093995565604:=0
noncomputable def tw4114352037792824080:=0
noncomputable def tw5352098306223742671:=0
noncomputable def tw14164955511931768230:=0
noncomputable def tw16747472705879473534:=0
noncomputable def tw17126193049948744526:=0
noncomputable def tw12570367502197912984:=0
noncomputable def tw8558053022828123777:=0
noncomputable def tw8426925571218197289:=0
noncomputable def tw2068756558236309217:=0
noncomputable def tw18151604282320657258:=0
noncomputable def tw14925343378233586110:=0
noncomputable def tw13495533857029676274:=0
noncomputable def tw4843601664364674939:=0
noncomputable def tw12771792104669162239:=0
noncomputable def tw8963607429155380665:=0
noncomputable def tw3116811659509978994:=0
noncomputable def tw8987709117980580427:=0
noncomputable def tw12047464115421440596:=0
noncomputable def tw10776465861665081153:=0
noncomputable def tw14939898448298253235:=0
noncomputable def tw6102211922939712290:=0
noncomputable def tw6894217790792012003:=0
noncomputable def tw6669700178271138852:=0
noncomputable def tw6508150330782377352:=0
noncomputable def tw9940945693421713319:=0
noncomputable def tw12956794781874000868:=0
noncomputable def tw4684410593506100961:=0
noncomputable def tw9049132426882611757:=0
noncomputable def tw1836961963468344313:=0
noncomputable def tw4050718734368360033:=0
noncomputable def tw8428629991995473214:=0
noncomputable def tw7792298207479373698:=0
noncomputable def tw16751037009504409357:=0
noncomputable def tw2924685359608371619:=0
noncomputable def tw6199747216612579309:=0
noncomputable def tw15386759034399353873:=0
noncomputable def tw13173841544908126050:=0
noncomputable def tw4571501399815391967:=0
noncomputable def tw14698406854504534619:=0
noncomputable def tw11018844554976775175:=0
noncomputable def tw16974992714544436140:=0
noncomputable def tw7378079856270034648:=0
noncomputable def tw3246213498630887801:=0
noncomputable def tw10334987101764747941:=0
noncomputable def tw12143210549372141456:=0
noncomputable def tw15242171487241699527:=0
noncomputable def tw9840051349343929247:=0
noncomputable def tw1737184107533879611:=0
noncomputable def tw8636999789196881815:=0
noncomputable def tw9887267669938231345:=0
noncomputable def tw12006436051124867531:=0
noncomputable def tw1696771932720593662:=0
noncomputable def tw12456618308579421183:=0
noncomputable def tw6351558688876130831:=0
noncomputable def tw15226875128203771032:=0
noncomputable def tw2746763477623179689:=0
noncomputable def tw511845374752894005:=0
noncomputable def tw3422434370430071622:=0
noncomputable def tw14113373298287162753:=0
noncomputable def tw12284590267978408488:=0
noncomputable def tw5260683392213428788:=0
noncomputable def tw12611335205765350874:=0
noncomputable def tw17706045680149202752:=0
noncomputable def tw14808235047196672326:=0
noncomputable def tw5254850798115529008:=0
noncomputable def tw4357882852364642094:=0
noncomputable def tw17482854245958226665:=0
noncomputable def tw10017155143036867250:=0
noncomputable def tw5990717550307225702:=0
noncomputable def tw4471279083365714185:=0
noncomputable def tw9991772492162821133:=0
noncomputable def tw16690687873013454683:=0
noncomputable def tw10340214628495956632:=0
noncomputable def tw6103105258804519433:=0
noncomputable def tw7963844539289607048:=0
noncomputable def tw10608206194266917324:=0
noncomputable def tw4376842628101039363:=0
noncomputable def tw7794793862522365500:=0
noncomputable def tw3940565985475462515:=0
noncomputable def tw9107175923542127112:=0
noncomputable def tw1466553634961316108:=0
noncomputable def tw11686829527397316407:=0
noncomputable def tw14491755045616111188:=0
noncomputable def tw1042827247204745441:=0
noncomputable def tw10793551046481420557:=0
noncomputable def tw6507737657366084977:=0
noncomputable def tw17475521728152696237:=0
noncomputable def tw1940690046850376996:=0
noncomputable def tw8774261084917478063:=0
noncomputable def tw17315507328971147438:=0
noncomputable def tw16526929791402519762:=0
noncomputable def tw17762774759669701646:=0
noncomputable def tw10988253349403614435:=0
noncomputable def tw3349116092629654303:=0
noncomputable def tw814821166784909095:=0
noncomputable def tw17309707794732340978:=0
noncomputable def tw10625672650447165890:=0
noncomputable def tw9292146144695288045:=0
noncomputable def tw14561246902069045758:=0
noncomputable def tw8120452308009035350:=0
noncomputable def tw1335597649665597772:=0
noncomputable def tw11049622878351237044:=0
noncomputable def tw6000412654176278522:=0
noncomputable def tw17506710863065304733:=0
noncomputable def tw14543728231972684115:=0
noncomputable def tw13590991581652389810:=0
noncomputable def tw13584423457522851061:=0
noncomputable def tw940427336835634011:=0
noncomputable def tw16390263675999947391:=0
noncomputable def tw16340559578283548245:=0
noncomputable def tw5789150602605126456:=0
noncomputable def tw2318178363098284409:=0
noncomputable def tw4961442779014139564:=0
noncomputable def tw5848292280244212837:=0
noncomputable def tw4311808189060454108:=0
noncomputable def tw661688186243996069:=0
noncomputable def tw7327981469902626005:=0
noncomputable def tw9877849661057406713:=0
noncomputable def tw10486822550693091868:=0
noncomputable def tw730353296499860020:=0
noncomputable def tw4485183518281689093:=0
noncomputable def tw14094653487589216630:=0
noncomputable def tw10683190405844916960:=0
noncomputable def tw17376917962111529253:=0
noncomputable def tw5725083096487105226:=0
noncomputable def tw9648525901349093307:=0
noncomputable def tw3205291004254544477:=0
noncomputable def tw4599222392283741694:=0
noncomputable def tw6388534647079826986:=0
noncomputable def tw12887994724656846977:=0
noncomputable def tw1385081301255491385:=0
noncomputable def tw4874437415788693336:=0
noncomputable def tw2866962241005171236:=0
noncomputable def tw5547139300515760829:=0
noncomputable def tw1845293456500934916:=0
noncomputable def tw4124419069905257745:=0
noncomputable def tw6651968137838128249:=0
noncomputable def tw3861870133078002937:=0
noncomputable def tw6557779086142037630:=0
noncomputable def tw10871505906856770680:=0
noncomputable def tw10114351089218975950:=0
noncomputable def tw2031289216664408097:=0
noncomputable def tw15023343882362286215:=0
noncomputable def tw12146598732453142228:=0
noncomputable def tw12232235311684609345:=0
noncomputable def tw1273973807114906748:=0
noncomputable def tw1303002065579803809:=0
noncomputable def tw8601522160175483808:=0
noncomputable def tw14922967737926138648:=0
noncomputable def tw3663683809084599010:=0
noncomputable def tw18099725595515900446:=0
noncomputable def tw16508409090051489206:=0
noncomputable def tw16989917876545208625:=0
noncomputable def tw17168025374851531670:=0
noncomputable def tw17885333568071335952:=0
noncomputable def tw14409711673861233127:=0
noncomputable def tw4425328799483658660:=0
noncomputable def tw16700989941500042303:=0
noncomputable def tw11528188294996558589:=0
noncomputable def tw15035503928686269998:=0
noncomputable def tw15875982141720202378:=0
end PySem.W.Fast
set_option bootstrap.genMatcherCode false
set_option Elab.async false
set_option linter.all false
set_option maxRecDepth 100000
namespace L2
abbrev Key:=Sum Int Str
noncomputable def JI:Key->Value->Bool
 | .inl k,v=>Value.isInt k v
 | .inr x,v=>Value.isStrOf x v
noncomputable def xS (w:World):Key->Int
 | .inl k=>hashInt k
 | .inr x=>hashStr w x
theorem HA:∀ {k:Key}{v:Value},JI k v=true->(∃ i t,k=Sum.inl i/\v=Value.int i t)∨(∃ x t,k=Sum.inr x/\v=Value.str x t)
 | .inl i,v,h=>by
  obtain ⟨t,e⟩:=Value.isInt_shape (k:=i) (v:=v) h
  exact .inl ⟨i,t,rfl,e⟩
 | .inr x,v,h=>by
  obtain ⟨t,e⟩:=Value.isStrOf_shape (x:=x) (v:=v) h
  exact .inr ⟨x,t,rfl,e⟩
theorem nQ (i:Int) (t:Tok):JI (.inl i) (.int i t)=true:=by simp [JI,Value.isInt]
theorem sD (x:Str) (t:Tok):JI (.inr x) (.str x t)=true:=by simp [JI,Value.isStrOf]
theorem lJ (a b:Int):decide ((Sum.inl a:Key)=Sum.inl b)=(a == b):=by
 by_cases e:a=b
 ·subst e;simp
 ·have h:¬ (Sum.inl a:Key)=Sum.inl b:=fun q=>e (Sum.inl.inj q)
  rw [decide_eq_false h]
  exact (beq_eq_false_iff_ne.mpr e).symm
theorem uo (a b:Str):decide ((Sum.inr a:Key)=Sum.inr b)=decide (a=b):=by
 by_cases e:a=b
 ·subst e;simp
 ·have h:¬ (Sum.inr a:Key)=Sum.inr b:=fun q=>e (Sum.inr.inj q)
  rw [decide_eq_false h,decide_eq_false e]
theorem ly (a:Int) (b:Str):decide ((Sum.inl a:Key)=Sum.inr b)=false:=decide_eq_false (fun q=>nomatch q)
theorem zQ (a:Str) (b:Int):decide ((Sum.inr a:Key)=Sum.inl b)=false:=decide_eq_false (fun q=>nomatch q)
noncomputable def C7 (prog:Program) (w:World):PySem.KeyKind prog w Key where
 is:=JI
 hash:=xS w
 inj:=fun v a b ha hb=>by
  rcases HA ha with ⟨i,t,rfl,rfl⟩ | ⟨x,t,rfl,rfl⟩
  ·rcases HA hb with ⟨j,u,rfl,e⟩ | ⟨y,u,rfl,e⟩
   ·injection e with e1 _;rw [e1]
   ·exact nomatch e
  ·rcases HA hb with ⟨j,u,rfl,e⟩ | ⟨y,u,rfl,e⟩
   ·exact nomatch e
   ·injection e with e1 _;rw [e1]
 byValue:=fun k v h=>by
  rcases HA h with ⟨i,t,rfl,rfl⟩ | ⟨x,t,rfl,rfl⟩ <;> rfl
 pyHash:=fun hv h=>by
  rcases HA hv with ⟨i,t,rfl,rfl⟩ | ⟨x,t,rfl,rfl⟩
  ·exact wpAny_pyHash_int h
  ·exact wpAny_pyHash_str h
 eqBool:=fun hu hv h=>by
  rcases HA hu with ⟨i,t,rfl,rfl⟩ | ⟨x,t,rfl,rfl⟩
  ·rcases HA hv with ⟨j,u,rfl,rfl⟩ | ⟨y,u,rfl,rfl⟩
   ·rw [lJ] at h;exact wpAny_eqBool_int h
   ·rw [ly] at h;exact SeqAt.EqAt.int_str i t y u _ _ _ _ h
  ·rcases HA hv with ⟨j,u,rfl,rfl⟩ | ⟨y,u,rfl,rfl⟩
   ·rw [zQ] at h;exact SeqAt.EqAt.str_int x t j u _ _ _ _ h
   ·rw [uo] at h;exact wpAny_eqBool_str h
 «strs»:=fun k x t v h=>by
  rcases HA h with ⟨i,u,rfl,e⟩ | ⟨y,u,rfl,e⟩
  ·exact nomatch e
  ·injection e with e1 _
   subst e1
   cases v <;> rfl
theorem kl (prog:Program) (w:World) (i:Int) (t:Tok):(C7 prog w).is (.inl i) (.int i t)=true:=nQ i t
theorem mO (prog:Program) (w:World) (x:Str) (t:Tok):(C7 prog w).is (.inr x) (.str x t)=true:=sD x t
inductive V where
 | AF | bl (b:Bool) | int (i:Int) | str (x:Str) | G1 (b:Array UInt8) | JV (b:UInt64) | ref (a:Addr) | ty (n:String)
 deriving DecidableEq
def RelV:V->Value->Prop
 | .AF,u=>u=Value.none
 | .bl b,u=>u=Value.bool b
 | .int i,u=>∃ t,u=Value.int i t
 | .str x,u=>∃ t,u=Value.str x t
 | .G1 b,u=>∃ t,u=Value.bytes b t
 | .JV b,u=>∃ t,u=Value.float b t
 | .ref a,u=>u=Value.ref a
 | .ty n,u=>u=Value.type n
abbrev Vals:List V->List Value->Prop:=Paired RelV
theorem Vals.length {xs:List V}{us:List Value}(r:Vals xs us):xs.length=us.length:=il r
theorem Vals.get:∀ {xs:List V}{us:List Value}{i:Nat}{x:V},Vals xs us->xs[i]?=some x->∃ u,us[i]?=some u/\RelV x u
 | _,_,_,_,.nil,e=>by simp at e
 | _,_,0,_,.cons r _,e=>by simp at e;subst e;exact ⟨_,rfl,r⟩
 | _,_,i+1,x,.cons _ t,e=>by
  obtain ⟨u,h1,h2⟩:=Vals.get (i:=i) (x:=x) t (by simpa using e)
  exact ⟨u,by simpa using h1,h2⟩
theorem Vals.set {x:V}{u:Value}(r:RelV x u):∀ {xs:List V}{us:List Value}(i:Nat),Vals xs us->Vals (xs.set i x) (us.set i u)
 | _,_,_,.nil=>.nil
 | _,_,0,.cons _ t=>.cons r t
 | _,_,i+1,.cons q t=>.cons q (Vals.set r i t)
theorem Vals.append:∀ {xs ys:List V}{us ws:List Value},Vals xs us->Vals ys ws->Vals (xs++ys) (us++ws)
 | _,_,_,_,.nil,s=>s
 | _,_,_,_,.cons r t,s=>.cons r (Vals.append t s)
theorem Vals.take:∀ {xs:List V}{us:List Value}(n:Nat),Vals xs us->Vals (xs.take n) (us.take n)
 | _,_,0,_=>.nil
 | _,_,_+1,.nil=>.nil
 | _,_,n+1,.cons r t=>.cons r (Vals.take n t)
theorem Vals.drop:∀ {xs:List V}{us:List Value}(n:Nat),Vals xs us->Vals (xs.drop n) (us.drop n)
 | _,_,0,r=>r
 | _,_,_+1,.nil=>.nil
 | _,_,n+1,.cons _ t=>Vals.drop n t
def Dw:Option V->Option Value->Prop
 | some v,some u=>RelV v u
 | none,none=>True
 | _,_=>False
def KV {κ:Type}:List (κ×V)->List (κ×Value)->Prop:=Paired fun (p:κ×V) (q:κ×Value)=>p.1=q.1/\RelV p.2 q.2
noncomputable def kV:Key->V
 | .inl i=>.int i
 | .inr x=>.str x
inductive HO where
 /-- a list -/
 | lst (xs:List V)
 /-- a tuple (never changes) -/
 | tup (xs:List V)
 /-- a dict je keys are ints and texts;one je keys are tuples of ints and texts (Gw empty one is both) -/
 | dK (A5:List (Key×V)) | dT (A5:List (List Key×V))
 /-- a set of ints: A6 members,A6 size -/
 | set (S:Int->Bool) (n:Nat)
 /-- an instance of Gw class at C,A6 dict at dx,A6 attributes -/
 | ins (C dx:Addr) (fs:List (Str×V))
 /-- Gw dict of Gw instance at x -/
 | own (x:Addr)
 /-- Gw dict of an exception -/
 | xd (fs:List (Str×V))
 /-- a bound method,f of x -/
 | met (f x:Addr)
 /-- a range object lo,lo+1,.. below hi -/
 | X4 (lo hi:Int)
 /-- a za ZCg is known to Gw object (Gw bX;a dict while a loop walks it): read,never written while it is so -/
 | Eu (o:Obj) (u:HO)
 /-- a code ZCQ table -/
 | Jh (ps:Array Value)
 /-- any other za,by rA is true of A6 one object (a def of ZCx own: PH a S n:=HO.ext fun h=>..) -/
 | ext (φ:Heap->Prop)
abbrev Hp:=Addr->Option HO
noncomputable def upd (H:Hp) (a:Addr) (o:HO):Hp:=fun b=>if b=a then some o else H b
theorem AI {H:Hp}{a:Addr}{o:HO}:upd H a o a=some o:=by unfold upd;rw [if_pos rfl]
theorem Aj {H:Hp}{a b:Addr}{o:HO}(h:b≠a):upd H a o b=H b:=by unfold upd;rw [if_neg h]
theorem ZA2 {H:Hp}{a b:Addr}{o u:HO}(h:H a=some o) (h':H b=some u) (d:o≠u):a≠b:=by
 intro e;subst e;rw [h] at h';exact d (BU h')
theorem EN {H:Hp}{a b:Addr}{o:HO}(h:H a=some o) (h':H b=none):a≠b:=by
 intro e;subst e;rw [h] at h';cases h'
section
variable (P:Program) (w:World)
def C5 (H:Hp) (h:Heap) (a:Addr):HO->Prop
 | .lst xs=>xs.length<=sizeLine/\∃ (A6:List Value) (n:Nat),Vals xs A6/\h.get? a=some { cls:=.type "list", data:=.seq A6.toArray n }
 | .tup xs=>xs.length<=sizeLine/\∃ A6:List Value,Vals xs A6/\(IsTup h a A6.toArray/\∀ ob,h.get? a=some ob->ob.dict=none)
 | .dK A5=>A5.length<=sizeLine/\(a == sysModules)=false/\∃ vs,KV A5 vs/\h.DictOf (C7 P w) a vs
 | .dT A5=>A5.length<=sizeLine/\(a == sysModules)=false/\∃ xs:List (List Key×Addr×Value),
   Paired (fun (p:List Key×V) (q:List Key×Addr×Value)=>p.1=q.1/\H q.2.1=some (.tup (p.1.map kV))/\RelV p.2 q.2.2) A5 xs/\
   ∃ o es ep,h.get? a=some o/\o.ExactDict/\o.data=.dict es ep/\es.toList=xs.map (entryOfKey (tupleKind (C7 P w)))/\(xs.map (·.1)).Nodup
 | .set S n=>h.SetOf (intKind P w) a S n
 | .ins C dx fs=>H dx=some (.own a)/\fs.length<=1000/\dx≠a/\h.get? a=some (PySem.W.instObj C dx)/\
   ∃ mA,h.Ns1 dx mA/\(∀ f,Dw (fs.lookup f) (mA f))/\PySem.Within mA (fs.map (·.1))
 | .own _=>∃ o,h.get? a=some o
 | .xd fs=>∃ mA,h.Ns1 a mA/\∀ f,Dw (fs.lookup f) (mA f)
 | .X4 lo hi=>∃ t u v,h.get? a=some { cls:=.type "range", data:=.fields #[.int lo t,.int hi u,.int 1 v] }
 | .Eu o u=>h.get? a=some o/\C5 H h a u
 | .Jh ps=>h.get? a=some { cls:=.none,data:=.fields ps }
 | .met f x=>h.get? a=some (PySem.W.methodObj (.ref f) (.ref x))
 | .ext φ=>φ h/\(∃ o,h.get? a=some o)/\∀ h1 h2:Heap,φ h1->(∀ o,h1.get? a=some o->h2.get? a=some o)->φ h2
def Bd (H:Hp) (h:Heap):Prop:=∀ a o,H a=some o->C5 P w H h a o
end
section
variable {P:Program}{w:World}{H H':Hp}{h h':Heap}{a:Addr}{o:HO}
theorem C5.lt (x:C5 P w H h a o):a < h.objs.size:=by
 cases o with
 | lst xs=>obtain ⟨_,_,_,_,e⟩:=x;exact BA e
 | tup xs=>obtain ⟨_,_,_,p⟩:=x;exact p.1.lt
 | dK A5=>obtain ⟨_,_,_,_,o,_,_,e,_⟩:=x;exact BA e
 | dT A5=>obtain ⟨_,_,_,_,o,_,_,e,_⟩:=x;exact BA e
 | set S n=>obtain ⟨o,_,_,_,e,_⟩:=x;exact BA e
 | ins C dx fs=>obtain ⟨_,_,_,e,_⟩:=x;exact BA e
 | own y=>obtain ⟨_,e⟩:=x;exact BA e
 | xd fs=>obtain ⟨_,⟨_,_,_,e,_⟩,_⟩:=x;exact BA e
 | X4 lo hi=>obtain ⟨_,_,_,e⟩:=x;exact BA e
 | Eu ob u=>obtain ⟨e,_⟩:=x;exact BA e
 | Jh ps=>exact BA (show h.get? a=some _ from x)
 | met f y=>exact BA (show h.get? a=some _ from x)
 | ext φ=>obtain ⟨_,⟨_,e⟩,_⟩:=x;exact BA e
theorem Paired.WH {α β:Type} {F G:α->β->Prop}:∀ {l₁:List α}{l₂:List β},Paired F l₁ l₂->(∀ a b,F a b->G a b)->Paired G l₁ l₂
 | _,_,.nil,_=>.nil
 | _,_,.cons r t,f=>.cons (f _ _ r) (Paired.WH t f)
theorem C5.Il (x:C5 P w H h a o) (k:∀ b u,(b=a∨H b=some (.own a))->h.get? b=some u->h'.get? b=some u)
  (ho:∀ b,H b=some (.own a)->H' b=some (.own a)) (ht:∀ b xs,H b=some (.tup xs)->H' b=some (.tup xs)):C5 P w H' h' a o:=by
 induction o with
 | lst xs=>obtain ⟨z,A6,n,r,e⟩:=x;exact ⟨z,A6,n,r,k _ _ (.inl rfl) e⟩
 | tup xs=>obtain ⟨z,A6,r,⟨ob,e,c⟩,dn⟩:=x;exact ⟨z,A6,r,⟨ob,k _ _ (.inl rfl) e,c⟩,fun Qu e'=>by rw [k _ _ (.inl rfl) e] at e';cases e';exact dn _ e⟩
 | dK A5=>obtain ⟨z,y,vs,r,ob,es,ep,e,c⟩:=x;exact ⟨z,y,vs,r,ob,es,ep,k _ _ (.inl rfl) e,c⟩
 | dT A5=>
  obtain ⟨z,y,xs,r,ob,es,ep,e,c⟩:=x
  exact ⟨z,y,xs,Paired.WH r fun p q z=>⟨z.1,ht _ _ z.2.1,z.2.2⟩,ob,es,ep,k _ _ (.inl rfl) e,c⟩
 | set S n=>obtain ⟨ob,es,ep,t,e,c⟩:=x;exact ⟨ob,es,ep,t,k _ _ (.inl rfl) e,c⟩
 | ins C dx fs=>
  obtain ⟨d,z,ne,e,mA,⟨od,es,ep,e2,c⟩,r⟩:=x
  exact ⟨ho _ d,z,ne,k _ _ (.inl rfl) e,mA,⟨od,es,ep,k _ _ (.inr d) e2,c⟩,r⟩
 | own y=>obtain ⟨ob,e⟩:=x;exact ⟨ob,k _ _ (.inl rfl) e⟩
 | xd fs=>obtain ⟨mA,⟨od,es,ep,e,c⟩,r⟩:=x;exact ⟨mA,⟨od,es,ep,k _ _ (.inl rfl) e,c⟩,r⟩
 | X4 lo hi=>obtain ⟨t,u,v,e⟩:=x;exact ⟨t,u,v,k _ _ (.inl rfl) e⟩
 | Eu ob u ih=>obtain ⟨e,q⟩:=x;exact ⟨k _ _ (.inl rfl) e,ih q⟩
 | Jh ps=>
  have e:h.get? a=some { cls:=.none,data:=.fields ps }:=x
  show h'.get? a=some { cls:=.none,data:=.fields ps }
  exact k a _ (.inl rfl) e
 | met f y=>
  have e:h.get? a=some (PySem.W.methodObj (.ref f) (.ref y)):=x
  show h'.get? a=some (PySem.W.methodObj (.ref f) (.ref y))
  exact k a _ (.inl rfl) e
 | ext φ=>obtain ⟨p,⟨o,e⟩,st⟩:=x;exact ⟨st _ _ p fun o q=>k _ _ (.inl rfl) q,⟨o,k _ _ (.inl rfl) e⟩,st⟩
theorem Bd.lt (x:Bd P w H h) (e:H a=some o):a < h.objs.size:=(x a o e).lt
theorem Bd.fresh (x:Bd P w H h) (e:h.objs.size<=a):H a=none:=by
 cases q:H a with
 | none=>rfl
 | some u=>exact absurd (EB (x.lt q) e) (L4 _)
theorem Bd.kept (x:Bd P w H h) (k:∀ b u,h.get? b=some u->h'.get? b=some u):Bd P w H h':=fun a o e=>
 (x a o e).Il (fun b u _ q=>k b u q) (fun _ q=>q) fun _ _ q=>q
theorem Bd.laid (x:Bd P w H h) (k:∀ b u,h.get? b=some u->h'.get? b=some u) (hp:h.objs.size<=a) (new:C5 P w (upd H a o) h' a o):Bd P w (upd H a o) h':=fun b u e=>by
 have hn:=x.fresh hp
 by_cases hb:b=a
 ·subst hb;rw [AI] at e;cases e;exact new
 ·rw [Aj hb] at e
  exact (x b u e).Il (fun c v _ q=>k c v q) (fun c q=>by rw [Aj (EN q hn)];exact q) fun c xs q=>by rw [Aj (EN q hn)];exact q
end
def Rd (H:Hp) (a:Addr) (u:HO):Prop:=H a=some u∨∃ o,H a=some (.Eu o u)
theorem Rd.of {H:Hp}{a:Addr}{u:HO}(h:H a=some u):Rd H a u:=.inl h
theorem Rd.ok {P:Program}{w:World}{H:Hp}{h:Heap}{a:Addr}{u:HO}(r:Rd H a u) (x:Bd P w H h):C5 P w H h a u:=by
 rcases r with r | ⟨o,r⟩
 ·exact x a u r
 ·obtain ⟨_,q⟩:=x a _ r
  exact q
def NP:Option HO->Prop
 | some (.lst _)=>True
 | some (.dK _)=>True
 | some (.dT _)=>True
 | some (.set _ _)=>True
 | some (.ins _ _ _)=>True
 | some (.ext _)=>True
 | _=>False
section
variable {P:Program}{w:World}{H:Hp}{h h':Heap}{x e:Addr}{o':HO}
theorem Bd.write (ok:Bd P w H h) (mu:NP (H x)) (he:e=x∨H e=some (.own x)) (k:∀ b u,b≠e->h.get? b=some u->h'.get? b=some u) (JL:∃ u,h'.get? e=some u)
  (new:C5 P w (upd H x o') h' x o'):Bd P w (upd H x o') h':=fun b u q=>by
 have gR:∀ c y,H c=some (.own y)->c≠x:=fun c y r z=>by subst z;rw [r] at mu;exact mu
 have r9:∀ c xs,H c=some (.tup xs)->c≠x:=fun c xs r z=>by subst z;rw [r] at mu;exact mu
 by_cases hb:b=x
 ·subst hb;rw [AI] at q;cases q;exact new
 ·rw [Aj hb] at q
  by_cases GX:b=e
  ·have q':H b=some (.own x):=by
    rcases he with z | z
    ·exact absurd (GX.trans z) hb
    ·rw [GX];exact z
   rw [q] at q';cases q'
   obtain ⟨v,hv⟩:=JL
   exact ⟨v,by rw [GX];exact hv⟩
  ·refine (ok b u q).Il (fun c v hc r=>k c v ?_ r) (fun c r=>by rw [Aj (gR c b r)];exact r) fun c xs r=>by rw [Aj (r9 c xs r)];exact r
   rcases hc with rfl | hc
   ·exact GX
   ·rintro rfl
    rcases he with z | z
    ·exact gR c b hc z
    ·rw [hc] at z;cases z;exact hb rfl
end
structure Un (fs ex:List Addr) (H H':Hp) (h h':Heap):Prop where
 keep:∀ b o,h.get? b=some o->H b=none->b∉fs->b∉ex->h'.get? b=some o
 slot:∀ b o,h.get? b=some o->H b=none->b∈fs->b∉ex->∃ sl,h'.get? b=some { o with slots:=sl }
 free:∀ b o,h.get? b=some o->H b=none->b∉ex->H' b=none
 there:∀ b o,h.get? b=some o->b∉ex->∃ o',h'.get? b=some o'
 HF:∀ b xs,H b=some (.tup xs)->H' b=some (.tup xs)
 Gp:∀ b o u,H b=some (.Eu o u)->H' b=some (.Eu o u)
 Hd:∀ b ps,H b=some (.Jh ps)->∃ more,H' b=some (.Jh (ps++more))
section
variable {fs J6 ex dA:List Addr}{H H1 H2:Hp}{h h1 h2 h':Heap}{a x e:Addr}{o:HO}
theorem Un.any (u:Un fs ex H H1 h h1){b:Addr}{ob:Obj}(q:h.get? b=some ob) (n:H b=none) (hx:b∉ex):∃ sl,h1.get? b=some { ob with slots:=sl }:=by
 by_cases hb:b∈fs
 ·exact u.slot b ob q n hb hx
 ·exact ⟨ob.slots,u.keep b ob q n hb hx⟩
theorem Un.kept (k:∀ b u,h.get? b=some u->h'.get? b=some u):Un fs ex H H h h':=
 ⟨fun b ob q _ _ _=>k b ob q,fun b ob q _ _ _=>⟨ob.slots,k b ob q⟩,fun _ _ _ n _=>n,fun b ob q _=>⟨ob,k b ob q⟩,fun _ _ q=>q,fun _ _ _ q=>q,fun _ ps q=>⟨#[],by rw [q];simp⟩⟩
theorem Un.refl:Un fs ex H H h h:=Un.kept fun _ _ q=>q
theorem Un.laid (k:∀ b u,h.get? b=some u->h'.get? b=some u) (hp:h.objs.size<=a) (hn:H a=none):Un fs ex H (upd H a o) h h' where
 keep:=fun b u q _ _ _=>k b u q
 slot:=fun b u q _ _ _=>⟨u.slots,k b u q⟩
 free:=fun b u q n _=>by rw [Aj (Bx (EB (BA q) hp))];exact n
 there:=fun b u q _=>⟨u,k b u q⟩
 HF:=fun b xs q=>by rw [Aj (EN q hn)];exact q
 Gp:=fun b u xs q=>by rw [Aj (EN q hn)];exact q
 Hd:=fun b ps q=>⟨#[],by rw [Aj (EN q hn),q];simp⟩
theorem Un.write (mu:NP (H x)) (he:e=x∨H e=some (.own x)) (k:∀ b u,b≠e->h.get? b=some u->h'.get? b=some u) (JL:∃ u,h'.get? e=some u):Un fs ex H (upd H x o) h h':=by
 have hx:∀ b,H b=none->b≠x:=fun b n z=>by subst z;rw [n] at mu;exact mu
 have hb:∀ b,H b=none->b≠e:=fun b n z=>by
  subst z
  rcases he with r | r
  ·exact hx b n r
  ·rw [n] at r;cases r
 have hm:∀ b u,H b=some u->¬ NP (some u)->b≠x:=fun b u q nm z=>by subst z;rw [q] at mu;exact nm mu
 refine ⟨fun b u q n _ _=>k b u (hb b n) q,fun b u q n _ _=>⟨u.slots,k b u (hb b n) q⟩,fun b u q n _=>by rw [Aj (hx b n)];exact n,fun b u q _=>?_,
  fun b xs q=>by rw [Aj (hm b _ q fun z=>z)];exact q,fun b u xs q=>by rw [Aj (hm b _ q fun z=>z)];exact q,fun b ps q=>⟨#[],by rw [Aj (hm b _ q fun z=>z),q];simp⟩⟩
 by_cases GX:b=e
 ·subst GX;exact JL
 ·exact ⟨u,k b u GX q⟩
theorem Un.mono (u:Un fs ex H H1 h h1) (hs:∀ b∈fs,b∈J6) (hx:∀ b∈ex,b∈dA):Un J6 dA H H1 h h1:=
 ⟨fun b ob q n hb he=>u.keep b ob q n (fun z=>hb (hs b z)) fun z=>he (hx b z),fun _ _ q n _ he=>u.any q n fun z=>he (hx _ z),fun b ob q n he=>u.free b ob q n fun z=>he (hx b z),fun b ob q he=>u.there b ob q fun z=>he (hx b z),u.HF,u.Gp,u.Hd⟩
end
noncomputable def PY (h:Heap) (H:Hp):List Addr:=(List.range h.objs.size).filter fun a=>(H a).isSome
noncomputable def IW (h:Heap) (H:Hp):Heap:=PySem.W.hideAll h (PY h H)
theorem oW (h:Heap) (H:Hp):(IW h H).objs.size=h.objs.size:=PySem.W.hideAll_size _ _
theorem qG {h:Heap}{H:Hp}{b:Addr}{o:Obj}(e:h.get? b=some o) (n:H b=none):(IW h H).get? b=some o:=
 PySem.W.hideAll_get _ e fun hm=>by
  have q:(H b).isSome=true:=(List.mem_filter.mp hm).2
  rw [n] at q;simp at q
theorem xx {h:Heap}{H:Hp}{b:Addr}{o:Obj}(e:(IW h H).get? b=some o):h.get? b=some o/\H b=none:=by
 have e':h.get? b=some o:=PySem.W.of_hideAll (PY h H) e
 refine ⟨e',?_⟩
 cases q:H b with
 | none=>rfl
 | some x=>
  have hm:b∈PY h H:=List.mem_filter.mpr ⟨List.mem_range.mpr (BA e'),by simp [q]⟩
  have z:(IW h H).get? b=none:=PySem.W.hideAll_none (PY h H) hm
  rw [z] at e;cases e
noncomputable def nG (g h:Heap) (L:Addr):ZCz:=(List.range h.objs.size).filterMap fun a=>if a=L∨(g.get? a).isSome=true then none else (h.get? a).map fun o=>(a,o)
noncomputable def rest (g h:Heap) (L d:Addr):ZCz:=(nG g h L).filter fun p=>decide (p.1≠d)
structure Mod (K:ZCy) (mg:ZD0) (base:Heap):Prop where
 Mp:K.In base
 glob:base.Ns mainGlobals mg
 blt:∃ mb,base.Ns builtinsNs mb/\∀ x:Str,x ≠ "__name__" -> mb x=bootBuiltins x
 nolimit:base.NoLimit
structure Cx where
 prog:Program
 w:World
 K:ZCy
 mg:ZD0
 base:Heap
 A:Around
 N:List Str
 s₀:Shared
 H₀:Hp
 env:Env
 outer:List Env
 stack:List Env
 ex:List Addr
 fn:Str->Bool
 calm:Bool
 pn:ZCz
 xe:Value->Shared->Prop
noncomputable def Cz (l:List Env):List Addr:=l.filterMap (·.frame)
noncomputable abbrev Cx.fs (X:Cx):List Addr:=Cz X.outer
def Qk (sc:Scope) (x:Str):Prop:=sc.names.lookup x=some .local∨sc.names.lookup x=some .cell∨sc.names.lookup x=some .free
def Loc (sc:Scope) (x:Str):Prop:=sc.names.lookup x=some .local∨sc.names.lookup x=some .cell
def Look (env:Env) (h:Heap) (m:ZD0) (x:Str) (u:Value):Prop:=
 (env.kindOf x=some .local/\m x=some u)∨((env.kindOf x=some .cell∨env.kindOf x=some .free)/\∃ c,env.cells.lookup x=some c/\h.IsCell c (some u))
structure Cx.Ok (X:Cx):Prop where
 mod:Mod X.K X.mg X.base
 kind:X.env.scope.kind=.function
 glob:X.env.globals=mainGlobals
 blt:X.env.builtins=builtinsNs
 above:X.s₀.heap.objs.size<=X.env.locals
 inj:∀ x y c,X.env.cells.lookup x=some c->X.env.cells.lookup y=some c->x=y
 has:∀ x,(X.env.kindOf x=some .cell∨X.env.kindOf x=some .free)->∃ c,X.env.cells.lookup x=some c
 JT:∀ x c,X.fn x=true->X.env.cells.lookup x=some c->X.s₀.heap.objs.size<=c
 hd:X.calm=true->X.A.handled=none
 frames:X.A.frames=some X.stack
 Ho:X.stack=X.outer∨(X.stack=X.env :: X.outer/\X.env.frame=some X.env.locals)
 Je:∀ b∈X.ex,b≠X.env.locals/\∀ x c,X.env.cells.lookup x=some c->c≠b
 bs:∀ b o,X.base.get? b=some o->X.s₀.heap.get? b=some o/\X.H₀ b=none
 G5:X.base.objs.size<=X.s₀.heap.objs.size
 Ik:∀ b o,X.base.get? b=some o->b∉X.ex
 J0:∀ b∈X.ex,b∉X.fs
 Ef:X.s₀.heap.FunFrames X.base X.outer
 Hj:∀ b∈X.fs,X.H₀ b=none
structure Inv (X:Cx) (pins:ZCz) (σ:List (Option V)) (H:Hp) (s:Shared):Prop where
 ok:X.Ok
 os:s.os=X.s₀.os
 bare:AllBare s.gens
 base:Un X.fs X.ex X.H₀ H X.s₀.heap s.heap
 loc:∃ m,s.heap.Ns X.env.locals m/\∀ (i:Nat) (x:Str) (v:V),X.N[i]?=some x->σ[i]?=some (some v)->Qk X.env.scope x->∃ u,RelV v u/\Look X.env s.heap m x u
 cell:∀ x c,X.env.cells.lookup x=some c->∃ v,s.heap.IsCell c v
 free:H X.env.locals=none
 Eh:∀ x c,X.env.cells.lookup x=some c->H c=none
 pin:∀ p∈X.pn++pins,s.heap.get? p.1=some p.2/\H p.1=none/\p.1≠X.env.locals/\p.1∉X.fs/\∀ v,p.2.data≠.cell v
 AM:Bd X.prog X.w H s.heap
 len:σ.length=X.N.length
section
variable {X:Cx}{pins:ZCz}{σ:List (Option V)} {H H':Hp}{s:Shared}{h':Heap}
theorem Cx.Ok.lu (ok:X.Ok){b:Addr}{o:Obj}(e:X.base.get? b=some o):b∉X.fs:=fun hb=>by
 have:=(ok.Ef.mem hb).1
 rw [e] at this;cases this
theorem Inv.bs (I:Inv X pins σ H s):∀ b o,X.base.get? b=some o->s.heap.get? b=some o/\H b=none:=fun b o e=>
 ⟨I.base.keep b o (I.ok.bs b o e).1 (I.ok.bs b o e).2 (I.ok.lu e) (I.ok.Ik b o e),I.base.free b o (I.ok.bs b o e).1 (I.ok.bs b o e).2 (I.ok.Ik b o e)⟩
theorem Inv.bk (I:Inv X pins σ H s):∀ b o,X.base.get? b=some o->s.heap.get? b=some o:=fun b o e=>(I.bs b o e).1
theorem Inv.mod (I:Inv X pins σ H s):Mod X.K X.mg X.base:=I.ok.mod
theorem Inv.CW (I:Inv X pins σ H s):X.K.In s.heap:=I.ok.mod.Mp.keeps I.bk
theorem Inv.lt (I:Inv X pins σ H s):X.env.locals < s.heap.objs.size:=let ⟨_,hn,_⟩:=I.loc;hn.lt
theorem Inv.sz (I:Inv X pins σ H s):X.s₀.heap.objs.size<=s.heap.objs.size:=Cs I.ok.above (Ob I.lt)
theorem Inv.rS (I:Inv X pins σ H s){a:Addr}(h:s.heap.objs.size<=a):a∉X.fs:=fun hb=>by
 obtain ⟨_,o,ho,_⟩:=I.ok.Ef.mem hb
 exact absurd (EB (BA ho) (Cs I.sz h)) (L4 _)
theorem Inv.K9 (I:Inv X pins σ H s):∀ x c,X.env.cells.lookup x=some c->c≠X.env.locals:=fun x c e z=>by
 obtain ⟨v,o,ho,hd⟩:=I.cell x c e
 obtain ⟨m,⟨o',es,ep,De,Es,_⟩,_⟩:=I.loc
 rw [z,De] at ho;cases ho;rw [Es] at hd;cases hd
theorem Inv.Ef (I:Inv X pins σ H s):s.heap.FunFrames X.base X.outer:=by
 have all:∀ (l:List Env),(∀ b∈Cz l,b∈X.fs)->X.s₀.heap.FunFrames X.base l->s.heap.FunFrames X.base l:=by
  intro l
  induction l with
  | nil=>intro _ _;trivial
  | cons env r ih=>
   intro hs hl
   obtain ⟨hk,⟨L,o,hf,hn,ho,hd⟩,hr⟩:=hl
   have hL:L∈X.fs:=hs L (by unfold Cz;rw [YL,hf];exact EA)
   obtain ⟨sl,e⟩:=I.base.slot L o ho (I.ok.Hj L hL) hL fun z=>I.ok.J0 L z hL
   exact ⟨hk,⟨L,_,hf,hn,e,hd⟩,ih (fun b hb=>hs b (by unfold Cz;rw [YL,hf];exact Fy _ hb)) hr⟩
 exact all X.outer (fun _ hb=>hb) I.ok.Ef
theorem Inv.stack (I:Inv X pins σ H s):s.heap.FunFrames X.base X.stack:=by
 rcases I.ok.Ho with e | ⟨e,hf⟩
 ·rw [e];exact I.Ef
 ·rw [e]
  obtain ⟨m,hn,_⟩:=I.loc
  refine .cons (by rw [I.ok.kind];decide) hf hn ?_ I.Ef
  exact Heap.get?_none_of_le (Cs I.ok.G5 I.ok.above)
theorem Inv.P1 (I:Inv X pins σ H s):∀ b∈Cz X.stack,b∈X.env.locals :: X.fs:=fun b hb=>by
 rcases I.ok.Ho with e | ⟨e,hf⟩
 ·rw [e] at hb;exact Fy _ hb
 ·rw [e] at hb
  unfold Cz at hb
  rw [YL,hf] at hb
  exact hb
theorem Inv.SJ (I:Inv X pins σ H s):∀ b∈Cz X.stack,H b=none:=fun b hb=>by
 rcases List.mem_cons.mp (I.P1 b hb) with e | hb
 ·rw [e];exact I.free
 ·obtain ⟨_,o,ho,_⟩:=I.ok.Ef.mem hb
  exact I.base.free b o ho (I.ok.Hj b hb) fun z=>I.ok.J0 b z hb
theorem Inv.step {g':Array GenState}{t':Nat}{d':Drawn}{ch:List Addr}(I:Inv X pins σ H s)
  (Hb:∀ b∈ch,(b∈X.ex∨X.s₀.heap.objs.size<=b)/\b≠X.env.locals/\(∀ x c,X.env.cells.lookup x=some c->c≠b)/\∀ p∈X.pn++pins,p.1≠b)
  (keep:∀ b o,b≠X.env.locals->b∉X.fs->b∉ch->s.heap.get? b=some o->H b=none->h'.get? b=some o)
  (slot:∀ b o,b≠X.env.locals->b∈X.fs->b∉ch->s.heap.get? b=some o->H b=none->∃ sl,h'.get? b=some { o with slots:=sl }) (free:∀ b o,b∉ch->s.heap.get? b=some o->H b=none->H' b=none)
  (there:∀ b o,b∉ch->s.heap.get? b=some o->∃ o',h'.get? b=some o')
  (HF:∀ b xs,H b=some (.tup xs)->H' b=some (.tup xs)) (Gp:∀ b o u,H b=some (.Eu o u)->H' b=some (.Eu o u)) (Hd:∀ b ps,H b=some (.Jh ps)->∃ more,H' b=some (.Jh (ps++more)))
  (ns:∀ m,s.heap.Ns X.env.locals m->h'.Ns X.env.locals m) (AM:Bd X.prog X.w H' h') (hg:AllBare g') :
  Inv X pins σ H' { s with heap:=h',gens:=g',drawn:=d',toks:=t' }:=by
 have eI:∀ b o,X.s₀.heap.get? b=some o->b≠X.env.locals:=fun b o e=>Bx (EB (BA e) I.ok.above)
 have Ou:∀ b o,X.s₀.heap.get? b=some o->b∉X.ex->b∉ch:=fun b o e hx hb=>by
  rcases (Hb b hb).1 with z | z
  ·exact hx z
  ·exact absurd (EB (BA e) z) (L4 _)
 have cellK:∀ x c,X.env.cells.lookup x=some c->∀ v,s.heap.IsCell c v->h'.IsCell c v:=fun x c e v ⟨o,ho,hd⟩=>by
  have NT:c∉ch:=fun z=>(Hb c z).2.2.1 x c e rfl
  by_cases hc:c∈X.fs
  ·obtain ⟨sl,q⟩:=slot c o (I.K9 x c e) hc NT ho (I.Eh x c e)
   exact ⟨_,q,hd⟩
  ·exact ⟨o,keep c o (I.K9 x c e) hc NT ho (I.Eh x c e),hd⟩
 refine ⟨I.ok,I.os,hg,⟨fun b o e n hb hx=>?_,fun b o e n hb hx=>?_,fun b o e n hx=>?_,fun b o e hx=>?_,fun b xs e=>HF b xs (I.base.HF b xs e),fun b o xs e=>Gp b o xs (I.base.Gp b o xs e),fun b ps e=>?_⟩,?_,fun x c e=>?_,?_,fun x c e=>?_,fun p hp=>?_,AM,I.len⟩
 ·exact keep b o (eI b o e) hb (Ou b o e hx) (I.base.keep b o e n hb hx) (I.base.free b o e n hx)
 ·obtain ⟨sl,e1⟩:=I.base.slot b o e n hb hx
  obtain ⟨u0,e2⟩:=slot b _ (eI b o e) hb (Ou b o e hx) e1 (I.base.free b o e n hx)
  exact ⟨u0,e2⟩
 ·obtain ⟨o',e1⟩:=I.base.there b o e hx
  exact free b o' (Ou b o e hx) e1 (I.base.free b o e n hx)
 ·obtain ⟨o',e1⟩:=I.base.there b o e hx
  exact there b o' (Ou b o e hx) e1
 ·obtain ⟨m1,e1⟩:=I.base.Hd b ps e
  obtain ⟨m2,e2⟩:=Hd b _ e1
  exact ⟨m1++m2,by rw [e2,Array.append_assoc]⟩
 ·obtain ⟨m,hn,hl⟩:=I.loc
  refine ⟨m,ns m hn,fun i x v e1 e2 e3=>?_⟩
  obtain ⟨u,r,l⟩:=hl i x v e1 e2 e3
  refine ⟨u,r,?_⟩
  rcases l with l | ⟨k,c,e,z⟩
  ·exact .inl l
  ·exact .inr ⟨k,c,e,cellK x c e _ z⟩
 ·obtain ⟨v,z⟩:=I.cell x c e
  exact ⟨v,cellK x c e v z⟩
 ·obtain ⟨m,⟨o,_,_,ho,_⟩,_⟩:=I.loc
  exact free _ o (fun z=>(Hb _ z).2.1 rfl) ho I.free
 ·obtain ⟨v,o,ho,hd⟩:=I.cell x c e
  exact free c o (fun z=>(Hb c z).2.2.1 x c e rfl) ho (I.Eh x c e)
 ·obtain ⟨e,n,ne,nf,d⟩:=I.pin p hp
  have NT:p.1∉ch:=fun z=>(Hb p.1 z).2.2.2 p hp rfl
  exact ⟨keep p.1 p.2 ne nf NT e n,free p.1 p.2 NT e n,ne,nf,d⟩
theorem Inv.un {t':Nat}(I:Inv X pins σ H s) (u:Un X.fs [] H H' s.heap h') (AM:Bd X.prog X.w H' h'):Inv X pins σ H' { s with heap:=h',toks:=t' }:=by
 obtain ⟨m,⟨o,es,ep,ho,r⟩,_⟩:=id I.loc
 obtain ⟨sl,hL⟩:=u.any ho I.free (by simp)
 exact I.step (g':=s.gens) (d':=s.drawn) (ch:=[]) (fun _ z=>nomatch z) (fun b o _ hb _ e n=>u.keep b o e n hb (by simp)) (fun b o _ hb _ e n=>u.slot b o e n hb (by simp)) (fun b o _ e n=>u.free b o e n (by simp)) (fun b o _ e=>u.there b o e (by simp)) u.HF u.Gp u.Hd (fun m' hm=>by
  obtain ⟨o',CQ,GZ,De,r'⟩:=hm
  rw [ho] at De;cases De
  exact ⟨_,CQ,GZ,hL,r'⟩) AM I.bare
theorem Inv.call {g':Array GenState}{t':Nat}{d':Drawn}{ch:List Addr}(I:Inv X pins σ H s) (u:Un (Cz X.stack) ch H H' s.heap h') (AM:Bd X.prog X.w H' h') (hg:AllBare g')
  (Hb:∀ b∈ch,(b∈X.ex∨X.s₀.heap.objs.size<=b)/\b≠X.env.locals/\(∀ x c,X.env.cells.lookup x=some c->c≠b)/\∀ p∈X.pn++pins,p.1≠b) :
  Inv X pins σ H' { s with heap:=h',gens:=g',drawn:=d',toks:=t' }:=by
 obtain ⟨m,⟨o,es,ep,ho,r⟩,_⟩:=id I.loc
 obtain ⟨sl,hL⟩:=u.any ho I.free fun z=>(Hb _ z).2.1 rfl
 exact I.step (ch:=ch) Hb (fun b o hL hb hc e n=>u.keep b o e n (fun z=>(List.mem_cons.mp (I.P1 b z)).elim hL hb) hc) (fun b o _ _ hc e n=>u.any e n hc) (fun b o hc e n=>u.free b o e n hc) (fun b o hc e=>u.there b o e hc) u.HF u.Gp u.Hd (fun m' hm=>by
  obtain ⟨o',CQ,GZ,De,r'⟩:=hm
  rw [ho] at De;cases De
  exact ⟨_,CQ,GZ,hL,r'⟩) AM hg
theorem Inv.turned {t':Nat}{it:Addr}(I:Inv X pins σ H s) (k:∀ b o,b≠it->s.heap.get? b=some o->h'.get? b=some o) (hn:H it=none) (hL:it≠X.env.locals)
  (h1:it∈X.ex∨X.s₀.heap.objs.size<=it) (h2:∀ x c,X.env.cells.lookup x=some c->c≠it) (h3:∀ p∈X.pn++pins,p.1≠it):Inv X pins σ H { s with heap:=h',toks:=t' }:=by
 have JR:∀ b u,H b=some u->b≠it:=fun b u e z=>by rw [z,hn] at e;cases e
 refine I.step (g':=s.gens) (d':=s.drawn) (ch:=[it]) (fun b hb=>?_) (fun b o _ _ hc e _=>k b o (fun z=>hc (by simp [z])) e) (fun b o _ _ hc e _=>⟨o.slots,k b o (fun z=>hc (by simp [z])) e⟩) (fun _ _ _ _ n=>n)
  (fun b o hc e=>⟨o,k b o (fun z=>hc (by simp [z])) e⟩) (fun _ _ e=>e) (fun _ _ _ e=>e) (fun b ps e=>⟨#[],by rw [e];simp⟩) (fun m hm=>?_) (fun b u e=>?_) I.bare
 ·have e:b=it:=by simpa using hb
  subst e
  exact ⟨h1,hL,h2,h3⟩
 ·obtain ⟨o,es,ep,ho,r⟩:=hm
  exact ⟨o,es,ep,k _ o (BS hL) ho,r⟩
 ·refine (I.AM b u e).Il (fun c v hc q=>k c v ?_ q) (fun _ q=>q) fun _ _ q=>q
  rcases hc with z | z
  ·rw [z];exact JR b u e
  ·exact JR c _ z
theorem Inv.tok (I:Inv X pins σ H s) (t:Nat):Inv X pins σ H { s with toks:=t }:=I.un (h':=s.heap) (t':=t) Un.refl I.AM
theorem Inv.kept {t':Nat}(I:Inv X pins σ H s) (k:∀ b u,s.heap.get? b=some u->h'.get? b=some u):Inv X pins σ H { s with heap:=h',toks:=t' }:=I.un (Un.kept k) (I.AM.kept k)
theorem Inv.laid {a:Addr}{o:HO}{t':Nat}(I:Inv X pins σ H s) (k:∀ b u,s.heap.get? b=some u->h'.get? b=some u) (hp:s.heap.objs.size<=a) (new:C5 X.prog X.w (upd H a o) h' a o) :
  Inv X pins σ (upd H a o) { s with heap:=h',toks:=t' }:=I.un (Un.laid k hp (I.AM.fresh hp)) (I.AM.laid k hp new)
theorem Inv.write {x e:Addr}{o:HO}{t':Nat}(I:Inv X pins σ H s) (mu:NP (H x)) (he:e=x∨H e=some (.own x)) (k:∀ b u,b≠e->s.heap.get? b=some u->h'.get? b=some u) (JL:∃ u,h'.get? e=some u)
  (new:C5 X.prog X.w (upd H x o) h' x o):Inv X pins σ (upd H x o) { s with heap:=h',toks:=t' }:=I.un (Un.write mu he k JL) (I.AM.write mu he k JL new)
theorem Inv.eX {dG:ZCz}(I:Inv X pins σ H s) (h:∀ p∈dG,s.heap.get? p.1=some p.2/\H p.1=none/\p.1≠X.env.locals/\p.1∉X.fs/\∀ v,p.2.data≠.cell v):Inv X dG σ H s:=
 ⟨I.ok,I.os,I.bare,I.base,I.loc,I.cell,I.free,I.Eh,fun p hp=>(List.mem_append.mp hp).elim (fun z=>I.pin p (Rr _ z)) (h p),I.AM,I.len⟩
theorem Zd {N:List Str}(hN:N.Nodup){i j:Nat}{x:Str}(a:N[i]?=some x) (b:N[j]?=some x):i=j:=by
 obtain ⟨h1,e1⟩:=List.getElem?_eq_some_iff.mp a
 obtain ⟨h2,e2⟩:=List.getElem?_eq_some_iff.mp b
 exact (iU hN).mp (e1.trans e2.symm)
theorem Z0 {M:Model}{A:Around}{E:Value->Shared->Prop}{i:Nat}{x:Str}{v:V}{u:Value}{Q:Unit->Shared->Prop}(I:Inv X pins σ H s) (hN:X.N.Nodup) (hi:X.N[i]?=some x) (hx:Loc X.env.scope x) (r:RelV v u)
  (h:∀ s',Inv X pins (σ.set i (some v)) H s'->(∃ a,Heap.SameBut a s.heap s'.heap/\(a=X.env.locals∨X.env.cells.lookup x=some a))->Q () s') (hf:X.fn x=true∨X.env.scope.names.lookup x=some .local:=by first | exact .inl rfl | exact .inr rfl | assumption):wpAny M A (storeName X.env x u) Q E s:=by
 obtain ⟨m,hn,hl⟩:=id I.loc
 have ZBX:(X.env.scope.kind == .class || (X.env.scope.kind == .module && X.env.locals != X.env.globals))=false:=by rw [I.ok.kind];rfl
 have hiσ:i < σ.length:=by rw [I.len];exact (List.getElem?_eq_some_iff.mp hi).1
 have K9:=I.K9
 have tracked:∀ {a:Addr}{h':Heap},(∃ o,s.heap.get? a=some o/\H a=none)->Heap.SameBut a s.heap h'->Bd X.prog X.w H h':=fun {a h'} ha hs b ob e=>by
  obtain ⟨_,_,eZ⟩:=ha
  refine (I.AM b ob e).Il (fun c w' hc q=>(hs.2 c ?_).trans q) (fun _ q=>q) fun _ _ q=>q
  rintro rfl
  rcases hc with rfl | hc
  ·rw [eZ] at e;cases e
  ·rw [eZ] at hc;cases hc
 rcases hx with hk | hk
 ·refine wpAny_storeName_local hk hn (fun h' Sr hs=>?_) ZBX
  obtain ⟨oL,_,_,OI,_⟩:=id hn
  refine h _ ⟨I.ok,I.os,I.bare,⟨fun b o e n hb hx=>?_,fun b o e n hb hx=>?_,I.base.free,fun b o e hx=>?_,I.base.HF,I.base.Gp,I.base.Hd⟩,⟨_,Sr,fun j y v' e1 e2 e3=>?_⟩,fun y c e=>?_,I.free,I.Eh,fun p hp=>?_,tracked ⟨oL,OI,I.free⟩ hs,by simpa using I.len⟩ ⟨_,hs,.inl rfl⟩
  ·exact (hs.2 b (Bx (EB (BA e) I.ok.above))).trans (I.base.keep b o e n hb hx)
  ·obtain ⟨sl,e1⟩:=I.base.slot b o e n hb hx
   exact ⟨sl,(hs.2 b (Bx (EB (BA e) I.ok.above))).trans e1⟩
  ·obtain ⟨o',e1⟩:=I.base.there b o e hx
   exact ⟨o',(hs.2 b (Bx (EB (BA e) I.ok.above))).trans e1⟩
  ·by_cases hj:j=i
   ·subst hj
    rw [hi] at e1;cases e1
    rw [Ca hiσ] at e2
    cases e2
    exact ⟨u,r,.inl ⟨hk,by simp⟩⟩
   ·rw [CJ (BS hj)] at e2
    obtain ⟨u',r',q⟩:=hl j y v' e1 e2 e3
    refine ⟨u',r',?_⟩
    rcases q with ⟨k,e⟩ | ⟨k,c,e,z⟩
    ·refine .inl ⟨k,?_⟩
     have:y≠x:=fun e=>hj (Zd hN e1 (e▸hi))
     simp [this,e]
    ·exact .inr ⟨k,c,e,z.sameBut hs (K9 y c e)⟩
  ·obtain ⟨w',z⟩:=I.cell y c e
   exact ⟨w',z.sameBut hs (K9 y c e)⟩
  ·obtain ⟨e,n,ne,nf,d⟩:=I.pin p hp
   exact ⟨(hs.2 p.1 ne).trans e,n,ne,nf,d⟩
 ·have Y6:X.fn x=true:=by
   rcases hf with z | z
   ·exact z
   ·rw [z] at hk;cases hk
  obtain ⟨c,hc⟩:=I.ok.has x (.inl hk)
  obtain ⟨w',z⟩:=I.cell x c hc
  refine wpAny_storeName_cell I.ok.kind hk hc z (fun h' Fm hs=>?_)
  obtain ⟨oc,gq,nj⟩:=id z
  refine h { s with heap:=h' } ⟨I.ok,I.os,I.bare,⟨fun b o e n hb hx=>?_,fun b o e n hb hx=>?_,I.base.free,fun b o e hx=>?_,I.base.HF,I.base.Gp,I.base.Hd⟩,⟨m,hn.sameBut hs (BS (K9 x c hc)),fun j y v' e1 e2 e3=>?_⟩,fun y c' e=>?_,I.free,I.Eh,fun p hp=>?_,tracked ⟨oc,gq,I.Eh x c hc⟩ hs,by simpa using I.len⟩ ⟨c,hs,.inr hc⟩
  ·exact (hs.2 b (Bx (EB (BA e) (I.ok.JT x c Y6 hc)))).trans (I.base.keep b o e n hb hx)
  ·obtain ⟨sl,e1⟩:=I.base.slot b o e n hb hx
   exact ⟨sl,(hs.2 b (Bx (EB (BA e) (I.ok.JT x c Y6 hc)))).trans e1⟩
  ·obtain ⟨o',e1⟩:=I.base.there b o e hx
   exact ⟨o',(hs.2 b (Bx (EB (BA e) (I.ok.JT x c Y6 hc)))).trans e1⟩
  ·by_cases hj:j=i
   ·subst hj
    rw [hi] at e1;cases e1
    rw [Ca hiσ] at e2
    cases e2
    exact ⟨u,r,.inr ⟨.inl hk,c,hc,Fm⟩⟩
   ·rw [CJ (BS hj)] at e2
    obtain ⟨u',r',q⟩:=hl j y v' e1 e2 e3
    refine ⟨u',r',?_⟩
    rcases q with q | ⟨k,c',e,z'⟩
    ·exact .inl q
    ·refine .inr ⟨k,c',e,z'.sameBut hs ?_⟩
     rintro rfl
     exact hj (Zd hN e1 (I.ok.inj _ _ _ e hc▸hi))
  ·by_cases Qh:c'=c
   ·subst Qh;exact ⟨_,Fm⟩
   ·obtain ⟨w2,z2⟩:=I.cell y c' e
    exact ⟨w2,z2.sameBut hs Qh⟩
  ·obtain ⟨e,n,ne,nf,d⟩:=I.pin p hp
   refine ⟨(hs.2 p.1 ?_).trans e,n,ne,nf,d⟩
   intro q
   rw [q,gq] at e
   have q':oc=p.2:=BU e
   exact d w' (by rw [<- q'];exact nj)
theorem ZJ {M:Model}{A:Around}{E:Value->Shared->Prop}{i:Nat}{x:Str}{v:V}{u:Value}{Q:Unit->Shared->Prop}(I:Inv X pins σ H s) (hN:X.N.Nodup) (hi:X.N[i]?=some x) (hx:Loc X.env.scope x) (r:RelV v u)
  (h:∀ s',Inv X pins (σ.set i (some v)) H s'->Q () s') (hf:X.fn x=true∨X.env.scope.names.lookup x=some .local:=by first | exact .inl rfl | exact .inr rfl | assumption):wpAny M A (storeName X.env x u) Q E s:=
 Z0 I hN hi hx r (fun s' I' _=>h s' I') hf
theorem Inv.zT {s':Shared}{ch:List Addr}(I:Inv X pins σ H s) (ho:s'.os=s.os) (u:Un (Cz X.stack) ch H H' s.heap s'.heap) (AM:Bd X.prog X.w H' s'.heap) (hg:AllBare s'.gens)
  (Hb:∀ b∈ch,(b∈X.ex∨X.s₀.heap.objs.size<=b)/\b≠X.env.locals/\(∀ x c,X.env.cells.lookup x=some c->c≠b)/\∀ p∈X.pn++pins,p.1≠b):Inv X pins σ H' s':=by
 obtain ⟨h',g',d',t',o'⟩:=s'
 have e:o'=s.os:=ho
 subst e
 exact I.call (g':=g') (t':=t') (d':=d') u AM hg Hb
end
abbrev XK:=Value->Option Addr->Hp->Prop
abbrev St:=List (Option V)
abbrev VK:=V->Hp->Prop
abbrev TE:=St->Hp->VK->Prop
abbrev TT:=St->Hp->(Bool->Hp->Prop)->Prop
abbrev TA:=St->Hp->(List V->Hp->Prop)->Prop
structure Ends where
 nx:St->Hp->Prop
 rt:VK
 bk:St->Hp->Prop:=fun _ _=>False
 ct:St->Hp->Prop:=fun _ _=>False
abbrev TS:=Ends->St->Hp->Prop
def EP (X:Cx) (pins:ZCz) (σ:St) (Q:VK) (u:Value) (s':Shared):Prop:=∃ v H',Inv X pins σ H' s'/\RelV v u/\Q v H'
def TP (X:Cx) (pins:ZCz) (σ:St) (Q:Bool->Hp->Prop) (b:Bool) (s':Shared):Prop:=∃ H',Inv X pins σ H' s'/\Q b H'
def AP (X:Cx) (pins:ZCz) (σ:St) (Q:List V->Hp->Prop) (us:List Value) (s':Shared):Prop:=∃ vs H',Inv X pins σ H' s'/\Vals vs us/\Q vs H'
def SP (X:Cx) (pins:ZCz) (D:Ends) (f:Flow) (s':Shared):Prop:=
 match f with
 | .next=>∃ σ' H',Inv X pins σ' H' s'/\D.nx σ' H'
 | .brk=>∃ σ' H',Inv X pins σ' H' s'/\D.bk σ' H'
 | .cont=>∃ σ' H',Inv X pins σ' H' s'/\D.ct σ' H'
 | .ret u=>∃ v σ' H',Inv X pins σ' H' s'/\RelV v u/\D.rt v H'
def PE (X:Cx) (e:Expr) (t:TE):Prop:=
 ∀ (pins:ZCz) (s:Shared) (σ:St) (H:Hp) (Q:VK),Inv X pins σ H s->t σ H Q->wpAny (model X.prog X.w) X.A (eval e X.env) (EP X pins σ Q) X.xe s
def PT (X:Cx) (e:Expr) (t:TT):Prop:=
 ∀ (pins:ZCz) (s:Shared) (σ:St) (H:Hp) (Q:Bool->Hp->Prop),Inv X pins σ H s->t σ H Q->wpAny (model X.prog X.w) X.A (isTrue e X.env (eval e X.env)) (TP X pins σ Q) X.xe s
def PW (X:Cx) (e:Expr) (t:TT):Prop:=
 ∀ (whole:Sem Value) (pins:ZCz) (s:Shared) (σ:St) (H:Hp) (Q:Bool->Hp->Prop),Inv X pins σ H s->t σ H Q->wpAny (model X.prog X.w) X.A (isTrue e X.env whole) (TP X pins σ Q) X.xe s
theorem PW.pt {X:Cx}{e:Expr}{t:TT}(h:PW X e t):PT X e t:=h _
def PA (X:Cx) (es:List Expr) (t:TA):Prop:=
 ∀ (pos:Pos) (pins:ZCz) (s:Shared) (σ:St) (H:Hp) (Q:List V->Hp->Prop),Inv X pins σ H s->t σ H Q->wpAny (model X.prog X.w) X.A (spliced (backTo pos (starEach es X.env))) (AP X pins σ Q) X.xe s
def PS (X:Cx) (st:Stmt) (t:TS):Prop:=
 ∀ (pins:ZCz) (s:Shared) (σ:St) (H:Hp) (D:Ends),Inv X pins σ H s->t D σ H->wpAny (model X.prog X.w) X.A (exec st X.env) (SP X pins D) X.xe s
def DX (X:Cx) (st:List Stmt) (t:TS):Prop:=
 ∀ (pins:ZCz) (s:Shared) (σ:St) (H:Hp) (D:Ends),Inv X pins σ H s->t D σ H->wpAny (model X.prog X.w) X.A (execs st X.env) (SP X pins D) X.xe s
theorem AR {α:Type} {t:Sem α}{Q Q':α->Shared->Prop}{M:Model}{A:Around}{E:Value->Shared->Prop}{s:Shared}(h:wpAny M A t Q E s) (hQ:∀ a s,Q a s->Q' a s):wpAny M A t Q' E s:=wpAny_mono h hQ fun _ _ x=>x
section
variable {X:Cx}
def BG (i:Nat):TE:=fun σ H Q=>∃ v,σ[i]?=some (some v)/\Q v H
def tC (v:V):TE:=fun _ H Q=>Q v H
theorem iH {i:Nat}{x:Str}{pos:Pos}(hN:X.N[i]?=some x) (hv:Qk X.env.scope x) (hd:(x == ("__debug__" : Str))=false:=by decide) (FX:(x == ("__classdict__" : Str))=false:=by decide):PE X (.Name x pos) (BG i):=by
 intro pins s σ H Q I h
 obtain ⟨v,e,h⟩:=h
 obtain ⟨m,hn,hl⟩:=I.loc
 obtain ⟨u,r,l⟩:=hl i x v hN e hv
 have fin:EP X pins σ Q u s:=⟨v,H,I,r,h⟩
 rcases l with ⟨hk,hm⟩ | ⟨hk,c,hc,bK⟩
 ·exact wpAny_Name (wpAny_loadName_local I.ok.kind hk hn hm fin) hd
 ·rcases hk with hk | hk
  ·exact wpAny_Name (wpAny_loadName_cell I.ok.kind hk hc bK fin) hd
  ·exact wpAny_Name (wpAny_loadName_free I.ok.kind hk hc bK fin FX) hd
theorem zD {i j pos}:PE X (.Constant (.int i) j pos) (tC (.int i)):=fun _ _ _ H _ I h=>wpAny_Constant_int ⟨.int i,H,I.tok _,⟨_,rfl⟩,h⟩
theorem r6 {b j pos}:PE X (.Constant (.bool b) j pos) (tC (.bl b)):=fun _ _ _ H _ I h=>Constant_bool ⟨.bl b,H,I,rfl,h⟩
theorem ke {j pos}:PE X (.Constant .none j pos) (tC .AF):=fun _ _ _ H _ I h=>Constant_none ⟨.AF,H,I,rfl,h⟩
theorem uV {x j pos}:PE X (.Constant (.str x) j pos) (tC (.str x)):=fun _ _ _ H _ I h=>Calls.Constant_str ⟨.str x,H,I.tok _,⟨_,rfl⟩,h⟩
def Gl (X:Cx) (x:Str):Prop:=X.env.kindOf x=some .globalImplicit
theorem Qo {E:Value->Shared->Prop}{pins:ZCz}{s:Shared}{σ:St} {H:Hp}{x:Str}{u:Value}{pos:Pos}{Q:Value->Shared->Prop}(I:Inv X pins σ H s) (hg:Gl X x) (hm:X.mg x=some u) (h:Q u s)
  (hd:(x == ("__debug__" : Str))=false:=by decide):wpAny (model X.prog X.w) X.A (eval (.Name x pos) X.env) Q E s:=
 ZBm I.ok.kind hg (Calls.loadGlobal_global (by rw [I.ok.glob];exact I.mod.glob.keeps I.bk) hm h) hd
theorem J8 {E:Value->Shared->Prop}{pins:ZCz}{s:Shared}{σ:St} {H:Hp}{x:Str}{u:Value}{pos:Pos}{Q:Value->Shared->Prop}(I:Inv X pins σ H s) (hg:Gl X x) (hm:X.mg x=none) (hv:bootBuiltins x=some u) (h:Q u s)
  (hn:x ≠ "__name__" := by decide) (hd:(x == ("__debug__" : Str))=false:=by decide):wpAny (model X.prog X.w) X.A (eval (.Name x pos) X.env) Q E s:=by
 obtain ⟨mb,h1,h2⟩:=I.mod.blt
 exact ZBm I.ok.kind hg (Calls.loadGlobal_builtin (by rw [I.ok.glob];exact I.mod.glob.keeps I.bk) hm (by rw [I.ok.blt];exact h1.keeps I.bk) ((h2 x hn).trans hv) h) hd
theorem v7 {x:Str}{v:V}{u:Value}{pos:Pos}(hg:Gl X x) (hm:X.mg x=some u) (r:RelV v u) (hd:(x == ("__debug__" : Str))=false:=by decide):PE X (.Name x pos) (tC v):=
 fun _ _ _ H _ I h=>Qo I hg hm ⟨v,H,I,r,h⟩ hd
theorem wF {x:Str}{v:V}{u:Value}{pos:Pos}(hg:Gl X x) (hm:X.mg x=none) (hv:bootBuiltins x=some u) (r:RelV v u) (hn:x ≠ "__name__" := by decide) (hd:(x == ("__debug__" : Str))=false:=by decide):PE X (.Name x pos) (tC v):=
 fun _ _ _ H _ I h=>J8 I hg hm hv ⟨v,H,I,r,h⟩ hn hd
variable {a b:Expr}{ta tb:TE}{pos:Pos}
def PC (X:Cx) (op:CmpOp) (a b:Expr) (t:TE):Prop:=
 ∀ (pins:ZCz) (s:Shared) (σ:St) (H:Hp) (Q:VK),Inv X pins σ H s->t σ H Q->
  wpAny (model X.prog X.w) X.A (eval a X.env) (fun v s₁=>wpAny (model X.prog X.w) X.A (eval b X.env) (fun u s₂=>wpAny (model X.prog X.w) X.A (compareOp op v u) (EP X pins σ Q) X.xe s₂) X.xe s₁) X.xe s
theorem ph (b:Expr){op:CmpOp}(h:op≠.In) (h2:op≠.NotIn):behindInMarks op b=false:=by
 have e1:(op == CmpOp.In)=false:=by cases op <;> first | rfl | exact absurd rfl h
 have e2:(op == CmpOp.NotIn)=false:=by cases op <;> first | rfl | exact absurd rfl h2
 cases b <;> simp [behindInMarks,e1,e2]
def tB (t:TE):TT:=fun σ H Q=>t σ H fun x H1=>∃ c,x=.bl c/\Q c H1
theorem ZL {op:CmpOp}{t:TE}(h:PC X op a b t) (h1:behindInMarks op b=false:=by first | exact ph _ (by decide) (by decide) | rfl):PT X (.Compare a [op] [b] pos) (tB t):=by
 intro pins s σ H Q I hw
 refine wpAny_isTrue_Compare1 (AR (h pins s σ H _ I hw) fun v s1 h1=>AR h1 fun u s2 h2=>AR h2 fun c s3 ⟨x,H1,I1,r1,q1⟩=>?_) h1
 obtain ⟨d,rfl,q⟩:=q1
 cases r1
 exact wpAny_truthy_bool ⟨H1,I1,q⟩
theorem qc {e:Expr}{t:TE}(h:PE X e t) (he:∀ whole,isTrue e X.env whole=(do let v <- whole;standAt e.pos;holding [v] (truthy v)):=by intro _;rfl):PT X e (tB t):=by
 intro pins s σ H Q I hw
 refine isTrue_plain (AR (h pins s σ H _ I hw) fun v s1 ⟨x,H1,I1,r1,q1⟩=>?_) (he _)
 obtain ⟨d,rfl,q⟩:=q1
 cases r1
 exact wpAny_truthy_bool ⟨H1,I1,q⟩
variable {tA IK:TT}{rest:List Expr}
def Oy (t u:TT):TT:=fun σ H Q=>t σ H fun c H1=>if c=true then u σ H1 Q else Q false H1
def SO (t u:TT):TT:=fun σ H Q=>t σ H fun c H1=>if c=true then Q true H1 else u σ H1 Q
def RG (t:TT):TT:=fun σ H Q=>t σ H fun c H1=>Q (!c) H1
theorem pw_and1 (ha:PT X a tA):PW X (.BoolOp .And [a] pos) tA:=by
 intro wh pins s σ H Q I h
 refine isTrue_and (AR (ha pins s σ H Q I h) fun c s1 e=>?_)
 cases c with
 | true=>exact isTrue_and_nil e
 | false=>exact e
theorem pw_or1 (ha:PT X a tA):PW X (.BoolOp .Or [a] pos) tA:=by
 intro wh pins s σ H Q I h
 refine isTrue_or (AR (ha pins s σ H Q I h) fun c s1 e=>?_)
 cases c with
 | false=>exact isTrue_or_nil e
 | true=>exact e
theorem pw_and (ha:PT X a tA) (hb:PW X (.BoolOp .And (b :: rest) pos) IK):PW X (.BoolOp .And (a :: b :: rest) pos) (Oy tA IK):=by
 intro wh pins s σ H Q I h
 refine isTrue_and (AR (ha pins s σ H _ I h) fun c s1 ⟨H1,I1,q1⟩=>?_)
 cases c with
 | true=>exact hb wh pins s1 σ H1 Q I1 q1
 | false=>exact ⟨H1,I1,q1⟩
theorem pw_or (ha:PT X a tA) (hb:PW X (.BoolOp .Or (b :: rest) pos) IK):PW X (.BoolOp .Or (a :: b :: rest) pos) (SO tA IK):=by
 intro wh pins s σ H Q I h
 refine isTrue_or (AR (ha pins s σ H _ I h) fun c s1 ⟨H1,I1,q1⟩=>?_)
 cases c with
 | true=>exact ⟨H1,I1,q1⟩
 | false=>exact hb wh pins s1 σ H1 Q I1 q1
theorem qd (ha:PT X a tA):PT X (.UnaryOp .Not a pos) (RG tA):=by
 intro pins s σ H Q I h
 exact isTrue_not (ha pins s σ H (fun c H1=>Q (!c) H1) I h)
def Sy (ta tb:TE):TE:=fun σ H Q=>ta σ H fun x H1=>∃ c,x=.bl c/\if c=true then tb σ H1 Q else Q (.bl false) H1
def Tj (ta tb:TE):TE:=fun σ H Q=>ta σ H fun x H1=>∃ c,x=.bl c/\if c=true then Q (.bl true) H1 else tb σ H1 Q
def YD (ta:TE):TE:=fun σ H Q=>ta σ H fun x H1=>∃ c,x=.bl c/\Q (.bl (!c)) H1
theorem zY {op} {t:TE}(h:PE X a t):PE X (.BoolOp op [a] pos) t:=fun pins s σ H Q I hw=>BoolOp_one (h pins s σ H Q I hw)
theorem vf (ha:PE X a ta) (hb:PE X (.BoolOp .And (b :: rest) pos) tb):PE X (.BoolOp .And (a :: b :: rest) pos) (Sy ta tb):=by
 intro pins s σ H Q I h
 refine BoolOp_and (AR (ha pins s σ H _ I h) fun v s1 ⟨x,H1,I1,r1,q1⟩=>?_)
 obtain ⟨c,rfl,q1⟩:=q1
 cases r1
 refine wpAny_truthy_bool ?_
 cases c with
 | true=>exact hb pins s1 σ H1 Q I1 q1
 | false=>exact ⟨.bl false,H1,I1,rfl,q1⟩
theorem rf (ha:PE X a ta) (hb:PE X (.BoolOp .Or (b :: rest) pos) tb):PE X (.BoolOp .Or (a :: b :: rest) pos) (Tj ta tb):=by
 intro pins s σ H Q I h
 refine BoolOp_or (AR (ha pins s σ H _ I h) fun v s1 ⟨x,H1,I1,r1,q1⟩=>?_)
 obtain ⟨c,rfl,q1⟩:=q1
 cases r1
 refine wpAny_truthy_bool ?_
 cases c with
 | false=>exact hb pins s1 σ H1 Q I1 q1
 | true=>exact ⟨.bl true,H1,I1,rfl,q1⟩
theorem v8 (ha:PE X a ta):PE X (.UnaryOp .Not a pos) (YD ta):=by
 intro pins s σ H Q I h
 refine UnaryOp_ (AR (ha pins s σ H _ I h) fun v s1 ⟨x,H1,I1,r1,q1⟩=>?_)
 obtain ⟨c,rfl,q1⟩:=q1
 cases r1
 exact not_of (wpAny_truthy_bool ⟨.bl (!c),H1,I1,rfl,q1⟩)
end
def AE (K:ZCy) (H:Hp) (a:Addr) (xs:List V):Prop:=
 Rd H a (.lst xs)∨
  ∃ (o:Obj) (A6:Array Value) (n:Nat),K.lookup a=some o/\o.cls=.type "list" /\ o.dict=none/\o.data=.seq A6 n/\A6.size<=sizeLine/\Vals xs A6.toList
def A9 (K:ZCy) (H:Hp) (a:Addr) (xs:List V):Prop:=
 Rd H a (.tup xs)∨
  ∃ (o:Obj) (A6:Array Value) (n:Nat),K.lookup a=some o/\o.cls=.type "tuple" /\ o.data=.seq A6 n/\A6.size<=sizeLine/\Vals xs A6.toList
noncomputable def qm:Value->Option V
 | .none=>some .AF
 | .bool b=>some (.bl b)
 | .int i _=>some (.int i)
 | .str x _=>some (.str x)
 | .bytes b _=>some (.G1 b)
 | .float b _=>some (.JV b)
 | .ref a=>some (.ref a)
 | .type n=>some (.ty n)
 | _=>none
theorem RelV.abs {x:V}{u:Value}(r:RelV x u):qm u=some x:=by
 cases x with
 | AF=>cases r;rfl
 | bl _=>cases r;rfl
 | int _=>obtain ⟨t,rfl⟩:=r;rfl
 | str _=>obtain ⟨t,rfl⟩:=r;rfl
 | G1 _=>obtain ⟨t,rfl⟩:=r;rfl
 | JV _=>obtain ⟨t,rfl⟩:=r;rfl
 | ref _=>cases r;rfl
 | ty _=>cases r;rfl
theorem RelV.inj {x y:V}{u:Value}(r:RelV x u) (q:RelV y u):x=y:=BU (r.abs.symm.trans q.abs)
theorem Vals.inj:∀ {xs ys:List V}{us:List Value},Vals xs us->Vals ys us->xs=ys
 | _,_,_,.nil,.nil=>rfl
 | _,_,_,.cons r t,.cons r' t'=>by rw [r.inj r',Vals.inj t t']
section
variable {X:Cx}{pins:ZCz}{σ:St} {H:Hp}{s:Shared}{a:Addr}{xs ys:List V}
theorem AE.of {K:ZCy}(h:H a=some (.lst xs)):AE K H a xs:=.inl (.inl h)
theorem A9.of {K:ZCy}(h:H a=some (.tup xs)):A9 K H a xs:=.inl (.inl h)
theorem Inv.list (I:Inv X pins σ H s) (h:AE X.K H a xs):∃ A6:List Value,Vals xs A6/\PlainL s.heap a A6.toArray/\xs.length<=sizeLine:=by
 rcases h with h | ⟨o,A6,n,hk,hc,hd,hs,hz,r⟩
 ·obtain ⟨z,A6,n,r,e⟩:=h.ok I.AM
  exact ⟨A6,r,⟨_,n,e,rfl,rfl,rfl⟩,z⟩
 ·refine ⟨A6.toList,r,⟨o,n,I.CW a o hk,hc,hd,by simpa using hs⟩,?_⟩
  have e:=r.length
  simp only [Cj] at e
  omega
theorem Inv.tuple (I:Inv X pins σ H s) (h:A9 X.K H a xs):∃ A6:List Value,Vals xs A6/\IsTup s.heap a A6.toArray/\xs.length<=sizeLine:=by
 rcases h with h | ⟨o,A6,n,hk,hc,hs,hz,r⟩
 ·obtain ⟨z,A6,r,p⟩:=h.ok I.AM
  exact ⟨A6,r,p.1,z⟩
 ·refine ⟨A6.toList,r,⟨o,I.CW a o hk,hc,n,by simpa using hs⟩,?_⟩
  have e:=r.length
  simp only [Cj] at e
  omega
theorem Inv.nv (I:Inv X pins σ H s) (h:AE X.K H a xs) (h':AE X.K H a ys):xs=ys:=by
 obtain ⟨A6,r,⟨o,n,e,_,_,d⟩,_⟩:=I.list h
 obtain ⟨its',r',⟨o',n',e',_,_,d'⟩,_⟩:=I.list h'
 rw [e] at e';cases e'
 rw [d] at d'
 injection d' with d1 _
 have:A6=its':=by simpa using congrArg Array.toList d1
 subst this
 exact r.inj r'
theorem Inv.uC (I:Inv X pins σ H s) (h:A9 X.K H a xs) (h':A9 X.K H a ys):xs=ys:=by
 obtain ⟨A6,r,⟨o,e,_,n,d⟩,_⟩:=I.tuple h
 obtain ⟨its',r',⟨o',e',_,n',d'⟩,_⟩:=I.tuple h'
 rw [e] at e';cases e'
 rw [d] at d'
 injection d' with d1 _
 have:A6=its':=by simpa using congrArg Array.toList d1
 subst this
 exact r.inj r'
end
noncomputable abbrev Cx.HN (X:Cx) (E:Value->Shared->Prop):Cx:={ X with xe:=E }
noncomputable abbrev Cx.O1 (X:Cx):Cx:=X.HN fun _ _=>False
theorem Cx.Ok.HN {X:Cx}(ok:X.Ok) (E:Value->Shared->Prop):(X.HN E).Ok:=
 ⟨ok.mod,ok.kind,ok.glob,ok.blt,ok.above,ok.inj,ok.has,ok.JT,ok.hd,ok.frames,ok.Ho,ok.Je,ok.bs,ok.G5,ok.Ik,ok.J0,ok.Ef,ok.Hj⟩
theorem Cx.Ok.J7 {X:Cx}{E:Value->Shared->Prop}(ok:(X.HN E).Ok):X.Ok:=
 ⟨ok.mod,ok.kind,ok.glob,ok.blt,ok.above,ok.inj,ok.has,ok.JT,ok.hd,ok.frames,ok.Ho,ok.Je,ok.bs,ok.G5,ok.Ik,ok.J0,ok.Ef,ok.Hj⟩
section
variable {X:Cx}{pins:ZCz}{σ:St} {H:Hp}{s:Shared}{E:Value->Shared->Prop}
theorem Inv.HN (I:Inv X pins σ H s) (E:Value->Shared->Prop):Inv (X.HN E) pins σ H s:=⟨I.ok.HN E,I.os,I.bare,I.base,I.loc,I.cell,I.free,I.Eh,I.pin,I.AM,I.len⟩
theorem Inv.J7 (I:Inv (X.HN E) pins σ H s):Inv X pins σ H s:=⟨I.ok.J7,I.os,I.bare,I.base,I.loc,I.cell,I.free,I.Eh,I.pin,I.AM,I.len⟩
theorem SP.J7 {D:Ends}{f:Flow}{s':Shared}(h:SP (X.HN E) pins D f s'):SP X pins D f s':=by
 cases f with
 | next=>obtain ⟨σ',H',I,q⟩:=h;exact ⟨σ',H',I.J7,q⟩
 | brk=>obtain ⟨σ',H',I,q⟩:=h;exact ⟨σ',H',I.J7,q⟩
 | cont=>obtain ⟨σ',H',I,q⟩:=h;exact ⟨σ',H',I.J7,q⟩
 | ret u=>obtain ⟨v,σ',H',I,r,q⟩:=h;exact ⟨v,σ',H',I.J7,r,q⟩
theorem DX.O1 {st:List Stmt}{t:TS}(h:DX X.O1 st t):DX X st t:=fun pins s σ H D I hw=>
 wpAny_mono (h pins s σ H D (I.HN _) hw) (fun _ _ q=>q.J7) fun _ _ z=>False.elim z
end
section
variable {X:Cx}{st:Stmt}{rest:List Stmt}{t u:TS}{e:Expr}{te:TE}{pos:Pos}
def UK:TS:=fun D σ H=>D.nx σ H
def OK (t u:TS):TS:=fun D σ H=>t { D with nx:=u D } σ H
theorem uL:DX X [] UK:=fun _ _ σ H _ I h=>wpAny_execs_nil ⟨σ,H,I,h⟩
theorem zP (h1:PS X st t) (h2:DX X rest u):DX X (st :: rest) (OK t u):=by
 intro pins s σ H D I h
 refine wpAny_execs_cons (AR (h1 pins s σ H { D with nx:=u D } I h) fun f s1 q=>?_)
 cases f with
 | next=>
  obtain ⟨σ',H',I',q⟩:=q
  exact h2 pins s1 σ' H' D I' q
 | ret v=>exact q
 | brk=>exact q
 | cont=>exact q
theorem tT (h1:PS X st t):DX X [st] t:=by
 intro pins s σ H D I h
 refine wpAny_execs_cons (AR (h1 pins s σ H D I h) fun f s1 q=>?_)
 cases f with
 | next=>exact wpAny_execs_nil q
 | ret v=>exact q
 | brk=>exact q
 | cont=>exact q
theorem Inv.quiet {pins:ZCz}{σ:St} {H:Hp}{s:Shared}(I:Inv X pins σ H s):interactive X.env=false:=by simp [interactive,I.ok.kind]
def J1 (te:TE):TS:=fun D σ H=>te σ H fun _ H1=>D.nx σ H1
theorem jh (he:PE X e te) (hs:swapsWith e none pos.line X.env=pure false:=by rfl):PS X (.Expr e pos) (J1 te):=by
 intro pins s σ H D I h
 exact wpAny_Expr_any (AR (he pins s σ H _ I h) fun v s1 ⟨x,H1,I1,r1,q1⟩=>⟨σ,H1,I1,q1⟩) I.quiet hs
def Fn (te:TE):TS:=fun D σ H=>te σ H D.rt
theorem z6 (he:PE X e te):PS X (.Return (some e) pos) (Fn te):=by
 intro pins s σ H D I h
 exact wpAny_Return_some (AR (he pins s σ H _ I h) fun v s1 ⟨x,H1,I1,r1,q1⟩=>⟨x,σ,H1,I1,r1,q1⟩)
def Pk (c:TT) (t u:TS):TS:=fun D σ H=>c σ H fun b H1=>if b=true then t D σ H1 else u D σ H1
theorem zO {c:Expr}{a b:List Stmt}{tc:TT}(hc:PT X c tc) (ha:DX X a t) (hb:DX X b u):PS X (.If c a b pos) (Pk tc t u):=by
 intro pins s σ H D I h
 refine wpAny_If (AR (hc pins s σ H _ I h) fun d s1 ⟨H1,I1,q1⟩=>?_)
 cases d with
 | true=>exact ha pins s1 σ H1 D I1 q1
 | false=>exact hb pins s1 σ H1 D I1 q1
def cW:TS:=fun _ _ _=>False
theorem zo:PS X st cW:=fun _ _ _ _ _ _ h=>h.elim
end
abbrev TG:=V->St->Hp->(St->Hp->Prop)->Prop
abbrev HI:=List V->St->Hp->(St->Hp->Prop)->Prop
def PG (X:Cx) (target:Expr) (t:TG):Prop:=
 ∀ (pins:ZCz) (s:Shared) (σ:St) (H:Hp) (v:V) (u:Value) (Q:St->Hp->Prop),Inv X pins σ H s->RelV v u->t v σ H Q->
  wpAny (model X.prog X.w) X.A (assign target X.env u) (fun _ s'=>∃ σ' H',Inv X pins σ' H' s'/\Q σ' H') X.xe s
def NY (X:Cx) (ts:List Expr) (t:HI):Prop:=
 ∀ (pins:ZCz) (s:Shared) (σ:St) (H:Hp) (vs:List V) (us:List Value) (Q:St->Hp->Prop),Inv X pins σ H s->Vals vs us->t vs σ H Q->
  wpAny (model X.prog X.w) X.A (assignInOrder ((assignEach ts X.env).map (·.2)) us) (fun _ s'=>∃ σ' H',Inv X pins σ' H' s'/\Q σ' H') X.xe s
abbrev RC:=V->V->V->Hp->(Hp->Prop)->Prop
def Xl (X:Cx) (t:RC):Prop:=
 ∀ (pins:ZCz) (s:Shared) (σ:St) (H:Hp) (o i v:V) (ov iv u:Value) (Q:Hp->Prop),Inv X pins σ H s->RelV o ov->RelV i iv->RelV v u->t o i v H Q->
  wpAny (model X.prog X.w) X.A (setItem ov iv u) (fun _ s'=>∃ H',Inv X pins σ H' s'/\Q H') X.xe s
abbrev Yf:=V->V->Hp->VK->Prop
def PIp (X:Cx) (op:Operator) (t:Yf):Prop:=
 ∀ (pins:ZCz) (s:Shared) (σ:St) (H:Hp) (x y:V) (v u:Value) (Q:VK),Inv X pins σ H s->RelV x v->RelV y u->t x y H Q->
  wpAny (model X.prog X.w) X.A (inplaceOp op v u) (EP X pins σ Q) X.xe s
section
variable {X:Cx}{pos:Pos}
def Cn (i:Nat):TG:=fun v σ H Q=>Q (σ.set i (some v)) H
theorem dh {i:Nat}{x:Str}(hN:X.N.Nodup) (hi:X.N[i]?=some x) (hx:Loc X.env.scope x) (hf:X.fn x=true∨X.env.scope.names.lookup x=some .local:=by first | exact .inl rfl | exact .inr rfl | assumption):PG X (.Name x pos) (Cn i):=by
 intro pins s σ H v u Q I r h
 exact wpAny_assign_Name (ZJ I hN hi hx r (fun s' I'=>⟨_,H,I',h⟩) hf)
def Mh:HI:=fun vs σ H Q=>vs=[]/\Q σ H
def Gb (t:TG) (u:HI):HI:=fun vs σ H Q=>∃ v r,vs=v :: r/\t v σ H fun σ' H'=>u r σ' H' Q
theorem nC:NY X [] Mh:=by
 intro pins s σ H vs us Q I r h
 obtain ⟨e,h⟩:=h
 subst e
 cases r
 exact assignInOrder_nil ⟨σ,H,I,h⟩
theorem ze {e:Expr}{es:List Expr}{t:TG}{u:HI}(h1:PG X e t) (h2:NY X es u)
  (hs:(assignEach (e :: es) X.env).map (·.2)=assign e X.env :: (assignEach es X.env).map (·.2):=by rfl):NY X (e :: es) (Gb t u):=by
 intro pins s σ H vs us Q I r h
 obtain ⟨v,vr,e1,h⟩:=h
 subst e1
 cases r with
 | cons r rr=>
  rw [hs]
  refine assignInOrder_cons (AR (h1 pins s σ H _ _ _ I r h) fun _ s1 ⟨σ1,H1,I1,q1⟩=>?_)
  exact h2 pins s1 σ1 H1 _ _ Q I1 rr q1
def OD (K:ZCy) (n:Nat) (t:HI):TG:=fun v σ H Q=>∃ a xs,v=.ref a/\A9 K H a xs/\xs.length=n/\t xs σ H Q
theorem md {es:List Expr}{k:Nat}{t:HI}{n:Nat}(hc:X.calm=true) (h:NY X es t)
  (hn:(assignEach es X.env).length=n:=by rfl) (BY:(assignEach es X.env).findIdx? (·.1)=none:=by rfl):PG X (.Tuple es k pos) (OD X.K n t):=by
 intro pins s σ H v u Q I r hw
 obtain ⟨a,xs,e1,hq,hl,hw⟩:=hw
 subst e1
 cases r
 obtain ⟨A6,rv,ht,hz⟩:=I.tuple hq
 refine assign_Tuple_tuple (I.ok.hd hc) ht (by simp [hn,<- hl,rv.length]) BY fun h' hx=>?_
 have I1:Inv X pins σ H { s with heap:=h' }:=I.kept (t':=s.toks) fun b o e=>hx b o (Bx (BA e)) e
 exact h pins _ σ H xs _ Q I1 (by simpa using rv) hw
def U3 (to ti:TE) (t:RC):TG:=fun v σ H Q=>to σ H fun o H1=>ti σ H1 fun i H2=>t o i v H2 fun H3=>Q σ H3
theorem u5 {o i:Expr}{to ti:TE}{t:RC}(ho:PE X o to) (hi:PE X i ti) (hs:Xl X t)
  (ha:∀ v,assign (.Subscript o i pos) X.env v=(do
   let ov <- holding [v] (eval o X.env)
   let iv <- holding [v,ov] (eval i X.env)
   standAt pos
   holding [v,ov,iv] (setItem ov iv v)
   release [v,ov,iv] []):=by intro _;rfl):PG X (.Subscript o i pos) (U3 to ti t):=by
 intro pins s σ H v u Q I r h
 rw [ha]
 refine wpAny_bind (wpAny_holding (AR (ho pins s σ H _ I h) fun ov s1 ⟨x,H1,I1,r1,q1⟩=>?_))
 refine wpAny_bind (wpAny_holding (AR (hi pins s1 σ H1 _ I1 q1) fun iv s2 ⟨y,H2,I2,r2,q2⟩=>?_))
 refine wpAny_bind (wpAny_standAt (wpAny_bind (wpAny_holding (AR (hs pins s2 σ H2 x y v ov iv u _ I2 r1 r2 r q2) fun _ s3 ⟨H3,I3,q3⟩=>?_))))
 exact wpAny_release ⟨σ,H3,I3,q3⟩
def FF (te:TE) (g:TG):TS:=fun D σ H=>te σ H fun x H1=>g x σ H1 D.nx
theorem ZAj {tg e:Expr}{te:TE}{g:TG}(he:PE X e te) (hg:PG X tg g) (hs:swapsWithSole [tg] e pos.line X.env=pure false:=by rfl) (hw:swappedStores [tg] e X.env=pure none:=by rfl)
  (h1:(assignEach [tg] X.env).map (·.2)=[assign tg X.env]:=by rfl):PS X (.Assign [tg] e pos) (FF te g):=by
 intro pins s σ H D I h
 refine wpAny_Assign_stores (AR (he pins s σ H _ I h) fun v s1 ⟨x,H1,I1,r1,q1⟩=>?_) hs hw
 rw [h1]
 exact AR (hg pins s1 σ H1 x v _ I1 r1 q1) fun _ s2 q=>q
theorem pS {i:Nat}{x:Str}{e:Expr}{te:TE}{pos':Pos}(hN:X.N.Nodup) (hi:X.N[i]?=some x) (hx:Loc X.env.scope x) (he:PE X e te) (hs:swapsWith e (some (.Name x pos')) pos.line X.env=pure false:=by rfl) (hf:X.fn x=true∨X.env.scope.names.lookup x=some .local:=by first | exact .inl rfl | exact .inr rfl | assumption) :
  PS X (.Assign [.Name x pos'] e pos) (FF te (Cn i)):=by
 intro pins s σ H D I h
 refine wpAny_Assign_Name (AR (he pins s σ H _ I h) fun v s1 ⟨y,H1,I1,r1,q1⟩=>?_) hs
 exact ZJ I1 hN hi hx r1 (fun s2 I2=>⟨_,H1,I2,q1⟩) hf
def aK (f:Int->Int->Int):Yf:=fun x y H Q=>∃ i j,x=.int i/\y=.int j/\Q (.int (f i j)) H
theorem XF:PIp X .Add (aK fun i j=>i+j):=by
 intro pins s σ H x y v u Q I r1 r2 h
 obtain ⟨i,j,e1,e2,q⟩:=h
 subst e1;subst e2
 obtain ⟨t,rfl⟩:=r1
 obtain ⟨t',rfl⟩:=r2
 exact iadd_int ⟨.int _,H,I.tok _,⟨_,rfl⟩,q⟩
def cO (c:TT) (tb:TS):TS:=fun D σ H=>∃ W:Nat->St->Hp->Prop,(∃ m,W m σ H)/\∀ m σ H,W m σ H->
 c σ H fun b H1=>if b=true then ∃ N:St->Hp->Prop,(∀ σ' H',N σ' H'->∃ m',m' < m/\W m' σ' H')/\tb { D with nx:=N,ct:=N,bk:=D.nx } σ H1 else D.nx σ H1
theorem jc {c:Expr}{body:List Stmt}{tc:TT}{tb:TS}(hp:PassesOwn (model X.prog X.w) X.A X.env X.xe) (hc:PT X c tc) (hb:DX X body tb):PS X (.While c body [] pos) (cO tc tb):=by
 intro pins s σ H D I h
 obtain ⟨W,⟨m0,w0⟩,turn⟩:=h
 refine wpAny_While (codeAny_whileLoop (fun n s'=>∃ σ' H',Inv X pins σ' H' s'/\W n σ' H') ?_ m0 ⟨σ,H,I,w0⟩)
 rintro n s1 ⟨σ1,H1,I1,w1⟩
 refine wpAny_passesOwn hp (AR (hc pins s1 σ1 H1 _ I1 (turn n σ1 H1 w1)) fun b s2 ⟨H2,I2,q2⟩=>?_)
 cases b with
 | true=>
  obtain ⟨N,hN,q2⟩:=q2
  rw [if_pos rfl]
  refine wpAny_passesOwn hp (AR (hb pins s2 σ1 H2 _ I2 q2) fun f s3 q3=>?_)
  cases f with
  | next=>
   obtain ⟨σ3,H3,I3,n3⟩:=q3
   obtain ⟨m',hm,w3⟩:=hN σ3 H3 n3
   exact ⟨m',hm,σ3,H3,I3,w3⟩
  | cont=>
   obtain ⟨σ3,H3,I3,n3⟩:=q3
   obtain ⟨m',hm,w3⟩:=hN σ3 H3 n3
   exact ⟨m',hm,σ3,H3,I3,w3⟩
  | brk=>exact q3
  | ret v=>exact q3
 | false=>
  rw [if_neg DF]
  exact wpAny_execs_nil ⟨σ1,H2,I2,q2⟩
end
structure It where
 go:Nat->Hp->Prop
 Gg:Nat->Hp->V->Hp->Prop
 stop:Nat->Hp->Prop
def ED (X:Cx) (pins:ZCz) (H:Hp) (b:Addr):Prop:=
 H b=none/\b≠X.env.locals/\b∉X.fs/\(b∈X.ex∨X.s₀.heap.objs.size<=b)/\(∀ x c,X.env.cells.lookup x=some c->c≠b)/\∀ p∈X.pn++pins,p.1≠b
theorem Inv.N8 {X:Cx}{pins:ZCz}{σ:St} {H H':Hp}{s:Shared}{b:Addr}(I:Inv X pins σ H s) (hb:s.heap.objs.size<=b) (hn:H' b=none):ED X pins H' b:=by
 refine ⟨hn,L6 (EB I.lt hb),I.rS hb,.inr (Cs I.sz hb),fun x c e z=>?_,fun p hp z=>?_⟩
 ·obtain ⟨v,q⟩:=I.cell x c e
  exact absurd (EB q.lt (by rw [z];exact hb)) (L4 _)
 ·exact absurd (EB (BA (I.pin p hp).1) (by rw [z];exact hb)) (L4 _)
structure Turn (P:Program) (w:World) (K:ZCy) (tg:Expr) (J:It) (fp:List Addr) (it:Addr) (tn:Nat->Heap->Prop):Prop where
 mem:it∈fp
 obj:∀ i h,tn i h->∀ b∈fp,∃ o,h.get? b=some o/\∀ v,o.data≠.cell v
 keep:∀ i h h',tn i h->(∀ b∈fp,∀ o,h.get? b=some o->h'.get? b=some o)->tn i h'
 item:∀ (X:Cx),X.prog=P->X.w=w->X.K=K->X.calm=true->∀ (i:Nat) (pins:ZCz) (s:Shared) (σ:St) (H:Hp) (E:Value->Shared->Prop),Inv X pins σ H s->(∀ b∈fp,ED X pins H b)->tn i s.heap->J.go i H->
  wpAny (model P w) X.A (pyNext (.ref it)) (fun r s1=>∃ u,r=some u/\
   wpAny (model P w) X.A (letOwnedTupleGo tg (.ref it) u) (fun _ s2=>∃ x H',Inv X pins σ H' s2/\RelV x u/\J.Gg i H x H'/\tn (i+1) s2.heap/\∀ b∈fp,H' b=none) E s1) E s
 done:∀ (X:Cx),X.prog=P->X.w=w->X.K=K->X.calm=true->∀ (i:Nat) (pins:ZCz) (s:Shared) (σ:St) (H:Hp) (E:Value->Shared->Prop),Inv X pins σ H s->(∀ b∈fp,ED X pins H b)->tn i s.heap->J.stop i H->
  wpAny (model P w) X.A (pyNext (.ref it)) (fun r s1=>r=none/\Inv X pins σ H s1) E s
 self:∀ (A:Around) (i:Nat) (s:Shared) (Q:Value->Shared->Prop) (E:Value->Shared->Prop),tn i s.heap->Q (.ref it) s->wpAny (model P w) A (pyIter (.ref it)) Q E s
abbrev TI:=St->Hp->(It->Hp->Prop)->Prop
def cP (X:Cx) (pins:ZCz) (σ:St) (tg:Expr) (R:It->Hp->Prop) (Qz:Value) (s2:Shared):Prop:=
 ∃ (it:Addr) (fp:List Addr) (tn:Nat->Heap->Prop) (J:It) (H':Hp),Qz=.ref it/\Inv X pins σ H' s2/\Turn X.prog X.w X.K tg J fp it tn/\tn 0 s2.heap/\(∀ b∈fp,ED X pins H' b)/\R J H'
def PI (X:Cx) (tg iter:Expr) (wi:TI):Prop:=
 ∀ (pins:ZCz) (s:Shared) (σ:St) (H:Hp) (R:It->Hp->Prop),Inv X pins σ H s->wi σ H R->
  wpAny (model X.prog X.w) X.A (eval iter X.env) (fun v s1=>wpAny (model X.prog X.w) X.A (pyIter v) (cP X pins σ tg R) X.xe s1) X.xe s
theorem P2 {M:Model}{A:Around}{E:Value->Shared->Prop}{s:Shared}{tg:Expr}{it:Addr}{u:Value}{o:Obj}{n:String}{vs:Array Value}{Q:Unit->Shared->Prop}(ho:s.heap.get? it=some o) (hc:o.cls=.type n) (hd:o.data=.fields vs)
  (hn:["enumerate", "zip", "dict_itemiterator", "dict_reverseitemiterator", "odict_iterator", "itertools.zip_longest", "itertools.pairwise"].contains n=false) (hQ:Q () s):wpAny M A (letOwnedTupleGo tg (.ref it) u) Q E s:=by
 unfold letOwnedTupleGo
 cases tg <;> first
  | exact wpAny_pure hQ
  | (cases u <;> first
    | exact wpAny_pure hQ
    | (
      refine wpAny_bind (wpAny_load ho ?_)
      rw [hc,hd]
      show wpAny M A (if (["enumerate", "zip", "dict_itemiterator", "dict_reverseitemiterator", "odict_iterator", "itertools.zip_longest", "itertools.pairwise"].contains n && vs[0]? == some (rawInt _))=true then _ else _) Q E s
      rw [if_neg (by intro h;rw [hn,Bool.false_and] at h;cases h)]
      exact wpAny_pure hQ))
noncomputable def jV (K:ZCy) (a:Addr):It:=
 ⟨fun i H=>∃ xs x,AE K H a xs/\xs[i]?=some x,fun i H x H'=>H'=H/\∀ xs,AE K H a xs->xs[i]?=some x,fun i H=>∃ xs,AE K H a xs/\xs.length<=i⟩
noncomputable def pj (K:ZCy) (a:Addr):It:=
 ⟨fun i H=>∃ xs x,A9 K H a xs/\xs[i]?=some x,fun i H x H'=>H'=H/\∀ xs,A9 K H a xs->xs[i]?=some x,fun i H=>∃ xs,A9 K H a xs/\xs.length<=i⟩
noncomputable def Ji (lo:Int) (n:Nat):It:=⟨fun i _=>i < n,fun i H x H'=>H'=H/\x=.int (lo+i),fun i _=>n<=i⟩
theorem O9 {P:Program}{w:World}{K:ZCy}{tg:Expr}(a it:Addr):Turn P w K tg (jV K a) [it] it (fun i h=>h.IsListIter it a i) where
 mem:=by simp
 obj:=fun i h st b hb=>by
  have e:b=it:=by simpa using hb
  subst e
  obtain ⟨o,e,c,d⟩:=st
  exact ⟨o,e,fun v z=>by rw [d] at z;cases z⟩
 keep:=fun i h h' st k=>st.at fun o e=>k it (by simp) o e
 item:=by
  intro X hP hw hK hc i pins s σ H E I hf st hg
  subst hP hw hK
  obtain ⟨xs,x,hq,hx⟩:=hg
  obtain ⟨A6,rv,p,hz⟩:=I.list hq
  obtain ⟨u,hu,ru⟩:=rv.get hx
  obtain ⟨f0,f1,f2,f3,f4,f5⟩:=hf it (by simp)
  refine wpAny_pyNext_list_item st p.isList (x:=u) (by simpa using hu) fun h' DE sb=>?_
  have I1:Inv X pins σ H { s with heap:=h' }:=I.turned (t':=s.toks) (fun b o hb e=>(sb.2 b hb).trans e) f0 f1 f3 f4 f5
  obtain ⟨o,e,c,d⟩:=id DE
  exact ⟨u,rfl,P2 (s:={ s with heap:=h' }) e c d (by decide) ⟨x,H,I1,ru,⟨rfl,fun ys hy=>by rw [I.nv hy hq];exact hx⟩,DE,fun b hb=>(hf b hb).1⟩⟩
 done:=by
  intro X hP hw hK hc i pins s σ H E I hf st hg
  subst hP hw hK
  obtain ⟨xs,hq,hx⟩:=hg
  obtain ⟨A6,rv,p,hz⟩:=I.list hq
  obtain ⟨f0,f1,f2,f3,f4,f5⟩:=hf it (by simp)
  have hl:=rv.length
  exact wpAny_pyNext_list_end (I.ok.hd hc) st p.isList (by simp;omega) fun h' eb=>⟨rfl,I.turned (t':=s.toks) (fun b o hb e=>eb b o hb e) f0 f1 f3 f4 f5⟩
 self:=fun _ _ _ _ _ st h=>wpAny_pyIter_listiter st h
theorem Nd {P:Program}{w:World}{K:ZCy}{tg:Expr}(a it:Addr):Turn P w K tg (pj K a) [it] it (fun i h=>h.IsTupleIter it a i) where
 mem:=by simp
 obj:=fun i h st b hb=>by
  have e:b=it:=by simpa using hb
  subst e
  obtain ⟨o,e,c,d⟩:=st
  exact ⟨o,e,fun v z=>by rw [d] at z;cases z⟩
 keep:=fun i h h' st k=>st.at fun o e=>k it (by simp) o e
 item:=by
  intro X hP hw hK hc i pins s σ H E I hf st hg
  subst hP hw hK
  obtain ⟨xs,x,hq,hx⟩:=hg
  obtain ⟨A6,rv,p,hz⟩:=I.tuple hq
  obtain ⟨u,hu,ru⟩:=rv.get hx
  obtain ⟨f0,f1,f2,f3,f4,f5⟩:=hf it (by simp)
  refine wpAny_pyNext_tuple_item st (show s.heap.IsTuple a A6.toArray from p) (x:=u) (by simpa using hu) fun h' DE sb=>?_
  have I1:Inv X pins σ H { s with heap:=h' }:=I.turned (t':=s.toks) (fun b o hb e=>(sb.2 b hb).trans e) f0 f1 f3 f4 f5
  obtain ⟨o,e,c,d⟩:=id DE
  exact ⟨u,rfl,P2 (s:={ s with heap:=h' }) e c d (by decide) ⟨x,H,I1,ru,⟨rfl,fun ys hy=>by rw [I.uC hy hq];exact hx⟩,DE,fun b hb=>(hf b hb).1⟩⟩
 done:=by
  intro X hP hw hK hc i pins s σ H E I hf st hg
  subst hP hw hK
  obtain ⟨xs,hq,hx⟩:=hg
  obtain ⟨A6,rv,p,hz⟩:=I.tuple hq
  obtain ⟨f0,f1,f2,f3,f4,f5⟩:=hf it (by simp)
  have hl:=rv.length
  exact wpAny_pyNext_tuple_end (I.ok.hd hc) st (show s.heap.IsTuple a A6.toArray from p) (by simp;omega) fun h' eb=>⟨rfl,I.turned (t':=s.toks) (fun b o hb e=>eb b o hb e) f0 f1 f3 f4 f5⟩
 self:=fun _ _ _ _ _ st h=>wpAny_pyIter_tupleiter st h
theorem lD {P:Program}{w:World}{K:ZCy}{tg:Expr}(it:Addr) (lo:Int) (n:Nat):Turn P w K tg (Ji lo n) [it] it (fun i h=>IsRangeIter h it (lo+(i:Nat) * 1) ((n:Int) - (i:Nat)) 1) where
 mem:=by simp
 obj:=fun i h st b hb=>by
  have e:b=it:=by simpa using hb
  subst e
  exact ⟨_,st,fun v z=>by
   have z':Data.fields _=Data.cell v:=z
   cases z'⟩
 keep:=fun i h h' st k=>k it (by simp) _ st
 item:=by
  intro X hP hw hK hc i pins s σ H E I hf st hg
  subst hP hw hK
  obtain ⟨f0,f1,f2,f3,f4,f5⟩:=hf it (by simp)
  have W:=Walks.range (prog:=X.prog) (w:=X.w) (I.ok.hd hc) it lo 1 n
  refine W.item i s _ _ hg st fun v h' tk hv DE kk=>?_
  obtain ⟨t,rfl⟩:=hv
  have I1:Inv X pins σ H { s with heap:=h',toks:=tk }:=I.turned (fun b o hb e=>kk b o (by simpa using hb) e) f0 f1 f3 f4 f5
  refine ⟨_,rfl,P2 (s:={ s with heap:=h',toks:=tk }) (n := "range_iterator") DE rfl rfl (by decide) ⟨.int (lo+i),H,I1,⟨t,?_⟩,⟨rfl,rfl⟩,DE,fun b hb=>(hf b hb).1⟩⟩
  rw [Int.mul_one]
 done:=by
  intro X hP hw hK hc i pins s σ H E I hf st hg
  subst hP hw hK
  obtain ⟨f0,f1,f2,f3,f4,f5⟩:=hf it (by simp)
  exact wpAny_pyNext_range_end (I.ok.hd hc) st (by have:n<=i:=hg;omega) fun h' eb=>⟨rfl,I.turned (t':=s.toks) (fun b o hb e=>eb b o hb e) f0 f1 f3 f4 f5⟩
 self:=fun _ _ _ _ _ st h=>wpAny_pyIter_rangeiter st h
section
variable {X:Cx}{tg:Expr}
theorem dz {pins:ZCz}{σ:St} {H:Hp}{s:Shared}{R:It->Hp->Prop}{E:Value->Shared->Prop}{lo hi:Int}{t u v:Tok}{tk:Nat}(I:Inv X pins σ H s) (h1:-(2 ^ 62)<=lo) (h2:lo < 2 ^ 62) (h3:-(2 ^ 62)<=hi) (h4:hi < 2 ^ 62)
  (q:R (Ji lo (hi - lo).toNat) H):wpAny (model X.prog X.w) X.A (pyIter (.ref s.heap.objs.size)) (cP X pins σ tg R) E { s with heap:=s.heap.push { cls:=.type "range", data:=.fields #[.int lo t,.int hi u,.int 1 v] },toks:=tk }:=by
 refine wpAny_pyIter_range (IsRange.new ..) (small_one h1 h2 h3 h4) ?_
 have I1:Inv X pins σ H { s with heap:=s.heap.push { cls:=.type "range", data:=.fields #[.int lo t,.int hi u,.int 1 v] },toks:=tk }:=I.kept fun b o e=>Bl _ e
 refine ⟨(s.heap.push { cls:=.type "range", data:=.fields #[.int lo t,.int hi u,.int 1 v] }).objs.size,[(s.heap.push { cls:=.type "range", data:=.fields #[.int lo t,.int hi u,.int 1 v] }).objs.size],_,_,H,rfl,
  I1.kept (t':=tk) fun b o e=>Bl _ e,lD _ lo (hi - lo).toNat,?_,fun b hb=>?_,q⟩
 ·have e1:lo+((0:Nat):Int) * 1=lo:=by simp
  have e2:(((hi - lo).toNat:Nat):Int) - ((0:Nat):Int)=Builtin.Range.rangeSize lo hi 1:=by rw [rangeSize_one];split <;> omega
  show IsRangeIter _ _ (lo+((0:Nat):Int) * 1) ((((hi - lo).toNat:Nat):Int) - ((0:Nat):Int)) 1
  rw [e1,e2]
  exact CI _ rfl
 ·have e:b=(s.heap.push { cls:=.type "range", data:=.fields #[.int lo t,.int hi u,.int 1 v] }).objs.size:=by simpa using hb
  subst e
  exact I1.N8 (An _) (I1.AM.fresh (An _))
def VD (ta:TA):TI:=fun σ H R=>ta σ H fun vs H1=>∃ j:Int,vs=[.int j]/\-(2 ^ 62)<=j/\j < 2 ^ 62/\R (Ji 0 j.toNat) H1
def WW (ta:TA):TI:=fun σ H R=>ta σ H fun vs H1=>∃ i j:Int,vs=[.int i,.int j]/\(-(2 ^ 62)<=i/\i < 2 ^ 62/\-(2 ^ 62)<=j/\j < 2 ^ 62)/\R (Ji i (j - i).toNat) H1
theorem oJ {a:Expr}{ta:TA}{p pos:Pos}(hg:Gl X "range") (hm:X.mg "range" = none) (ha:PA X [a] ta) (hs:starEach [a] X.env=[(false,eval a X.env)]:=by rfl):PI X tg (.Call (.Name "range" p) [a] [] pos) (VD ta):=by
 intro pins s σ H R I h
 refine Call_ (J8 I hg hm boot_range (Oe (AR (ha pos pins s σ H _ I h) fun us s1 ⟨vs,H1,I1,r1,q1⟩=>?_) hs rfl))
 obtain ⟨j,e,q1,q2,q⟩:=q1
 subst e
 cases r1 with
 | cons r rr=>
  cases rr
  obtain ⟨t,rfl⟩:=r
  exact call_range_1 (dz I1 (by omega) (by omega) q1 q2 (by simpa using q))
theorem sF {a b:Expr}{ta:TA}{p pos:Pos}(hg:Gl X "range") (hm:X.mg "range" = none) (ha:PA X [a,b] ta) (hs:starEach [a,b] X.env=[(false,eval a X.env),(false,eval b X.env)]:=by rfl) (Ct:starEach [b] X.env=[(false,eval b X.env)]:=by rfl) :
  PI X tg (.Call (.Name "range" p) [a,b] [] pos) (WW ta):=by
 intro pins s σ H R I h
 refine Call_ (J8 I hg hm boot_range (Oe (AR (ha pos pins s σ H _ I h) fun us s1 ⟨vs,H1,I1,r1,q1⟩=>?_) (by rw [hs,Ct]) (by rw [Ct];rfl)))
 obtain ⟨i,j,e,⟨q1,q2,q3,q4⟩,q⟩:=q1
 subst e
 cases r1 with
 | cons r rr=>
  cases rr with
  | cons r' rr=>
   cases rr
   obtain ⟨t,rfl⟩:=r
   obtain ⟨t',rfl⟩:=r'
   exact call_range_2 (dz I1 q1 q2 q3 q4 q)
def VT (wi:TI) (g:TG) (tb:TS):TS:=fun D σ H=>wi σ H fun J H1=>∃ W:Nat->Nat->St->Hp->Prop,(∃ m,W 0 m σ H1)/\∀ i m σ H,W i m σ H->
 (J.stop i H/\D.nx σ H)∨(J.go i H/\∃ N:St->Hp->Prop,(∀ σ' H',N σ' H'->∃ m',m' < m/\W (i+1) m' σ' H')/\∀ x H',J.Gg i H x H'->g x σ H' fun σ2 H2=>tb { D with nx:=N,ct:=N,bk:=D.nx } σ2 H2)
noncomputable def NL (fp:List Addr) (h:Heap):ZCz:=fp.filterMap fun b=>(h.get? b).map fun o=>(b,o)
theorem Qm {fp:List Addr}{h:Heap}{b:Addr}{o:Obj}(hb:b∈fp) (e:h.get? b=some o):(b,o)∈NL fp h:=List.mem_filterMap.mpr ⟨b,hb,by rw [e];rfl⟩
theorem j4 {fp:List Addr}{h:Heap}{p:Addr×Obj}(hp:p∈NL fp h):p.1∈fp/\h.get? p.1=some p.2:=by
 obtain ⟨b,hb,e⟩:=List.mem_filterMap.mp hp
 cases q:h.get? b with
 | none=>rw [q] at e;cases e
 | some o=>
  rw [q] at e
  have e':(b,o)=p:=BU e
  subst e'
  exact ⟨hb,q⟩
theorem Inv.pinned {pins:ZCz}{σ:St} {H:Hp}{s:Shared}{fp:List Addr}(I:Inv X pins σ H s) (hf:∀ b∈fp,ED X pins H b) (ho:∀ b∈fp,∃ o,s.heap.get? b=some o/\∀ v,o.data≠.cell v):Inv X (pins++NL fp s.heap) σ H s:=
 I.eX fun p hp=>(List.mem_append.mp hp).elim (fun z=>I.pin p (Hk _ z)) fun z=>by
  obtain ⟨hb,e⟩:=j4 z
  obtain ⟨f0,f1,f2,_⟩:=hf p.1 hb
  obtain ⟨o,e',d⟩:=ho p.1 hb
  rw [e] at e';cases e'
  exact ⟨e,f0,f1,f2,d⟩
theorem Inv.OE {pins pl:ZCz}{σ:St} {H:Hp}{s:Shared}(I:Inv X (pins++pl) σ H s):Inv X pins σ H s:=I.eX fun p hp=>I.pin p (Hk _ (Rr _ hp))
theorem mF {iter:Expr}{body:List Stmt}{wi:TI}{g:TG}{tb:TS}{pos:Pos}(hp:PassesOwn (model X.prog X.w) X.A X.env X.xe) (hc:X.calm=true) (hi:PI X tg iter wi) (hg:PG X tg g) (hb:DX X body tb)
  (hs:∀ x,foldedSetIterable iter X.env x=pure x:=by intro _;rfl):PS X (.For tg iter body [] pos) (VT wi g tb):=by
 intro pins s σ H D I h
 refine wpAny_For (AR (hi pins s σ H _ I h) fun v s1 h1=>AR h1 fun Qz s2 h2=>?_) hs
 obtain ⟨it,fp,tn,J,H2,e,I2,T,JS,f2,W,⟨m0,w0⟩,turn⟩:=h2
 subst e
 -- rA stays true of Gw ZCS objects through Gw loop
 have Kd:∀ {H':Hp},(∀ b∈fp,H' b=none)->∀ b∈fp,ED X pins H' b:=fun hn b hb=>⟨hn b hb,(f2 b hb).2⟩
 refine codeAny_forLoop_any (fun n s'=>∃ i σ' H',Inv X pins σ' H' s'/\tn i s'.heap/\(∀ b∈fp,H' b=none)/\W i n σ' H') ?_ m0 ⟨0,σ,H2,I2,JS,fun b hb=>(f2 b hb).1,w0⟩
 rintro n s3 ⟨i,σ3,H3,I3,br,bq,w3⟩
 rcases turn i n σ3 H3 w3 with ⟨stop,qn⟩ | ⟨go,N,hN,step⟩
 ·refine wpAny_passesOwn hp (AR (T.done X rfl rfl rfl hc i pins s3 σ3 H3 X.xe I3 (Kd bq) br stop) fun r s4 ⟨hr,I4⟩=>?_)
  subst hr
  exact wpAny_execs_nil ⟨σ3,H3,I4,qn⟩
 ·refine wpAny_passesOwn hp (AR (T.item X rfl rfl rfl hc i pins s3 σ3 H3 X.xe I3 (Kd bq) br go) fun r s4 ⟨u,hr,h4⟩=>?_)
  subst hr
  refine wpAny_passesOwn hp (AR h4 fun _ s5 ⟨x,H5,I5,r5,y5,Lm,RN⟩=>?_)
  have uq:=I5.pinned (Kd RN) (T.obj _ _ Lm)
  refine wpAny_passesOwn hp (AR (hg _ s5 σ3 H5 x u _ uq r5 (step x H5 y5)) fun _ s6 ⟨σ6,H6,I6,q6⟩=>?_)
  refine wpAny_passesOwn hp (AR (hb _ s6 σ6 H6 _ I6 q6) fun f s7 q7=>?_)
  have again:∀ {σ7:St} {H7:Hp},Inv X (pins++NL fp s5.heap) σ7 H7 s7->N σ7 H7->∃ m,m < n/\∃ i σ' H',Inv X pins σ' H' s7/\tn i s7.heap/\(∀ b∈fp,H' b=none)/\W i m σ' H':=fun {σ7 H7} I7 n7=>by
   obtain ⟨m',hm,w7⟩:=hN σ7 H7 n7
   refine ⟨m',hm,i+1,σ7,H7,I7.OE,T.keep _ _ _ Lm fun b hb o e=>(I7.pin (b,o) (Hk _ (Hk _ (Qm hb e)))).1,fun b hb=>?_,w7⟩
   obtain ⟨o,e,d⟩:=T.obj _ _ Lm b hb
   exact (I7.pin (b,o) (Hk _ (Hk _ (Qm hb e)))).2.1
  cases f with
  | next=>obtain ⟨σ7,H7,I7,n7⟩:=q7;exact again I7 n7
  | cont=>obtain ⟨σ7,H7,I7,n7⟩:=q7;exact again I7 n7
  | brk=>obtain ⟨σ7,H7,I7,q7⟩:=q7;exact ⟨σ7,H7,I7.OE,q7⟩
  | ret v=>obtain ⟨x7,σ7,H7,I7,r7,q7⟩:=q7;exact ⟨x7,σ7,H7,I7.OE,r7,q7⟩
end
theorem oq {lo:Int}{n:Nat}{g:TG}{tb:TS}{D:Ends}{σ:St} {H:Hp}(Pv:Nat->St->Hp->Prop) (h0:Pv 0 σ H)
  (hs:∀ i σ H,i < n->Pv i σ H->g (.int (lo+i)) σ H fun σ2 H2=>tb { D with nx:=Pv (i+1),ct:=Pv (i+1),bk:=D.nx } σ2 H2) (hd:∀ σ H,Pv n σ H->D.nx σ H) :
  ∃ W:Nat->Nat->St->Hp->Prop,(∃ m,W 0 m σ H)/\∀ i m σ H,W i m σ H->
   ((Ji lo n).stop i H/\D.nx σ H)∨((Ji lo n).go i H/\∃ N:St->Hp->Prop,(∀ σ' H',N σ' H'->∃ m',m' < m/\W (i+1) m' σ' H')/\∀ x H',(Ji lo n).Gg i H x H'->g x σ H' fun σ2 H2=>tb { D with nx:=N,ct:=N,bk:=D.nx } σ2 H2):=by
 refine ⟨fun i m σ H=>m=n - i/\i<=n/\Pv i σ H,⟨n,by simp,Cc _,h0⟩,?_⟩
 rintro i m σ H ⟨rfl,hi,p⟩
 by_cases Al:i < n
 ·refine .inr ⟨Al,Pv (i+1),fun σ' H' p'=>⟨n - (i+1),by omega,rfl,Al,p'⟩,fun x H' y=>?_⟩
  obtain ⟨e,y⟩:=y
  subst e y
  exact hs i σ _ Al p
 ·have e:i=n:=by omega
  subst e
  exact .inl ⟨An _,hd σ H p⟩
abbrev R2:=V->V->Hp->VK->Prop
def BB (X:Cx) (f:Value->Value->Sem Value) (r:R2):Prop:=
 ∀ (pins:ZCz) (s:Shared) (σ:St) (H:Hp) (x y:V) (v u:Value) (Q:VK),Inv X pins σ H s->RelV x v->RelV y u->r x y H Q->
  wpAny (model X.prog X.w) X.A (f v u) (EP X pins σ Q) X.xe s
def Ci (X:Cx) (f:Value) (r:List V->Hp->VK->Prop):Prop:=
 ∀ (pins:ZCz) (s:Shared) (σ:St) (H:Hp) (xs:List V) (us:List Value) (Q:VK),Inv X pins σ H s->Vals xs us->r xs H Q->
  wpAny (model X.prog X.w) X.A (call f us) (EP X pins σ Q) X.xe s
def BQ (r:R2) (ta tb:TE):TE:=fun σ H Q=>ta σ H fun x H1=>tb σ H1 fun y H2=>r x y H2 Q
def om (r:V->Hp->VK->Prop) (ta:TE):TE:=fun σ H Q=>ta σ H fun x H1=>r x H1 Q
def rI (C:Int->Int->Prop) (g:Int->Int->V):R2:=fun x y H Q=>∃ i j,x=.int i/\y=.int j/\C i j/\Q (g i j) H
def G4 (g:Int->Int->V):R2:=fun x y H Q=>∃ i j,x=.int i/\y=.int j/\Q (g i j) H
def rU (g:Int->V):V->Hp->VK->Prop:=fun x H Q=>∃ i,x=.int i/\Q (g i) H
section
variable {X:Cx}{a b c:Expr}{ta tb tc:TE}{pos:Pos}
theorem TH (ha:PE X a ta) (hb:PE X b tb){pins:ZCz}{s:Shared}{σ:St} {H:Hp}{R:V->V->Hp->Prop}(I:Inv X pins σ H s)
  (h:ta σ H fun x H1=>tb σ H1 fun y H2=>R x y H2){Q:Value->Shared->Prop}{f:Value->Value->Sem Value}
  (hf:∀ v u s2 x y H2,Inv X pins σ H2 s2->RelV x v->RelV y u->R x y H2->wpAny (model X.prog X.w) X.A (f v u) Q X.xe s2) :
  wpAny (model X.prog X.w) X.A (eval a X.env) (fun v s₁=>wpAny (model X.prog X.w) X.A (eval b X.env) (fun u s₂=>wpAny (model X.prog X.w) X.A (f v u) Q X.xe s₂) X.xe s₁) X.xe s:=by
 refine AR (ha pins s σ H _ I h) fun v s1 ⟨x,H1,I1,r1,q1⟩=>?_
 refine AR (hb pins s1 σ H1 _ I1 q1) fun u s2 ⟨y,H2,I2,r2,q2⟩=>?_
 exact hf v u s2 x y H2 I2 r1 r2 q2
theorem qE {op:Operator}{r:R2}(ho:BB X (binaryOp op) r) (ha:PE X a ta) (hb:PE X b tb):PE X (.BinOp a op b pos) (BQ r ta tb):=by
 intro pins s σ H Q I h
 exact wpAny_BinOp (TH ha hb I h fun v u s2 x y H2 I2 rx ry q=>ho pins s2 σ H2 x y v u Q I2 rx ry q)
theorem Qw {f:Value->Value->Sem Value}{C:Int->Int->Prop}{g:Int->Int->Int}
  (rule:∀ (i j:Int) (t u:Tok) (s:Shared) (Q:Value->Shared->Prop) (E:Value->Shared->Prop),C i j->Q (.int (g i j) s.toks) { s with toks:=s.toks+1 }->wpAny (model X.prog X.w) X.A (f (.int i t) (.int j u)) Q E s) :
  BB X f (rI C fun i j=>.int (g i j)):=by
 intro pins s σ H x y v u Q I rx ry h
 obtain ⟨i,j,rfl,rfl,hc,q⟩:=h
 obtain ⟨t,rfl⟩:=rx
 obtain ⟨t',rfl⟩:=ry
 exact rule i j t t' s _ _ hc ⟨.int (g i j),H,I.tok _,⟨_,rfl⟩,q⟩
theorem Yd {f:Value->Value->Sem Value}{g:Int->Int->Int}
  (rule:∀ (i j:Int) (t u:Tok) (s:Shared) (Q:Value->Shared->Prop) (E:Value->Shared->Prop),Q (.int (g i j) s.toks) { s with toks:=s.toks+1 }->wpAny (model X.prog X.w) X.A (f (.int i t) (.int j u)) Q E s) :
  BB X f (G4 fun i j=>.int (g i j)):=by
 intro pins s σ H x y v u Q I rx ry h
 obtain ⟨i,j,rfl,rfl,q⟩:=h
 obtain ⟨t,rfl⟩:=rx
 obtain ⟨t',rfl⟩:=ry
 exact rule i j t t' s _ _ ⟨.int (g i j),H,I.tok _,⟨_,rfl⟩,q⟩
theorem Oz {f:Value->Value->Sem Value}{g:Int->Int->Bool}
  (rule:∀ (i j:Int) (t u:Tok) (s:Shared) (Q:Value->Shared->Prop) (E:Value->Shared->Prop),Q (.bool (g i j)) s->wpAny (model X.prog X.w) X.A (f (.int i t) (.int j u)) Q E s) :
  BB X f (G4 fun i j=>.bl (g i j)):=by
 intro pins s σ H x y v u Q I rx ry h
 obtain ⟨i,j,rfl,rfl,q⟩:=h
 obtain ⟨t,rfl⟩:=rx
 obtain ⟨t',rfl⟩:=ry
 exact rule i j t t' s _ _ ⟨.bl (g i j),H,I,rfl,q⟩
def wJ (i j:Int):Prop:=0<=j/\j<=1000000/\i.natAbs < 2 ^ 64
theorem D2:BB X (binaryOp .Add) (G4 fun i j=>.int (i+j)):=Yd fun _ _ _ _ _ _ _ q=>add_int q
theorem Nr:BB X (binaryOp .Sub) (G4 fun i j=>.int (i - j)):=Yd fun _ _ _ _ _ _ _ q=>sub_int q
theorem Hh:BB X (binaryOp .Mod) (rI (fun _ j=>0 < j) fun i j=>.int (i % j)):=Qw fun i j _ _ _ _ _ hc q=>by
 have h1:(0:Int) < j:=hc
 exact mod_int' (by omega) (by rw [Int.fmod_eq_emod_of_nonneg i (by omega)];exact q)
theorem La:BB X (binaryOp .Pow) (rI wJ fun i j=>.int (i ^ j.toNat)):=Qw fun _ _ _ _ _ _ _ hc q=>pow_int_small hc.1 hc.2.1 hc.2.2 q
end
noncomputable def MT:V->V->Bool
 | .AF,.AF=>true | .AF,.int _=>true | .int _,.AF=>true | .AF,.bl _=>true | .bl _,.AF=>true | .AF,.str _=>true | .str _,.AF=>true
 | .int _,.int _=>true | .bl _,.bl _=>true | .str _,.str _=>true | .G1 _,.G1 _=>true
 | .int _,.str _=>true | .str _,.int _=>true | .bl _,.str _=>true | .str _,.bl _=>true
 | _,_=>false
def Zs:R2:=fun x y H Q=>MT x y=true/\Q (.bl (decide (x=y))) H
def Yo:R2:=fun x y H Q=>MT x y=true/\Q (.bl (!decide (x=y))) H
theorem cI {i j:Int}:decide (V.int i=V.int j)=(i == j):=by
 rw [OQ]
 simp
theorem Z1 {i j:Bool}:decide (V.bl i=V.bl j)=(i == j):=by
 rw [OQ]
 simp
theorem fF {i j:Str}:decide (V.str i=V.str j)=(i == j):=by
 rw [OQ]
 simp
theorem eU {i j:Array UInt8}:decide (V.G1 i=V.G1 j)=(i.toList == j.toList):=by
 rw [OQ]
 cases i
 cases j
 simp
section
variable {X:Cx}{a b c:Expr}{ta tb tc:TE}{pos:Pos}
theorem Bo {pins:ZCz}{σ:St} {H:Hp}{s:Shared}{Q:VK}{k k':Bool}(I:Inv X pins σ H s) (q:Q (.bl k) H) (e:k=k'):EP X pins σ Q (.bool k') s:=by
 subst e
 exact ⟨.bl k,H,I,rfl,q⟩
theorem BP:BB X (compareOp .Eq) Zs:=by
 intro pins s σ H x y v u Q I rx ry h
 obtain ⟨hs,q⟩:=h
 cases x with
 | AF=>
  cases rx
  cases y with
  | AF=>cases ry;exact PySem.EqNone.eq_none_none (Bo I q (by simp))
  | bl j=>cases ry;exact PySem.EqNone.eq_none_bool (Bo I q (by simp))
  | int j=>obtain ⟨t',rfl⟩:=ry;exact PySem.EqNone.eq_none_int (Bo I q (by simp))
  | str j=>obtain ⟨t',rfl⟩:=ry;exact PySem.EqNone.eq_none_str (Bo I q (by simp))
  | _=>exact absurd (show false=true from hs) DF
 | bl i=>
  cases rx
  cases y with
  | AF=>cases ry;exact PySem.EqNone.eq_bool_none (Bo I q (by simp))
  | bl j=>cases ry;exact eq_bool (Bo I q Z1)
  | str j=>obtain ⟨t',rfl⟩:=ry;exact PySem.EqMixed.eq_bool_str (Bo I q (by simp))
  | _=>exact absurd (show false=true from hs) DF
 | int i=>
  obtain ⟨t,rfl⟩:=rx
  cases y with
  | AF=>cases ry;exact PySem.EqNone.eq_int_none (Bo I q (by simp))
  | int j=>obtain ⟨t',rfl⟩:=ry;exact eq_int (Bo I q cI)
  | str j=>obtain ⟨t',rfl⟩:=ry;exact PySem.EqMixed.eq_int_str (Bo I q (by simp))
  | _=>exact absurd (show false=true from hs) DF
 | str i=>
  obtain ⟨t,rfl⟩:=rx
  cases y with
  | AF=>cases ry;exact PySem.EqNone.eq_str_none (Bo I q (by simp))
  | bl j=>cases ry;exact PySem.EqMixed.eq_str_bool (Bo I q (by simp))
  | int j=>obtain ⟨t',rfl⟩:=ry;exact PySem.EqMixed.eq_str_int (Bo I q (by simp))
  | str j=>obtain ⟨t',rfl⟩:=ry;exact eq_str (Bo I q fF)
  | _=>exact absurd (show false=true from hs) DF
 | G1 i=>
  obtain ⟨t,rfl⟩:=rx
  cases y with
  | G1 j=>obtain ⟨t',rfl⟩:=ry;exact PySem.W.eq_bytes (Bo I q eU)
  | _=>exact absurd (show false=true from hs) DF
 | _=>cases y <;> exact absurd (show false=true from hs) DF
theorem J5:BB X (compareOp .NotEq) Yo:=by
 intro pins s σ H x y v u Q I rx ry h
 obtain ⟨hs,q⟩:=h
 cases x with
 | AF=>
  cases rx
  cases y with
  | AF=>cases ry;exact PySem.EqNone.ne_none_none (Bo I q (by simp))
  | bl j=>cases ry;exact PySem.EqNone.ne_none_bool (Bo I q (by simp))
  | int j=>obtain ⟨t',rfl⟩:=ry;exact PySem.EqNone.ne_none_int (Bo I q (by simp))
  | str j=>obtain ⟨t',rfl⟩:=ry;exact PySem.EqNone.ne_none_str (Bo I q (by simp))
  | _=>exact absurd (show false=true from hs) DF
 | bl i=>
  cases rx
  cases y with
  | AF=>cases ry;exact PySem.EqNone.ne_bool_none (Bo I q (by simp))
  | bl j=>cases ry;exact ne_bool (Bo I q (congrArg not Z1))
  | str j=>obtain ⟨t',rfl⟩:=ry;exact PySem.EqMixed.ne_bool_str (Bo I q (by simp))
  | _=>exact absurd (show false=true from hs) DF
 | int i=>
  obtain ⟨t,rfl⟩:=rx
  cases y with
  | AF=>cases ry;exact PySem.EqNone.ne_int_none (Bo I q (by simp))
  | int j=>obtain ⟨t',rfl⟩:=ry;exact ne_int (Bo I q (congrArg not cI))
  | str j=>obtain ⟨t',rfl⟩:=ry;exact PySem.EqMixed.ne_int_str (Bo I q (by simp))
  | _=>exact absurd (show false=true from hs) DF
 | str i=>
  obtain ⟨t,rfl⟩:=rx
  cases y with
  | AF=>cases ry;exact PySem.EqNone.ne_str_none (Bo I q (by simp))
  | bl j=>cases ry;exact PySem.EqMixed.ne_str_bool (Bo I q (by simp))
  | int j=>obtain ⟨t',rfl⟩:=ry;exact PySem.EqMixed.ne_str_int (Bo I q (by simp))
  | str j=>obtain ⟨t',rfl⟩:=ry;exact ne_str (Bo I q (congrArg not fF))
  | _=>exact absurd (show false=true from hs) DF
 | G1 i=>
  obtain ⟨t,rfl⟩:=rx
  cases y with
  | G1 j=>obtain ⟨t',rfl⟩:=ry;exact PySem.W.ne_bytes (Bo I q (congrArg not eU))
  | _=>exact absurd (show false=true from hs) DF
 | _=>cases y <;> exact absurd (show false=true from hs) DF
theorem FA:BB X (compareOp .Lt) (G4 fun i j=>.bl (decide (i < j))):=Oz fun _ _ _ _ _ _ _ q=>lt_int q
theorem Di:BB X (compareOp .LtE) (G4 fun i j=>.bl (decide (i<=j))):=Oz fun _ _ _ _ _ _ _ q=>le_int q
theorem K4:BB X (compareOp .Gt) (G4 fun i j=>.bl (decide (j < i))):=Oz fun _ _ _ _ _ _ _ q=>gt_int q
theorem LG:BB X (compareOp .GtE) (G4 fun i j=>.bl (decide (j<=i))):=Oz fun _ _ _ _ _ _ _ q=>ge_int q
theorem Zv:BB X (compareOp .In) (fun x y H Q=>∃ i j,x=.str i/\y=.str j/\Q (.bl (!(Builtin.Str.occurrences j i 0 j.length 1).isEmpty)) H):=by
 intro pins s σ H x y v u Q I rx ry h
 obtain ⟨i,j,rfl,rfl,q⟩:=h
 obtain ⟨t,rfl⟩:=rx
 obtain ⟨t',rfl⟩:=ry
 exact in_str (Bo I q rfl)
theorem yB:BB X (compareOp .Is) (fun x y H Q=>y=.AF/\Q (.bl (decide (x=.AF))) H):=by
 intro pins s σ H x y v u Q I rx ry h
 obtain ⟨rfl,q⟩:=h
 cases ry
 refine is_none_gen (Bo I q ?_)
 cases x <;> first
  | (cases rx;rfl)
  | (obtain ⟨t,rfl⟩:=rx;rfl)
theorem BB.or {f:Value->Value->Sem Value}{r r':R2}(h:BB X f r) (h':BB X f r'):BB X f (fun x y H Q=>r x y H Q∨r' x y H Q):=by
 intro pins s σ H x y v u Q I rx ry q
 rcases q with q | q
 ·exact h pins s σ H x y v u Q I rx ry q
 ·exact h' pins s σ H x y v u Q I rx ry q
theorem h9 (b:Expr){op:CmpOp}(h:op≠.In:=by decide) (h2:op≠.NotIn:=by decide):behindInMarks op b=false:=by
 have e1:(op == CmpOp.In)=false:=by cases op <;> first | rfl | exact absurd rfl h
 have e2:(op == CmpOp.NotIn)=false:=by cases op <;> first | rfl | exact absurd rfl h2
 cases b <;> simp [behindInMarks,e1,e2]
theorem vW {op:CmpOp}{r:R2}(ho:BB X (compareOp op) r) (ha:PE X a ta) (hb:PE X b tb) (hm:behindInMarks op b=false):PE X (.Compare a [op] [b] pos) (BQ r ta tb):=by
 intro pins s σ H Q I h
 exact wpAny_Compare1 (TH ha hb I h fun v u s2 x y H2 I2 rx ry q=>ho pins s2 σ H2 x y v u Q I2 rx ry q) hm
def LB (t:TE):TT:=fun σ H Q=>t σ H fun x H'=>∃ k,x=.bl k/\Q k H'
theorem rG {op:CmpOp}{r:R2}(ho:BB X (compareOp op) r) (ha:PE X a ta) (hb:PE X b tb) (hm:behindInMarks op b=false):PT X (.Compare a [op] [b] pos) (LB (BQ r ta tb)):=by
 intro pins s σ H Q I h
 refine wpAny_isTrue_Compare1 (AR (ha pins s σ H _ I h) fun v s1 ⟨x,H1,I1,r1,q1⟩=>AR (hb pins s1 σ H1 _ I1 q1) fun u s2 ⟨y,H2,I2,r2,q2⟩=>
  AR (ho pins s2 σ H2 x y v u _ I2 r1 r2 q2) fun c s3 ⟨z,H3,I3,r3,k,e,q3⟩=>?_) hm
 subst e
 cases r3
 exact wpAny_truthy_bool ⟨H3,I3,q3⟩
def O4 (r r':R2) (ta tb tc:TE):TE:=fun σ H Q=>ta σ H fun x H1=>tb σ H1 fun y H2=>r x y H2 fun z H3=>∃ k,z=.bl k/\
 (if k=true then tc σ H3 fun w' H4=>r' y w' H4 Q else Q (.bl false) H3)
theorem qB {op EU:CmpOp}{r r':R2}(ho:BB X (compareOp op) r) (De:BB X (compareOp EU) r') (ha:PE X a ta) (hb:PE X b tb) (hc:PE X c tc)
  (hm:lastMarks [op,EU] [b,c]=false:=by with_unfolding_all rfl):PE X (.Compare a [op,EU] [b,c] pos) (O4 r r' ta tb tc):=by
 intro pins s σ H Q I h
 refine Compare_chain (AR (ha pins s σ H _ I h) fun v s1 ⟨x,H1,I1,r1,q1⟩=>chain_link (AR (hb pins s1 σ H1 _ I1 q1) fun u s2 ⟨y,H2,I2,r2,q2⟩=>
  AR (ho pins s2 σ H2 x y v u _ I2 r1 r2 q2) fun d s3 ⟨z,H3,I3,r3,k,e,q3⟩=>?_)) hm
 subst e
 cases r3
 refine wpAny_truthy_bool ?_
 cases k with
 | false=>exact ite_ff ⟨.bl false,H3,I3,rfl,q3⟩
 | true=>exact ite_tt (chain_last (AR (hc pins s3 σ H3 _ I3 q3) fun w' s4 ⟨z',H4,I4,r4,q4⟩=>De pins s4 σ H4 y z' u w' Q I4 r2 r4 q4))
theorem qH {op EU:CmpOp}{r r':R2}(ho:BB X (compareOp op) r) (De:BB X (compareOp EU) r') (ha:PE X a ta) (hb:PE X b tb) (hc:PE X c tc)
  (hm:lastMarks [op,EU] [b,c]=false:=by with_unfolding_all rfl):PT X (.Compare a [op,EU] [b,c] pos) (LB (O4 r r' ta tb tc)):=by
 intro pins s σ H Q I h
 refine isTrue_chain (AR (ha pins s σ H _ I h) fun v s1 ⟨x,H1,I1,r1,q1⟩=>test_link (AR (hb pins s1 σ H1 _ I1 q1) fun u s2 ⟨y,H2,I2,r2,q2⟩=>
  AR (ho pins s2 σ H2 x y v u _ I2 r1 r2 q2) fun d s3 ⟨z,H3,I3,r3,k,e,q3⟩=>?_)) hm
 subst e
 cases r3
 refine wpAny_truthy_bool ?_
 cases k with
 | false=>
  obtain ⟨k',e',q'⟩:=q3
  cases e'
  exact ite_ff ⟨H3,I3,q'⟩
 | true=>
  refine ite_tt (test_last (AR (hc pins s3 σ H3 _ I3 q3) fun w' s4 ⟨z',H4,I4,r4,q4⟩=>AR (De pins s4 σ H4 y z' u w' _ I4 r2 r4 q4) fun d' s5 ⟨z2,H5,I5,r5,k2,e2,q5⟩=>?_))
  subst e2
  cases r5
  exact wpAny_truthy_bool ⟨H5,I5,q5⟩
theorem JA:(sizeLine:Nat) < 2 ^ 63:=by rw [sizeLine_eq];decide
theorem iF:BB X (binaryOp .Add) (fun x y H Q=>∃ i j,x=.str i/\y=.str j/\i.length+j.length<=sizeLine/\Q (.str (i++j)) H):=by
 intro pins s σ H x y v u Q I rx ry h
 obtain ⟨i,j,rfl,rfl,hz,q⟩:=h
 obtain ⟨t,rfl⟩:=rx
 obtain ⟨t',rfl⟩:=ry
 exact add_str (fun t' tk=>⟨.str (i++j),H,I.tok _,⟨_,rfl⟩,q⟩) hz
theorem vals1 {x:V}{us:List Value}(r:Vals [x] us):∃ u,us=[u]/\RelV x u:=by
 cases r with
 | cons r1 r2=>cases r2;exact ⟨_,rfl,r1⟩
theorem vals2 {x y:V}{us:List Value}(r:Vals [x,y] us):∃ u w',us=[u,w']/\RelV x u/\RelV y w':=by
 cases r with
 | cons r1 r2=>
  cases r2 with
  | cons r3 r4=>cases r4;exact ⟨_,_,rfl,r1,r3⟩
theorem kf (hc:X.calm=true):Ci X (.builtin "max") (fun xs H Q=>∃ i j,xs=[.int i,.int j]/\Q (.int (if j > i then j else i)) H):=by
 intro pins s σ H xs us Q I r h
 obtain ⟨i,j,rfl,q⟩:=h
 obtain ⟨u,w',rfl,⟨t,rfl⟩,⟨t',rfl⟩⟩:=vals2 r
 refine max_two_ints (I.ok.hd hc) fun h' tk k=>⟨_,H,I.kept k,?_,q⟩
 by_cases hj:j > i
 ·rw [if_pos hj,if_pos hj];exact ⟨_,rfl⟩
 ·rw [if_neg hj,if_neg hj];exact ⟨_,rfl⟩
theorem uG (hc:X.calm=true):Ci X (.builtin "min") (fun xs H Q=>∃ i j,xs=[.int i,.int j]/\Q (.int (if j < i then j else i)) H):=by
 intro pins s σ H xs us Q I r h
 obtain ⟨i,j,rfl,q⟩:=h
 obtain ⟨u,w',rfl,⟨t,rfl⟩,⟨t',rfl⟩⟩:=vals2 r
 refine min_two_ints (I.ok.hd hc) fun h' tk k=>⟨_,H,I.kept k,?_,q⟩
 by_cases hj:j < i
 ·rw [if_pos hj,if_pos hj];exact ⟨_,rfl⟩
 ·rw [if_neg hj,if_neg hj];exact ⟨_,rfl⟩
theorem QB:Ci X (.type "int") (fun xs H Q=>(∃ i,xs=[.int i]/\Q (.int i) H)∨∃ k,xs=[.bl k]/\Q (.int (if k then 1 else 0)) H):=by
 intro pins s σ H xs us Q I r h
 rcases h with ⟨i,rfl,q⟩ | ⟨k,rfl,q⟩
 ·obtain ⟨u,rfl,t,rfl⟩:=vals1 r
  exact call_int_int ⟨.int i,H,I,⟨_,rfl⟩,q⟩
 ·obtain ⟨u,rfl,r1⟩:=vals1 r
  cases r1
  exact call_int_bool ⟨.int (if k then 1 else 0),H,I.tok _,⟨_,rfl⟩,q⟩
end
structure KJ (h:Heap) (x dx C:Addr) (mA:ZD0):Prop where
 obj:h.get? x=some (PySem.W.instObj C dx)
 ns:h.Ns1 dx mA
 ne:dx≠x
theorem zm {h:Heap}{dx:Addr}{mA:ZD0}(n:h.Ns1 dx mA):∃ od,h.get? dx=some od/\∀ name,PySem.W.lookIn name od=some (mA name):=by
 obtain ⟨o,es,ep,ho,hd,hk,_,hm⟩:=n
 refine ⟨o,ho,fun name=>?_⟩
 have e:=hm name
 unfold nsFind findBy at e
 rw [<- Array.find?_toList] at e
 unfold PySem.W.lookIn
 rw [hd]
 dsimp only
 split
 ·rename_i y q
  rw [q] at e
  exact congrArg some e
 ·rename_i q
  rw [q] at e
  have a:es.toList.any (·.refKey)=false:=by
   rw [ZBt]
   intro y hy
   obtain ⟨z,t,IG⟩:=hk y (Array.mem_toList_iff.mp hy)
   simp [DictEntry.refKey,IG]
  have a':¬ es.toList.any (·.refKey)=true:=by rw [a];exact DF
  rw [if_neg a']
  exact congrArg some e
theorem KJ.look {h:Heap}{x dx C:Addr}{mA:ZD0}(I:KJ h x dx C mA):∃ od,PySem.W.InstAt h x (PySem.W.instObj C dx) C (some od)/\∀ name,PySem.W.lookIn name od=some (mA name):=
 let ⟨od,ho,hl⟩:=zm I.ns
 ⟨od,⟨I.obj,rfl,rfl,ho⟩,hl⟩
section
variable {prog:Program}{w:World}{A:Around}{E:Value->Shared->Prop}{s:Shared}{K:ZCy}{x dx C f:Addr}{mA:ZD0}{name:Str}{v:Value}
theorem get_map {expr:Bool}{Q:Value->Shared->Prop}(X:K.In s.heap) (I:KJ s.heap x dx C mA) (hg:PySem.W.plainGet K C name=true) (hh:PySem.W.hasDictIn K C=true)
  (ha:PySem.W.findIn K (.ref C) name=some none) (hv:mA name=some v) (N1:PySem.W.handedIn v=true) (h:Q v { s with toks:=s.toks+1 }) :
  wpAny (model prog w) A (getAttr (.ref x) name expr) Q E s:=by
 obtain ⟨od,J,hl⟩:=I.look
 exact PySem.W.get_value X J (iy hg).1 (PySem.W.findObj_own hh ha rfl (by rw [hl,hv])) N1 h
theorem qL {pl:Sem Bool}{Q:Value×List Value->Shared->Prop}(X:K.In s.heap) (I:KJ s.heap x dx C mA) (hg:PySem.W.plainGet K C name=true)
  (hf:PySem.W.findIn K (.ref C) name=some (some (.ref f))) (ht:PySem.W.isFn K (.ref f)=true) (hv:mA name=none) (h:Q (.ref f,[.ref x]) s) :
  wpAny (model prog w) A (getMethod (.ref x) name pl) Q E s:=by
 obtain ⟨od,J,hl⟩:=I.look
 exact PySem.W.method_fn X J (iy hg).1 (iy hg).2 hf (beq_iff_eq.mp ht) (by show (PySem.W.lookIn name od).map (·.isSome)=some false;rw [hl,hv];rfl) h
theorem dw {ns:List Str}{Q:Unit->Shared->Prop}(X:K.In s.heap) (I:KJ s.heap x dx C mA)
  (hs:PySem.W.findIn K (.ref C) "__setattr__" = some (some (.builtin "object.__setattr__"))) (hp:PySem.W.plainOver K C=true) (ht:PySem.W.takerIn K C name=some none) (hh:PySem.W.hasDictIn K C=true)
  (hw:PySem.Within mA ns) (hsz:ns.length<=sizeLine)
  (h:∀ h',KJ h' x dx C (fun y=>if y=name then some v else mA y)->Heap.SameBut dx s.heap h'->Q () { s with heap:=h',toks:=s.toks+2 }) :
  wpAny (model prog w) A (setAttr (.ref x) name v) Q E s:=by
 obtain ⟨od,J,hl⟩:=I.look
 refine PySem.W.set_plain X J hs (PySem.W.osa_open (s:={ s with toks:=s.toks+1 }) (r:=none) X J hp ht fun b=>?_)
 obtain ⟨cd,hc,Es⟩:=PySem.W.any_some hh
 have hx:s.heap.get? x=some ⟨.ref C,some dx,.plain,#[]⟩:=I.obj
 refine wpAny_bind (wpAny_pure (wpAny_bind (wpAny_bind (wpAny_loadPart hx (wpAny_bind (PySem.W.Looks.here (s:={ s with toks:=s.toks+1 }) (PySem.W.looks_clsIn X hc) ?_))))))
 rw [Es]
 refine wpAny_pure (a:=some dx) (wpAny_bind (wpAny_pure (wpAny_bind ?_)))
 refine wpAny_nsSet1 (s:={ s with toks:=s.toks+1 }) I.ns fun h' Pm Ct=>?_
 obtain ⟨oD,esD,epD,pX,qM,o9⟩:=Pm.count (PySem.Within.cons name v hw)
 refine wpAny_bind (wpAny_lookBehind pX (by rw [qM];exact pastItsLine_dict (Cs o9 (by rw [Bc];omega))) ?_)
 exact wpAny_pure (h _ ⟨(Ct.2 _ (BS I.ne)).trans I.obj,Pm,I.ne⟩ Ct)
theorem ZB2 {R:Result->Shared->Prop}{vs:List Value}{kw:List (Str×Value)}(X:K.In s.heap) (hm:PySem.W.makesIn K C=true)
  (hi:PySem.W.findIn K (.ref C) "__init__" = some (some (.ref f))) (hf:PySem.W.typeIn K (.ref f)=some (.type "function"))
  (h:codeAny (model prog w) (A.under (.builtin "type.__call__" ⟨.ref C :: vs,kw⟩)) (.call (.ref f) ⟨.ref (s.heap.objs.size+1) :: vs,kw⟩) (PySem.W.InitBack (s.heap.objs.size+1) R)
   { s with heap:=(s.heap.push PySem.W.emptyDict).push (PySem.W.instObj C s.heap.objs.size) }) :
  codeAny (model prog w) A (.call (.ref C) ⟨vs,kw⟩) R s:=by
 obtain ⟨hh,g,d,t,os⟩:=s
 exact PySem.W.make_core (PySem.W.makes_of X hm) (PySem.W.looks_findIn X hi) (fun self=>PySem.W.bind_fn X self hf) (.inl rfl) h
end
noncomputable def D4 (f:Str) (v:V):List (Str×V)->List (Str×V)
 | []=>[(f,v)]
 | (g,x) :: r=>if g=f then (g,v) :: r else (g,x) :: D4 f v r
theorem bC (f g:Str) (v:V):∀ fs:List (Str×V),(D4 f v fs).lookup g=if g=f then some v else fs.lookup g
 | []=>by
  show List.lookup g [(f,v)]=_
  by_cases h:g=f
  ·have hb:(g == f)=true:=beq_iff_eq.mpr h
   simp only [List.lookup,hb,if_pos h]
  ·have hb:(g == f)=false:=beq_eq_false_iff_ne.mpr h
   simp only [List.lookup,hb,if_neg h]
 | (k,x) :: r=>by
  have ih:=bC f g v r
  rw [show D4 f v ((k,x) :: r)=(if k=f then (k,v) :: r else (k,x) :: D4 f v r) from rfl]
  by_cases hk:k=f
  ·rw [if_pos hk]
   by_cases h:g=k
   ·have hb:(g == k)=true:=beq_iff_eq.mpr h
    simp only [List.lookup,hb,if_pos (h.trans hk)]
   ·have hb:(g == k)=false:=beq_eq_false_iff_ne.mpr h
    simp only [List.lookup,hb,if_neg (fun e:g=f=>h (e.trans hk.symm))]
  ·rw [if_neg hk]
   by_cases h:g=k
   ·have hb:(g == k)=true:=beq_iff_eq.mpr h
    simp only [List.lookup,hb,if_neg (fun e:g=f=>hk (h.symm.trans e))]
   ·have hb:(g == k)=false:=beq_eq_false_iff_ne.mpr h
    simp only [List.lookup,hb]
    exact ih
theorem X5 (f:Str) (v:V):∀ fs:List (Str×V),f∈(D4 f v fs).map (·.1)/\∀ g,g∈fs.map (·.1)->g∈(D4 f v fs).map (·.1)
 | []=>⟨by simp [D4],fun g h=>by simp at h⟩
 | (k,x) :: r=>by
  obtain ⟨i1,i2⟩:=X5 f v r
  rw [show D4 f v ((k,x) :: r)=(if k=f then (k,v) :: r else (k,x) :: D4 f v r) from rfl]
  by_cases hk:k=f
  ·rw [if_pos hk]
   subst hk
   exact ⟨by simp,fun g h=>by simpa using h⟩
  ·rw [if_neg hk]
   refine ⟨?_,fun g h=>?_⟩
   ·rw [Bq]
    exact Fy _ i1
   ·rw [Bq] at h ⊢
    rcases List.mem_cons.mp h with e | e
    ·exact List.mem_cons.mpr (.inl e)
    ·exact Fy _ (i2 g e)
theorem cL (f:Str) (v:V):∀ fs:List (Str×V),(D4 f v fs).length<=fs.length+1
 | []=>by simp [D4]
 | (k,x) :: r=>by
  have ih:=cL f v r
  rw [show D4 f v ((k,x) :: r)=(if k=f then (k,v) :: r else (k,x) :: D4 f v r) from rfl]
  by_cases hk:k=f
  ·rw [if_pos hk,Bc,Bc];omega
  ·rw [if_neg hk,Bc,Bc];omega
theorem Dw.some_of {v:V}{o:Option Value}(r:Dw (some v) o):∃ u,o=some u/\RelV v u:=by
 cases o with
 | none=>exact (show False from r).elim
 | some u=>exact ⟨u,rfl,r⟩
theorem Dw.none_of {o:Option Value}(r:Dw none o):o=none:=by
 cases o with
 | none=>rfl
 | some u=>exact (show False from r).elim
theorem vT {v:V}{u:Value}(r:RelV v u):PySem.W.handedIn u=true:=by
 cases v with
 | AF=>cases (show u=Value.none from r);rfl
 | bl b=>cases (show u=Value.bool b from r);rfl
 | int i=>obtain ⟨t,e⟩:=(show ∃ t,u=Value.int i t from r);cases e;rfl
 | str x=>obtain ⟨t,e⟩:=(show ∃ t,u=Value.str x t from r);cases e;rfl
 | G1 b=>obtain ⟨t,e⟩:=(show ∃ t,u=Value.bytes b t from r);cases e;rfl
 | JV b=>obtain ⟨t,e⟩:=(show ∃ t,u=Value.float b t from r);cases e;rfl
 | ref a=>cases (show u=Value.ref a from r);rfl
 | ty n=>cases (show u=Value.type n from r);rfl
section
variable {P:Program}{w:World}{H H':Hp}{h h':Heap}{a C dx:Addr}{fs J6:List (Str×V)}
theorem PN (AM:Bd P w H h) (e:H a=some (.ins C dx fs)):∃ mA,KJ h a dx C mA/\(∀ f,Dw (fs.lookup f) (mA f))/\PySem.Within mA (fs.map (·.1))/\fs.length<=1000/\H dx=some (.own a):=by
 obtain ⟨d,z,ne,ob,mA,n,r,q⟩:=(show C5 P w H h a (.ins C dx fs) from AM a _ e)
 exact ⟨mA,⟨ob,n,ne⟩,r,q,z,d⟩
end
structure Bf (K:ZCy) (C:Addr):Prop where
 pg:PySem.W.plainGet K C Str.empty=true
 hd:PySem.W.hasDictIn K C=true
 po:PySem.W.plainOver K C=true
 sa:PySem.W.findIn K (.ref C) "__setattr__" = some (some (.builtin "object.__setattr__"))
theorem Bf.get {K:ZCy}{C:Addr}(c:Bf K C) (f:Str):PySem.W.plainGet K C f=true:=c.pg
def BK (K:ZCy) (C:Addr) (f:Str):Prop:=PySem.W.findIn K (.ref C) f=some none
theorem BK.ZAX {K:ZCy}{C:Addr}{f:Str}(n:BK K C f):PySem.W.takerIn K C f=some none:=by
 unfold PySem.W.takerIn
 rw [show PySem.W.findIn K (.ref C) f=some none from n]
 rfl
structure ML (K:ZCy) (C:Addr) (f:Str) (v:V) (u:Value):Prop where
 at_:PySem.W.findIn K (.ref C) f=some (some u)
 rel:RelV v u
 get:PySem.W.specialIn K u "__get__" = some none
 cp:PySem.W.copiedNames.contains f=false
structure Meth (K:ZCy) (C:Addr) (m:Str) (f:Addr):Prop where
 at_:PySem.W.findIn K (.ref C) m=some (some (.ref f))
 fn:PySem.W.isFn K (.ref f)=true
 kp:PySem.W.keepIn K (.ref f)=true
section
variable {X:Cx}{pins:ZCz}{σ:St} {H:Hp}{s:Shared}{a C dx:Addr}{fs:List (Str×V)}{f:Str}{v:V}{A:Around}{E:Value->Shared->Prop}
theorem ay {b:Bool}{Q:Value->Shared->Prop}(I:Inv X pins σ H s) (e:H a=some (.ins C dx fs)) (c:Bf X.K C) (n:BK X.K C f) (l:fs.lookup f=some v)
  (h:∀ u s',Inv X pins σ H s'->RelV v u->Q u s'):wpAny (model X.prog X.w) A (getAttr (.ref a) f b) Q E s:=by
 obtain ⟨mA,O,r,_,_,_⟩:=PN I.AM e
 obtain ⟨u,hu,ru⟩:=Dw.some_of (v:=v) (o:=mA f) (by rw [<- l];exact r f)
 exact get_map I.CW O (c.get f) c.hd n hu (vT ru) (h u _ (I.tok _) ru)
theorem ZBg {m:Str}{g:Addr}{pl:Sem Bool}{Q:Value×List Value->Shared->Prop}(I:Inv X pins σ H s) (e:H a=some (.ins C dx fs)) (c:Bf X.K C) (k:Meth X.K C m g) (l:fs.lookup m=none)
  (h:Q (.ref g,[.ref a]) s):wpAny (model X.prog X.w) A (getMethod (.ref a) m pl) Q E s:=by
 obtain ⟨mA,O,r,_,_,_⟩:=PN I.AM e
 have hn:mA m=none:=Dw.none_of (by rw [<- l];exact r m)
 exact qL I.CW O (c.get m) k.at_ k.fn hn h
theorem gj {y:V}{u:Value}{Q:Unit->Shared->Prop}(I:Inv X pins σ H s) (e:H a=some (.ins C dx fs)) (c:Bf X.K C) (n:BK X.K C f) (hl:fs.length < 1000) (ry:RelV y u)
  (h:∀ s',Inv X pins σ (upd H a (.ins C dx (D4 f y fs))) s'->Q () s'):wpAny (model X.prog X.w) A (setAttr (.ref a) f u) Q E s:=by
 obtain ⟨mA,O,r,wi,_,ho⟩:=PN I.AM e
 have hz:(fs.map (·.1)).length<=sizeLine:=by rw [AV,sizeLine_eq];omega
 refine dw I.CW O c.sa c.po n.ZAX c.hd wi hz fun h' O' sb=>h _ ?_
 have hd:∃ o,h'.get? dx=some o:=let ⟨o,_,_,e',_⟩:=O'.ns;⟨o,e'⟩
 refine I.write (x:=a) (e:=dx) (by rw [e];exact True.intro) (.inr ho) (fun b q hb z=>(sb.2 b hb).trans z) hd ?_
 refine ⟨by rw [Aj O.ne];exact ho,?_,O.ne,O'.obj,_,O'.ns,fun g=>?_,fun g hg=>?_⟩
 ·have:=cL f y fs;omega
 ·show Dw ((D4 f y fs).lookup g) (if g=f then some u else mA g)
  rw [bC]
  by_cases q:g=f
  ·rw [if_pos q,if_pos q];exact ry
  ·rw [if_neg q,if_neg q];exact r g
 ·by_cases q:g=f
  ·rw [q];exact (X5 f y fs).1
  ·refine (X5 f y fs).2 g (wi g fun z=>hg ?_)
   show (if g=f then some u else mA g)=none
   rw [if_neg q];exact z
theorem Inv.made (I:Inv X pins σ H s):Inv X pins σ (upd (upd H s.heap.objs.size (.own (s.heap.objs.size+1))) (s.heap.objs.size+1) (.ins C s.heap.objs.size []))
  { s with heap:=(s.heap.push PySem.W.emptyDict).push (PySem.W.instObj C s.heap.objs.size) }:=by
 have e1:(s.heap.push PySem.W.emptyDict).get? s.heap.objs.size=some PySem.W.emptyDict:=CI s.heap rfl
 have e2:((s.heap.push PySem.W.emptyDict).push (PySem.W.instObj C s.heap.objs.size)).get? (s.heap.objs.size+1)=some (PySem.W.instObj C s.heap.objs.size):=by
  have:=CI (s.heap.push PySem.W.emptyDict) (o:=PySem.W.instObj C s.heap.objs.size) rfl
  rwa [JY] at this
 have e3:(s.heap.push PySem.W.emptyDict).Ns s.heap.objs.size (fun _=>none):=⟨PySem.W.emptyDict,#[],_,e1,rfl,(fun e he=>absurd he (by simp)),fun _=>rfl⟩
 have I1:=I.laid (a:=s.heap.objs.size) (o:=.own (s.heap.objs.size+1)) (h':=s.heap.push PySem.W.emptyDict) (t':=s.toks) (fun b u q=>Bl _ q) (An _) ⟨_,e1⟩
 refine I1.laid (a:=s.heap.objs.size+1) (o:=.ins C s.heap.objs.size []) (t':=s.toks) (fun b u q=>Bl _ q) (ib (JY _ _)) ?_
 have ne:s.heap.objs.size≠s.heap.objs.size+1:=Bx (YW _)
 refine ⟨by rw [Aj ne,AI],Cc _,ne,e2,fun _=>none,(Heap.Ns1.of_empty e3).at fun o q=>Bl _ q,fun _=>True.intro,fun y hy=>absurd rfl hy⟩
theorem z8 {prog:Program}{w:World}{env:Env}{e:Expr}{f:Str}{pos:Pos}{s:Shared}{Q:Value->Shared->Prop}(hb:attributeBase e f env (eval e env)=eval e env)
  (h:wpAny (model prog w) A (eval e env) (fun o s₁=>wpAny (model prog w) A (getAttr o f true) Q E s₁) E s):wpAny (model prog w) A (eval (.Attribute e f pos) env) Q E s:=
 Attribute_any_ h (by rw [arm_eval_Attribute,hb])
end
def JJ (K:ZCy) (ta:TE) (f:Str):TE:=fun σ H Q=>ta σ H fun x H1=>∃ a C dx fs v,x=.ref a/\H1 a=some (.ins C dx fs)/\Bf K C/\BK K C f/\fs.lookup f=some v/\Q v H1
def Xh (K:ZCy) (ta tv:TE) (f:Str):TS:=fun D σ H=>tv σ H fun y H1=>ta σ H1 fun x H2=>∃ a C dx fs,x=.ref a/\H2 a=some (.ins C dx fs)/\Bf K C/\BK K C f/\fs.length < 1000/\
 D.nx σ (upd H2 a (.ins C dx (D4 f y fs)))
def fu (X:Cx) (op:Operator) (rd:V->V->Hp->VK->Prop):Prop:=
 ∀ (pins:ZCz) (s:Shared) (σ:St) (H:Hp) (x y:V) (u v:Value) (Q:VK),Inv X pins σ H s->RelV x u->RelV y v->rd x y H Q->wpAny (model X.prog X.w) X.A (inplaceOp op u v) (EP X pins σ Q) X.xe s
def SR (K:ZCy) (ta tv:TE) (rd:V->V->Hp->VK->Prop) (f:Str):TS:=fun D σ H=>ta σ H fun x H1=>∃ a C dx fs v,x=.ref a/\H1 a=some (.ins C dx fs)/\Bf K C/\BK K C f/\fs.lookup f=some v/\
 tv σ H1 fun y H2=>rd v y H2 fun z H3=>∃ IL J6,H3 a=some (.ins C IL J6)/\J6.length < 1000/\D.nx σ (upd H3 a (.ins C IL (D4 f z J6)))
section
variable {X:Cx}{o e value:Expr}{f:Str}{pos pos' Pr:Pos}{ta tv:TE}
theorem nV (he:PE X e ta) (hb:attributeBase e f X.env (eval e X.env)=eval e X.env):PE X (.Attribute e f pos) (JJ X.K ta f):=by
 intro pins s σ H Q I h
 refine z8 hb (AR (he pins s σ H _ I h) fun u s1 ⟨x,H1,I1,rx,a,C,dx,fs,v,ex,ea,c,n,l,q⟩=>?_)
 subst ex
 obtain rfl:u=Value.ref a:=rx
 exact ay I1 ea c n l fun u' s2 I2 ru=>⟨v,H1,I2,ru,q⟩
theorem lZ (ha:PE X o ta) (hv:PE X value tv) (hs:swapsWith value (some (.Attribute o f pos')) pos.line X.env=pure false):PS X (.Assign [.Attribute o f pos'] value pos) (Xh X.K ta tv f):=by
 intro pins s σ H D I h
 refine plainObj_wpAny_Assign_Attribute (AR (hv pins s σ H _ I h) fun u s1 ⟨y,H1,I1,ry,q⟩=>AR (ha pins s1 σ H1 _ I1 q) fun ov s2 ⟨x,H2,I2,rx,a,C,dx,fs,ex,ea,c,n,l,q2⟩=>?_) hs
 subst ex
 obtain rfl:ov=Value.ref a:=rx
 exact gj I2 ea c n l ry fun s3 I3=>⟨σ,_,I3,q2⟩
theorem jn {op:Operator}{rd:V->V->Hp->VK->Prop}(ha:PE X o ta) (hv:PE X value tv) (Ss:fu X op rd):PS X (.AugAssign (.Attribute o f Pr) op value pos) (SR X.K ta tv rd f):=by
 intro pins s σ H D I h
 refine wpAny_AugAssign_AttributeAny (AR (ha pins s σ H _ I h) fun ov s1 ⟨x,H1,I1,rx,a,C,dx,fs,v,ex,ea,c,n,l,q⟩=>?_)
 subst ex
 obtain rfl:ov=Value.ref a:=rx
 refine ay I1 ea c n l fun u s2 I2 ru=>AR (hv pins s2 σ H1 _ I2 q) fun w3 s3 ⟨y,H2,I3,ry,q3⟩=>AR (Ss pins s3 σ H2 v y u w3 _ I3 ru ry q3) fun w4 s4 ⟨z,H3,I4,rz,IL,J6,zK,l',q4⟩=>?_
 exact gj I4 zK c n l' rz fun s5 I5=>⟨σ,_,I5,q4⟩
end
section
variable {X:Cx}{pins:ZCz}{σ:St} {H:Hp}{s:Shared}{A:Around}{E:Value->Shared->Prop}{Q:Value->Shared->Prop}{c:Value}{b:Bool}
inductive EY (K:ZCy) (H:Hp):V->Value->Prop where
 | AF:EY K H .AF (.type "NoneType")
 | bl (x:Bool):EY K H (.bl x) (.type "bool")
 | int (i:Int):EY K H (.int i) (.type "int")
 | str (x:Str):EY K H (.str x) (.type "str")
 | JV (x:UInt64):EY K H (.JV x) (.type "float")
 | lst {a:Addr}{xs:List V}(e:H a=some (.lst xs)):EY K H (.ref a) (.type "list")
 | Eu {a:Addr}{o:Obj}{xs:List V}(e:H a=some (.Eu o (.lst xs))):EY K H (.ref a) (.type "list")
 | tup {a:Addr}{xs:List V}(e:H a=some (.tup xs)):EY K H (.ref a) (.type "tuple")
 | dK {a:Addr}{A5:List (Key×V)}(e:H a=some (.dK A5)):EY K H (.ref a) (.type "dict")
 | dT {a:Addr}{A5:List (List Key×V)}(e:H a=some (.dT A5)):EY K H (.ref a) (.type "dict")
 | ins {a C dx:Addr}{fs:List (Str×V)}(e:H a=some (.ins C dx fs)) (cl:Bf K C) (ha:PySem.W.findIn K (.ref C) "__class__" = some (some (.builtin "object.__class__")))
   (hn:PySem.W.specialIn K (.builtin "object.__class__") "__get__" = some (some (.builtin "getset_descriptor.__get__"))) (Lz:PySem.W.takesIn K (.builtin "object.__class__")=some true)
   (hm:PySem.W.mroIn K C (.type "object")=some true):EY K H (.ref a) (.ref C)
theorem ZBS {x:V}{u t:Value}(I:Inv X pins σ H s) (rx:RelV x u) (ty:EY X.K H x t) (e:PySem.W.kitOne X.K t c=some b) (h:∀ tk,Q (.bool b) { s with toks:=tk }) :
  wpAny (model X.prog X.w) A (call (.builtin "isinstance") [u,c]) Q E s:=by
 cases ty with
 | AF=>cases (show u=Value.none from rx);exact Hl PySem.W.kitx_none I.CW True.intro e (fun z=>nomatch z) h
 | bl y=>cases (show u=Value.bool y from rx);exact Hl PySem.W.kitx_bool I.CW True.intro e (fun z=>nomatch z) h
 | int i=>obtain ⟨t,q⟩:=(show ∃ t,u=Value.int i t from rx);cases q;exact Hl PySem.W.kitx_int I.CW True.intro e (fun z=>nomatch z) h
 | str y=>obtain ⟨t,q⟩:=(show ∃ t,u=Value.str y t from rx);cases q;exact Hl PySem.W.kitx_str I.CW True.intro e (fun z=>nomatch z) h
 | JV y=>obtain ⟨t,q⟩:=(show ∃ t,u=Value.float y t from rx);cases q;exact Hl PySem.W.kitx_float I.CW True.intro e (fun z=>nomatch z) h
 | @lst a xs ea=>
  cases (show u=Value.ref a from rx)
  obtain ⟨_,_,n,_,h1⟩:=(show C5 X.prog X.w H s.heap a (.lst xs) from I.AM a _ ea)
  exact Hl ZCM I.CW ⟨_,h1,rfl⟩ e (fun z=>nomatch z) h
 | @Eu a ob xs ea=>
  cases (show u=Value.ref a from rx)
  obtain ⟨_,_,_,n,_,h1⟩:=(show C5 X.prog X.w H s.heap a (.Eu ob (.lst xs)) from I.AM a _ ea)
  exact Hl ZCM I.CW ⟨_,h1,rfl⟩ e (fun z=>nomatch z) h
 | @tup a xs ea=>
  cases (show u=Value.ref a from rx)
  obtain ⟨_,_,_,p⟩:=(show C5 X.prog X.w H s.heap a (.tup xs) from I.AM a _ ea)
  obtain ⟨o,h1,h2,_⟩:=p.1
  exact Hl PySem.W.kitx_tuple I.CW ⟨o,h1,h2⟩ e (fun z=>nomatch z) h
 | @dK a A5 ea=>
  cases (show u=Value.ref a from rx)
  obtain ⟨_,_,vs,_,p⟩:=(show C5 X.prog X.w H s.heap a (.dK A5) from I.AM a _ ea)
  obtain ⟨o,es,ep,h1,h2,_⟩:=p
  exact Hl ZCL I.CW ⟨o,h1,h2.1⟩ e (fun z=>nomatch z) h
 | @dT a A5 ea=>
  cases (show u=Value.ref a from rx)
  obtain ⟨_,_,xs,_,o,es,ep,h1,h2,_⟩:=(show C5 X.prog X.w H s.heap a (.dT A5) from I.AM a _ ea)
  exact Hl ZCL I.CW ⟨o,h1,h2.1⟩ e (fun z=>nomatch z) h
 | @ins a C dx fs ea cl ha hn Lz hm=>
  cases (show u=Value.ref a from rx)
  obtain ⟨mA,O,_⟩:=PN I.AM ea
  obtain ⟨od,J,_⟩:=O.look
  exact Hl (PySem.W.kitx_own (cl.get _) cl.hd ha hn Lz hm) I.CW J e (fun z=>nomatch z) h
end
structure Bn (k:Nat) (A:Around):Prop where
 hd:A.handled=none
 dp:A.depth+3 * k+5 < recursionLimit
 un:A.units+16 * k+200 < cLine
theorem Bn.mono {j k:Nat}{A:Around}(r:Bn k A) (h:j<=k):Bn j A:=⟨r.hd,by have:=r.dp;omega,by have:=r.un;omega⟩
theorem Bn.deeper {k:Nat}{A:Around}(r:Bn (k+1) A) (env:Env):Bn k (A.deeper env):=
 ⟨r.hd,by have:=r.dp;show A.depth+1+3 * k+5 < _;omega,by have:=r.un;show A.units+3+16 * k+200 < _;omega⟩
theorem yg {A:Around}{C:Addr}{us:List Value}{kw:List (Str×Value)}:(A.under (.builtin "type.__call__" ⟨.ref C :: us,kw⟩)).depth=A.depth+1:=by
 first | rfl | simp [Around.under,Code.weight,Code.isCreation,Code.isGuard,Code.isCaller,Code.frames,Code.isFrame,guardIds]
theorem lW {A:Around}{C:Addr}{us:List Value}{kw:List (Str×Value)}:(A.under (.builtin "type.__call__" ⟨.ref C :: us,kw⟩)).units=A.units+1:=by
 first | rfl | simp [Around.under,Code.cUnits,Code.frames,Code.isFrame]
theorem Bn.make {k:Nat}{A:Around}(r:Bn (k+1) A) (C:Addr) (us:List Value) (kw:List (Str×Value)):Bn k (A.under (.builtin "type.__call__" ⟨.ref C :: us,kw⟩)):=
 ⟨r.hd,by have:=r.dp;rw [yg];omega,by have:=r.un;rw [lW];omega⟩
theorem Bn.depth {k:Nat}{A:Around}(r:Bn k A):A.depth < recursionLimit:=by have:=r.dp;omega
theorem Bn.units {k:Nat}{A:Around}(r:Bn k A):A.units+64 < cLine:=by have:=r.un;omega
theorem Bn.IX {k:Nat}{A:Around}(r:Bn k A):A.units < cLine:=by have:=r.un;omega
def Aw:TA:=fun _ H Q=>Q [] H
def AS (ta:TE) (tr:TA):TA:=fun σ H Q=>ta σ H fun x H1=>tr σ H1 fun xs H2=>Q (x :: xs) H2
section
variable {X:Cx}{e:Expr}{es:List Expr}{te:TE}{t:TA}{pos:Pos}
theorem rl:PA X [] Aw:=fun _ _ _ _ H Q I h=>iM ⟨[],H,I,.nil,h⟩
theorem ZAz (ha:PE X e te) (hr:PA X es t) (hs:starEach (e :: es) X.env=(false,eval e X.env) :: starEach es X.env:=by rfl):PA X (e :: es) (AS te t):=by
 intro pos pins s σ H Q I h
 rw [hs]
 show wpAny _ _ (spliced ((false,eval e X.env) :: backTo pos (starEach es X.env))) _ _ s
 refine iL (AR (ha pins s σ H _ I h) fun u s1 ⟨x,H1,I1,r1,q1⟩=>?_)
 exact AR (hr pos pins s1 σ H1 _ I1 q1) fun us s2 ⟨xs,H2,I2,r2,q2⟩=>⟨x :: xs,H2,I2,.cons r1 r2,q2⟩
def X7 (t:TA):TE:=fun σ H Q=>t σ H fun xs H1=>xs.length<=sizeLine/\∀ p,H1 p=none->Q (.ref p) (upd H1 p (.tup xs))
def RP (t:TA):TE:=fun σ H Q=>t σ H fun xs H1=>xs.length<=sizeLine/\∀ p,H1 p=none->Q (.ref p) (upd H1 p (.lst xs))
theorem sJ {x1} (h:PA X es t):PE X (.Tuple es x1 pos) (X7 t):=by
 intro pins s σ H Q I hq
 refine wpAny_Tuple_spliced (AR (h pos pins s σ H _ I hq) fun us s1 ⟨xs,H1,I1,r,z,q⟩=>⟨by rw [<- r.length];exact z,?_⟩)
 have hf:H1 s1.heap.objs.size=none:=I1.AM.fresh (An _)
 refine ⟨.ref s1.heap.objs.size,upd H1 s1.heap.objs.size (.tup xs),I1.laid (t':=s1.toks) (fun b u e=>Bl _ e) (An _) ?_,rfl,q _ hf⟩
 exact ⟨z,us,r,⟨_,CI _ rfl,rfl,_,rfl⟩,fun Qu e'=>by rw [CI _ rfl] at e';cases e';rfl⟩
theorem uv (h:PA X es t):PE X (.List es pos) (RP t):=by
 intro pins s σ H Q I hq
 refine wpAny_List_spliced (AR (h pos pins s σ H _ I hq) fun us s1 ⟨xs,H1,I1,r,z,q⟩=>⟨by rw [<- r.length];exact z,?_⟩)
 have hf:H1 s1.heap.objs.size=none:=I1.AM.fresh (An _)
 refine ⟨.ref s1.heap.objs.size,upd H1 s1.heap.objs.size (.lst xs),I1.laid (t':=s1.toks) (fun b u e=>Bl _ e) (An _) ?_,rfl,q _ hf⟩
 exact ⟨z,us,0,r,CI _ rfl⟩
end
abbrev Sp:=List V->Hp->VK->XK->Prop
abbrev Fg:=List Env->Hp->Shared->XK->Value->Shared->Prop
structure Jq (P:Program) (w:World) (K:ZCy) (mg:ZD0) (base:Heap) (A:Around) (outer:List Env) (s:Shared) (H:Hp):Prop where
 frames:A.frames=some outer
 mod:Mod K mg base
 bs:∀ b o,base.get? b=some o->s.heap.get? b=some o/\H b=none
 G5:base.objs.size<=s.heap.objs.size
 Ef:s.heap.FunFrames base outer
 Hj:∀ b∈Cz outer,H b=none
 AM:Bd P w H s.heap
 bare:AllBare s.gens
def CE (outer:List Env) (P:Program) (w:World) (H:Hp) (s:Shared) (Q:VK) (u:Value) (s':Shared):Prop:=
 ∃ v H',s'.os=s.os/\AllBare s'.gens/\Un (Cz outer) [] H H' s.heap s'.heap/\Bd P w H' s'.heap/\RelV v u/\Q v H'
def CR (CX:Fg) (outer:List Env) (P:Program) (w:World) (H:Hp) (s:Shared) (Q:VK) (E:XK) (r:Result) (s':Shared):Prop:=
 match r with
 | .ok (.ret u)=>CE outer P w H s Q u s'
 | .ok _=>False
 | .error e=>CX outer H s E e s'
structure DD (P:Program) (w:World) (K:ZCy) (mg:ZD0) (base:Heap) (CX:Fg) (k:Nat) (f:Addr) (fd:FuncData) (ps:List Str) (sp:Sp):Prop where
 len:∀ vs H Q E,sp vs H Q E->vs.length=ps.length
 run:∀ (A:Around) (outer:List Env) (s:Shared) (H:Hp) (args:Args) (us:List Value) (vs:List V) (Q:VK) (E:XK),Bn k A->Jq P w K mg base A outer s H->BindsTo s fd args (ps.zip us)->Vals vs us->sp vs H Q E->
  codeAny (model P w) A (.call (.ref f) args) (CR CX outer P w H s Q E) s
theorem DD.mono {P:Program}{w:World}{K:ZCy}{mg:ZD0}{base:Heap}{CX:Fg}{j k:Nat}{f:Addr}{fd:FuncData}{ps:List Str}{sp:Sp}(F:DD P w K mg base CX j f fd ps sp) (h:j<=k) :
  DD P w K mg base CX k f fd ps sp:=⟨F.len,fun A outer s H args us vs Q E hr=>F.run A outer s H args us vs Q E (hr.mono h)⟩
theorem Jq.make {P:Program}{w:World}{K:ZCy}{mg:ZD0}{base:Heap}{A:Around}{outer:List Env}{s:Shared}{H:Hp}(e:Jq P w K mg base A outer s H) (C:Addr) (us:List Value) (kw:List (Str×Value)) :
  Jq P w K mg base (A.under (.builtin "type.__call__" ⟨.ref C :: us,kw⟩)) outer s H:=⟨by first | exact e.frames | (simpa [Around.under,Code.envs,Code.isFrame,pushEnvs] using e.frames),e.mod,e.bs,e.G5,e.Ef,e.Hj,e.AM,e.bare⟩
section
variable {X:Cx}{pins:ZCz}{σ:St} {H:Hp}{s s':Shared}
theorem Inv.bp (I:Inv X pins σ H s):Jq X.prog X.w X.K X.mg X.base X.A X.stack s H:=
 ⟨I.ok.frames,I.ok.mod,I.bs,Cs I.ok.G5 I.sz,I.stack,I.SJ,I.AM,I.bare⟩
theorem Inv.after {Q:VK}{u:Value}(I:Inv X pins σ H s) (h:CE X.stack X.prog X.w H s Q u s'):EP X pins σ Q u s':=by
 obtain ⟨v,H',os,bare,un,AM,r,q⟩:=h
 obtain ⟨hh,g,d,t,NO⟩:=s'
 obtain rfl:NO=s.os:=os
 exact ⟨v,H',I.call (h':=hh) (g':=g) (d':=d) (t':=t) (ch:=[]) un AM bare (fun b z=>absurd z (by simp)),r,q⟩
end
def CP (sp:Sp) (DI:List V) (E:XK) (t:TA):TE:=fun σ H Q=>t σ H fun vs H1=>sp (vs++DI) H1 Q E
def Jo (C:Addr) (m:Str) (sp:Sp) (DI:List V) (E:XK) (ta:TE) (t:TA):TE:=fun σ H Q=>ta σ H fun x H1=>∃ a dx fs,x=.ref a/\H1 a=some (.ins C dx fs)/\fs.lookup m=none/\
 t σ H1 fun vs H2=>sp (x :: (vs++DI)) H2 Q E
def TN (C:Addr) (sp:Sp) (DI:List V) (E:XK) (t:TA):TE:=fun σ H Q=>t σ H fun vs H1=>∀ x dx,H1 x=none->H1 dx=none->dx≠x->
 sp (.ref x :: (vs++DI)) (upd (upd H1 dx (.own x)) x (.ins C dx [])) (fun v H2=>v=.AF/\Q (.ref x) H2) E
def Binds (K:ZCy) (fd:FuncData) (ps:List Str) (ds:List Value):Prop:=
 ∀ (s:Shared) (us:List Value),K.In s.heap->(us++ds).length=ps.length->BindsTo s fd ⟨us,[]⟩ (ps.zip (us++ds))
theorem Binds.all {K:ZCy}{fd:FuncData}{ps:List Str}(h:∀ us:List Value,us.length=ps.length->bindArgs fd ⟨us,[]⟩=pure (ps.zip us)):Binds K fd ps []:=fun s us _ hl=>by
 rw [Fx] at hl ⊢
 exact .of_eq (h us hl)
def Passes (CX:Fg) (X:Cx) (E:XK):Prop:=∀ (pins:ZCz) (σ:St) (H:Hp) (s:Shared) (e:Value) (s':Shared),Inv X pins σ H s->CX X.stack H s E e s'->X.xe e s'
section
variable {X:Cx}{CX:Fg}{k:Nat}{f C:Addr}{fd:FuncData}{ps:List Str}{sp:Sp}{DI:List V}{ds:List Value}{E:XK}{x m:Str}{p pos apos:Pos}{e o:Expr}{es:List Expr}{ta:TE}{t:TA}
theorem aX {pins:ZCz}{σ:St} {H:Hp}{s:Shared}{Q:VK}{us:List Value}{vs:List V}(F:DD X.prog X.w X.K X.mg X.base CX k f fd ps sp) (hr:Bn k X.A) (hb:Binds X.K fd ps ds) (hd:Vals DI ds) (hx:Passes CX X E)
  (I:Inv X pins σ H s) (r:Vals vs us) (h:sp (vs++DI) H Q E):wpAny (model X.prog X.w) X.A (call (.ref f) us) (EP X pins σ Q) X.xe s:=by
 have r2:Vals (vs++DI) (us++ds):=r.append hd
 have hl:(us++ds).length=ps.length:=by rw [<- r2.length];exact F.len _ _ _ _ h
 refine wpAny_call (codeAny_mono (F.run X.A X.stack s H ⟨us,[]⟩ (us++ds) (vs++DI) Q E hr I.bp (hb s us I.CW hl) r2 h) fun r s' hq=>?_)
 cases r with
 | error e=>exact hx pins σ H s e s' I hq
 | ok fl=>
  cases fl with
  | ret u=>exact I.after hq
  | next=>exact False.elim hq
  | brk=>exact False.elim hq
  | cont=>exact False.elim hq
theorem xB (F:DD X.prog X.w X.K X.mg X.base CX k f fd ps sp) (hr:Bn k X.A) (hg:Gl X x) (hm:X.mg x=some (.ref f)) (hk:PySem.W.keepIn X.K (.ref f)=true) (hb:Binds X.K fd ps ds) (hd:Vals DI ds) (hx:Passes CX X E)
  (ha:PA X (e :: es) t) (CC:(x == ("__debug__" : Str))=false:=by decide) (he:starEach (e :: es) X.env=(false,eval e X.env) :: starEach es X.env:=by rfl) (Bh:(backTo pos (starEach es X.env)).any (·.1)=false:=by rfl) :
  PE X (.Call (.Name x p) (e :: es) [] pos) (CP sp DI E t):=by
 intro pins s σ H Q I h
 refine wpAny_Call_Name_kw (Qo I hg hm ?_ CC)
 refine iw (h₀:=X.base) I.ok.mod.Mp hk (AR (ha pos pins s σ H _ I h) fun us s1 ⟨vs,H1,I1,r,q⟩=>⟨I1.CW,?_⟩) he Bh
 exact aX F hr hb hd hx I1 r q
theorem rY {pl:Sem Bool}(he:PE X o ta) (c:Bf X.K C) (hm:Meth X.K C m f) (F:DD X.prog X.w X.K X.mg X.base CX k f fd ps sp) (hr:Bn k X.A) (hb:Binds X.K fd ps ds) (hd:Vals DI ds) (hx:Passes CX X E) (ha:PA X (e :: es) t)
  (BY:starEach (e :: es) X.env=(false,eval e X.env) :: starEach es X.env:=by rfl) (Bh:(backTo pos (starEach es X.env)).any (·.1)=false:=by rfl)
  (ht:eval (.Call (.Attribute o m apos) (e :: es) [] pos) X.env=(do
   let ov <- eval o X.env
   standAt apos.atName
   let (f,first) <- holding [ov] (getMethod ov m pl)
   callWith pos f first (backTo pos (starEach (e :: es) X.env)) (backToKw pos (keywordEach [] X.env))):=by rfl) :
  PE X (.Call (.Attribute o m apos) (e :: es) [] pos) (Jo C m sp DI E ta t):=by
 intro pins s σ H Q I h
 refine PySem.W.methodCall_KW (pl:=pl) (AR (he pins s σ H _ I h) fun u s1 ⟨x,H1,I1,rx,a,dx,fs,ex,ea,l,q⟩=>?_) ht
 subst ex
 obtain rfl:u=Value.ref a:=rx
 refine ZBg I1 ea c hm l ?_
 refine iw (first:=[.ref a]) (h₀:=X.base) I.ok.mod.Mp hm.kp (AR (ha pos pins s1 σ H1 _ I1 q) fun us s2 ⟨vs,H2,I2,r,q2⟩=>⟨I2.CW,?_⟩) BY Bh
 exact aX (us:=.ref a :: us) (vs:=.ref a :: vs) F hr hb hd hx I2 (.cons rfl r) q2
structure Mk (K:ZCy) (C f:Addr):Prop where
 makes:PySem.W.makesIn K C=true
 init:PySem.W.findIn K (.ref C) "__init__" = some (some (.ref f))
 fn:PySem.W.isFn K (.ref f)=true
 kp:PySem.W.keepIn K (.ref C)=true
theorem wO {pins:ZCz}{σ:St} {H:Hp}{s:Shared}{Q:VK}{us:List Value}{vs:List V}(M:Mk X.K C f) (F:DD X.prog X.w X.K X.mg X.base CX k f fd ps sp) (hr:Bn (k+1) X.A) (hb:Binds X.K fd ps ds) (hd:Vals DI ds)
  (hx:Passes CX X E) (I:Inv X pins σ H s) (r:Vals vs us)
  (h:∀ x dx,H x=none->H dx=none->dx≠x->sp (.ref x :: (vs++DI)) (upd (upd H dx (.own x)) x (.ins C dx [])) (fun v H2=>v=.AF/\Q (.ref x) H2) E) :
  wpAny (model X.prog X.w) X.A (call (.ref C) us) (EP X pins σ Q) X.xe s:=by
 have hq:=h (s.heap.objs.size+1) s.heap.objs.size (I.AM.fresh (Jb _)) (I.AM.fresh (An _)) (Bx (YW _))
 have I2:=Inv.made (C:=C) I
 have r2:Vals (V.ref (s.heap.objs.size+1) :: (vs++DI)) (Value.ref (s.heap.objs.size+1) :: (us++ds)):=.cons rfl (r.append hd)
 have hl:(Value.ref (s.heap.objs.size+1) :: us++ds).length=ps.length:=by
  have e:=r2.length
  rw [F.len _ _ _ _ hq] at e
  exact e.symm
 refine wpAny_call (ZB2 (f:=f) I.CW M.makes M.init (beq_iff_eq.mp M.fn) (codeAny_mono (F.run _ X.stack _ _ ⟨Value.ref (s.heap.objs.size+1) :: us,[]⟩ (Value.ref (s.heap.objs.size+1) :: (us++ds)) _ _ E (hr.make C us [])
  (I2.bp.make C us []) (hb _ (Value.ref (s.heap.objs.size+1) :: us) I2.CW hl) r2 hq) fun r s' Ib=>?_))
 cases r with
 | error e=>exact hx pins σ _ _ e s' I2 Ib
 | ok fl=>
  cases fl with
  | ret u=>
   obtain ⟨v,H',I3,rv,ev,q3⟩:=I2.after Ib
   subst ev
   exact ⟨rv,⟨V.ref (s.heap.objs.size+1),H',I3,rfl,q3⟩⟩
  | next=>exact False.elim Ib
  | brk=>exact False.elim Ib
  | cont=>exact False.elim Ib
theorem ZAv (M:Mk X.K C f) (F:DD X.prog X.w X.K X.mg X.base CX k f fd ps sp) (hr:Bn (k+1) X.A) (hg:Gl X x) (hm:X.mg x=some (.ref C)) (hb:Binds X.K fd ps ds) (hd:Vals DI ds) (hx:Passes CX X E)
  (ha:PA X (e :: es) t) (CC:(x == ("__debug__" : Str))=false:=by decide) (he:starEach (e :: es) X.env=(false,eval e X.env) :: starEach es X.env:=by rfl) (Bh:(backTo pos (starEach es X.env)).any (·.1)=false:=by rfl) :
  PE X (.Call (.Name x p) (e :: es) [] pos) (TN C sp DI E t):=by
 intro pins s σ H Q I h
 refine wpAny_Call_Name_kw (Qo I hg hm ?_ CC)
 refine iw (h₀:=X.base) I.ok.mod.Mp M.kp (AR (ha pos pins s σ H _ I h) fun us s1 ⟨vs,H1,I1,r,q⟩=>⟨I1.CW,?_⟩) he Bh
 exact wO M F hr hb hd hx I1 r q
end
section
variable {X:Cx}{CX:Fg}{k:Nat}{f C:Addr}{fd:FuncData}{ps ks:List Str}{sp:Sp}{E:XK}{x m:Str}{p pos apos ZCc:Pos}{e o:Expr}{es:List Expr}{kws:List Keyword}{te ta:TE}{t tk:TA}{nm:Option Str}
variable {g:List Value->List Value->List Value}{gV:List V->List V->List V}
end
structure Au (N P:List Str) (sc:Scope):Prop where
 kind:sc.kind=.function
 co:sc.isCoroutine=false
 gen:sc.isGenerator=false
 nd:N.Nodup
 pre:N.take P.length=P
 par:∀ x∈P,sc.names.lookup x=some .local∨sc.names.lookup x=some .cell
 jF:∀ y∈sc.names,y.2≠.free
theorem fT {kindOf:Str->Option NameKind}{x:Str}:∀ {binds:List (Str×Value)}{m:ZD0},(∀ v,(x,v)∉binds)->bindL kindOf binds m x=m x
 | [],_,_=>rfl
 | (n,v) :: r,m,h=>by
  unfold bindL
  rw [fT fun w hw=>h w (Fy _ hw)]
  split
  ·have:x≠n:=by rintro rfl;exact h v EA
   simp [this]
  ·rfl
theorem bN {kindOf:Str->Option NameKind}{x:Str}:∀ {binds:List (Str×Value)}{m:ZD0},(∀ v,(x,v)∉binds)->bindC kindOf binds m x=m x
 | [],_,_=>rfl
 | (n,v) :: r,m,h=>by
  unfold bindC
  rw [bN fun w hw=>h w (Fy _ hw)]
  split
  ·rfl
  ·have:x≠n:=by rintro rfl;exact h v EA
   simp [this]
theorem ZN {kindOf:Str->Option NameKind}{x:Str}{v:Value}:∀ {P:List Str}{vs:List Value}{i:Nat}{m:ZD0},P.Nodup->P[i]?=some x->vs[i]?=some v->kindOf x=some .local->
  bindL kindOf (P.zip vs) m x=some v
 | [],_,_,_,_,h,_,_=>by simp at h
 | _ :: _,[],_,_,_,_,h,_=>by simp at h
 | p :: P,w :: vs,0,m,nd,h1,h2,hk=>by
  simp at h1 h2;subst h1;subst h2
  show bindL kindOf ((p,w) :: P.zip vs) m p=_
  unfold bindL
  rw [fT fun v hv=>(List.nodup_cons.mp nd).1 (YS hv).1,if_pos hk]
  simp
 | p :: P,w :: vs,i+1,m,nd,h1,h2,hk=>by
  show bindL kindOf ((p,w) :: P.zip vs) m x=_
  unfold bindL
  exact ZN (i:=i) (List.nodup_cons.mp nd).2 (by simpa using h1) (by simpa using h2) hk
theorem cw {kindOf:Str->Option NameKind}{x:Str}{v:Value}:∀ {P:List Str}{vs:List Value}{i:Nat}{m:ZD0},P.Nodup->P[i]?=some x->vs[i]?=some v->kindOf x≠some .local->
  bindC kindOf (P.zip vs) m x=some v
 | [],_,_,_,_,h,_,_=>by simp at h
 | _ :: _,[],_,_,_,_,h,_=>by simp at h
 | p :: P,w :: vs,0,m,nd,h1,h2,hk=>by
  simp at h1 h2;subst h1;subst h2
  show bindC kindOf ((p,w) :: P.zip vs) m p=_
  unfold bindC
  rw [bN fun v hv=>(List.nodup_cons.mp nd).1 (YS hv).1,if_neg hk]
  simp
 | p :: P,w :: vs,i+1,m,nd,h1,h2,hk=>by
  show bindC kindOf ((p,w) :: P.zip vs) m x=_
  unfold bindC
  exact cw (i:=i) (List.nodup_cons.mp nd).2 (by simpa using h1) (by simpa using h2) hk
noncomputable def start (N:List Str) (vs:List V):St:=vs.map some++List.replicate (N.length - vs.length) none
noncomputable def KY (CX:Fg) (P:Program) (w:World) (K:ZCy) (mg:ZD0) (base:Heap) (N:List Str) (qual:Str) (scope:Scope) (f:Addr) (cd:Value) (A:Around) (outer:List Env) (s:Shared) (H:Hp) (E:XK):Cx where
 prog:=P
 w:=w
 K:=K
 mg:=mg
 base:=base
 A:=A.deeper (envOfC qual scope s.heap.objs.size f cd)
 N:=N
 s₀:=s
 H₀:=H
 env:=envOfC qual scope s.heap.objs.size f cd
 outer:=outer
 stack:=envOfC qual scope s.heap.objs.size f cd :: outer
 ex:=[]
 calm:=true
 fn:=fun _=>true
 pn:=[]
 xe:=fun e s'=>wpAny (model P w) (A.deeper (envOfC qual scope s.heap.objs.size f cd)) (leaving (envOfC qual scope s.heap.objs.size f cd) e) (fun _ NU=>CX outer H s E e NU) (fun e' NU=>CX outer H s E e' NU) s'
theorem cY {sc:Scope}{n:Nat}{x:Str}(h:sc.names.lookup x=some .cell):∃ c,(cellsFrom n sc.names []).lookup x=some c:=by
 have q:=ZCK sc.names n [] (.inl h)
 exact Option.isSome_iff_exists.mp q
theorem pK {CX:Fg}{P:Program}{w:World}{K:ZCy}{mg:ZD0}{base:Heap}{N ps:List Str}{qual:Str}{scope:Scope}{f:Addr}{cd:Value}{A:Around}{outer:List Env}{s s1:Shared}{H:Hp}{E:XK}{us:List Value}{vs:List V}
  (S:Au N ps scope) (hd:A.handled=none) (e0:Jq P w K mg base A outer s H) (hl:vs.length=ps.length) (r:Vals vs us)
  (x:InCallC s s.heap.objs.size (bindL (envOfC qual scope s.heap.objs.size f cd).kindOf (ps.zip us) fun _=>none) (cellsFrom (s.heap.objs.size+1) scope.names []) (bindC (envOfC qual scope s.heap.objs.size f cd).kindOf (ps.zip us) fun _=>none) s1) :
  Inv (KY CX P w K mg base N qual scope f cd A outer s H E) [] (start N vs) H s1:=by
 have Bh:ps.length<=N.length:=by have:=congrArg List.length S.pre;rw [CF] at this;omega
 obtain ⟨h1,tk,rfl,hk⟩:=x.done
 have OH:∀ b:Addr,b∉(KY CX P w K mg base N qual scope f cd A outer s H E).ex:=fun b z=>absurd (show b∈([]:List Addr) from z) (by simp)
 refine ⟨⟨e0.mod,S.kind,rfl,rfl,An _,fun y z c h1 h2=>?_,fun y hy=>?_,fun y c _ h=>?_,fun _=>hd,Around.frames_deeper e0.frames,.inr ⟨rfl,rfl⟩,fun b z=>absurd z (OH b),e0.bs,e0.G5,fun b _ _=>OH b,fun b z=>absurd z (OH b),e0.Ef,e0.Hj⟩,
  rfl,e0.bare,Un.kept hk,⟨_,x.toInCall.ns,fun i y v h1 h2 h3=>?_⟩,fun y c h=>⟨_,x.cell y c h⟩,e0.AM.fresh (An _),fun y c h=>?_,fun p hp=>absurd (show p∈([]:ZCz) from hp) (by simp),e0.AM.kept hk,?_⟩
 ·exact name_of_addr x.apart (L7 h1) (L7 h2)
 ·have hy:scope.names.lookup y=some .cell∨scope.names.lookup y=some .free:=hy
  rcases hy with hy | hy
  ·exact cY hy
  ·exact absurd rfl (S.jF _ (L7 hy))
 ·exact Ob (x.above y c (L7 h))
 ·have hi:i < vs.length:=by
   unfold start at h2
   by_cases hi:i < vs.length
   ·exact hi
   ·rw [GU (by simpa using hi)] at h2
    rw [ZBz] at h2
    split at h2 <;> cases h2
  have ha:vs[i]?=some v:=by
   unfold start at h2
   rw [En (by simpa using hi),BF] at h2
   cases e:vs[i]? with
   | none=>rw [e] at h2;cases h2
   | some a=>rw [e] at h2;cases h2;rfl
  obtain ⟨u,hu,rv⟩:=r.get ha
  have hp:ps[i]?=some y:=by
   rw [<- S.pre,List.getElem?_take_of_lt (by omega)];exact h1
  have bU:ps.Nodup:=by rw [<- S.pre];exact S.nd.sublist (ZC8 _ _)
  refine ⟨u,rv,?_⟩
  rcases S.par y (CG hp) with k | k
  ·exact .inl ⟨k,ZN bU hp hu k⟩
  ·obtain ⟨c,e⟩:=cY (n:=s.heap.objs.size+1) k
   refine .inr ⟨.inl k,c,e,?_⟩
   have q:=x.cell y c e
   rw [cw bU hp hu (by show scope.names.lookup y≠_;rw [k];decide)] at q
   exact q
 ·exact e0.AM.fresh (Ob (x.above y c (L7 h)))
 ·unfold start
  show _=N.length
  rw [Bm,AV,List.length_replicate]
  omega
theorem qz {CX:Fg}{P:Program}{w:World}{K:ZCy}{mg:ZD0}{base:Heap}{k:Nat}{f:Addr}{name qual:Str}{params:Arguments}{body:List Stmt}{scope:Scope}{dV kV doc pm Aa ct oc:Value}{an od:Option Addr}
  {J2:Array (Option Value)}{N ps:List Str}{sp:Sp}(lk:K.lookup f=some ⟨oc,od,.func (PySem.W.fnOf name qual params body scope dV kV doc pm an Aa ct),J2⟩) (FX:PySem.W.codeIn K Aa qual=true) (S:Au N ps scope)
  (len:∀ vs H Q E,sp vs H Q E->vs.length=ps.length)
  (NZ:∀ (A:Around) (outer:List Env) (s:Shared) (H:Hp) (vs:List V) (Q:VK) (E:XK),Bn k (A.deeper (envOfC qual scope s.heap.objs.size f Aa))->sp vs H Q E->
   ∃ t,DX (KY CX P w K mg base N qual scope f Aa A outer s H E) body t/\t { nx:=fun _ H'=>Q .AF H',rt:=Q } (start N vs) H) :
  DD P w K mg base CX (k+1) f (PySem.W.fnOf name qual params body scope dV kV doc pm an Aa ct) ps sp:=by
 refine ⟨len,fun A outer s H args us vs Q E hr e0 hb r Fb=>?_⟩
 have hl:=len _ _ _ _ Fb
 have KX:K.In s.heap:=e0.mod.Mp.keeps fun b o e=>(e0.bs b o e).1
 have lim:s.heap.NoLimit:=e0.mod.nolimit.keeps fun b o e=>(e0.bs b o e).1
 have lT:∀ y∈ps.zip us,scope.names.lookup y.1=some .local∨(scope.names.lookup y.1=some .cell/\((cellsFrom (s.heap.objs.size+1) scope.names []).lookup y.1).isSome=true):=fun ⟨n,v⟩ hy=>by
  rcases S.par n (YS hy).1 with q | q
  ·exact .inl q
  ·exact .inr ⟨q,ZCK _ _ _ (.inl q)⟩
 refine codeAny_call_function hr.depth (KX _ _ lk) rfl S.co S.gen rfl (PySem.W.codeRec_of KX FX) (hb _ _ _ _ ?_)
 refine wpAny_newFunctionEnv_cells S.kind lT fun env he s1 x=>?_
 subst he
 refine ⟨lim.keeps x.toInCall.keep,codeAny_func ?_⟩
 obtain ⟨t,ht,hq⟩:=NZ A outer s H vs Q E (hr.deeper _) Fb
 have I:Inv (KY CX P w K mg base N qual scope f Aa A outer s H E) [] (start N vs) H s1:=pK S hr.hd e0 hl r x
 refine wpAny_mono (ht [] s1 (start N vs) H _ I hq) (fun fl s' hs=>?_) fun e s' hs=>hs
 have fin:∀ {σ':St} {H':Hp}{v:V}{u:Value},Inv (KY CX P w K mg base N qual scope f Aa A outer s H E) [] σ' H' s'->RelV v u->Q v H'->CE outer P w H s Q u s':=
  fun {σ' H' v u} J rv q=>⟨v,H',J.os,J.bare,J.base,J.AM,rv,q⟩
 cases fl with
 | ret u=>
  obtain ⟨v,σ',H',J,rv,q⟩:=hs
  exact fin J rv q
 | next=>
  obtain ⟨σ',H',J,q⟩:=hs
  exact fin (v:=V.AF) (u:=Value.none) J rfl q
 | brk=>
  obtain ⟨_,_,_,q⟩:=hs
  exact False.elim q
 | cont=>
  obtain ⟨_,_,_,q⟩:=hs
  exact False.elim q
section
variable {X:Cx}{x:Str}{p pos:Pos}{e:Expr}{es:List Expr}{t:TA}{id T:String}{r:List V->Hp->VK->Prop}
def CB (r:List V->Hp->VK->Prop) (t:TA):TE:=fun σ H Q=>t σ H fun vs H1=>r vs H1 Q
theorem qy (hc:Ci X (.builtin id) r) (hg:Gl X x) (hm:X.mg x=none) (hv:bootBuiltins x=some (.builtin id)) (ha:PA X (e :: es) t) (hn:x ≠ "__name__" := by decide) (CC:(x == ("__debug__" : Str))=false:=by decide)
  (he:starEach (e :: es) X.env=(false,eval e X.env) :: starEach es X.env:=by rfl) (Bh:(backTo pos (starEach es X.env)).any (·.1)=false:=by rfl):PE X (.Call (.Name x p) (e :: es) [] pos) (CB r t):=by
 intro pins s σ H Q I h
 refine wpAny_Call_Name_kw (J8 I hg hm hv ?_ hn CC)
 exact PyProof.Rows.callWith_builtin1 (AR (ha pos pins s σ H _ I h) fun us s1 ⟨vs,H1,I1,r1,q1⟩=>hc pins s1 σ H1 vs us Q I1 r1 q1) he Bh
theorem ZB3 (hc:Ci X (.type T) r) (hg:Gl X x) (hm:X.mg x=none) (hv:bootBuiltins x=some (.type T)) (ha:PA X (e :: es) t) (hn:x ≠ "__name__" := by decide) (CC:(x == ("__debug__" : Str))=false:=by decide)
  (he:starEach (e :: es) X.env=(false,eval e X.env) :: starEach es X.env:=by rfl) (Bh:(backTo pos (starEach es X.env)).any (·.1)=false:=by rfl):PE X (.Call (.Name x p) (e :: es) [] pos) (CB r t):=by
 intro pins s σ H Q I h
 refine wpAny_Call_Name_kw (J8 I hg hm hv ?_ hn CC)
 exact Oe (AR (ha pos pins s σ H _ I h) fun us s1 ⟨vs,H1,I1,r1,q1⟩=>hc pins s1 σ H1 vs us Q I1 r1 q1) he Bh
end
end L2
namespace HT
section
open PySem.SeqAt
open PySem.AutoSeq1 (wpAny_loadPart')
open PySem.MeetsSeq PySem.MeetsSeq2 PySem.MeetsSeq3
end
section
variable {prog:Program}{w:World}{A:Around}{E:Value->Shared->Prop}{s:Shared}
theorem j3 {t b:Addr}{vs ws:List Value}{Q:Value->Shared->Prop}(ht:IsTup s.heap t vs.toArray) (hb:IsTup s.heap b ws.toArray) (hv:vs≠[])
  (h1:ws=[]->Q (.ref t) s) (h2:ws≠[]->Q (.ref s.heap.objs.size) { s with heap:=s.heap.push { cls:=.type "tuple", data:=.seq (vs++ws).toArray } })
  (hsz:vs.length+ws.length<=sizeLine):wpAny (model prog w) A (binaryOp .Add (.ref t) (.ref b)) Q E s:=by
 obtain ⟨⟨cls,dd,data,sl⟩,ho,hc,n,hd⟩:=id ht
 obtain ⟨⟨yl,RD,data2,KA⟩,Kt,Jv,n2,hd2⟩:=id hb
 simp only at hc hd Jv hd2
 subst hc hd Jv hd2
 have e:vs.toArray++ws.toArray=(vs++ws).toArray:=by simp
 by_cases hw:ws=[]
 ·exact concat_meets ⟨_,ho,rfl⟩ ⟨_,Kt,rfl⟩ noFill_tuple_add seq_tuple_add iu ir (iq _ _)
   (tuple_addW1 t b vs.toArray ws.toArray n n2 dd RD sl KA (by simpa using hv) (by simp [hw])) ⟨ho,Kt,h1 hw⟩
 ·refine concat_meets ⟨_,ho,rfl⟩ ⟨_,Kt,rfl⟩ noFill_tuple_add seq_tuple_add iu ir (iq _ _)
   (tuple_addW2 t b vs.toArray ws.toArray n n2 dd RD sl KA (by simpa using hv) (by simpa using hw) (by rw [Br,Br];exact hsz)) ⟨ho,Kt,?_⟩
  rw [e]
  exact h2 hw
noncomputable def Ak (n d:Nat):Option Int->Nat
 | none=>d
 | some v=>if v < 0 then (v+(n:Int)).toNat else min v.toNat n
theorem bL (n d:Nat):Ak n d none=d:=rfl
theorem Of (n d k:Nat):Ak n d (some (k:Int))=min k n:=by
 show (if (k:Int) < 0 then ((k:Int)+(n:Int)).toNat else min (k:Int).toNat n)=min k n
 rw [if_neg (by omega),YG]
theorem kY (n d:Nat) (hd:d<=n) (o:Option Int):Ak n d o<=n:=by
 cases o with
 | none=>exact hd
 | some v=>
  show (if v < 0 then (v+(n:Int)).toNat else min v.toNat n)<=n
  by_cases hv:v < 0
  ·rw [if_pos hv];omega
  ·rw [if_neg hv];exact ZCC _ _
theorem Zb (v:Int) (n d:Nat):(if v < 0 then max (v+(n:Int)) 0 else min v (n:Int))=((Ak n d (some v):Nat):Int):=by
 show (if v < 0 then max (v+(n:Int)) 0 else min v (n:Int))=(((if v < 0 then (v+(n:Int)).toNat else min v.toNat n):Nat):Int)
 by_cases hv:v < 0
 ·simp only [if_pos hv];omega
 ·simp only [if_neg hv];omega
theorem kc (lo hi:Option Int) (n:Nat):Builtin.Slice.sliceAdjust lo hi 1 (n:Int)=(((Ak n 0 lo:Nat):Int),((Ak n n hi:Nat):Int)):=by
 have h1:¬ ((1:Int) < 0):=by omega
 unfold Builtin.Slice.sliceAdjust
 simp only [h1,if_false]
 refine Prod.ext ?_ ?_
 ·cases lo with
  | none=>rfl
  | some v=>exact Zb v n 0
 ·cases hi with
  | none=>rfl
  | some v=>exact Zb v n n
theorem kQ (i j:Nat):Builtin.Slice.slicePlaces (i:Int) (j:Int) 1=j - i:=by
 unfold Builtin.Slice.slicePlaces
 have h1:(1:Int) > 0:=by omega
 simp only [h1,if_true,Int.ediv_one]
 split <;> omega
theorem Zg {v:Value}{o:Option Int}{Q:Option Int->Shared->Prop}(p:IsPart v o) (h:Q o s):wpAny (model prog w) A (Builtin.Slice.slicePartIndex v) Q E s:=by
 cases p with
 | none=>exact slicePart_none h
 | int i t=>exact slicePart_int h
theorem eE {sl:Addr}{vl vu:Value}{lo hi:Option Int}{n:Nat}{Q:Int×Int×Nat->Shared->Prop}(hs:s.heap.IsSliceOf sl vl vu .none) (pl:IsPart vl lo) (pu:IsPart vu hi)
  (h:Q (((Ak n 0 lo:Nat):Int),1,Ak n n hi - Ak n 0 lo) s):wpAny (model prog w) A (Builtin.Slice.sliceApplied (.ref sl) (pure (n:Int))) Q E s:=by
 obtain ⟨os,KI,QV,OA⟩:=id hs
 unfold Builtin.Slice.sliceApplied Builtin.Slice.sliceFields
 refine wpAny_bind (wpAny_bind (wpAny_field KI OA (x:=vl) rfl (wpAny_bind (wpAny_field KI OA (x:=vu) rfl (wpAny_bind (wpAny_field KI OA (x:=.none) rfl (wpAny_pure ?_)))))))
 refine wpAny_bind (slicePart_none ?_)
 show wpAny _ _ (if ((1:Int) == 0)=true then _ else _) _ _ s
 rw [if_neg (by decide)]
 refine wpAny_bind (Zg pl (wpAny_bind (Zg pu (wpAny_bind (wpAny_pure ?_)))))
 show wpAny _ _ (match Builtin.Slice.sliceAdjust lo hi 1 (n:Int) with | (lo,hi)=>pure (lo,(1:Int),Builtin.Slice.slicePlaces lo hi 1)) _ _ s
 rw [kc lo hi n]
 show wpAny _ _ (pure (((Ak n 0 lo:Nat):Int),(1:Int),Builtin.Slice.slicePlaces ((Ak n 0 lo:Nat):Int) ((Ak n n hi:Nat):Int) 1)) _ _ s
 rw [kQ]
 exact wpAny_pure h
theorem lP (xs:Array Value) (i k:Nat):((List.range k).filterMap fun (m:Nat)=>xs[((i:Int)+(m:Int) * 1).toNat]?).toArray=((xs.toList.drop i).take k).toArray:=by
 have e:(fun (m:Nat)=>xs[((i:Int)+(m:Int) * 1).toNat]?)=fun m=>xs[i+m]?:=by
  funext m
  have:((i:Int)+(m:Int) * 1).toNat=i+m:=by omega
  rw [this]
 rw [e]
 have:=pick_run xs i k
 rw [List.filterMap_map] at this
 have e2:((fun x=>xs[x]?) ∘ fun x=>i+x)=fun m=>xs[i+m]?:=rfl
 rw [e2] at this
 rw [this]
theorem o6 {t sl:Addr}{items:Array Value}{vl vu:Value}{lo hi:Option Int}{Q:Value->Shared->Prop}(ht:IsTup s.heap t items) (hs:s.heap.IsSliceOf sl vl vu .none) (pl:IsPart vl lo) (pu:IsPart vu hi)
  (hw:¬ (Ak items.size 0 lo=0/\Ak items.size items.size hi=items.size))
  (h:Q (.ref s.heap.objs.size) { s with heap:=s.heap.push { cls:=.type "tuple", data:=.seq ((items.toList.drop (Ak items.size 0 lo)).take (Ak items.size items.size hi - Ak items.size 0 lo)).toArray } })
  (hsz:items.size<=sizeLine):wpAny (model prog w) A (getItem (.ref t) (.ref sl)) Q E s:=by
 have PZ:sizeOk (.seq ((items.toList.drop (Ak items.size 0 lo)).take (Ak items.size items.size hi - Ak items.size 0 lo)).toArray):=by
  show ((items.toList.drop (Ak items.size 0 lo)).take (Ak items.size items.size hi - Ak items.size 0 lo)).toArray.size<=sizeLine
  rw [Br,CF,E8,Cj]
  omega
 have hj:Ak items.size items.size hi<=items.size:=kY _ _ (An _) hi
 obtain ⟨os,KI,QV,OA⟩:=id hs
 have XO:s.TypeIs (.ref sl) "slice" := ⟨os,KI,QV⟩
 unfold getItem
 try with_reducible refine wpAny_holding ?_
 first | refine wpAny_bind (wpAny_pure ?_) | skip
 refine wpAny_bind (wpAny_sequenceKey ht.typeIs (by decide) ?_)
 refine wpAny_bind (wpAny_callSpecial?_slot (name:=Str.ofString "__getitem__") ht.typeIs Ya
  (wpAny_call_entry Ya ht.typeIs entry_tuple_getitem ?_ (args_tuple_getitem _ _)))
 show wpAny _ _ (Builtin.Tuple.tupleItemsOf (.ref t) >>= _) _ _ s
 refine wpAny_bind (tupleItemsOf_ ht ?_)
 refine wpAny_bind (wpAny_typeOf XO ?_)
 rw [if_pos (by decide)]
 refine wpAny_bind (eE hs pl pu ?_)
 have KH:¬ ((((Ak items.size 0 lo:Nat):Int) == 0 && (1:Int) == 1 && (Ak items.size items.size hi - Ak items.size 0 lo) == items.size)=true):=by
  intro q
  rw [El,El] at q
  have q1:((Ak items.size 0 lo:Nat):Int)=0:=eq_of_beq q.1.1
  have q2:Ak items.size items.size hi - Ak items.size 0 lo=items.size:=eq_of_beq q.2
  exact hw ⟨by omega,by omega⟩
 show wpAny _ _ (if (((Ak items.size 0 lo:Nat):Int) == 0 && (1:Int) == 1 && (Ak items.size items.size hi - Ak items.size 0 lo) == items.size)=true then _ else _) _ _ s
 rw [if_neg KH,lP]
 first
  | exact wpAny_bind (m:=Builtin.Tuple.tupleExact _) (wpAny_newObj_type (wpAny_pure ⟨_,rfl,wpAny_pure h⟩) PZ)
  | exact wpAny_bind (m:=Builtin.Tuple.tupleExact _) (wpAny_newObj_type (wpAny_bind (wpAny_pure (wpAny_pure ⟨_,rfl,wpAny_pure h⟩))) PZ)
  | exact wpAny_bind (wpAny_bind (m:=Builtin.Tuple.tupleExact _) (wpAny_newObj_type (wpAny_pure (wpAny_pure ⟨_,rfl,wpAny_pure h⟩)) PZ))
  | exact wpAny_bind (wpAny_bind (m:=Builtin.Tuple.tupleExact _) (wpAny_newObj_type (wpAny_pure ⟨_,rfl,wpAny_pure h⟩) PZ))
end
end HT
namespace L2
abbrev TO:=St->Hp->(Option Int->Hp->Prop)->Prop
def PO (X:Cx) (e:Option Expr) (t:TO):Prop:=
 ∀ (pins:ZCz) (s:Shared) (σ:St) (H:Hp) (Q:Option Int->Hp->Prop),Inv X pins σ H s->t σ H Q->
  wpAny (model X.prog X.w) X.A (evalPart e X.env) (fun u s'=>∃ o H',Inv X pins σ H' s'/\IsPart u o/\Q o H') X.xe s
def YA:TO:=fun _ H Q=>Q none H
def Sh (t:TE):TO:=fun σ H Q=>t σ H fun x H1=>∃ i,x=.int i/\Q (some i) H1
section
variable {X:Cx}{e:Expr}{te:TE}{lo hi:Option Expr}{tl th:TO}{pos p2:Pos}
theorem qh:PO X none YA:=by
 intro pins s σ H Q I h
 rw [evalPart_none]
 exact wpAny_pure ⟨none,H,I,.none,h⟩
theorem ZAt (h:PE X e te):PO X (some e) (Sh te):=by
 intro pins s σ H Q I hw
 rw [evalPart_some]
 refine AR (h pins s σ H _ I hw) fun u s1 ⟨x,H1,I1,r1,q1⟩=>?_
 obtain ⟨i,rfl,q⟩:=q1
 obtain ⟨t,rfl⟩:=r1
 exact ⟨some i,H1,I1,.int i t,q⟩
def GA (X:Cx) (r:V->Option Int->Option Int->Hp->VK->Prop):Prop:=
 ∀ (pins:ZCz) (s:Shared) (σ:St) (H:Hp) (x:V) (v vl vu:Value) (lo hi:Option Int) (sl:Addr) (Q:VK),Inv X pins σ H s->RelV x v->s.heap.IsSliceOf sl vl vu .none->IsPart vl lo->IsPart vu hi->r x lo hi H Q->
  ∃ T id,typeLookup (.type T) "__getitem__" = pure (some (.builtin id))/\s.TypeIs v T/\wpAny (model X.prog X.w) X.A (getItem v (.ref sl)) (EP X pins σ Q) X.xe s
theorem GA.or {r r':V->Option Int->Option Int->Hp->VK->Prop}(h:GA X r) (h':GA X r'):GA X (fun x lo hi H Q=>r x lo hi H Q∨r' x lo hi H Q):=by
 intro pins s σ H x v vl vu lo hi sl Q I rx hs pl pu q
 rcases q with q | q
 ·exact h pins s σ H x v vl vu lo hi sl Q I rx hs pl pu q
 ·exact h' pins s σ H x v vl vu lo hi sl Q I rx hs pl pu q
def LC (r:V->Option Int->Option Int->Hp->VK->Prop) (te:TE) (tl th:TO):TE:=fun σ H Q=>te σ H fun x H1=>tl σ H1 fun l H2=>th σ H2 fun u H3=>r x l u H3 Q
theorem ZBL {r:V->Option Int->Option Int->Hp->VK->Prop}(hr:GA X r) (he:PE X e te) (hl:PO X lo tl) (hu:PO X hi th):PE X (.Subscript e (.Slice lo hi none p2) pos) (LC r te tl th):=by
 intro pins s σ H Q I h
 refine Subscript_ (AR (he pins s σ H _ I h) fun v s1 ⟨x,H1,I1,r1,q1⟩=>?_)
 refine wpAny_Slice (AR (hl pins s1 σ H1 _ I1 q1) fun vl s2 ⟨l,H2,I2,pl,q2⟩=>AR (hu pins s2 σ H2 _ I2 q2) fun vu s3 ⟨u,H3,I3,pu,q3⟩=>?_)
 rw [evalPart_none]
 refine wpAny_pure ?_
 have I4:Inv X pins σ H3 { s3 with heap:=s3.heap.push { cls:=.type "slice", data:=.fields #[vl,vu,.none] } }:=I3.kept (t':=s3.toks) fun b ob q=>Bl _ q
 obtain ⟨T,id,hT,ht,hg⟩:=hr pins { s3 with heap:=s3.heap.push { cls:=.type "slice", data:=.fields #[vl,vu,.none] } } σ H3 x v vl vu l u s3.heap.objs.size Q I4 r1 (Heap.IsSliceOf.new ..) pl pu q3
 show wpAny (model X.prog X.w) X.A (subscriptTail e (.Slice lo hi none p2) v (.ref s3.heap.objs.size)) (EP X pins σ Q) X.xe { s3 with heap:=s3.heap.push { cls:=.type "slice", data:=.fields #[vl,vu,.none] } }
 exact tail_any (ops:=[.ref s3.heap.objs.size,v]) ht hT hg (by with_unfolding_all rfl)
noncomputable def C4 (xs:List V) (lo hi:Option Int):List V:=(xs.drop (HT.Ak xs.length 0 lo)).take (HT.Ak xs.length xs.length hi - HT.Ak xs.length 0 lo)
theorem Zp (xs:List V) (lo hi:Option Int):(C4 xs lo hi).length<=xs.length:=by
 unfold C4
 rw [CF,E8]
 omega
def wU (K:ZCy):V->Option Int->Option Int->Hp->VK->Prop:=fun x lo hi H Q=>∃ a xs,x=.ref a/\A9 K H a xs/\
 ¬ (HT.Ak xs.length 0 lo=0/\HT.Ak xs.length xs.length hi=xs.length)/\∀ p,H p=none->Q (.ref p) (upd H p (.tup (C4 xs lo hi)))
theorem dJ:GA X (wU X.K):=by
 intro pins s σ H x v vl vu lo hi sl Q I rx hs pl pu h
 obtain ⟨a,xs,rfl,hx,hw,q⟩:=h
 cases rx
 obtain ⟨A6,r,ht,hz⟩:=I.tuple hx
 have hlen:A6.toArray.size=xs.length:=by rw [Br];exact r.length.symm
 refine ⟨"tuple", _,PyProof.Rows.slot_tuple_getitem.lookup,ht.typeIs,?_⟩
 refine HT.o6 ht hs pl pu (by rw [hlen];exact hw) ?_ (by rw [hlen];exact hz)
 rw [hlen]
 refine ⟨.ref s.heap.objs.size,_,I.laid (t':=s.toks) (o:=.tup (C4 xs lo hi)) (fun b ob q=>Bl _ q) (An _) ?_,rfl,q _ (I.AM.fresh (An _))⟩
 exact ⟨Cs (Zp xs lo hi) hz,_,(r.drop (HT.Ak xs.length 0 lo)).take (HT.Ak xs.length xs.length hi - HT.Ak xs.length 0 lo),⟨IsTup.new _ _,fun Qu e'=>by rw [CI _ rfl] at e';cases e';rfl⟩⟩
def ml (K:ZCy):R2:=fun x y H Q=>∃ a b xs ys,x=.ref a/\y=.ref b/\A9 K H a xs/\A9 K H b ys/\xs≠[]/\xs.length+ys.length<=sizeLine/\
 (ys=[]->Q (.ref a) H)/\(ys≠[]->∀ p,H p=none->Q (.ref p) (upd H p (.tup (xs++ys))))
theorem Vals.PB {xs:List V}{us:List Value}(r:Vals xs us):us=[]↔xs=[]:=by
 cases r with
 | nil=>simp
 | cons _ _=>simp
theorem tN:BB X (binaryOp .Add) (ml X.K):=by
 intro pins s σ H x y v u Q I rx ry h
 obtain ⟨a,b,xs,ys,rfl,rfl,ha,hb,hx,hz,q1,q2⟩:=h
 cases rx
 cases ry
 obtain ⟨A6,r1,p1,_⟩:=I.tuple ha
 obtain ⟨C3,r2,p2,_⟩:=I.tuple hb
 refine HT.j3 p1 p2 (fun z=>hx (r1.PB.mp z)) (fun z=>⟨.ref a,H,I,rfl,q1 (r2.PB.mp z)⟩) (fun z=>?_) (by rw [<- r1.length,<- r2.length];exact hz)
 refine ⟨.ref s.heap.objs.size,_,I.laid (t':=s.toks) (o:=.tup (xs++ys)) (fun b ob q=>Bl _ q) (An _) ?_,rfl,q2 (fun w=>z (r2.PB.mpr w)) _ (I.AM.fresh (An _))⟩
 exact ⟨by rw [Bm];exact hz,_,r1.append r2,⟨IsTup.new _ _,fun Qu e'=>by rw [CI _ rfl] at e';cases e';rfl⟩⟩
end
noncomputable def G6 (n:Nat) (i:Int):Option Nat:=if 0<=i then (if i < n then some i.toNat else none) else if -(n:Int)<=i then some (i+n).toNat else none
noncomputable def BX {α:Type} (xs:List α) (i:Int):Option α:=(G6 xs.length i).bind fun j=>xs[j]?
theorem cv {n:Nat}{i:Int}{j:Nat}(h:G6 n i=some j):seqIndex? i n=some j/\j < n/\-(n:Int)<=i/\i < n:=by
 unfold G6 at h
 by_cases h0:0<=i
 ·rw [if_pos h0] at h
  by_cases h1:i < n
  ·rw [if_pos h1] at h
   have e:i.toNat=j:=BU h
   exact ⟨by rw [seqIndex_of h0 h1,e],by omega,by omega,h1⟩
  ·rw [if_neg h1] at h;cases h
 ·rw [if_neg h0] at h
  by_cases h1:-(n:Int)<=i
  ·rw [if_pos h1] at h
   have e:(i+n).toNat=j:=BU h
   exact ⟨by rw [seqIndex_neg (by omega) h1,e],by omega,h1,by omega⟩
  ·rw [if_neg h1] at h;cases h
theorem WE {α:Type} {xs:List α}{i:Int}{v:α}(h:BX xs i=some v):∃ j,seqIndex? i xs.length=some j/\xs[j]?=some v/\j < xs.length/\-(xs.length:Int)<=i/\i < xs.length:=by
 unfold BX at h
 cases e:G6 xs.length i with
 | none=>rw [e] at h;cases h
 | some j=>
  rw [e] at h
  obtain ⟨h1,h2,h3,h4⟩:=cv e
  exact ⟨j,h1,h,h2,h3,h4⟩
theorem SE {α:Type} {xs:List α}{j:Nat}{v:α}(h:xs[j]?=some v):BX xs (j:Int)=some v:=by
 have hj:j < xs.length:=(List.getElem?_eq_some_iff.mp h).1
 have e:G6 xs.length (j:Int)=some j:=by
  unfold G6
  rw [if_pos (by omega),if_pos (by omega)];simp
 unfold BX;rw [e];exact h
def XC (b:Expr):Prop:=∀ o i,subscripted b false o i=operate [o,i] (getItem o i)
def FN (X:Cx) (r:R2):Prop:=
 ∀ (value slice:Expr) (pins:ZCz) (s:Shared) (σ:St) (H:Hp) (x y:V) (v u:Value) (Q:VK),Inv X pins σ H s->RelV x v->RelV y u->r x y H Q->
  subscripted slice false v u=operate [v,u] (getItem v u)->wpAny (model X.prog X.w) X.A (subscriptTail value slice v u) (EP X pins σ Q) X.xe s
def Hc (X:Cx) (id:String) (r:V->List V->Hp->VK->Prop):Prop:=
 ∀ (pins:ZCz) (s:Shared) (σ:St) (H:Hp) (x:V) (xs:List V) (v:Value) (us:List Value) (Q:VK),Inv X pins σ H s->RelV x v->Vals xs us->r x xs H Q->
  wpAny (model X.prog X.w) X.A (call (.builtin id) (v :: us)) (EP X pins σ Q) X.xe s
section
variable {X:Cx}{a b:Expr}{ta tb:TE}{pos:Pos}
theorem FN.or {r r':R2}(h:FN X r) (h':FN X r'):FN X (fun x y H Q=>r x y H Q∨r' x y H Q):=by
 intro value slice pins s σ H x y v u Q I rx ry q hs
 rcases q with q | q
 ·exact h value slice pins s σ H x y v u Q I rx ry q hs
 ·exact h' value slice pins s σ H x y v u Q I rx ry q hs
theorem Hc.or {id:String}{r r':V->List V->Hp->VK->Prop}(h:Hc X id r) (h':Hc X id r'):Hc X id (fun x xs H Q=>r x xs H Q∨r' x xs H Q):=by
 intro pins s σ H x xs v us Q I rx rs q
 rcases q with q | q
 ·exact h pins s σ H x xs v us Q I rx rs q
 ·exact h' pins s σ H x xs v us Q I rx rs q
theorem xP {r:R2}(hr:FN X r) (ha:PE X a ta) (hb:PE X b tb) (hs:XC b):PE X (.Subscript a b pos) (BQ r ta tb):=by
 intro pins s σ H Q I h
 exact Subscript_ (TH ha hb I h fun v u s2 x y H2 I2 rx ry q=>hr a b pins s2 σ H2 x y v u Q I2 rx ry q (hs _ _))
def Mt (K:ZCy):R2:=fun x y H Q=>∃ p xs i v,x=.ref p/\y=.int i/\AE K H p xs/\BX xs i=some v/\Q v H
def Jf (K:ZCy):R2:=fun x y H Q=>∃ p xs i v,x=.ref p/\y=.int i/\A9 K H p xs/\BX xs i=some v/\Q v H
def ZAQ:R2:=fun x y H Q=>∃ z i c,x=.str z/\y=.int i/\z.length<=sizeLine/\BX z.cps.toList i=some c/\Q (.str ⟨#[c]⟩) H
theorem Ed:FN X (Mt X.K):=by
 intro value slice pins s σ H x y v u Q I rx ry h hs
 obtain ⟨p,xs,i,z,rfl,rfl,hq,he,q⟩:=h
 cases rx
 obtain ⟨t,rfl⟩:=ry
 obtain ⟨A6,r,pl,hz⟩:=I.list hq
 obtain ⟨j,h1,h2,h3,h4,h5⟩:=WE he
 obtain ⟨w,ew,Fe⟩:=r.get h2
 have hl:=r.length
 have hn:=JA
 have fin:EP X pins σ Q w s:=⟨z,H,I,Fe,q⟩
 by_cases h0:0<=i
 ·have hj:i.toNat=j:=by
   rw [seqIndex_of h0 h5] at h1
   exact BU h1
  exact item_listR pl.isList h0 (by omega) (by rw [hj];simpa using ew) fin hs
 ·have hj:(i+(A6.toArray.size:Int)).toNat=j:=by
   rw [seqIndex_neg (by omega) h4] at h1
   rw [Br,<- hl]
   exact BU h1
  exact subscriptTail_builtinR (x:=w) pl.isList.typeIs slot_list_getitem.lookup
   (wpAny_getItem_list_neg (Q:=fun r s'=>r=w/\EP X pins σ Q r s') pl.isList (by omega) (by rw [Br] <;> omega) (by omega) (by rw [hj];simpa using ew) ⟨rfl,fin⟩) hs
theorem AL:FN X (Jf X.K):=by
 intro value slice pins s σ H x y v u Q I rx ry h hs
 obtain ⟨p,xs,i,z,rfl,rfl,hq,he,q⟩:=h
 cases rx
 obtain ⟨t,rfl⟩:=ry
 obtain ⟨A6,r,pl,hz⟩:=I.tuple hq
 obtain ⟨j,h1,h2,h3,h4,h5⟩:=WE he
 obtain ⟨w,ew,Fe⟩:=r.get h2
 have hl:=r.length
 have hn:=JA
 have fin:EP X pins σ Q w s:=⟨z,H,I,Fe,q⟩
 exact subscriptTail_builtinR (x:=w) pl.typeIs slot_tuple_getitem.lookup
  (getItem_tuple (j:=j) (Q:=fun r s'=>r=w/\EP X pins σ Q r s') pl (by omega) (by omega) (by rw [Br,<- hl];exact h1) (by simpa using ew) ⟨rfl,fin⟩) hs
theorem jq:FN X ZAQ:=by
 intro value slice pins s σ H x y v u Q I rx ry h hs
 obtain ⟨z,i,c,rfl,rfl,hz,he,q⟩:=h
 obtain ⟨t,rfl⟩:=rx
 obtain ⟨t',rfl⟩:=ry
 obtain ⟨j,h1,h2,h3,h4,h5⟩:=WE he
 have hl:z.cps.toList.length=z.length:=by simp [Str.length]
 rw [hl] at h1 h4 h5
 have hn:=JA
 exact tail_any (typeIs_str s z t) slot_str_getitem.lookup (getItem_str (c:=c) (by
  have e1:decide (i < -(2 ^ 63:Int))=false:=decide_eq_false (by omega)
  have e2:decide (i>=2 ^ 63)=false:=decide_eq_false (by omega)
  rw [e1,e2,Bool.or_false]) (by rw [h1];simpa using h2) ⟨.str ⟨#[c]⟩,H,I.tok _,⟨_,rfl⟩,q⟩) hs
theorem m7 (A6:List Value) (n j:Nat) (u:Value):Obj.mapSeq (·.setIfInBounds j u) { cls:=.type "list", data:=.seq A6.toArray n }={ cls:=.type "list", data:=.seq (A6.set j u).toArray n }:=by
 simp [Obj.mapSeq]
theorem Inv.lst {pins:ZCz}{σ:St} {H:Hp}{s:Shared}{p:Addr}{xs:List V}(I:Inv X pins σ H s) (h:H p=some (.lst xs)) :
  ∃ (A6:List Value) (n:Nat),Vals xs A6/\s.heap.get? p=some { cls:=.type "list", data:=.seq A6.toArray n }/\xs.length<=sizeLine:=by
 obtain ⟨z,A6,n,r,e⟩:=I.AM p _ h
 exact ⟨A6,n,r,e,z⟩
theorem Inv.yM {pins:ZCz}{σ:St} {H:Hp}{s:Shared}{p:Addr}{xs ys:List V}{A6 its':List Value}{n n':Nat}{f:Obj->Obj}(I:Inv X pins σ H s) (h:H p=some (.lst xs))
  (ho:s.heap.get? p=some { cls:=.type "list", data:=.seq A6.toArray n }) (hf:f { cls:=.type "list", data:=.seq A6.toArray n }={ cls:=.type "list", data:=.seq its'.toArray n' }) (r:Vals ys its') (hz:ys.length<=sizeLine) (t:Nat) :
  Inv X pins σ (upd H p (.lst ys)) { s with heap:=s.heap.update p f,toks:=t }:=by
 have e:(s.heap.update p f).get? p=some { cls:=.type "list", data:=.seq its'.toArray n' }:=by
  rw [HB f ho (by rw [hf] <;> rfl),hf]
 refine I.write (x:=p) (e:=p) (by rw [h];trivial) (.inl rfl) (fun b u hb q=>(Em _ _ (BS hb)).trans q) ⟨_,e⟩ ?_
 exact ⟨hz,its',n',r,e⟩
def c8:V->V->V->Hp->(Hp->Prop)->Prop:=fun o i v H Q=>∃ p xs k j,o=.ref p/\i=.int k/\H p=some (.lst xs)/\G6 xs.length k=some j/\Q (upd H p (.lst (xs.set j v)))
theorem set_list:Xl X c8:=by
 intro pins s σ H o i v ov iv u Q I ro ri rv h
 obtain ⟨p,xs,k,j,rfl,rfl,hp,hj,q⟩:=h
 cases ro
 obtain ⟨t,rfl⟩:=ri
 obtain ⟨A6,n,r,ho,hz⟩:=I.lst hp
 obtain ⟨h1,h2,h3,h4⟩:=cv hj
 have hl:=r.length
 have hn:=JA
 have I':Inv X pins σ (upd H p (.lst (xs.set j v))) { s with heap:=s.heap.update p (Obj.mapSeq (·.setIfInBounds j u)) }:=
  I.yM hp ho (m7 A6 n j u) (r.set rv j) (by rw [MO];exact hz) s.toks
 by_cases h0:0<=k
 ·have hk:k.toNat=j:=by
   rw [seqIndex_of h0 h4] at h1
   exact BU h1
  exact PySem.W.ki_setAt ho h0 (by omega) (by rw [Br,<- hl];exact h4) (by rw [hk];exact ⟨_,I',q⟩)
 ·have hk:(k+(A6.toArray.size:Int)).toNat=j:=by
   rw [seqIndex_neg (by omega) h3] at h1
   rw [Br,<- hl]
   exact BU h1
  exact PySem.W.ki_setBack ho (by omega) (by rw [Br,<- hl];exact h3) (by omega) (by rw [hk];exact ⟨_,I',q⟩)
theorem ZA4 (lo hi:Option Int) (n:Nat):(sliceBounds lo hi none n).1=((HT.Ak n 0 lo:Nat):Int)/\(sliceBounds lo hi none n).2.1=((HT.Ak n n hi:Nat):Int)/\(sliceBounds lo hi none n).2.2=1:=by
 refine ⟨?_,?_,rfl⟩
 ·cases lo with
  | none=>simp [sliceBounds,HT.Ak]
  | some i=>
   simp only [sliceBounds,HT.Ak,ZCD,show (1:Int) > 0 by decide,if_true]
   by_cases h:i < 0
   ·simp only [h,if_true] <;> omega
   ·simp only [h,if_false] <;> omega
 ·cases hi with
  | none=>simp [sliceBounds,HT.Ak]
  | some i=>
   simp only [sliceBounds,HT.Ak,ZCD,show (1:Int) > 0 by decide,if_true]
   by_cases h:i < 0
   ·simp only [h,if_true] <;> omega
   ·simp only [h,if_false] <;> omega
theorem uE (A6:List Value) (lo hi:Option Int):slicePick A6.toArray lo hi none=((A6.drop (HT.Ak A6.length 0 lo)).take (HT.Ak A6.length A6.length hi - HT.Ak A6.length 0 lo)).toArray:=by
 obtain ⟨h1,h2,h3⟩:=ZA4 lo hi A6.toArray.size
 unfold slicePick
 rw [h1,h2,h3]
 simp only [sliceRange_one,pick_run,Br] <;> rfl
def Ug (K:ZCy):V->Option Int->Option Int->Hp->VK->Prop:=fun x lo hi H Q=>∃ a xs,x=.ref a/\AE K H a xs/\∀ p,H p=none->Q (.ref p) (upd H p (.lst (C4 xs lo hi)))
theorem Ir:GA X (Ug X.K):=by
 intro pins s σ H x v vl vu lo hi sl Q I rx hs pl pu h
 obtain ⟨a,xs,rfl,hx,q⟩:=h
 cases rx
 obtain ⟨A6,r,ht,hz⟩:=I.list hx
 have hlen:=r.length
 refine ⟨"list", _,slot_list_getitem.lookup,ht.isList.typeIs,?_⟩
 refine wpAny_getItem_list_slice ht.isList hs pl pu .none (by simp) ?_ (by rw [Br] <;> omega)
 rw [uE,<- hlen]
 refine ⟨.ref s.heap.objs.size,_,I.laid (t':=s.toks) (o:=.lst (C4 xs lo hi)) (fun b ob q=>Bl _ q) (An _) ?_,rfl,q _ (I.AM.fresh (An _))⟩
 exact ⟨Cs (Zp xs lo hi) hz,_,0,(r.drop (HT.Ak xs.length 0 lo)).take (HT.Ak xs.length xs.length hi - HT.Ak xs.length 0 lo),CI _ rfl⟩
noncomputable def Dn:V->Bool
 | .AF=>true
 | .bl _=>true
 | .int _=>true
 | .str _=>true
 | _=>false
noncomputable def Cq:V->V->Bool
 | .AF,.AF=>true
 | .bl a,.bl b=>a == b
 | .bl a,.int b=>(if a then 1 else 0) == b
 | .int a,.bl b=>a == (if b then 1 else 0)
 | .int a,.int b=>a == b
 | .str a,.str b=>a == b
 | _,_=>false
theorem WU {A:Around}{s:Shared}{y x:V}{u v:Value}(ry:RelV y u) (rx:RelV x v) (fy:Dn y=true) (fx:Dn x=true):SeqAt.EqAt A s u v (Cq y x):=by
 cases y with
 | AF=>
  cases ry
  cases x with
  | AF=>cases rx;exact iz _
  | bl b=>cases rx;exact SeqAt.EqAt.none_bool b
  | int b=>obtain ⟨t,rfl⟩:=rx;exact SeqAt.EqAt.none_int b t
  | str b=>obtain ⟨t,rfl⟩:=rx;exact SeqAt.EqAt.none_str b t
  | _=>exact absurd (show false=true from fx) DF
 | bl a=>
  cases ry
  cases x with
  | AF=>cases rx;exact SeqAt.EqAt.bool_none a
  | bl b=>cases rx;exact SeqAt.EqAt.bool_bool a b
  | int b=>obtain ⟨t,rfl⟩:=rx;exact SeqAt.EqAt.bool_int a b t
  | str b=>obtain ⟨t,rfl⟩:=rx;exact SeqAt.EqAt.bool_str a b t
  | _=>exact absurd (show false=true from fx) DF
 | int a=>
  obtain ⟨t',rfl⟩:=ry
  cases x with
  | AF=>cases rx;exact SeqAt.EqAt.int_none a t'
  | bl b=>cases rx;exact SeqAt.EqAt.int_bool a t' b
  | int b=>obtain ⟨t,rfl⟩:=rx;exact SeqAt.EqAt.int_int a t' b t
  | str b=>obtain ⟨t,rfl⟩:=rx;exact SeqAt.EqAt.int_str a t' b t
  | _=>exact absurd (show false=true from fx) DF
 | str a=>
  obtain ⟨t',rfl⟩:=ry
  cases x with
  | AF=>cases rx;exact SeqAt.EqAt.str_none a t'
  | bl b=>cases rx;exact SeqAt.EqAt.str_bool a t' b
  | int b=>obtain ⟨t,rfl⟩:=rx;exact SeqAt.EqAt.str_int a t' b t
  | str b=>obtain ⟨t,rfl⟩:=rx;exact SeqAt.EqAt.str_str a t' b t
  | _=>exact absurd (show false=true from fx) DF
 | _=>exact absurd (show false=true from fy) DF
noncomputable def Dg (x:V) (u:Value):Bool:=match u with
 | .none=>Cq .AF x
 | .bool b=>Cq (.bl b) x
 | .int i _=>Cq (.int i) x
 | .str z _=>Cq (.str z) x
 | _=>false
theorem eh {x y:V}{u:Value}(r:RelV y u) (f:Dn y=true):Dg x u=Cq y x:=by
 cases y with
 | AF=>cases r;rfl
 | bl b=>cases r;rfl
 | int i=>obtain ⟨t,rfl⟩:=r;rfl
 | str z=>obtain ⟨t,rfl⟩:=r;rfl
 | _=>exact absurd (show false=true from f) DF
theorem NV {x:V}:∀ {xs:List V}{us:List Value},Vals xs us->xs.all Dn=true->us.any (Dg x)=xs.any fun y=>Cq y x
 | _,_,.nil,_=>rfl
 | y :: xs,u :: us,.cons r t,f=>by
  rw [YH,El] at f
  rw [MN,MN,eh r f.1,NV t f.2]
theorem KO {A:Around}{s:Shared}{x:V}{v:Value}(rx:RelV x v) (fx:Dn x=true):∀ {xs:List V}{us:List Value},Vals xs us->xs.all Dn=true->∀ u∈us,SeqAt.EqAt A s u v (Dg x u)
 | _,_,.nil,_=>fun u hu=>by cases hu
 | y :: xs,u :: us,.cons r t,f=>fun u' hu=>by
  rw [YH,El] at f
  rcases List.mem_cons.mp hu with rfl | hu
  ·rw [eh r f.1];exact WU r rx f.1 fx
  ·exact KO rx fx t f.2 u' hu
noncomputable def Dv (x:V) (xs:List V):Bool:=xs.any fun y=>Cq y x
def Kr (K:ZCy) (neg:Bool):R2:=fun x y H Q=>∃ p xs,y=.ref p/\(AE K H p xs∨A9 K H p xs)/\Dn x=true/\xs.all Dn=true/\Q (.bl (if neg then !Dv x xs else Dv x xs)) H
theorem Lo:BB X (compareOp .In) (Kr X.K false):=by
 intro pins s σ H x y v u Q I rx ry h
 obtain ⟨p,xs,rfl,hq,fx,fs,q⟩:=h
 cases ry
 rcases hq with hq | hq
 ·obtain ⟨A6,r,pl,hz⟩:=I.list hq
  refine SeqAt.in_listAt (Dg x) pl.isList (fun w hw=>KO rx fx r fs w (by simpa using hw)) ⟨.bl _,H,I,rfl,?_⟩
  rw [show A6.toArray.any (Dg x)=A6.any (Dg x) by simp,NV r fs]
  exact q
 ·obtain ⟨A6,r,pl,hz⟩:=I.tuple hq
  refine SeqAt.in_tupleAt (Dg x) pl (fun w hw=>KO rx fx r fs w (by simpa using hw)) ⟨.bl _,H,I,rfl,?_⟩
  rw [show A6.toArray.any (Dg x)=A6.any (Dg x) by simp,NV r fs]
  exact q
theorem K5:BB X (compareOp .NotIn) (Kr X.K true):=by
 intro pins s σ H x y v u Q I rx ry h
 obtain ⟨p,xs,rfl,hq,fx,fs,q⟩:=h
 cases ry
 rcases hq with hq | hq
 ·obtain ⟨A6,r,pl,hz⟩:=I.list hq
  refine SeqAt.notIn_listAt (Dg x) pl.isList (fun w hw=>KO rx fx r fs w (by simpa using hw)) ⟨.bl _,H,I,rfl,?_⟩
  rw [show A6.toArray.any (Dg x)=A6.any (Dg x) by simp,NV r fs]
  exact q
 ·obtain ⟨A6,r,pl,hz⟩:=I.tuple hq
  refine SeqAt.notIn_tupleAt (Dg x) pl (fun w hw=>KO rx fx r fs w (by simpa using hw)) ⟨.bl _,H,I,rfl,?_⟩
  rw [show A6.toArray.any (Dg x)=A6.any (Dg x) by simp,NV r fs]
  exact q
theorem EM:Ci X (.builtin "len") (fun xs H Q=>∃ p ys,xs=[.ref p]/\(AE X.K H p ys∨A9 X.K H p ys)/\Q (.int ys.length) H):=by
 intro pins s σ H xs us Q I r h
 obtain ⟨p,ys,rfl,hq,q⟩:=h
 obtain ⟨u,rfl,rx⟩:=vals1 r
 cases rx
 have hn:=JA
 rcases hq with hq | hq
 ·obtain ⟨A6,r',pl,hz⟩:=I.list hq
  have hlen:=r'.length
  exact Calls.call_len_list pl.isList (by simp only [Br] <;> omega) ⟨.int ys.length,H,I.tok _,⟨s.toks+1,by rw [Br,hlen]⟩,q⟩
 ·obtain ⟨A6,r',pl,hz⟩:=I.tuple hq
  have hlen:=r'.length
  exact len_tuple pl (by simp only [Br] <;> omega) ⟨.int ys.length,H,I.tok _,⟨s.toks+1,by rw [Br,hlen]⟩,q⟩
theorem Y3:Ci X (.builtin "len") (fun xs H Q=>∃ z,xs=[.str z]/\z.length<=sizeLine/\Q (.int z.length) H):=by
 intro pins s σ H xs us Q I r h
 obtain ⟨z,rfl,hz,q⟩:=h
 obtain ⟨u,rfl,t,rfl⟩:=vals1 r
 have hn:=JA
 exact len_str (by omega) ⟨.int z.length,H,I.tok _,⟨_,rfl⟩,q⟩
theorem Ci.or {f:Value}{r r':List V->Hp->VK->Prop}(h:Ci X f r) (h':Ci X f r'):Ci X f (fun xs H Q=>r xs H Q∨r' xs H Q):=by
 intro pins s σ H xs us Q I rs q
 rcases q with q | q
 ·exact h pins s σ H xs us Q I rs q
 ·exact h' pins s σ H xs us Q I rs q
theorem KP:Ci X (.type "list") (fun xs H Q=>∃ p ys,xs=[.ref p]/\(AE X.K H p ys∨A9 X.K H p ys)/\∀ l,H l=none->Q (.ref l) (upd H l (.lst ys))):=by
 intro pins s σ H xs us Q I r h
 obtain ⟨p,ys,rfl,hq,q⟩:=h
 obtain ⟨u,rfl,rx⟩:=vals1 r
 cases rx
 have fin:∀ (A6:List Value),Vals ys A6->ys.length<=sizeLine->∀ (h':Heap) (c':Nat),(∀ b o',s.heap.get? b=some o'->h'.get? b=some o')->
   h'.get? s.heap.objs.size=some { cls:=.type "list", dict:=none,data:=.seq A6.toArray c',slots:=#[] }->EP X pins σ Q (.ref s.heap.objs.size) { s with heap:=h' }:=fun A6 r' hz h' c' kp e=>
  ⟨.ref s.heap.objs.size,_,I.laid (t':=s.toks) kp (An _) (show C5 X.prog X.w _ h' _ (.lst ys) from ⟨hz,A6,c',r',e⟩),rfl,q _ (I.AM.fresh (An _))⟩
 rcases hq with hq | hq
 ·obtain ⟨A6,r',pl,hz⟩:=I.list hq
  have hlen:=r'.length
  obtain ⟨o,ho,hc,n,hd⟩:=pl.isList
  exact call_list_seq p (.inl rfl) ho hc hd (fun h' c' kp e=>fin A6 r' hz h' c' kp e) (by simp only [Br] <;> omega)
 ·obtain ⟨A6,r',pl,hz⟩:=I.tuple hq
  have hlen:=r'.length
  obtain ⟨o,ho,hc,n,hd⟩:=pl
  exact call_list_seq p (.inr rfl) ho hc hd (fun h' c' kp e=>fin A6 r' hz h' c' kp e) (by simp only [Br] <;> omega)
theorem HJ:Ci X (.type "tuple") (fun xs H Q=>∃ p ys,xs=[.ref p]/\((AE X.K H p ys/\∀ l,H l=none->Q (.ref l) (upd H l (.tup ys)))∨(A9 X.K H p ys/\Q (.ref p) H))):=by
 intro pins s σ H xs us Q I r h
 obtain ⟨p,ys,rfl,h⟩:=h
 obtain ⟨u,rfl,rx⟩:=vals1 r
 cases rx
 rcases h with ⟨hq,q⟩ | ⟨hq,q⟩
 ·obtain ⟨A6,r',pl,hz⟩:=I.list hq
  have hlen:=r'.length
  refine call_tuple_list pl.isList (fun h' kp=>?_) (by simp only [Br] <;> omega)
  have I1:Inv X pins σ H { s with heap:=h' }:=I.kept (t':=s.toks) kp
  have I2:Inv X pins σ (upd H h'.objs.size (.tup ys)) { s with heap:=h'.push { cls:=.type "tuple", data:=.seq A6.toArray } }:=
   I1.laid (t':=s.toks) (fun b o e=>Bl _ e) (An _) (show C5 X.prog X.w _ _ _ (.tup ys) from ⟨hz,A6,r',⟨IsTup.new _ _,fun Qu e'=>by rw [CI _ rfl] at e';cases e';rfl⟩⟩)
  exact ⟨.ref h'.objs.size,_,I2,rfl,q _ (I1.AM.fresh (An _))⟩
 ·obtain ⟨A6,r',pl,hz⟩:=I.tuple hq
  exact call_tuple_same pl ⟨.ref p,H,I,rfl,q⟩
def Ku (K:ZCy) (T:String) (x:V) (H:Hp):Prop:=match x with
 | .str _=>T = "str"
 | .int _=>T = "int"
 | .ref p=>(T = "list" /\ ∃ xs,AE K H p xs)∨(T = "tuple" /\ ∃ o,K.lookup p=some o/\o.cls=.type "tuple" /\ o.dict=none)∨
   (T = "dict" /\ ((∃ A5,H p=some (.dK A5))∨∃ A5,H p=some (.dT A5)))∨(T = "set" /\ ∃ S n,H p=some (.set S n))∨(T = "tuple" /\ ∃ xs,H p=some (.tup xs))
 | _=>False
theorem ZAa {pins:ZCz}{σ:St} {H:Hp}{s:Shared}{T:String}{x:V}{v:Value}(I:Inv X pins σ H s) (r:RelV x v) (ty:Ku X.K T x H) :
  s.TypeIs v T/\∀ a,v=.ref a->∃ ob,s.heap.get? a=some ob/\ob.dict=none:=by
 cases x with
 | str z=>
  obtain ⟨t,rfl⟩:=r
  cases (show T = "str" from ty)
  exact ⟨typeIs_str s z t,fun _ e=>nomatch e⟩
 | int i=>
  obtain ⟨t,rfl⟩:=r
  cases (show T = "int" from ty)
  exact ⟨typeIs_int s i t,fun _ e=>nomatch e⟩
 | ref p=>
  cases r
  rcases ty with ⟨rfl,xs,hq⟩ | ⟨rfl,o,hk,hc,hd⟩ | ⟨rfl,hk⟩ | ⟨rfl,S,n,hk⟩ | ⟨rfl,xs,hk⟩
  ·obtain ⟨A6,_,pl,_⟩:=I.list hq
   refine ⟨pl.isList.typeIs,fun a e=>?_⟩
   cases e
   obtain ⟨o,n,e,c,hd,_⟩:=pl
   exact ⟨o,e,hd⟩
  ·refine ⟨⟨o,I.CW p o hk,hc⟩,fun a e=>?_⟩
   cases e
   exact ⟨o,I.CW _ o hk,hd⟩
  ·have z:∃ o,s.heap.get? p=some o/\o.ExactDict:=by
    rcases hk with ⟨A5,hk⟩ | ⟨A5,hk⟩
    ·obtain ⟨_,_,_,_,o,_,_,e,ex,_⟩:=I.AM p _ hk
     exact ⟨o,e,ex⟩
    ·obtain ⟨_,_,_,_,o,_,_,e,ex,_⟩:=I.AM p _ hk
     exact ⟨o,e,ex⟩
   obtain ⟨o,e,ex⟩:=z
   refine ⟨⟨o,e,ex.1⟩,fun a e2=>?_⟩
   cases e2
   exact ⟨o,e,ex.2.1⟩
  ·obtain ⟨o,_,_,_,e,ex,_⟩:=I.AM p _ hk
   refine ⟨⟨o,e,ex.1⟩,fun a e2=>?_⟩
   cases e2
   exact ⟨o,e,ex.2.1⟩
  ·obtain ⟨_,A6,_,⟨o,e,c,_⟩,dn⟩:=I.AM p _ hk
   refine ⟨⟨o,e,c⟩,fun a e2=>?_⟩
   cases e2
   exact ⟨o,e,dn o e⟩
 | _=>exact False.elim ty
def yz (K:ZCy) (T:String) (r:V->List V->Hp->VK->Prop) (to:TE):TE:=fun σ H Q=>to σ H fun x H1=>Ku K T x H1/\r x [] H1 Q
def Nv (K:ZCy) (T:String) (r:V->List V->Hp->VK->Prop) (to:TE) (t:TA):TE:=fun σ H Q=>to σ H fun x H1=>Ku K T x H1/\t σ H1 fun xs H2=>r x xs H2 Q
variable {o e:Expr}{es:List Expr}{to:TE}{t:TA}{name:Str}{apos Bk:Pos}{T id:String}{r:V->List V->Hp->VK->Prop}
theorem zl (pa:PlainAttrs T) (slot:Slot T name id) (Wj:typeOf (.builtin id)=pure (.type "method_descriptor")) (hm:Hc X id r) (ho:PE X o to) (ha:PA X (e :: es) t)
  (VC:attributeBase o name X.env (eval o X.env)=eval o X.env:=by rfl)
  (Vq:((backTo Bk (starEach (e :: es) X.env)).all (fun x=>!x.1) && (backToKw Bk (keywordEach [] X.env)).all (fun x=>x.1.isSome)
   && decide ((e :: es).length+([]:List Keyword).length+(if ([]:List Keyword).isEmpty then 0 else 1) < 30))=true:=by rfl)
  (Ud:(apos.endLine == Bk.line)=true:=by rfl) (hs:starEach (e :: es) X.env=(false,eval e X.env) :: starEach es X.env:=by rfl) (V9:(backTo Bk (starEach es X.env)).any (·.1)=false:=by rfl) :
  PE X (.Call (.Attribute o name apos) (e :: es) [] Bk) (Nv X.K T r to t):=by
 intro pins s σ H Q I h
 refine wpAny_Call_method_late VC Vq Ud rfl (AR (ho pins s σ H _ I h) fun v s1 ⟨x,H1,I1,r1,ty,q1⟩=>?_)
 obtain ⟨h1,h2⟩:=ZAa I1 r1 ty
 refine ⟨T,id,pa,slot,Wj,h1,h2,?_⟩
 have hA:=ha Bk pins s1 σ H1 _ I1 q1
 rw [hs] at hA ⊢
 refine ZBn (by show (false || (backTo Bk (starEach es X.env)).any (·.1))=false;rw [V9] <;> rfl) (Calls.evalArgs_plain ?_)
 exact AR hA fun us s2 ⟨vs,H2,I2,r2,q2⟩=>hm pins s2 σ H2 x vs v us Q I2 r1 r2 q2
end
def aC (X:Cx) (id:String) (r:V->List V->Hp->VK->Prop):Prop:=
 ∀ (pins:ZCz) (s:Shared) (σ:St) (H:Hp) (x:V) (xs:List V) (v:Value) (us:List Value) (Q:VK),Inv X pins σ H s->RelV x v->Vals xs us->r x xs H Q->
  wpAny (model X.prog X.w) X.A (call (.builtin id) (v :: us)) (EP X pins σ Q) X.xe s
theorem Vals.one:∀ {x:V}{us:List Value},Vals [x] us->∃ u,us=[u]/\RelV x u
 | _,_,.cons r .nil=>⟨_,rfl,r⟩
theorem Vals.two:∀ {x y:V}{us:List Value},Vals [x,y] us->∃ u v,us=[u,v]/\RelV x u/\RelV y v
 | _,_,_,.cons r (.cons q .nil)=>⟨_,_,rfl,r,q⟩
theorem Vals.reverse {xs:List V}{us:List Value}(h:Vals xs us):Vals xs.reverse us.reverse:=by
 induction h with
 | nil=>exact .nil
 | cons r t ih=>rw [YU,YU];exact Vals.append ih (.cons r .nil)
theorem Vals.rep {xs:List V}{us:List Value}(h:Vals xs us):∀ k:Nat,Vals (List.replicate k xs).flatten (List.replicate k us).flatten
 | 0=>.nil
 | k+1=>by
  rw [YT,YT,YO,YO]
  exact Vals.append h (Vals.rep h k)
section
variable {X:Cx}{pins:ZCz}{σ:St} {H:Hp}{s:Shared}{l b:Addr}{xs ys zs:List V}
theorem Inv.cK {A6 its':List Value}{n:Nat}{f:Array Value->Array Value}{t':Nat}(I:Inv X pins σ H s) (hH:H l=some (.lst xs))
  (e:s.heap.get? l=some { cls:=.type "list", data:=.seq A6.toArray n }) (hf:f A6.toArray=its'.toArray) (hv:Vals ys its') (hz:ys.length<=sizeLine) :
  Inv X pins σ (upd H l (.lst ys)) { s with heap:=s.heap.update l (Obj.mapSeq f),toks:=t' }:=by
 have q:=PySem.IsL.update e f
 rw [hf] at q
 refine I.write (x:=l) (e:=l) (by rw [hH];exact trivial) (.inl rfl) (fun b' u hb hu=>(Em s.heap (Obj.mapSeq f) (BS hb)).trans hu) ⟨_,q⟩ ?_
 exact ⟨hz,its',_,hv,q⟩
theorem Inv.Ym {A6:List Value}{t':Nat}(I:Inv X pins σ H s) (hv:Vals ys A6) (hz:ys.length<=sizeLine) :
  Inv X pins σ (upd H s.heap.objs.size (.lst ys)) { s with heap:=s.heap.push { cls:=.type "list", data:=.seq A6.toArray },toks:=t' }:=
 I.laid (fun _ _ q=>Bl _ q) (An _) ⟨hz,A6,0,hv,CI _ rfl⟩
theorem Inv.fresh (I:Inv X pins σ H s):H s.heap.objs.size=none:=I.AM.fresh (An _)
theorem Inv.RW (I:Inv X pins σ H s) (hH:H l=some (.lst xs)):xs.length<=sizeLine/\∃ (A6:List Value) (n:Nat),Vals xs A6/\xs.length=A6.length/\s.heap.get? l=some { cls:=.type "list", data:=.seq A6.toArray n }:=by
 obtain ⟨z,A6,n,r,e⟩:=I.AM l _ hH
 exact ⟨z,A6,n,r,r.length,e⟩
end
section
variable {X:Cx}
def Xd:V->List V->Hp->VK->Prop:=fun x vs H Q=>∃ l xs y,x=.ref l/\vs=[y]/\H l=some (.lst xs)/\xs.length < sizeLine/\Q .AF (upd H l (.lst (xs++[y])))
theorem aU:aC X "list.append" Xd:=by
 intro pins s σ H x vs v us Q I rx rv h
 obtain ⟨l,xs,y,rfl,rfl,hH,hz,q⟩:=h
 cases rx
 obtain ⟨u,rfl,ru⟩:=rv.one
 obtain ⟨z,A6,n,r,hl,e⟩:=I.RW hH
 refine call_meets F.slot_list_append ⟨_,e,rfl⟩ F.entry_list_append (F.args_list_append_2 _ _) (PySem.list_append l A6.toArray n u (by rw [Br];omega)) ⟨e,?_⟩
 refine ⟨.AF,_,I.cK (its':=A6++[u]) hH e (by simp) (r.append (.cons ru .nil)) ?_,rfl,q⟩
 rw [Bm,OW]
 omega
def ZBQ:V->List V->Hp->VK->Prop:=fun x vs H Q=>∃ l xs,x=.ref l/\vs=[]/\H l=some (.lst xs)/\Q .AF (upd H l (.lst xs.reverse))
def Z3:R2:=fun x y H Q=>∃ l b xs zs,x=.ref l/\y=.ref b/\H l=some (.lst xs)/\H b=some (.lst zs)/\xs.length+zs.length<=sizeLine/\∀ p,H p=none->Q (.ref p) (upd H p (.lst (xs++zs)))
theorem Im:BB X (binaryOp .Add) Z3:=by
 intro pins s σ H x y v u Q I rx ry h
 obtain ⟨l,b,xs,zs,rfl,rfl,hH,hB,hz,q⟩:=h
 cases rx
 cases ry
 obtain ⟨z,A6,n,r,hl,e⟩:=I.RW hH
 obtain ⟨z2,C3,n2,r2,Ck,e2⟩:=I.RW hB
 refine PySem.P.add_list e e2 ?_ (by rw [Br,Br];omega)
 have ea:A6.toArray++C3.toArray=(A6++C3).toArray:=by simp
 rw [ea]
 exact ⟨.ref _,_,I.Ym (t':=s.toks) (r.append r2) (by rw [Bm];omega),rfl,q _ I.fresh⟩
end
section
variable {prog:Program}{w:World}{A:Around}{E:Value->Shared->Prop}{s:Shared}
set_option maxRecDepth 100000 in
end
section
variable {X:Cx}
end
end L2
namespace cR
open PySem.W PySem.Calls
theorem pD {P:Params}{h:Heap}:∀ (ns:List Int) (vs:List Value),WellAll P h vs (ns.map WData.int)->IntsAre vs ns:=by
 intro ns
 induction ns with
 | nil=>
  intro vs w
  rw [Rq] at w
  cases w
  exact .nil
 | cons n ns ih=>
  intro vs w
  rw [Bq] at w
  cases w with
  | cons a b=>
   cases a
   exact .cons _ _ (ih _ b)
theorem jW {l:OpenLaw}{n:Nat}(hn:l.most=some n){P:Params}{h:Heap}{args:List WData}{vals:List Value}
  (LN:l.row.toRowW.claim.pre args=true) (Vx:WellAll P h vals args) :
  ∃ a vs ns,vals=[Value.ref a]/\args=[WData.list (ns.map WData.int)]/\h.get? a=some { cls:=.type "list", data:=.seq vs.toArray }/\IntsAre vs ns/\ns.length<=n:=by
 have xM:WShape.hasAll [] args [.list .int]=true:=(pre_splitW LN).1
 have hc:l.pre.holds [] { args:=args }=true:=(pre_splitW LN).2
 obtain ⟨d,r,rfl,h1,h2⟩:=hasAllW_cons xM
 obtain rfl:=hasAllW_nil h2
 obtain ⟨xs,rfl,h3⟩:=hasW_list h1
 obtain ⟨ns,rfl⟩:=items_int h3
 have hlen:ns.length<=n:=by
  unfold OpenLaw.pre at hc
  have h4:(WTm.not (.lt (.lit (.int (n:Int))) (.len (.arg 0)))).holds [] { args:=[.list (ns.map .int)] }=true:=by
   have h4:=(holds_andW hc).1
   rw [hn] at h4
   exact h4
  have h5:=condW_of h4 (w_not (w_lt w_lit (w_len_list (w_arg rfl))))
  rw [AV] at h5
  refine ZCA fun q=>?_
  have q':(n:Int) < ((ns.length:Nat):Int):=by omega
  first
   | (rw [decide_eq_true q'] at h5;exact absurd h5 (by decide))
   | (simp at h5;omega)
 cases Vx with
 | cons w1 w2=>
  cases w2
  cases w1 with
  | list ho Io=>exact ⟨_,_,ns,rfl,rfl,ho,pD ns _ Io,hlen⟩
theorem vS (l:OpenLaw) (args:List WData):l.row.toRowW.claim.post args (.bool true) args=true:=
 postW_of (r:=l.row.toRowW) (X:=(true == true))
  (show WShape.has [] (.bool true) .bool=true by first | rfl | decide | simp [WShape.has,WShape.arms,WShape.armsAll])
  (show (WTm.eq .res (.lit (.bool true))).value [] { args:=args,res:=some (.bool true),after:=args }=some (.bool (true == true)) from w_eq_bool (w_res rfl) w_lit) rfl
theorem tK {l:OpenLaw}{n:Nat}{q:Program}{loose:List Str}{XP:(ZD0)->Heap->Prop}{YP:World->Heap->Prop}{d:DefRec}
  (hn:l.most=some n) (MU:d.params.defaults=[])
  (call:∀ (w:World) (s₀ s₁:Shared) (mg mb:ZD0) (fa:Addr) (o:Obj) (pm cd doc:Value) (a:Addr) (vs:List Value) (ns:List Int),
   Ground q loose [] XP w s₀ mg mb s₁.heap->YP w s₁.heap->
   s₁.heap.get? fa=some o->o.data=.func (docDef d.name d.params d.body d.scope pm cd doc)->s₁.heap.CodeRec cd d.name->mg d.name=some (.ref fa)->
   s₁.heap.get? a=some { cls:=.type "list", data:=.seq vs.toArray }->IntsAre vs ns->ns.length<=n->s₁.gens=#[]->
   codeAny (model l.prog w) callerA (.call (.ref fa) ⟨[.ref a],[]⟩) (fun r s'=>r=.ok (.ret (.bool true))/\OldK s₁.heap s'.heap/\s'.os=s₁.os/\AllBare s'.gens) s₁) :
  WalkO q loose XP YP l.row.toRowW d [] (fun f vs=>PySem.call f vs):=by
 intro w s₀ s₁ mg mb G Y fa o pm cd doc dV kV ho hd FX hD N4 hg args vals as LN ZCf hrd Vx hlo
 obtain rfl:dV=.none:=Dflts.none hD MU
 obtain rfl:kV=.none:=Dflts.noKw hD
 obtain ⟨a,vs,ns,rfl,rfl,SS,hints,hlen⟩:=jW hn LN Vx
 refine enter_call (codeAny_mono (call w s₀ s₁ mg mb fa o pm cd doc a vs ns G Y ho (fd_plain hd) FX N4 SS hints hlen hg) fun r s' hq=>?_)
 obtain ⟨rfl,h2,h3,h4⟩:=hq
 exact ⟨.inl ⟨.bool true,.bool true,[],rfl,fun _=>rfl,.bool true,vS l _,fun _=>⟨List.Pairwise.nil,fun _ hm=>(nomatch hm)⟩⟩,h2,h3,h4⟩
section
variable {prog:Program}{w:World}{A:Around}{E:Value->Shared->Prop}{s:Shared}{K:Frag}
end
end cR
namespace L2
theorem gN:∀ {vs:List Value}{ns:List Int},IntsAre vs ns->Vals (ns.map V.int) vs
 | _,_,.nil=>.nil
 | _,_,.cons n t h=>.cons ⟨t,rfl⟩ (gN h)
def Ul (H:Hp):Prop:=∀ b,H b=none∨∃ o xs,H b=some (.Eu o (.lst xs))
theorem p0 {P:Program}{w:World}{K:ZCy}{mg mb:ZD0}{CX:Fg}{k:Nat}{fa a:Addr}{fd:FuncData}{x:Str}{sp:Sp}{s₁:Shared}{vs:List Value}{ns:List Int}
  (KX:K.In s₁.heap) (Kg:s₁.heap.Ns mainGlobals mg) (hb:s₁.heap.Ns builtinsNs mb) (ya:∀ x:Str,x ≠ "__name__" -> mb x=bootBuiltins x) (j5:s₁.heap.NoLimit) (hg:s₁.gens=#[])
  (ha:s₁.heap.get? a=some { cls:=.type "list", data:=.seq vs.toArray }) (hi:IntsAre vs ns) (hl:ns.length<=sizeLine) (hr:Bn k callerA)
  (F:∀ base:Heap,K.In base->base.Ns mainGlobals mg->DD P w K mg base CX k fa fd [x] sp) (vC:∀ (s:Shared) (u:Value),BindsTo s fd ⟨[u],[]⟩ [(x,u)])
  (Fb:∀ H:Hp,Ul H->AE K H a (ns.map V.int)->sp [.ref a] H (fun v _=>v=.bl true) fun _ _ _=>False)
  (T9:∀ H e s',CX [] H s₁ (fun _ _ _=>False) e s'->False) :
  codeAny (model P w) callerA (.call (.ref fa) ⟨[.ref a],[]⟩) (fun r s'=>r=.ok (.ret (.bool true))/\OldK s₁.heap s'.heap/\s'.os=s₁.os/\AllBare s'.gens) s₁:=by
 have rv:=gN hi
 have yb:=hi.length
 -- from an abstract heap in ZCV nothing but Gw bX may be tracked
 have core:∀ H:Hp,Ul H->AE K H a (ns.map V.int)->Bd P w H s₁.heap->(∀ b,H b≠none->b=a)->(H a≠none->K.lookup a=none)->
   codeAny (model P w) callerA (.call (.ref fa) ⟨[.ref a],[]⟩) (fun r s'=>r=.ok (.ret (.bool true))/\OldK s₁.heap s'.heap/\s'.os=s₁.os/\AllBare s'.gens) s₁:=by
  intro H hO hS AM hA hK
  have dk:∀ {b:Addr}{o:Obj},s₁.heap.get? b=some o->H b=none->(IW s₁.heap H).get? b=some o:=fun e n=>qG e n
  have OH:∀ {b:Addr}{o:Obj}{es:Array DictEntry}{ep:Nat},s₁.heap.get? b=some o->o.data=.dict es ep->H b=none:=fun {b o es ep} e d=>by
   cases q:H b with
   | none=>rfl
   | some u=>
    have e':b=a:=hA b (by rw [q];simp)
    subst e'
    rw [ha] at e;cases e
    have d':Data.seq vs.toArray _=Data.dict es ep:=d
    cases d'
  have Q9:∀ {b:Addr}{m:ZD0},s₁.heap.Ns b m->(IW s₁.heap H).Ns b m:=fun {b m} ⟨o,es,ep,e,d,r⟩=>⟨o,es,ep,dk e (OH e d),d,r⟩
  have bI:K.In (IW s₁.heap H):=fun b o e=>dk (KX b o e) (by
   cases q:H b with
   | none=>rfl
   | some u=>
    have e':b=a:=hA b (by rw [q];simp)
    subst e'
    rw [hK (by rw [q];simp)] at e;cases e)
  have hM:Mod K mg (IW s₁.heap H):=⟨bI,Q9 Kg,⟨mb,Q9 hb,ya⟩,let ⟨mc,h1,h2⟩:=j5;⟨mc,Q9 h1,h2⟩⟩
  have e0:Jq P w K mg (IW s₁.heap H) callerA [] s₁ H:=⟨rfl,hM,fun b o e=>xx e,ib (oW _ _),trivial,fun b hb=>absurd (show b∈([]:List Addr) from hb) (by simp),AM,.of_eq hg⟩
  refine codeAny_mono ((F _ bI (Q9 Kg)).run callerA [] s₁ H ⟨[.ref a],[]⟩ [.ref a] [.ref a] _ _ hr e0 (vC s₁ (.ref a)) (.cons rfl .nil) (Fb H hO hS)) fun r s' h=>?_
  cases r with
  | error e=>exact (T9 H e s' h).elim
  | ok fl=>
   cases fl with
   | next=>exact False.elim h
   | brk=>exact False.elim h
   | cont=>exact False.elim h
   | ret u=>
    obtain ⟨v,H',os,bare,un,tY,r',q⟩:=h
    have q':v=.bl true:=q
    subst q'
    obtain rfl:u=Value.bool true:=r'
    refine ⟨rfl,OldK.of_keep fun b o e=>?_,os,bare⟩
    cases q:H b with
    | none=>exact un.keep b o e q (by intro z;exact absurd (show b∈([]:List Addr) from z) (by simp)) (by simp)
    | some u=>
     rcases hO b with z | ⟨ob,xs,z⟩
     ·rw [q] at z;cases z
     ·have z2:=un.Gp b ob _ z
      obtain ⟨e1,_⟩:=AM b _ z
      obtain ⟨e2,_⟩:=tY b _ z2
      rw [e] at e1;cases e1
      exact e2
 cases hk:K.lookup a with
 | some o=>
  -- Gw bX is one of Gw ZCk own objects
  have e:=KX a o hk
  rw [ha] at e
  cases e
  refine core (fun _=>none) (fun _=>.inl rfl) (.inr ⟨_,vs.toArray,_,hk,rfl,rfl,rfl,by rw [Br,yb];exact hl,by simpa using rv⟩) (fun b u z=>by have z':(none:Option HO)=some u:=z;cases z') (fun b z=>absurd rfl z) fun z=>absurd rfl z
 | none=>
  refine core (fun b=>if b=a then some (.Eu { cls:=.type "list", data:=.seq vs.toArray } (.lst (ns.map V.int))) else none) (fun b=>?_) (.inl (.inr ⟨{ cls:=.type "list", data:=.seq vs.toArray },if_pos rfl⟩)) (fun b u z=>?_) (fun b z=>?_) fun _=>hk
  ·by_cases hb:b=a
   ·exact .inr ⟨_,_,if_pos hb⟩
   ·exact .inl (if_neg hb)
  ·by_cases hb:b=a
   ·have z':=(if_pos hb).symm.trans z
    cases z'
    subst hb
    exact ⟨ha,by rw [AV];exact hl,vs,_,rv,ha⟩
   ·have z':=(if_neg hb).symm.trans z
    cases z'
  ·by_cases hb:b=a
   ·exact hb
   ·exact absurd (if_neg hb) z
theorem pN {l:PySem.W.OpenLaw}{n k:Nat}{q:Program}{loose:List Str}{XP:(ZD0)->Heap->Prop}{YP:World->Heap->Prop}{d:DefRec}{K:Params->ZCy}{CX:World->Fg}{sp:World->Sp}{x:Str}
  (hn:l.most=some n) (Pm:n<=sizeLine) (MU:d.params.defaults=[]) (hr:Bn k callerA)
  (hY:∀ (w:World) (h:Heap),YP w h->(K w.params).In h)
  (F:∀ (w:World) (mg:ZD0) (fa:Addr) (h:Heap),(K w.params).In h->h.Ns mainGlobals mg->mg d.name=some (.ref fa)->
   ∃ fd:FuncData,(∀ (s:Shared) (u:Value),BindsTo s fd ⟨[u],[]⟩ [(x,u)])/\
    ∀ base:Heap,(K w.params).In base->base.Ns mainGlobals mg->DD l.prog w (K w.params) mg base (CX w) k fa fd [x] (sp w))
  (Fb:∀ (w:World) (H:Hp) (a:Addr) (ns:List Int),ns.length<=n->Ul H->AE (K w.params) H a (ns.map V.int)->sp w [.ref a] H (fun v _=>v=.bl true) fun _ _ _=>False)
  (T9:∀ (w:World) (H:Hp) (s:Shared) (e:Value) (s':Shared),CX w [] H s (fun _ _ _=>False) e s'->False) :
  PySem.W.WalkO q loose XP YP l.row.toRowW d [] (fun f vs=>PySem.call f vs):=by
 refine cR.tK hn MU fun w s₀ s₁ mg mb fa o pm cd doc a vs ns G Y ho hd FX N4 SS hints hlen hg=>?_
 have KX:=hY w _ Y
 obtain ⟨fd,hb,hF⟩:=F w mg fa _ KX G.T.g N4
 exact p0 KX G.T.g G.T.b G.T.builtins G.T.nolimit hg SS hints (Cs hlen Pm) hr hF hb (fun H hO hS=>Fb w H a ns hlen hO hS) fun H e s'=>T9 w H s₁ e s'
noncomputable def NC (s:Stmt):Arguments:=match s with
 | .FunctionDef _ a _ _ _ _ _ _ _ _=>a
 | _=>{ posonlyargs:=[],args:=[],vararg:=none,kwonlyargs:=[],kw_defaults:=[],kwarg:=none,defaults:=[] }
noncomputable def Jy (s:Stmt):List Stmt:=match s with
 | .FunctionDef _ _ b _ _ _ _ _ _ _=>b
 | _=>[]
noncomputable def Ae (s:Stmt):Scope:=match s with
 | .FunctionDef _ _ _ _ _ _ sc _ _ _=>sc
 | _=>{ kind:=.function,names:=[],isGenerator:=false,isCoroutine:=false }
abbrev Ft:Fg:=fun _ _ _ _ _ _=>False
abbrev E0:XK:=fun _ _ _=>False
theorem Y8 {X:Cx}:Passes Ft X E0:=fun _ _ _ _ _ _ _ h=>h.elim
structure AK (K:ZCy) (x qual:Str) (st:Stmt) (f:Addr) (fd:FuncData):Prop where
 ex:∃ (oc:Value) (od:Option Addr) (kV doc pm:Value) (an:Option Addr) (Aa ct:Value) (J2:Array (Option Value)),
  fd=PySem.W.fnOf x qual (NC st) (Jy st) (Ae st) .none kV doc pm an Aa ct/\K.lookup f=some ⟨oc,od,.func fd,J2⟩/\PySem.W.codeIn K Aa qual=true
 kp:PySem.W.keepIn K (.ref f)=true
section
variable {P:Program}{w:World}{K:ZCy}{mg:ZD0}{base:Heap}
theorem AK.ok {x qual:Str}{st:Stmt}{f:Addr}{fd:FuncData}{N ps:List Str}{k:Nat}{sp:Sp}(F:AK K x qual st f fd) (S:Au N ps (Ae st)) (len:∀ vs H Q E,sp vs H Q E->vs.length=ps.length)
  (NZ:∀ (Aa:Value) (A:Around) (outer:List Env) (s:Shared) (H:Hp) (vs:List V) (Q:VK) (E:XK),Bn k (A.deeper (envOfC qual (Ae st) s.heap.objs.size f Aa))->sp vs H Q E->
   ∃ t,DX (KY Ft P w K mg base N qual (Ae st) f Aa A outer s H E).O1 (Jy st) t/\t { nx:=fun _ H'=>Q .AF H',rt:=Q } (start N vs) H):DD P w K mg base Ft (k+1) f fd ps sp:=by
 obtain ⟨oc,od,kV,doc,pm,an,Aa,ct,J2,rfl,lk,FX⟩:=F.ex
 refine qz lk FX S len fun A outer s H vs Q E hr Fb=>?_
 obtain ⟨t,h,q⟩:=NZ Aa A outer s H vs Q E hr Fb
 exact ⟨t,h.O1,q⟩
theorem AK.binds {x qual:Str}{st:Stmt}{f:Addr}{fd:FuncData}{ps:List Str}(F:AK K x qual st f fd)
  (h:∀ (kV doc pm:Value) (an:Option Addr) (Aa ct:Value) (us:List Value),us.length=ps.length->bindArgs (PySem.W.fnOf x qual (NC st) (Jy st) (Ae st) .none kV doc pm an Aa ct) ⟨us,[]⟩=pure (ps.zip us)):Binds K fd ps []:=by
 obtain ⟨oc,od,kV,doc,pm,an,Aa,ct,J2,rfl,lk,FX⟩:=F.ex
 exact .all (h kV doc pm an Aa ct)
theorem w8 {x qual:Str}{st:Stmt}{f:Addr}{oc:Value}{od an:Option Addr}{J2:Array (Option Value)}{kV doc pm Aa ct:Value}(l:K.lookup f=some ⟨oc,od,.func (PySem.W.fnOf x qual (NC st) (Jy st) (Ae st) .none kV doc pm an Aa ct),J2⟩)
  (c:PySem.W.codeIn K Aa qual=true) (k:PySem.W.keepIn K (.ref f)=true):AK K x qual st f (PySem.W.fnOf x qual (NC st) (Jy st) (Ae st) .none kV doc pm an Aa ct):=⟨⟨oc,od,kV,doc,pm,an,Aa,ct,J2,rfl,l,c⟩,k⟩
end
theorem Ax {A:Around}{k:Nat}(hr:Bn k A):A.units+1 < cLine:=L5 (Nat.add_le_add_left (by decide:1<=64) _) hr.units
section
variable {X:Cx}
theorem pv (i:Nat){x:Str}{pos:Pos}(hN:X.N[i]?=some x:=by rfl) (hv:Qk X.env.scope x:=by first | exact Or.inl rfl | exact Or.inr (Or.inl rfl) | exact Or.inr (Or.inr rfl)) (hd:(x == ("__debug__" : Str))=false:=by decide)
  (FX:(x == ("__classdict__" : Str))=false:=by decide):PE X (.Name x pos) (BG i):=iH hN hv hd FX
end
theorem Cv {A B:Prop}(h:B):if false=true then A else B:=by
 rw [if_neg DF]
 exact h
theorem Jc {A B:Prop}(h:A):if true=true then A else B:=by
 rw [if_pos rfl]
 exact h
theorem Af {c A B:Prop} [Decidable c] (h1:c->A) (h2:¬ c->B):if c then A else B:=by
 by_cases h:c
 ·rw [if_pos h]
  exact h1 h
 ·rw [if_neg h]
  exact h2 h
theorem R3 {c A B:Prop} [Decidable c] (hc:c) (h:B):if (!decide c)=true then A else B:=by
 rw [decide_eq_true hc]
 exact Cv h
def A8 (H H':Hp):Prop:=∀ b o,H b=some o->H' b=some o
theorem A8.refl (H:Hp):A8 H H:=fun _ _ h=>h
theorem A8.trans {H H1 H2:Hp}(a:A8 H H1) (b:A8 H1 H2):A8 H H2:=fun c o h=>b c o (a c o h)
theorem A8.seq {K:ZCy}{H H':Hp}{a:Addr}{xs:List V}(e:A8 H H') (h:AE K H a xs):AE K H' a xs:=by
 rcases h with (h | ⟨o,h⟩) | h
 ·exact .inl (.inl (e _ _ h))
 ·exact .inl (.inr ⟨o,e _ _ h⟩)
 ·exact .inr h
end L2
set_option maxHeartbeats 4000000
namespace L2
theorem wY {α β:Type} {l:List α}{f:α->β->Sem (ForInStep β)}(g:β->α->β) (h:∀ x∈l,∀ c,f x c=pure (.yield (g c x))):∀ c,forIn l c f=pure (l.foldl g c):=by
 induction l with
 | nil=>intro c;rfl
 | cons x l ih=>
  intro c
  rw [List.forIn_cons,h x EA,pure_bind]
  exact ih (fun y hy=>h y (Fy _ hy)) (g c x)
noncomputable def Kq (cells:List (Str×Addr)) (cs:List (Str×Addr)) (x:Str×NameKind):List (Str×Addr):=
 if x.2=.free then (x.1,(cells.lookup x.1).getD 0) :: cs else cs
noncomputable def EG (cells:List (Str×Addr)) (names:List (Str×NameKind)):List (Str×Addr):=names.foldl (Kq cells) []
theorem oa {scope:Scope}{env:Env}(h:∀ x∈scope.names,x.2=.free->(env.cells.lookup x.1).isSome=true):closureFor scope env=pure (EG env.cells scope.names):=by
 simp only [closureFor]
 rw [wY (Kq env.cells) (fun x hx c=>by
  obtain ⟨n,k⟩:=x
  unfold Kq
  by_cases hk:k=NameKind.free
  ·subst hk
   have q:=h _ hx rfl
   obtain ⟨a,ha⟩:=Option.isSome_iff_exists.mp q
   have Q4:env.cells.lookup n=some a:=ha
   have hc:cellOf env n=pure a:=by unfold cellOf;rw [Q4]
   simp [hc,Q4]
  ·have:(k == NameKind.free)=false:=by simpa using hk
   simp [this,hk])]
 rfl
theorem bV {cells:List (Str×Addr)}:∀ (names:List (Str×NameKind)) (acc:List (Str×Addr)),(∀ y∈names,y.2=.free->(cells.lookup y.1).isSome=true)->
  (∀ x c,acc.lookup x=some c->cells.lookup x=some c)->∀ x c,(names.foldl (Kq cells) acc).lookup x=some c->cells.lookup x=some c
 | [],acc,_,ha,x,c,e=>ha x c e
 | (n,k) :: r,acc,hs,ha,x,c,e=>by
  rw [iR] at e
  refine bV r _ (fun y hy=>hs y (Fy _ hy)) (fun x c e=>?_) x c e
  unfold Kq at e
  by_cases hk:k=NameKind.free
  ·rw [if_pos hk] at e
   have q:=hs _ EA hk
   obtain ⟨a,q⟩:=Option.isSome_iff_exists.mp q
   have q':cells.lookup n=some a:=q
   rw [Ja] at e
   by_cases hx:x=n
   ·subst hx
    simp only [beq_self_eq_true,q',Option.getD_some] at e
    rw [q',<- e]
   ·have hb:(x == n)=false:=by simpa using hx
    rw [hb] at e
    exact ha x c e
  ·rw [if_neg hk] at e
   exact ha x c e
theorem Vj {cells:List (Str×Addr)}{x:Str}:∀ (names:List (Str×NameKind)) (acc:List (Str×Addr)),((acc.lookup x).isSome=true∨(x,NameKind.free)∈names)->
  ((names.foldl (Kq cells) acc).lookup x).isSome=true
 | [],acc,h=>by
  rcases h with h | h
  ·exact h
  ·cases h
 | (n,k) :: r,acc,h=>by
  rw [iR]
  refine Vj r _ ?_
  unfold Kq
  rcases h with h | h
  ·refine .inl ?_
   split
   ·rw [Ja]
    split
    ·rfl
    ·exact h
   ·exact h
  ·rcases List.mem_cons.mp h with e | h
   ·cases e
    refine .inl ?_
    rw [if_pos rfl,Ja]
    simp
   ·exact .inr h
theorem X6 {env:Env}:∀ (names:List (Str×NameKind)) (x:Str),
  (names.map fun (n,k)=>if (k == NameKind.free && env.scope.kind == .function && env.kindOf n == some .cell) then (n,NameKind.cell) else (n,k)).lookup x =
   (names.lookup x).map fun k=>if (k == NameKind.free && env.scope.kind == .function && env.kindOf x == some .cell) then NameKind.cell else k
 | [],x=>rfl
 | (n,k) :: r,x=>by
  have ih:=X6 (env:=env) r x
  rw [Bq]
  by_cases hc:(k == NameKind.free && env.scope.kind == .function && env.kindOf n == some .cell)=true
  ·show List.lookup x ((if (k == NameKind.free && env.scope.kind == .function && env.kindOf n == some .cell)=true then (n,NameKind.cell) else (n,k)) :: _)=_
   rw [if_pos hc,Ja,Ja]
   by_cases hx:x=n
   ·subst hx;simp only [beq_self_eq_true,S6];rw [if_pos hc]
   ·have hb:(x == n)=false:=by simpa using hx
    rw [hb];exact ih
  ·show List.lookup x ((if (k == NameKind.free && env.scope.kind == .function && env.kindOf n == some .cell)=true then (n,NameKind.cell) else (n,k)) :: _)=_
   rw [if_neg hc,Ja,Ja]
   by_cases hx:x=n
   ·subst hx;simp only [beq_self_eq_true,S6];rw [if_neg hc]
   ·have hb:(x == n)=false:=by simpa using hx
    rw [hb];exact ih
noncomputable abbrev Ce (X:Cx) (N:List Str) (scope:Scope) (cl:List (Str×Addr)) (C:Addr) (s:Shared) (H:Hp) (fp:List Addr):Cx:=
 { X with N:=N,s₀:=s,H₀:=H,env:=compEnvC scope cl C X.env,outer:=X.stack,ex:=fp,fn:=fun _=>false,pn:=[],xe:=fun _ _=>False }
noncomputable def Bi (js:List Nat) (σ:St):St:=js.map fun j=>(σ[j]?).join
structure Dd (N:List Str) (outer scope:Scope) (x:Str) (B4:List Str) (js:List Nat):Prop where
 kind:scope.kind=.function
 Ys:∀ y∈scope.names,y.2≠.cell
 loc:∀ y∈scope.names,y.2=.local->scope.names.lookup y.1=some .local
 Zx:scope.names.lookup x=some .local
 at':js.map (fun j=>N[j]?)=B4.map some
 cell:∀ y∈B4,outer.names.lookup y=some .cell
 free:∀ y∈B4,scope.names.lookup y=some .free
 all:∀ y∈scope.names,y.2=.free->outer.names.lookup y.1=some .cell
 nd:(B4++[x]).Nodup
def Kk (X:Cx) (ifs:List Expr) (t:TT):Prop:=
 ∀ (pins:ZCz) (s:Shared) (σ:St) (H:Hp) (Q:Bool->Hp->Prop),Inv X pins σ H s->t σ H Q->
  wpAny (model X.prog X.w) X.A (forIn ifs true fun c r=>if r=true then do let ok <- isTrue c X.env (eval c X.env);pure (ForInStep.yield ok) else pure (ForInStep.yield r)) (TP X pins σ Q) X.xe s
def WV:TT:=fun _ H Q=>Q true H
theorem ZB9 {X:Cx}:Kk X [] WV:=fun pins s σ H Q I h=>by
 rw [List.forIn_nil];exact wpAny_pure ⟨H,I,h⟩
theorem sf {X:Cx}{c:Expr}{t:TT}(hc:PT X c t):Kk X [c] t:=fun pins s σ H Q I h=>by
 rw [List.forIn_cons]
 refine wpAny_bind ?_
 rw [if_pos rfl]
 refine wpAny_bind (AR (hc pins s σ H Q I h) fun b s1 q=>wpAny_pure ?_)
 show wpAny _ _ (forIn [] b _) _ _ s1
 rw [List.forIn_nil]
 exact wpAny_pure q
def OJ (J:It) (js:List Nat) (tt:TT) (te:TE) (σ:St) (H1:Hp) (acc:Addr) (Q:VK):Prop:=
 ∃ W:Nat->Nat->Hp->Prop,(∃ m,W 0 m (upd H1 acc (.lst [])))/\∀ i m H2,W i m H2->
  (J.stop i H2/\Q (.ref acc) H2)∨(J.go i H2/\∀ x H3,J.Gg i H2 x H3->tt (Bi js σ++[some x]) H3 fun b H4=>
   if b=true then te (Bi js σ++[some x]) H4 fun y H5=>∃ ys,H5 acc=some (.lst ys)/\ys.length < sizeLine/\∃ m',m' < m/\W (i+1) m' (upd H5 acc (.lst (ys++[y])))
   else ∃ m',m' < m/\W (i+1) m' H4)
def LS (wi:TI) (js:List Nat) (tt:TT) (te:TE):TE:=fun σ H Q=>wi σ H fun J H1=>∀ acc,H1 acc=none->OJ J js tt te σ H1 acc Q
theorem kd {α:Type} (l:List α) (a b:α):(l++[a]).set l.length b=l++[b]:=by
 induction l with
 | nil=>rfl
 | cons x l ih=>simp [ih]
section
variable {X:Cx}{pins:ZCz}{σ:St} {H2:Hp}{s2:Shared}{elt iter:Expr}{x:Str}{px pos:Pos}{ifs:List Expr}{scope:Scope}{B4:List Str}{js:List Nat}{tt:TT}{te:TE}{J:It}{fp:List Addr}{it:Addr}
 {tn:Nat->Heap->Prop}
theorem ma (S:Dd X.N X.env.scope scope x B4 js) (I3:Inv X pins σ H2 s2) (f2:∀ b∈fp,ED X pins H2 b) (vi:∀ b∈fp,b < s2.heap.objs.size){h1:Heap}
  {m:ZD0}(Kg:h1.Ns s2.heap.objs.size m) (old:∀ b o,s2.heap.get? b=some o->h1.get? b=some o){t':Nat} :
  Inv (Ce X (B4++[x]) scope (EG X.env.cells scope.names) s2.heap.objs.size s2 H2 fp) [] (Bi js σ++[none]) H2 { s2 with heap:=h1,toks:=t' }:=by
 have y9:∀ y∈scope.names,y.2=.free->(X.env.cells.lookup y.1).isSome=true:=fun y hy hk=>by
  obtain ⟨c,e⟩:=I3.ok.has y.1 (.inl (S.all y hy hk))
  rw [e];rfl
 have Lf:∀ y c,(EG X.env.cells scope.names).lookup y=some c->X.env.cells.lookup y=some c:=bV scope.names [] y9 (fun _ _ e=>by cases e)
 have ck:∀ y k,(relabel scope X.env).names.lookup y=some k->k=.cell∨k=.free->scope.names.lookup y=some .free:=fun y k e hk=>by
  have e':=(X6 (env:=X.env) scope.names y).symm.trans e
  cases q:scope.names.lookup y with
  | none=>rw [q] at e';cases e'
  | some k0=>
   rw [q] at e'
   have As:=S.Ys _ (L7 q)
   cases k0 with
   | free=>rfl
   | cell=>exact absurd rfl As
   | _=>simp at e';rcases hk with rfl | rfl <;> cases e'
 have hlen:js.length=B4.length:=by have:=congrArg List.length S.at';simpa using this
 have clt:∀ y c,X.env.cells.lookup y=some c->c < s2.heap.objs.size:=fun y c e=>by
  obtain ⟨v,o,ho,_⟩:=I3.cell y c e
  exact BA ho
 have cellK:∀ c v,s2.heap.IsCell c v->h1.IsCell c v:=fun c v ⟨o,ho,hd⟩=>⟨o,old c o ho,hd⟩
 refine ⟨⟨I3.ok.mod,S.kind,I3.ok.glob,I3.ok.blt,An _,fun y z c e1 e2=>I3.ok.inj y z c (Lf y c e1) (Lf z c e2),fun y hy=>?_,fun y c hf _=>(by cases hf),I3.ok.hd,I3.ok.frames,.inl rfl,fun b hb=>⟨Bx (vi b hb),fun y c e=>(f2 b hb).2.2.2.2.1 y c (Lf y c e)⟩,
  fun b o e=>I3.bs b o e,Cs I3.ok.G5 I3.sz,fun b o e hb=>?_,fun b hb hs=>?_,I3.stack,I3.SJ⟩,rfl,I3.bare,Un.kept old,⟨m,Kg,fun i y v e1 e2 e3=>?_⟩,fun y c e=>?_,I3.AM.fresh (An _),fun y c e=>I3.Eh y c (Lf y c e),fun p hp=>(by cases hp),I3.AM.kept old,?_⟩
 ·have hf:scope.names.lookup y=some .free:=by
   rcases hy with hy | hy
   ·exact ck y _ hy (.inl rfl)
   ·exact ck y _ hy (.inr rfl)
  exact Option.isSome_iff_exists.mp (Vj scope.names [] (.inr (L7 hf)))
 ·rcases (f2 b hb).2.2.2.1 with z | z
  ·exact I3.ok.Ik b o e z
  ·exact absurd (EB (EB (BA e) I3.ok.G5) z) (L4 _)
 ·rcases List.mem_cons.mp (I3.P1 b hs) with z | z
  ·exact (f2 b hb).2.1 z
  ·exact (f2 b hb).2.2.1 z
 ·have T6:(Bi js σ).length=B4.length:=by unfold Bi;rw [AV,hlen]
  have hi:i < B4.length:=by
   by_cases hi:i < B4.length
   ·exact hi
   ·have Bu:(Bi js σ++[none])[i]?=some (some v):=e2
    rw [GU (by rw [T6];omega),T6] at Bu
    cases hd:i - B4.length with
    | zero=>rw [hd] at Bu;cases Bu
    | succ k=>rw [hd] at Bu;simp at Bu
  have Dl:B4[i]?=some y:=by
   have Dl:(B4++[x])[i]?=some y:=e1
   rwa [En hi] at Dl
  have Bu:(Bi js σ)[i]?=some (some v):=by
   have Bu:(Bi js σ++[none])[i]?=some (some v):=e2
   rwa [En (by rw [T6];exact hi)] at Bu
  have Eg:y∈B4:=CG Dl
  unfold Bi at Bu
  rw [BF] at Bu
  cases hj:js[i]? with
  | none=>rw [hj] at Bu;cases Bu
  | some j=>
   rw [hj] at Bu
   have hN:X.N[j]?=some y:=by
    have q:=congrArg (fun l=>l[i]?) S.at'
    simp only [BF,hj,Dl,S6] at q
    exact BU q
   have hσ:σ[j]?=some (some v):=by
    simp only [S6,S7] at Bu
    cases q:σ[j]? with
    | none=>rw [q] at Bu;cases Bu
    | some w=>rw [q] at Bu;simp at Bu;rw [Bu]
   obtain ⟨m0,hn0,cz⟩:=I3.loc
   obtain ⟨u,r,l⟩:=cz j y v hN hσ (.inr (.inl (S.cell y Eg)))
   refine ⟨u,r,?_⟩
   rcases l with ⟨k,_⟩ | ⟨_,c,e,z⟩
   ·have k':X.env.scope.names.lookup y=some .local:=k
    rw [S.cell y Eg] at k';cases k'
   ·have ue:X.env.kindOf y=some .cell:=S.cell y Eg
    have hk:(relabel scope X.env).names.lookup y=some .cell:=by
     refine (X6 (env:=X.env) scope.names y).trans ?_
     rw [S.free y Eg]
     simp [I3.ok.kind,ue]
    obtain ⟨c',e'⟩:=Option.isSome_iff_exists.mp (Vj (cells:=X.env.cells) scope.names [] (.inr (L7 (S.free y Eg))))
    have bY:=Lf y c' e'
    rw [e] at bY;cases bY
    exact .inr ⟨.inl hk,c,e',cellK c _ z⟩
 ·obtain ⟨v,z⟩:=I3.cell y c (Lf y c e)
  exact ⟨v,cellK c v z⟩
 ·show (Bi js σ++[none]).length=(B4++[x]).length
  unfold Bi
  simp [hlen]
theorem zp {acc C:Addr}{s3:Shared}{H3:Hp}{cl:List (Str×Addr)}{s4:Shared}{w0:Option V}{H4:Hp}{R:Result->Shared->Prop}(hc:X.calm=true) (S:Dd X.N X.env.scope scope x B4 js)
  (Gj:Kk (Ce X (B4++[x]) scope cl C s3 H3 fp) ifs tt) (Gq:PE (Ce X (B4++[x]) scope cl C s3 H3 fp) elt te)
  (T:Turn X.prog X.w X.K (.Name x px) J fp it tn) (y1:∀ b∈fp,(Ce X (B4++[x]) scope cl C s3 H3 fp).Ok->ED (Ce X (B4++[x]) scope cl C s3 H3 fp) [] (fun _=>none) b)
  (W:Nat->Nat->Hp->Prop) (Q:VK)
  (turn:∀ i m H2,W i m H2->(J.stop i H2/\Q (.ref acc) H2)∨(J.go i H2/\∀ x H3,J.Gg i H2 x H3->tt (Bi js σ++[some x]) H3 fun b H4=>
   if b=true then te (Bi js σ++[some x]) H4 fun y H5=>∃ ys,H5 acc=some (.lst ys)/\ys.length < sizeLine/\∃ m',m' < m/\W (i+1) m' (upd H5 acc (.lst (ys++[y])))
   else ∃ m',m' < m/\W (i+1) m' H4))
  (I4:Inv (Ce X (B4++[x]) scope cl C s3 H3 fp) [] (Bi js σ++[w0]) H4 s4) (QZ:tn 0 s4.heap) (mz:∀ b∈fp,H4 b=none) (m0:Nat) (w4:W 0 m0 H4)
  (hR:∀ H' s' w,Inv (Ce X (B4++[x]) scope cl C s3 H3 fp) [] (Bi js σ++[w]) H' s'->Q (.ref acc) H'->R (.ok .next) s') :
  codeAny (model X.prog X.w) X.A (.compLoop (.ListComp elt [⟨.Name x px,iter,ifs,0⟩] scope pos) 0 (.ref it) (.ref acc) (compEnvC scope cl C X.env)) R s4:=by
 have hlen:(Bi js σ).length=B4.length:=by
  unfold Bi;rw [AV];have:=congrArg List.length S.at';simpa using this
 have hN:(B4++[x])[(Bi js σ).length]?=some x:=by rw [hlen];simp
 have xN:Loc (relabel scope X.env) x:=.inl (lookup_relabel_local S.Zx)
 have AM:=I4.ok
 have Kd:∀ {H':Hp},(∀ b∈fp,H' b=none)->∀ b∈fp,ED (Ce X (B4++[x]) scope cl C s3 H3 fp) [] H' b:=fun hn b hb=>⟨hn b hb,(y1 b hb AM).2⟩
 refine codeAny_compLoop_tests (fun n s'=>∃ i w H',Inv (Ce X (B4++[x]) scope cl C s3 H3 fp) [] (Bi js σ++[w]) H' s'/\tn i s'.heap/\(∀ b∈fp,H' b=none)/\W i n H') ?_ m0 ⟨0,w0,H4,I4,QZ,mz,w4⟩
 rintro n s5 ⟨i,w,H5,I5,Lm,RN,w5⟩
 rcases turn i n H5 w5 with ⟨stop,q⟩ | ⟨go,step⟩
 ·refine wpAny_mono (T.done (Ce X (B4++[x]) scope cl C s3 H3 fp) rfl rfl rfl hc i [] s5 _ H5 (fun _ _=>False) I5 (Kd RN) Lm stop) (fun r s6 ⟨hr,I6⟩=>?_) fun _ _ z=>z.elim
  subst hr
  exact hR H5 s6 w I6 q
 ·refine wpAny_mono (T.item (Ce X (B4++[x]) scope cl C s3 H3 fp) rfl rfl rfl hc i [] s5 _ H5 (fun _ _=>False) I5 (Kd RN) Lm go) (fun r s6 ⟨u,hr,h6⟩=>?_) fun _ _ z=>z.elim
  subst hr
  have key:∀ (Q':Unit->Shared->Prop) (E':Value->Shared->Prop) (f:Unit->Sem Unit),wpAny (model X.prog X.w) X.A (letOwnedTupleGo (.Name x px) (.ref it) u >>= f) Q' E' s6->wpAny (model X.prog X.w) X.A (f ()) Q' E' s6:=fun Q' E' f h=>h
  refine key _ _ (fun _=>assign (.Name x px) (compEnvC scope cl C X.env) u) (wpAny_bind (wpAny_mono h6 (fun _ s7 ⟨v,H7,I7,r7,y7,Su,sU⟩=>?_) fun _ _ z=>z.elim))
  have v9:=I7.pinned (Kd sU) (T.obj _ _ Su)
  refine wpAny_mono (dh (X:=Ce X (B4++[x]) scope cl C s3 H3 fp) (pos:=px) S.nd hN xN (.inr (lookup_relabel_local S.Zx)) _ s7 _ H7 v u
   (fun σ8 H8=>σ8=Bi js σ++[some v]/\H8=H7) v9 r7 ⟨kd _ _ _,rfl⟩) (fun _ s8 ⟨σ8,H8,I8,e8,tX⟩=>?_) fun _ _ z=>z.elim
  subst e8;subst tX
  refine wpAny_mono (Gj _ s8 _ H8 _ I8 (step v H8 y7)) (fun b s9 ⟨H9,I9,q9⟩=>?_) fun _ _ z=>z.elim
  have again:∀ {σa:St} {Ha:Hp}{sa:Shared},Inv (Ce X (B4++[x]) scope cl C s3 H3 fp) ([]++NL fp s7.heap) σa Ha sa->tn (i+1) sa.heap/\(∀ b∈fp,Ha b=none):=fun {σa Ha sa} Ia=>by
   refine ⟨T.keep _ _ _ Su fun b hb o e=>(Ia.pin (b,o) (Hk _ (Hk _ (Qm hb e)))).1,fun b hb=>?_⟩
   obtain ⟨o,e,d⟩:=T.obj _ _ Su b hb
   exact (Ia.pin (b,o) (Hk _ (Hk _ (Qm hb e)))).2.1
  cases b with
  | false=>
   have xf:∃ m',m' < n/\W (i+1) m' H9:=q9
   obtain ⟨m',hm,w9⟩:=xf
   rw [if_neg (by decide)]
   exact ⟨m',hm,i+1,_,H9,I9.OE,(again I9).1,(again I9).2,w9⟩
  | true=>
   rw [if_pos rfl]
   rw [if_pos rfl] at q9
   refine wpAny_mono (Gq _ s9 _ H9 _ I9 q9) (fun yv D5 ⟨y,fL,zE,q8,ys,B9,hz,m',hm,oN⟩=>?_) fun _ _ z=>z.elim
   refine wpAny_mono (aU (X:=Ce X (B4++[x]) scope cl C s3 H3 fp) _ D5 _ fL (.ref acc) [y] (.ref acc) [yv] (fun _ gO=>gO=upd fL acc (.lst (ys++[y]))) zE rfl (.cons q8 .nil) ⟨acc,ys,y,rfl,rfl,B9,hz,rfl⟩)
    (fun _ Hi ⟨_,gO,XW,_,xb⟩=>?_) fun _ _ z=>z.elim
   subst xb
   exact ⟨m',hm,i+1,_,_,XW.OE,(again XW).1,(again XW).2,oN⟩
theorem gY {RR:Value->Addr->Result->Shared->Prop}{E:Value->Shared->Prop}(hc:X.calm=true) (S:Dd X.N X.env.scope scope x B4 js)
  (Gj:∀ C s H,Kk (Ce X (B4++[x]) scope (EG X.env.cells scope.names) C s H fp) ifs tt) (Gq:∀ C s H,PE (Ce X (B4++[x]) scope (EG X.env.cells scope.names) C s H fp) elt te)
  (T:Turn X.prog X.w X.K (.Name x px) J fp it tn) (I2:Inv X pins σ H2 s2) (JS:tn 0 s2.heap) (f2:∀ b∈fp,ED X pins H2 b) (Q:VK) (hW:∀ acc,H2 acc=none->OJ J js tt te σ H2 acc Q)
  (jz:∀ acc C H' s' m,Inv X pins σ H' s'->ED X pins H' C->s'.heap.Ns C m->Q (.ref acc) H'->RR (.ref acc) C (.ok .next) s') :
  wpAny (model X.prog X.w) X.A (newList []) (fun acc s3=>wpAny (model X.prog X.w) X.A (newFunctionEnv scope X.env.globals (EG X.env.cells scope.names) [] X.env.qual none .none (some X.env)) (fun fm s4=>
   codeAny (model X.prog X.w) X.A (.compStart (.ListComp elt [⟨.Name x px,iter,ifs,0⟩] scope pos) 0 (.ref it) acc { fm with scope:=relabel scope X.env }) (RR acc fm.locals) s4) E s3) E s2:=by
 refine wpAny_newObj_type (wpAny_newFunctionEnv S.Ys (fun y hy=>by cases hy) (fun h1 Kg MG=>?_) S.kind)
 have I3:Inv X pins σ (upd H2 s2.heap.objs.size (.lst [])) { s2 with heap:=s2.heap.push { cls:=.type "list", data:=.seq ([]:List Value).toArray } }:=I2.Ym (t':=s2.toks) .nil (Cc _)
 have Al:∀ b∈fp,b < s2.heap.objs.size:=fun b hb=>by
  obtain ⟨o,e,_⟩:=T.obj _ _ JS b hb
  exact BA e
 have hsz:(s2.heap.push { cls:=.type "list", data:=.seq ([]:List Value).toArray }).objs.size=s2.heap.objs.size+1:=JY ..
 have f3:∀ b∈fp,ED X pins (upd H2 s2.heap.objs.size (.lst [])) b:=fun b hb=>⟨by rw [Aj (Bx (Al b hb))];exact (f2 b hb).1,(f2 b hb).2⟩
 generalize ng:({ s2 with heap:=s2.heap.push { cls:=.type "list", data:=.seq ([]:List Value).toArray } }:Shared)=s3 at I3 Kg MG ⊢
 have Zf:s3.heap=s2.heap.push { cls:=.type "list", data:=.seq ([]:List Value).toArray }:=by rw [<- ng]
 have yh:∀ b∈fp,b < s3.heap.objs.size:=fun b hb=>by rw [Zf,hsz];exact Oc (Al b hb)
 have old:∀ b o,s3.heap.get? b=some o->h1.get? b=some o:=fun b o e=>MG.extBut b o (Bx (BA e)) (Bl _ e)
 have u6:∀ b o,s2.heap.get? b=some o->h1.get? b=some o:=fun b o e=>old b o (by rw [Zf];exact Bl _ e)
 have I4:=ma S I3 f3 yh Kg old (t':=s3.toks+([]:List (Str×Value)).length)
 have QZ:tn 0 h1:=T.keep _ _ _ JS fun b _ o e=>u6 b o e
 obtain ⟨W,⟨m0,w0⟩,turn⟩:=hW s2.heap.objs.size (I2.AM.fresh (An _))
 have loop:codeAny (model X.prog X.w) X.A (.compLoop (.ListComp elt [⟨.Name x px,iter,ifs,0⟩] scope pos) 0 (.ref it) (.ref s2.heap.objs.size) (compEnvC scope (EG X.env.cells scope.names) s3.heap.objs.size X.env))
   (RR (.ref s2.heap.objs.size) s3.heap.objs.size) { s3 with heap:=h1,toks:=s3.toks+([]:List (Str×Value)).length }:=by
  refine zp (acc:=s2.heap.objs.size) (Q:=Q) hc S (Gj _ _ _) (Gq _ _ _) T (fun b hb ok=>⟨rfl,(ok.Je b hb).1,ok.J0 b hb,.inl hb,(ok.Je b hb).2,fun p hp=>by cases hp⟩) W turn I4 QZ (fun b hb=>(f3 b hb).1) m0 w0 fun H' s' w I' q=>?_
  obtain ⟨m,hn,_⟩:=I'.loc
  exact jz _ _ H' s' m (I3.zT (ch:=fp) I'.os I'.base I'.AM I'.bare fun b hb=>⟨(f3 b hb).2.2.2.1,(f3 b hb).2.1,(f3 b hb).2.2.2.2.1,(f3 b hb).2.2.2.2.2⟩) (I3.N8 (An _) I'.free) hn q
 exact codeAny_compStart_list loop (T.self X.A 0 _ _ _ QZ loop)
theorem ZG {σ:St} {H:Hp}{s:Shared}(S:Dd X.N X.env.scope scope x B4 js) (I:Inv X pins σ H s):closureFor scope X.env=pure (EG X.env.cells scope.names):=oa fun y hy hk=>by
 obtain ⟨c,e⟩:=I.ok.has y.1 (.inl (S.all y hy hk))
 rw [e];rfl
theorem ZBZ {wi:TI}(hc:X.calm=true) (S:Dd X.N X.env.scope scope x B4 js) (hi:PI X (.Name x px) iter wi)
  (Gj:∀ fp C s H,Kk (Ce X (B4++[x]) scope (EG X.env.cells scope.names) C s H fp) ifs tt) (Gq:∀ fp C s H,PE (Ce X (B4++[x]) scope (EG X.env.cells scope.names) C s H fp) elt te)
  (hs:∀ v,foldedSetIterable iter X.env v=pure v:=by intro _;rfl):PE X (.ListComp elt [⟨.Name x px,iter,ifs,0⟩] scope pos) (LS wi js tt te):=by
 intro pins s σ H Q I h
 rw [eval_ListComp]
 refine wpAny_comprehension_free (use:=none) rfl hs (ZG S I) S.kind S.loc (AR (hi pins s σ H _ I h) fun v s1 h1=>AR h1 fun Qz s2 h2=>?_)
 obtain ⟨it,fp,tn,J,H2,e,I2,T,JS,f2,hW⟩:=h2
 subst e
 refine gY (RR:=fun acc C=>compPost (model X.prog X.w) X.A X.xe none (EP X pins σ Q) acc C) hc S (Gj fp) (Gq fp) T I2 JS f2 Q hW fun acc C H' s' m I' fC hn q=>⟨m,hn,fun h' MG=>?_⟩
 exact ⟨.ref acc,H',I'.turned (t':=s'.toks) (fun b o hb e=>(MG.2 b hb).trans e) fC.1 fC.2.1 fC.2.2.2.1 fC.2.2.2.2.1 fC.2.2.2.2.2,rfl,q⟩
theorem rN {wi:TI}{i:Nat}{y:Str}{py Ng:Pos}(hN:X.N.Nodup) (DM:X.N[i]?=some y) (hy:Loc X.env.scope y) (hc:X.calm=true) (S:Dd X.N X.env.scope scope x B4 js) (hi:PI X (.Name x px) iter wi)
  (Gj:∀ fp C s H,Kk (Ce X (B4++[x]) scope (EG X.env.cells scope.names) C s H fp) ifs tt) (Gq:∀ fp C s H,PE (Ce X (B4++[x]) scope (EG X.env.cells scope.names) C s H fp) elt te)
  (Xp:swapsWith (.ListComp elt [⟨.Name x px,iter,ifs,0⟩] scope pos) (some (.Name y py)) Ng.line X.env=pure true:=by rfl)
  (hf:X.fn y=true∨X.env.scope.names.lookup y=some .local:=by first | exact .inl rfl | exact .inr rfl | assumption)
  (hs:∀ v,foldedSetIterable iter X.env v=pure v:=by intro _;rfl):PS X (.Assign [.Name y py] (.ListComp elt [⟨.Name x px,iter,ifs,0⟩] scope pos) Ng) (FF (LS wi js tt te) (Cn i)):=by
 intro pins s σ H D I h
 rw [exec_Assign_Name_used _ _ _ _ Xp]
 refine wpAny_bind (wpAny_standAt (wpAny_bind ?_))
 show wpAny _ X.A (do let _ <- comprehension (.ListComp elt [⟨.Name x px,iter,ifs,0⟩] scope pos) scope X.env _ (newList []) false (eval iter X.env) (some (assign (.Name y py) X.env))) _ _ s
 refine wpAny_bind (wpAny_mono (wpAny_comprehension_free (use:=some (assign (.Name y py) X.env)) (Q:=fun _ s'=>SP X pins D .next s') rfl hs (ZG S I) S.kind S.loc
  (AR (hi pins s σ H _ I h) fun v s1 h1=>AR h1 fun Qz s2 h2=>?_)) (fun _ s' hq=>wpAny_pure (wpAny_pure hq)) fun _ _ e=>e)
 obtain ⟨it,fp,tn,J,H2,e,I2,T,JS,f2,hW⟩:=h2
 subst e
 refine gY (RR:=fun acc C=>compPost (model X.prog X.w) X.A X.xe (some (assign (.Name y py) X.env)) (fun _ s'=>SP X pins D .next s') acc C) hc S (Gj fp) (Gq fp) T I2 JS f2 _ hW fun acc C H' s' m I' fC hn q=>?_
 show wpAny _ X.A (assign (.Name y py) X.env (.ref acc)) _ _ s'
 refine wpAny_assign_Name (Z0 (v:=.ref acc) I' hN DM hy rfl (fun NU jk ⟨a,uS,ha⟩=>?_) hf)
 have As:C≠a:=by
  rcases ha with z | z
  ·rw [z];exact fC.2.1
  ·exact (fC.2.2.2.2.1 y a z).symm
 refine ⟨m,hn.sameBut uS As,fun h' MG=>?_⟩
 exact ⟨_,H',jk.turned (t':=NU.toks) (fun b o hb e=>(MG.2 b hb).trans e) fC.1 fC.2.1 fC.2.2.2.1 fC.2.2.2.2.1 fC.2.2.2.2.2,q⟩
end
def CS (K:ZCy) (tp:Bool) (H:Hp) (a:Addr) (xs:List V):Prop:=match tp with
 | false=>AE K H a xs
 | true=>A9 K H a xs
theorem CS.or {K:ZCy}{tp:Bool}{H:Hp}{a:Addr}{xs:List V}(h:CS K tp H a xs):AE K H a xs∨A9 K H a xs:=by
 cases tp
 ·exact .inl h
 ·exact .inr h
noncomputable def Mw (K:ZCy) (tp:Bool) (a:Addr) (xs:List V):It:=
 ⟨fun i H=>CS K tp H a xs/\i < xs.length,fun i H x H'=>H'=H/\xs[i]?=some x,fun i H=>CS K tp H a xs/\xs.length<=i⟩
section
variable {X:Cx}{tg:Expr}
theorem qC {P:Program}{w:World}{K:ZCy}(a it:Addr) (xs:List V):Turn P w K tg (Mw K false a xs) [it] it (fun i h=>h.IsListIter it a i) where
 mem:=by simp
 obj:=(O9 (P:=P) (w:=w) (K:=K) (tg:=tg) a it).obj
 keep:=(O9 (P:=P) (w:=w) (K:=K) (tg:=tg) a it).keep
 item:=by
  intro X hP hw hK hc i pins s σ H E I hf st hg
  obtain ⟨hq,hi⟩:=hg
  refine AR ((O9 (P:=P) (w:=w) (K:=K) (tg:=tg) a it).item X hP hw hK hc i pins s σ H E I hf st ⟨xs,xs[i],hq,by simp [hi]⟩) fun r s1 ⟨u,e,h⟩=>⟨u,e,AR h fun _ s2 ⟨x,H',I',rx,y,DE,f'⟩=>⟨x,H',I',rx,⟨y.1,y.2 xs hq⟩,DE,f'⟩⟩
 done:=by
  intro X hP hw hK hc i pins s σ H E I hf st hg
  exact (O9 (P:=P) (w:=w) (K:=K) (tg:=tg) a it).done X hP hw hK hc i pins s σ H E I hf st ⟨xs,hg.1,hg.2⟩
 self:=(O9 (P:=P) (w:=w) (K:=K) (tg:=tg) a it).self
theorem jP {P:Program}{w:World}{K:ZCy}(a it:Addr) (xs:List V):Turn P w K tg (Mw K true a xs) [it] it (fun i h=>h.IsTupleIter it a i) where
 mem:=by simp
 obj:=(Nd (P:=P) (w:=w) (K:=K) (tg:=tg) a it).obj
 keep:=(Nd (P:=P) (w:=w) (K:=K) (tg:=tg) a it).keep
 item:=by
  intro X hP hw hK hc i pins s σ H E I hf st hg
  obtain ⟨hq,hi⟩:=hg
  refine AR ((Nd (P:=P) (w:=w) (K:=K) (tg:=tg) a it).item X hP hw hK hc i pins s σ H E I hf st ⟨xs,xs[i],hq,by simp [hi]⟩) fun r s1 ⟨u,e,h⟩=>⟨u,e,AR h fun _ s2 ⟨x,H',I',rx,y,DE,f'⟩=>⟨x,H',I',rx,⟨y.1,y.2 xs hq⟩,DE,f'⟩⟩
 done:=by
  intro X hP hw hK hc i pins s σ H E I hf st hg
  exact (Nd (P:=P) (w:=w) (K:=K) (tg:=tg) a it).done X hP hw hK hc i pins s σ H E I hf st ⟨xs,hg.1,hg.2⟩
 self:=(Nd (P:=P) (w:=w) (K:=K) (tg:=tg) a it).self
def XJ (K:ZCy) (tl:TE):TI:=fun σ H R=>tl σ H fun x H1=>∃ tp a xs,x=.ref a/\CS K tp H1 a xs/\R (Mw K tp a xs) H1
theorem ZAH {l:Expr}{tl:TE}(hl:PE X l tl):PI X tg l (XJ X.K tl):=by
 intro pins s σ H R I h
 refine AR (hl pins s σ H _ I h) fun v s1 ⟨x,H1,I1,r1,q1⟩=>?_
 obtain ⟨tp,a,xs,e,hq,q⟩:=q1
 subst e
 cases r1
 have fin:∀ b∈[s1.heap.objs.size],ED X pins H1 b:=fun b hb=>by
  have e:b=s1.heap.objs.size:=by simpa using hb
  subst e
  exact I1.N8 (An _) (I1.AM.fresh (An _))
 cases tp with
 | false=>
  obtain ⟨A6,rv,p,hz⟩:=I1.list hq
  refine wpAny_pyIter_list p.isList ?_
  exact ⟨s1.heap.objs.size,[s1.heap.objs.size],_,_,H1,rfl,I1.kept (t':=s1.toks) fun b o e=>Bl _ e,qC a _ xs,⟨_,CI _ rfl,rfl,rfl⟩,fin,q⟩
 | true=>
  obtain ⟨A6,rv,p,hz⟩:=I1.tuple hq
  refine wpAny_pyIter_tuple (show s1.heap.IsTuple a A6.toArray from p) ?_
  exact ⟨s1.heap.objs.size,[s1.heap.objs.size],_,_,H1,rfl,I1.kept (t':=s1.toks) fun b o e=>Bl _ e,jP a _ xs,⟨_,CI _ rfl,rfl,rfl⟩,fin,q⟩
noncomputable def Sj (z:Str):It:=⟨fun i _=>i < z.cps.size,fun i H x H'=>H'=H/\∃ c,z.cps[i]?=some c/\x=.str ⟨#[c]⟩,fun i _=>i=z.cps.size⟩
theorem af {P:Program}{w:World}{K:ZCy}{it:Addr}{z:Str}{t:Tok}{ty:String}
  (hn:["enumerate", "zip", "dict_itemiterator", "dict_reverseitemiterator", "odict_iterator", "itertools.zip_longest", "itertools.pairwise"].contains ty=false)
  (W:∀ A:Around,A.handled=none->Walks P w A it [it] [it] z.cps.size (SignAt z) (fun i h=>h.IsStrIter it ty z t i))
  (self:∀ (A:Around) (i:Nat) (s:Shared) (Q:Value->Shared->Prop) (E:Value->Shared->Prop),s.heap.IsStrIter it ty z t i->Q (.ref it) s->wpAny (model P w) A (pyIter (.ref it)) Q E s) :
  Turn P w K tg (Sj z) [it] it (fun i h=>h.IsStrIter it ty z t i) where
 mem:=by simp
 obj:=fun i h st b hb=>by
  have e:b=it:=by simpa using hb
  subst e
  obtain ⟨o,e,c,d⟩:=st
  exact ⟨o,e,fun v z=>by rw [d] at z;cases z⟩
 keep:=fun i h h' st k=>let ⟨o,e,r⟩:=st;⟨o,k it (by simp) o e,r⟩
 item:=by
  intro X hP hw hK hc i pins s σ H E I hf st hg
  subst hP hw hK
  obtain ⟨f0,f1,f2,f3,f4,f5⟩:=hf it (by simp)
  refine (W X.A (I.ok.hd hc)).item i s _ _ hg st fun v h' tk ⟨c,u,Qh,hv⟩ DE kp=>?_
  subst hv
  have I1:Inv X pins σ H { s with heap:=h',toks:=tk }:=I.turned (t':=tk) (fun b o hb e=>kp b o (by simpa using hb) e) f0 f1 f3 f4 f5
  obtain ⟨o,e,cl,d⟩:=id DE
  exact ⟨_,rfl,P2 (s:={ s with heap:=h',toks:=tk }) e cl d hn ⟨.str ⟨#[c]⟩,H,I1,⟨u,rfl⟩,⟨rfl,c,Qh,rfl⟩,DE,fun b hb=>(hf b hb).1⟩⟩
 done:=by
  intro X hP hw hK hc i pins s σ H E I hf st hg
  subst hP hw hK
  obtain ⟨f0,f1,f2,f3,f4,f5⟩:=hf it (by simp)
  have hg':i=z.cps.size:=hg
  subst hg'
  exact (W X.A (I.ok.hd hc)).done s _ _ st fun h' tk kp=>⟨rfl,I.turned (t':=tk) (fun b o hb e=>kp b o (by simpa using hb) e) f0 f1 f3 f4 f5⟩
 self:=self
def b6 (tl:TE):TI:=fun σ H R=>tl σ H fun x H1=>∃ z,x=.str z/\R (Sj z) H1
theorem zq {l:Expr}{tl:TE}(hl:PE X l tl):PI X tg l (b6 tl):=by
 intro pins s σ H R I h
 refine AR (hl pins s σ H _ I h) fun v s1 ⟨x,H1,I1,r1,q1⟩=>?_
 obtain ⟨z,e,q⟩:=q1
 subst e
 obtain ⟨t,rfl⟩:=r1
 have fin:∀ b∈[s1.heap.objs.size],ED X pins H1 b:=fun b hb=>by
  have e:b=s1.heap.objs.size:=by simpa using hb
  subst e
  exact I1.N8 (An _) (I1.AM.fresh (An _))
 have kp:∀ (ob:Obj),Inv X pins σ H1 { s1 with heap:=s1.heap.push ob }:=fun ob=>I1.kept (t':=s1.toks) fun b o e=>Bl _ e
 cases ha:z.cps.all (· < 128)
 ·refine wpAny_pyIter_wide ha ?_
  exact ⟨s1.heap.objs.size,[s1.heap.objs.size],_,_,H1,rfl,kp _,af (t:=t) (by decide) (fun A' hA=>Walks.strWide hA _ z t) (fun _ _ _ _ _ st h=>wpAny_pyIter_striter_wide st h),⟨_,CI _ rfl,rfl,rfl⟩,fin,q⟩
 ·refine wpAny_pyIter_ascii ha ?_
  exact ⟨s1.heap.objs.size,[s1.heap.objs.size],_,_,H1,rfl,kp _,af (t:=t) (by decide) (fun A' hA=>Walks.strAscii hA _ z t) (fun _ _ _ _ _ st h=>wpAny_pyIter_striter_ascii st h),⟨_,CI _ rfl,rfl,rfl⟩,fin,q⟩
end
theorem Ac {H:Hp}{p:Addr}(h:H p=none) (o:HO):A8 H (upd H p o):=fun b u q=>by rw [Aj (EN q h)];exact q
theorem A8.Ln {K:ZCy}{H H':Hp}{a:Addr}{xs:List V}(e:A8 H H') (h:A9 K H a xs):A9 K H' a xs:=by
 rcases h with (h | ⟨o,h⟩) | h
 ·exact .inl (.inl (e _ _ h))
 ·exact .inl (.inr ⟨o,e _ _ h⟩)
 ·exact .inr h
theorem A8.sq {K:ZCy}{tp:Bool}{H H':Hp}{a:Addr}{xs:List V}(e:A8 H H') (h:CS K tp H a xs):CS K tp H' a xs:=by
 cases tp
 ·exact A8.seq e h
 ·exact A8.Ln e h
theorem fv {J:It}{js:List Nat}{tt:TT}{te:TE}{σ:St} {H1:Hp}{acc:Addr}{Q:VK}(xs:List V) (f:V->Bool) (g:V->V) (B9:H1 acc=none) (hz:xs.length<=sizeLine)
  (hgo:∀ i H,A8 H1 H->i < xs.length->J.go i H) (BY:∀ H,A8 H1 H->J.stop xs.length H) (hy:∀ i H x H',J.Gg i H x H'->H'=H/\xs[i]?=some x)
  (ht:∀ (i:Nat) (x:V) (H':Hp) (Q':Bool->Hp->Prop),xs[i]?=some x->A8 H1 H'->(∀ Dt,A8 H' Dt->Q' (f x) Dt)->tt (Bi js σ++[some x]) H' Q')
  (he:∀ (i:Nat) (x:V) (H':Hp) (Q':VK),xs[i]?=some x->f x=true->A8 H1 H'->(∀ Dt,A8 H' Dt->Q' (g x) Dt)->te (Bi js σ++[some x]) H' Q')
  (hd:∀ H',A8 H1 H'->H' acc=some (.lst ((xs.filter f).map g))->Q (.ref acc) H'):OJ J js tt te σ H1 acc Q:=by
 refine ⟨fun i m H=>m=xs.length - i/\i<=xs.length/\A8 H1 H/\H acc=some (.lst (((xs.take i).filter f).map g)),⟨xs.length,by simp,Cc _,Ac B9 _,AI⟩,?_⟩
 rintro i m H2 ⟨rfl,hi,sm,ha⟩
 by_cases Al:i < xs.length
 ·refine .inr ⟨hgo i H2 sm Al,fun x H3 y=>?_⟩
  obtain ⟨e,hx⟩:=hy i H2 x H3 y
  subst e
  have Lz:(xs.take (i+1))=xs.take i++[x]:=by
   have e2:xs[i]=x:=by
    rw [B1 Al] at hx;exact BU hx
   rw [YV Al,e2]
  have e1:List.filter f (xs.take (i+1))=(xs.take i).filter f++(if f x=true then [x] else []):=by
   rw [Lz,YM];congr 1
   by_cases hf:f x=true <;> simp [hf]
  refine ht i x _ _ hx sm fun H4 s4=>?_
  by_cases hf:f x=true
  ·rw [if_pos hf]
   refine he i x H4 _ hx hf (sm.trans s4) fun H5 s5=>?_
   have hlen:(((xs.take i).filter f).map g).length < sizeLine:=by
    rw [AV]
    have:=Ro f (xs.take i)
    rw [CF] at this
    omega
   refine ⟨_,s5 _ _ (s4 _ _ ha),hlen,xs.length - (i+1),by omega,rfl,Al,fun b o q=>?_,?_⟩
   ·have hb:b≠acc:=by rintro rfl;rw [B9] at q;cases q
    rw [Aj hb];exact s5 _ _ (s4 _ _ (sm b o q))
   ·rw [AI,e1,if_pos hf,E9];rfl
  ·have TV:f x=false:=by simpa using hf
   rw [TV]
   rw [if_neg (by decide)]
   refine ⟨xs.length - (i+1),by omega,rfl,Al,sm.trans s4,?_⟩
   rw [e1,if_neg hf,Fx]
   exact s4 _ _ ha
 ·have e:i=xs.length:=by omega
  subst e
  refine .inl ⟨BY H2 sm,hd H2 sm ?_⟩
  rw [MP] at ha
  exact ha
theorem Lh {K:ZCy}{tp:Bool}{a:Addr}{xs:List V}{js:List Nat}{tt:TT}{te:TE}{σ:St} {H1:Hp}{acc:Addr}{Q:VK}(f:V->Bool) (g:V->V) (hq:CS K tp H1 a xs) (B9:H1 acc=none) (hz:xs.length<=sizeLine)
  (ht:∀ (i:Nat) (x:V) (H':Hp) (Q':Bool->Hp->Prop),xs[i]?=some x->A8 H1 H'->(∀ Dt,A8 H' Dt->Q' (f x) Dt)->tt (Bi js σ++[some x]) H' Q')
  (he:∀ (i:Nat) (x:V) (H':Hp) (Q':VK),xs[i]?=some x->f x=true->A8 H1 H'->(∀ Dt,A8 H' Dt->Q' (g x) Dt)->te (Bi js σ++[some x]) H' Q')
  (hd:∀ H',A8 H1 H'->H' acc=some (.lst ((xs.filter f).map g))->Q (.ref acc) H'):OJ (Mw K tp a xs) js tt te σ H1 acc Q:=
 fv xs f g B9 hz (fun i H s hi=>⟨s.sq hq,hi⟩) (fun H s=>⟨s.sq hq,An _⟩) (fun i H x H' y=>y) ht he hd
noncomputable def GN (z:Str):List V:=z.cps.toList.map fun c=>.str ⟨#[c]⟩
theorem WX (z:Str):(GN z).length=z.cps.size:=by unfold GN;simp
theorem iE {z:Str}{js:List Nat}{tt:TT}{te:TE}{σ:St} {H1:Hp}{acc:Addr}{Q:VK}(f:V->Bool) (g:V->V) (B9:H1 acc=none) (hz:z.cps.size<=sizeLine)
  (ht:∀ (i:Nat) (x:V) (H':Hp) (Q':Bool->Hp->Prop),(GN z)[i]?=some x->A8 H1 H'->(∀ Dt,A8 H' Dt->Q' (f x) Dt)->tt (Bi js σ++[some x]) H' Q')
  (he:∀ (i:Nat) (x:V) (H':Hp) (Q':VK),(GN z)[i]?=some x->f x=true->A8 H1 H'->(∀ Dt,A8 H' Dt->Q' (g x) Dt)->te (Bi js σ++[some x]) H' Q')
  (hd:∀ H',A8 H1 H'->H' acc=some (.lst (((GN z).filter f).map g))->Q (.ref acc) H'):OJ (Sj z) js tt te σ H1 acc Q:=by
 refine fv (GN z) f g B9 (by rw [WX];exact hz) (fun i H s hi=>?_) (fun H s=>?_) (fun i H x H' y=>?_) ht he hd
 ·rw [WX] at hi;exact hi
 ·show (GN z).length=z.cps.size
  exact WX z
 ·obtain ⟨e,c,hc,hx⟩:=y
  refine ⟨e,?_⟩
  subst hx
  unfold GN
  rw [BF,iK,hc]
  rfl
noncomputable def Et (xs ys:List V):Bool:=xs.length == ys.length && (List.range xs.length).all fun j=>Cq (xs.getD j .AF) (ys.getD j .AF)
theorem Nf {xs:List V}{j:Nat}{x:V}(h:xs[j]?=some x):xs.getD j .AF=x:=by rw [Rk,h];rfl
section
variable {X:Cx}{pins:ZCz}{σ:St} {H:Hp}{s:Shared}
theorem aF {xs:List V}{j:Nat}{x:V}(h:xs.all Dn=true) (e:xs[j]?=some x):Dn x=true:=List.all_eq_true.mp h x (CG e)
theorem Qe {A:Around}{xs ys:List V}{A6 C3:List Value}(r1:Vals xs A6) (r2:Vals ys C3) (fx:xs.all Dn=true) (fy:ys.all Dn=true) :
  ∀ j (h1:j < A6.toArray.size) (h2:j < C3.toArray.size),SeqAt.EqAt A s A6.toArray[j] C3.toArray[j] (Cq (xs.getD j .AF) (ys.getD j .AF)):=fun j h1 h2=>by
 have l1:=r1.length
 have l2:=r2.length
 have K2:j < A6.length:=by simpa using h1
 have UO:j < C3.length:=by simpa using h2
 have e1:xs[j]?=some (xs[j]'(by omega)):=B1 _
 have e2:ys[j]?=some (ys[j]'(by omega)):=B1 _
 obtain ⟨u,hu,ru⟩:=r1.get e1
 obtain ⟨v,hv,rv⟩:=r2.get e2
 rw [B1 K2] at hu
 rw [B1 UO] at hv
 have Td:A6[j]=u:=BU hu
 have N1:C3[j]=v:=BU hv
 rw [Nf e1,Nf e2]
 have q:=WU (A:=A) (s:=s) ru rv (aF fx e1) (aF fy e2)
 rw [<- Td,<- N1] at q
 simpa using q
def O0 (K:ZCy) (neg:Bool):R2:=fun x y H Q=>∃ p q xs ys,x=.ref p/\y=.ref q/\((AE K H p xs/\AE K H q ys)∨(A9 K H p xs/\A9 K H q ys))/\xs.all Dn=true/\ys.all Dn=true/\
 Q (.bl (if neg then !Et xs ys else Et xs ys)) H
theorem LY {xs ys:List V}(h:xs.length≠ys.length):Et xs ys=false:=by
 unfold Et
 have:(xs.length == ys.length)=false:=by simpa using h
 rw [this,Bool.false_and]
theorem MC {xs ys:List V}(h:xs.length=ys.length):Et xs ys=(List.range xs.length).all fun j=>Cq (xs.getD j .AF) (ys.getD j .AF):=by
 unfold Et
 have:(xs.length == ys.length)=true:=by simpa using h
 rw [this,Kz]
theorem R6 (hu:X.A.units < cLine):BB X (compareOp .Eq) (O0 X.K false):=by
 intro pins s σ H x y v u Q I rx ry h
 obtain ⟨p,q,xs,ys,rfl,rfl,hq,fx,fy,hQ⟩:=h
 cases rx;cases ry
 have DK:Q (.bl (Et xs ys)) H:=hQ
 rcases hq with ⟨ha,hb⟩ | ⟨ha,hb⟩
 ·obtain ⟨A6,r1,p1,z1⟩:=I.list ha
  obtain ⟨C3,r2,p2,z2⟩:=I.list hb
  have l1:=r1.length;have l2:=r2.length
  by_cases hl:xs.length=ys.length
  ·refine SeqAt.eq_listAt (e:=fun j=>Cq (xs.getD j .AF) (ys.getD j .AF)) p1.isList p2.isList (by simp;omega) hu (Qe r1 r2 fx fy) ⟨.bl _,H,I,rfl,?_⟩
   rw [MC hl] at DK
   simp only [Br,<- l1]
   exact DK
  ·rw [LY hl] at DK
   exact SeqAt.eq_list_lengthsAt p1.isList p2.isList (by simp;omega) hu ⟨.bl false,H,I,rfl,DK⟩
 ·obtain ⟨A6,r1,p1,z1⟩:=I.tuple ha
  obtain ⟨C3,r2,p2,z2⟩:=I.tuple hb
  have l1:=r1.length;have l2:=r2.length
  refine SeqAt.eq_tupleAt (e:=fun j=>Cq (xs.getD j .AF) (ys.getD j .AF)) p1 p2 hu (Qe r1 r2 fx fy) ⟨.bl _,H,I,rfl,?_⟩
  simp only [Br,<- l1,<- l2]
  by_cases hl:xs.length=ys.length
  ·rw [MC hl] at DK
   have:(xs.length == ys.length)=true:=by simpa using hl
   rw [this,Bool.and_true,<- hl,Nat.min_self]
   exact DK
  ·rw [LY hl] at DK
   have:(xs.length == ys.length)=false:=by simpa using hl
   rw [this,Bool.and_false]
   exact DK
theorem Nu (hu:X.A.units < cLine):BB X (compareOp .NotEq) (O0 X.K true):=by
 intro pins s σ H x y v u Q I rx ry h
 obtain ⟨p,q,xs,ys,rfl,rfl,hq,fx,fy,hQ⟩:=h
 cases rx;cases ry
 have DK:Q (.bl (!Et xs ys)) H:=hQ
 rcases hq with ⟨ha,hb⟩ | ⟨ha,hb⟩
 ·obtain ⟨A6,r1,p1,z1⟩:=I.list ha
  obtain ⟨C3,r2,p2,z2⟩:=I.list hb
  have l1:=r1.length;have l2:=r2.length
  by_cases hl:xs.length=ys.length
  ·refine SeqAt.RcNeAt.lists (e:=fun j=>Cq (xs.getD j .AF) (ys.getD j .AF)) p1.isList p2.isList (by simp;omega) hu (Qe r1 r2 fx fy) _ _ _ _ ⟨.bl _,H,I,rfl,?_⟩
   rw [MC hl] at DK
   simp only [Br,<- l1]
   exact DK
  ·rw [LY hl] at DK
   exact SeqAt.RcNeAt.lists_lengths p1.isList p2.isList (by simp;omega) hu _ _ _ _ ⟨.bl true,H,I,rfl,DK⟩
 ·obtain ⟨A6,r1,p1,z1⟩:=I.tuple ha
  obtain ⟨C3,r2,p2,z2⟩:=I.tuple hb
  have l1:=r1.length;have l2:=r2.length
  refine SeqAt.RcNeAt.tuples (e:=fun j=>Cq (xs.getD j .AF) (ys.getD j .AF)) p1 p2 hu (Qe r1 r2 fx fy) _ _ _ _ ⟨.bl _,H,I,rfl,?_⟩
  simp only [Br,<- l1,<- l2]
  by_cases hl:xs.length=ys.length
  ·rw [MC hl] at DK
   have:(xs.length == ys.length)=true:=by simpa using hl
   rw [this,Bool.and_true,<- hl,Nat.min_self]
   exact DK
  ·rw [LY hl] at DK
   have:(xs.length == ys.length)=false:=by simpa using hl
   rw [this,Bool.and_false]
   exact DK
theorem ni:Ci X (.builtin "isinstance") (fun xs H Q=>∃ x n t b,xs=[x,.ty n]/\EY X.K H x t/\PySem.W.kitOne X.K t (.type n)=some b/\Q (.bl b) H):=by
 intro pins s σ H xs us Q I r h
 obtain ⟨x,n,t,b,rfl,ty,e,q⟩:=h
 obtain ⟨u,w',rfl,rx,rt⟩:=vals2 r
 cases rt
 exact ZBS I rx ty e fun tk=>⟨.bl b,H,I.tok tk,rfl,q⟩
theorem ZA8 {bs:List Bool}{A6:List Value}(r:Vals (bs.map V.bl) A6){i:Nat}{v:Value}(e:A6[i]?=some v):v=.bool (bs.getD i false):=by
 have hl:=r.length
 rw [AV] at hl
 have hi:i < A6.length:=(List.getElem?_eq_some_iff.mp e).1
 have e1:(bs.map V.bl)[i]?=some (.bl (bs[i]'(by omega))):=by rw [BF,B1 (by omega)];rfl
 obtain ⟨u,hu,ru⟩:=r.get e1
 rw [e] at hu;cases hu
 cases ru
 rw [Rk,B1 (by omega)];rfl
theorem range_all (bs:List Bool):(List.range bs.length).all (fun i=>bs.getD i false)=bs.all id:=by
 rw [OQ,HC,HC]
 constructor
 ·intro h x hx
  obtain ⟨i,hi,rfl⟩:=List.mem_iff_getElem.mp hx
  have:=h i (List.mem_range.mpr hi)
  rw [Rk,B1 hi] at this
  exact this
 ·intro h i hi
  rw [Rk,B1 (List.mem_range.mp hi)]
  exact h _ (OT _)
theorem WG (hc:X.calm=true):Ci X (.builtin "all") (fun xs H Q=>∃ (p:Addr) (bs:List Bool),xs=[.ref p]/\AE X.K H p (bs.map V.bl)/\Q (.bl (bs.all id)) H):=by
 intro pins s σ H xs us Q I r h
 obtain ⟨p,bs,rfl,hq,q⟩:=h
 obtain ⟨u,rfl,rx⟩:=vals1 r
 cases rx
 obtain ⟨A6,rv,pl,hz⟩:=I.list hq
 have hl:=rv.length
 rw [AV] at hl
 refine call_all_walk (wpAny_pyIter_list pl.isList ?_)
 obtain ⟨o,n,ho,_⟩:=id pl
 have As:p≠s.heap.objs.size:=Bx (BA ho)
 refine ⟨s.heap.objs.size,_,_,_,_,_,fun i=>bs.getD i false,rfl,Walks.list (by rw [Around.in1_handled];exact I.ok.hd hc) _ p As A6.toArray,⟨⟨_,CI _ rfl,rfl,rfl⟩,pl.isList.push _⟩,fun i v s' Q' E' hv DK=>?_,fun h' tk kp=>?_⟩
 ·have ev:v=.bool (bs.getD i false):=ZA8 rv (by simpa using hv)
  rw [ev]
  exact wpAny_truthy_bool DK
 ·refine ⟨.bl _,H,I.kept (t':=tk) fun b ob e=>kp b ob (by simpa using Bx (BA e)) (Bl _ e),rfl,?_⟩
  rw [Br,<- hl,range_all]
  exact q
def Xx:V->List V->Hp->VK->Prop:=fun x vs H Q=>∃ (l:Addr) (xs:List V) (j:Int) (y:V),x=.ref l/\vs=[.int j,y]/\H l=some (.lst xs)/\0<=j/\j<=xs.length/\xs.length < sizeLine/\Q .AF (upd H l (.lst (xs.take j.toNat++y :: xs.drop j.toNat)))
theorem jE:aC X "list.insert" Xx:=by
 intro pins s σ H x vs v us Q I rx rv h
 obtain ⟨l,xs,j,y,rfl,rfl,hH,hj0,hj1,hz,q⟩:=h
 cases rx
 obtain ⟨ui,uy,rfl,ri,ry⟩:=rv.two
 obtain ⟨t,rfl⟩:=ri
 obtain ⟨z,A6,n,r,hl,e⟩:=I.RW hH
 have h2:j < 2 ^ 63:=by
  have h4:(xs.length:Int)<=(sizeLine:Int):=Int.ofNat_le.mpr z
  have h3:((sizeLine:Nat):Int) < 2 ^ 63:=by exact_mod_cast JA
  omega
 have sS:(!Builtin.List.listFitsIndex j)=true->False:=by
  have h1:Builtin.List.listFitsIndex j=true:=by
   unfold Builtin.List.listFitsIndex
   rw [El]
   exact ⟨decide_eq_true (by omega),decide_eq_true h2⟩
  rw [h1];exact fun h=>nomatch h
 have xD:A6.toArray.size<=sizeLine:=Cs (ib (List.size_toArray.trans hl.symm)) z
 refine call_meets ZCH ⟨_,e,rfl⟩ PySem.F.entry_list_insert (PySem.F.args_list_insert_3 _ _ _) (PySem.AutoSeq1.list_insert_list_int_val_1 l A6.toArray n j t uy sS xD) ⟨e,?_⟩
 refine ⟨.AF,_,I.cK (its':=A6.take j.toNat++uy :: A6.drop j.toNat) hH e ?_ ((r.take _).append (.cons ry (r.drop _))) ?_,rfl,q⟩
 ·have h0:¬ (j < 0):=by omega
  have hm:min j.toNat A6.toArray.size=j.toNat:=by simp;omega
  simp only [h0,if_false,hm]
  apply Array.toList_inj.mp
  simp
  exact Rw (by simp)
 ·rw [Bm,Bc,CF,E8]
  omega
def jH:V->Option Int->Option Int->Hp->VK->Prop:=fun x lo hi H Q=>∃ z,x=.str z/\z.length<=sizeLine/\Q (.str (Txt.slice z lo hi)) H
theorem part_of {v:Value}{o:Option Int}(p:IsPart v o):∃ l:Option (Int×Tok),v=partValue l/\l.map (·.1)=o:=by
 cases p with
 | none=>exact ⟨none,rfl,rfl⟩
 | int i t=>exact ⟨some (i,t),rfl,rfl⟩
theorem eY:GA X jH:=by
 intro pins s σ H x v vl vu lo hi sl Q I rx hs pl pu h
 obtain ⟨z,rfl,hz,q⟩:=h
 obtain ⟨t,rfl⟩:=rx
 obtain ⟨l,rfl,hl⟩:=part_of pl
 obtain ⟨u,rfl,hu⟩:=part_of pu
 subst hl;subst hu
 refine ⟨"str", _,F.slot_str_getitem.lookup,typeIs_str _ _ _,wpAny_getItem_str_slice (l:=l) (u:=u) (st:=none) hs rfl (post_val_or_str ⟨Cs (Txt.slice_le z _ _) hz,fun t' k=>?_⟩)⟩
 exact ⟨.str _,H,I.tok k,⟨t',rfl⟩,q⟩
end
end L2
set_option exponentiation.threshold 5000
namespace L2
def AA (P:Program) (w:World) (K:ZCy) (mg:ZD0) (base:Heap) (x:Str) (k:Nat) (ps:List Str) (sp:Sp):Prop:=
 ∃ f fd,DD P w K mg base Ft k f fd ps sp/\Binds K fd ps []/\PySem.W.keepIn K (.ref f)=true/\mg x=some (.ref f)
section
variable {P:Program}{w:World}{K:ZCy}{mg:ZD0}{base:Heap}{x qual:Str}{k:Nat}{ps:List Str}{sp:Sp}{st:Stmt}{f:Addr}{fd:FuncData}
theorem AA.mk (F:AK K x qual st f fd) (b:Binds K fd ps []) (m:mg x=some (.ref f)) (h:DD P w K mg base Ft k f fd ps sp):AA P w K mg base x k ps sp:=⟨f,fd,h,b,F.kp,m⟩
end
section
variable {X:Cx}{x:Str}{j k:Nat}{ps:List Str}{sp:Sp}{p pos:Pos}{e:Expr}{es:List Expr}{t:TA}
theorem ky (h:AA X.prog X.w X.K X.mg X.base x k ps sp) (hr:Bn j X.A) (hk:k<=j) (ha:PA X (e :: es) t) (hg:Gl X x:=by rfl) (CC:(x == ("__debug__" : Str))=false:=by decide)
  (he:starEach (e :: es) X.env=(false,eval e X.env) :: starEach es X.env:=by rfl) (Bh:(backTo pos (starEach es X.env)).any (·.1)=false:=by rfl) :
  PE X (.Call (.Name x p) (e :: es) [] pos) (CP sp [] E0 t):=by
 obtain ⟨f,fd,F,b,kp,m⟩:=h
 exact xB (F.mono hk) hr hg m kp b .nil Y8 ha CC he Bh
def QF (K:ZCy):List V->Hp->VK->Prop:=fun xs H Q=>∃ (p:Addr) (ys:List V),xs=[.ref p]/\(AE K H p ys∨A9 K H p ys)/\Q (.int ys.length) H
theorem Cu:Ci X (.builtin "len") (QF X.K):=EM
def XH (K:ZCy):List V->Hp->VK->Prop:=fun xs H Q=>∃ (x:V) (n:String) (t:Value) (b:Bool),xs=[x,.ty n]/\EY K H x t/\PySem.W.kitOne K t (.type n)=some b/\Q (.bl b) H
theorem UY:Ci X (.builtin "isinstance") (XH X.K):=ni
theorem gm:Hc X "list.append" Xd:=aU
theorem ye:Hc X "list.insert" Xx:=jE
theorem vV (T:String){x:Str}{pos:Pos}(hm:X.mg x=none) (hg:Gl X x:=by rfl) (hv:bootBuiltins x=some (.type T):=by decide +kernel) (hn:x ≠ "__name__" := by decide) (hd:(x == ("__debug__" : Str))=false:=by decide) :
  PE X (.Name x pos) (tC (.ty T)):=wF hg hm hv rfl hn hd
def vR (i j:Int):Prop:=i.natAbs < 2 ^ 1000/\j.natAbs < 2 ^ 1000
theorem aI {n:Nat}(h:n < 2 ^ 1000):n.log2 < 1000:=by
 rcases Nat.eq_zero_or_pos n with e | e
 ·subst e;exact (show (0:Nat).log2 < 1000 by decide)
 ·exact (Nat.log2_lt (L6 e)).mpr h
theorem bits_le {i:Int}(h:i.natAbs < 2 ^ 1000):Builtin.Int.intBits i<=2 ^ 20:=by
 unfold Builtin.Int.intBits
 split
 ·exact Cc _
 ·have:=aI h
  have e:(2:Nat) ^ 20=1048576:=by decide
  omega
theorem Kv:BB X (binaryOp .Mult) (rI vR fun i j=>.int (i * j)):=Qw fun _ _ _ _ _ _ _ hc q=>mul_int q (.of_bits (bits_le hc.1) (bits_le hc.2))
theorem Vp:BB X (binaryOp .FloorDiv) (rI (fun _ j=>0 < j/\j.natAbs < 2 ^ 1000) fun i j=>.int (i / j)):=Qw fun i j _ _ _ _ _ hc q=>by
 have h1:(0:Int) < j:=hc.1
 have h2:=aI hc.2
 exact floordiv_int (by omega) (by rw [Int.fdiv_eq_ediv_of_nonneg i (by omega)];exact q) (.inl (PyProof.noPylong_of_log2 (by omega)))
theorem ZAx {body rest:List Stmt}{st:Stmt}{t u:TS}(e:body=st :: rest) (h:PS X st t) (h2:DX X rest u):DX X body (OK t u):=by rw [e];exact zP h h2
theorem ZBT {body:List Stmt}{st:Stmt}{t:TS}(e:body=[st]) (h:PS X st t):DX X body t:=by rw [e];exact tT h
def UB (t:TS):TS:=fun D σ H=>∃ J:St->Hp->Prop,t { D with nx:=J } σ H/\∀ σ' H',J σ' H'->D.nx σ' H'
theorem tG {st:Stmt}{t:TS}(h:PS X st t):PS X st (UB t):=by
 intro pins s σ H D I hw
 obtain ⟨J,h1,h2⟩:=hw
 refine AR (h pins s σ H _ I h1) fun f s' q=>?_
 cases f with
 | next=>obtain ⟨σ',H',I',q⟩:=q;exact ⟨σ',H',I',h2 σ' H' q⟩
 | ret v=>exact q
 | brk=>exact q
 | cont=>exact q
end
def Er (p:Addr) (H H':Hp):Prop:=∀ b o,b≠p->H b=some o->H' b=some o
theorem Er.trans {p:Addr}{H H1 H2:Hp}(a:Er p H H1) (b:Er p H1 H2):Er p H H2:=fun c o hc e=>b c o hc (a c o hc e)
theorem Er.of {p:Addr}{H H':Hp}(a:A8 H H'):Er p H H':=fun c o _ e=>a c o e
theorem Er.upd {p:Addr}{H:Hp}{o:HO}:Er p H (upd H p o):=fun c u hc e=>by rw [Aj hc];exact e
theorem Er.Ln {K:ZCy}{p:Addr}{H H':Hp}{a:Addr}{xs:List V}(e:Er p H H') (As:a≠p) (h:A9 K H a xs):A9 K H' a xs:=by
 rcases h with (h | ⟨o,h⟩) | h
 ·exact .inl (.inl (e _ _ As h))
 ·exact .inl (.inr ⟨o,e _ _ As h⟩)
 ·exact .inr h
end L2
set_option maxHeartbeats 8000000
namespace L2
noncomputable def O8 (acc:List Str) (x:Str):List Str:=if acc.any (· == x) then acc else acc++[x]
noncomputable def dd (ss:List Str):List Str:=ss.foldl O8 []
theorem ZBM (acc:List Str) (x:Str):(O8 acc x).length=if acc.any (· == x) then acc.length else acc.length+1:=by
 unfold O8;split <;> simp
theorem rX (ss:List Str):(dd ss).length<=ss.length:=by
 have:∀ (l acc:List Str),(l.foldl O8 acc).length<=acc.length+l.length:=by
  intro l
  induction l with
  | nil=>intro acc;simp
  | cons x r ih=>
   intro acc
   rw [iR]
   have h1:=ih (O8 acc x)
   rw [ZBM] at h1
   simp only [Bc]
   split at h1 <;> omega
 have q:=this ss []
 simp only [Rp,Nat.zero_add] at q
 exact q
section
variable {prog:Program}{w:World}{A:Around}{R:Result->Shared->Prop}{I:Addr}{fp wr:List Addr}{G:Array GenState->Array GenState->Prop}{n:Nat}{P:Nat->Value->Prop}{St:Nat->Shared->Prop}{ss:List Str}
end
section
variable {prog:Program}{w:World}{A:Around}{E:Value->Shared->Prop}{s:Shared}{ss:List Str}
end
noncomputable def PH (P:Program) (w:World) (a:Addr) (f:Str->Bool) (n:Nat):HO:=.ext fun h=>h.SetOf (strKind P w) a f n
section
variable {X:Cx}
theorem fZ {ss:List Str}{A6:List Value}(r:Vals (ss.map V.str) A6){i:Nat}{v:Value}(e:A6[i]?=some v):∃ (h:i < ss.length) (t:Tok),v=.str ss[i] t:=by
 have hl:=r.length
 rw [AV] at hl
 have hi:i < A6.length:=(List.getElem?_eq_some_iff.mp e).1
 have DM:i < ss.length:=by omega
 have e1:(ss.map V.str)[i]?=some (.str ss[i]):=by rw [BF,B1 DM];rfl
 obtain ⟨u,hu,ru⟩:=r.get e1
 rw [e] at hu;cases hu
 obtain ⟨t,q⟩:=ru
 exact ⟨DM,t,q⟩
end
end L2
set_option maxHeartbeats 4000000
namespace L2
structure QE (X:Cx) (e:Expr) (t:TE):Prop where h:PE X e t
structure QT (X:Cx) (e:Expr) (t:TT):Prop where h:PT X e t
structure QW (X:Cx) (e:Expr) (t:TT):Prop where h:PW X e t
structure QA (X:Cx) (es:List Expr) (t:TA):Prop where h:PA X es t
structure QS (X:Cx) (st:Stmt) (t:TS):Prop where h:PS X st t
structure Gz (X:Cx) (st:List Stmt) (t:TS):Prop where h:DX X st t
structure QG (X:Cx) (tg:Expr) (t:TG):Prop where h:PG X tg t
structure Rb (X:Cx) (ts:List Expr) (t:HI):Prop where h:NY X ts t
structure QI (X:Cx) (tg iter:Expr) (wi:TI):Prop where h:PI X tg iter wi
structure RJ (X:Cx) (ifs:List Expr) (t:TT):Prop where h:Kk X ifs t
structure QO (X:Cx) (e:Option Expr) (t:TO):Prop where h:PO X e t
section
variable {X:Cx}{a b c e o:Expr}{es rest:List Expr}{ta tb tc te to:TE}{tA IK:TT}{t:TA}{pos p p2 apos Bk:Pos}{x:Str}
theorem qv (i:Nat){x:Str}{pos:Pos}(hN:X.N[i]?=some x:=by rfl) (hv:Qk X.env.scope x:=by first | exact Or.inl rfl | exact Or.inr (Or.inl rfl) | exact Or.inr (Or.inr rfl)) (hd:(x == ("__debug__" : Str))=false:=by decide)
  (FX:(x == ("__classdict__" : Str))=false:=by decide):QE X (.Name x pos) (BG i):=⟨iH hN hv hd FX⟩
theorem A4 {i j pos}:QE X (.Constant (.int i) j pos) (tC (.int i)):=⟨zD⟩
theorem D9 {b j pos}:QE X (.Constant (.bool b) j pos) (tC (.bl b)):=⟨r6⟩
theorem VB {j pos}:QE X (.Constant .none j pos) (tC .AF):=⟨ke⟩
theorem AW {x j pos}:QE X (.Constant (.str x) j pos) (tC (.str x)):=⟨uV⟩
theorem N0 {v:V}{u:Value}(hg:Gl X x) (hm:X.mg x=some u) (r:RelV v u) (hd:(x == ("__debug__" : Str))=false:=by decide):QE X (.Name x pos) (tC v):=⟨v7 hg hm r hd⟩
theorem TQ (T:String){x:Str}{pos:Pos}(hm:X.mg x=none) (hg:Gl X x:=by rfl) (hv:bootBuiltins x=some (.type T):=by decide +kernel) (hn:x ≠ "__name__" := by decide) (hd:(x == ("__debug__" : Str))=false:=by decide) :
  QE X (.Name x pos) (tC (.ty T)):=⟨vV T hm hg hv hn hd⟩
theorem Ap {op:Operator}{r:R2}(ho:BB X (binaryOp op) r) (ha:QE X a ta) (hb:QE X b tb):QE X (.BinOp a op b pos) (BQ r ta tb):=⟨qE ho ha.h hb.h⟩
theorem jB {op:CmpOp}{r:R2}(ho:BB X (compareOp op) r) (ha:QE X a ta) (hb:QE X b tb) (hm:behindInMarks op b=false):QE X (.Compare a [op] [b] pos) (BQ r ta tb):=⟨vW ho ha.h hb.h hm⟩
theorem yK {op:CmpOp}{r:R2}(ho:BB X (compareOp op) r) (ha:QE X a ta) (hb:QE X b tb) (hm:behindInMarks op b=false):QT X (.Compare a [op] [b] pos) (LB (BQ r ta tb)):=⟨rG ho ha.h hb.h hm⟩
theorem LW {op EU:CmpOp}{r r':R2}(ho:BB X (compareOp op) r) (De:BB X (compareOp EU) r') (ha:QE X a ta) (hb:QE X b tb) (hc:QE X c tc)
  (hm:lastMarks [op,EU] [b,c]=false:=by with_unfolding_all rfl):QE X (.Compare a [op,EU] [b,c] pos) (O4 r r' ta tb tc):=⟨qB ho De ha.h hb.h hc.h hm⟩
theorem Oo {op EU:CmpOp}{r r':R2}(ho:BB X (compareOp op) r) (De:BB X (compareOp EU) r') (ha:QE X a ta) (hb:QE X b tb) (hc:QE X c tc)
  (hm:lastMarks [op,EU] [b,c]=false:=by with_unfolding_all rfl):QT X (.Compare a [op,EU] [b,c] pos) (LB (O4 r r' ta tb tc)):=⟨qH ho De ha.h hb.h hc.h hm⟩
theorem Ko {op} (h:QE X a ta):QE X (.BoolOp op [a] pos) ta:=⟨zY h.h⟩
theorem Nc (ha:QE X a ta) (hb:QE X (.BoolOp .And (b :: rest) pos) tb):QE X (.BoolOp .And (a :: b :: rest) pos) (Sy ta tb):=⟨vf ha.h hb.h⟩
theorem dg (ha:QE X a ta) (hb:QE X (.BoolOp .Or (b :: rest) pos) tb):QE X (.BoolOp .Or (a :: b :: rest) pos) (Tj ta tb):=⟨rf ha.h hb.h⟩
theorem vF (ha:QE X a ta):QE X (.UnaryOp .Not a pos) (YD ta):=⟨v8 ha.h⟩
theorem GP (ha:QT X a tA):QW X (.BoolOp .And [a] pos) tA:=⟨pw_and1 ha.h⟩
theorem Gu (ha:QT X a tA):QW X (.BoolOp .Or [a] pos) tA:=⟨pw_or1 ha.h⟩
theorem GO (ha:QT X a tA) (hb:QW X (.BoolOp .And (b :: rest) pos) IK):QW X (.BoolOp .And (a :: b :: rest) pos) (Oy tA IK):=⟨pw_and ha.h hb.h⟩
theorem Ee (ha:QT X a tA) (hb:QW X (.BoolOp .Or (b :: rest) pos) IK):QW X (.BoolOp .Or (a :: b :: rest) pos) (SO tA IK):=⟨pw_or ha.h hb.h⟩
theorem QW.pt {e:Expr}{t:TT}(h:QW X e t):QT X e t:=⟨h.h.pt⟩
theorem FP (ha:QT X a tA):QT X (.UnaryOp .Not a pos) (RG tA):=⟨qd ha.h⟩
theorem HQ (h:QE X e te) (he:∀ whole,isTrue e X.env whole=(do let v <- whole;standAt e.pos;holding [v] (truthy v)):=by intro _;rfl):QT X e (tB te):=⟨qc h.h he⟩
theorem A3:QA X [] Aw:=⟨rl⟩
theorem A0 (ha:QE X e te) (hr:QA X es t) (hs:starEach (e :: es) X.env=(false,eval e X.env) :: starEach es X.env:=by rfl):QA X (e :: es) (AS te t):=⟨ZAz ha.h hr.h hs⟩
theorem BZ {x1} (h:QA X es t):QE X (.Tuple es x1 pos) (X7 t):=⟨sJ h.h⟩
theorem Gd (h:QA X es t):QE X (.List es pos) (RP t):=⟨uv h.h⟩
theorem GQ:QO X none YA:=⟨qh⟩
theorem Dj (h:QE X e te):QO X (some e) (Sh te):=⟨ZAt h.h⟩
theorem Ea {r:V->Option Int->Option Int->Hp->VK->Prop}{lo hi:Option Expr}{tl th:TO}(hr:GA X r) (he:QE X e te) (hl:QO X lo tl) (hu:QO X hi th):QE X (.Subscript e (.Slice lo hi none p2) pos) (LC r te tl th):=⟨ZBL hr he.h hl.h hu.h⟩
theorem xq {r:R2}(hr:FN X r) (ha:QE X a ta) (hb:QE X b tb) (hs:XC b):QE X (.Subscript a b pos) (BQ r ta tb):=⟨xP hr ha.h hb.h hs⟩
theorem pP {j k:Nat}{ps:List Str}{sp:Sp}(h:AA X.prog X.w X.K X.mg X.base x k ps sp) (hr:Bn j X.A) (hk:k<=j) (ha:QA X (e :: es) t) (hg:Gl X x:=by rfl) (CC:(x == ("__debug__" : Str))=false:=by decide)
  (he:starEach (e :: es) X.env=(false,eval e X.env) :: starEach es X.env:=by rfl) (Bh:(backTo pos (starEach es X.env)).any (·.1)=false:=by rfl):QE X (.Call (.Name x p) (e :: es) [] pos) (CP sp [] E0 t):=⟨ky h hr hk ha.h hg CC he Bh⟩
theorem ug {id:String}{r:List V->Hp->VK->Prop}(hc:Ci X (.builtin id) r) (hg:Gl X x) (hm:X.mg x=none) (hv:bootBuiltins x=some (.builtin id)) (ha:QA X (e :: es) t) (hn:x ≠ "__name__" := by decide) (CC:(x == ("__debug__" : Str))=false:=by decide)
  (he:starEach (e :: es) X.env=(false,eval e X.env) :: starEach es X.env:=by rfl) (Bh:(backTo pos (starEach es X.env)).any (·.1)=false:=by rfl):QE X (.Call (.Name x p) (e :: es) [] pos) (CB r t):=⟨qy hc hg hm hv ha.h hn CC he Bh⟩
theorem ZAB {T:String}{r:List V->Hp->VK->Prop}(hc:Ci X (.type T) r) (hg:Gl X x) (hm:X.mg x=none) (hv:bootBuiltins x=some (.type T)) (ha:QA X (e :: es) t) (hn:x ≠ "__name__" := by decide) (CC:(x == ("__debug__" : Str))=false:=by decide)
  (he:starEach (e :: es) X.env=(false,eval e X.env) :: starEach es X.env:=by rfl) (Bh:(backTo pos (starEach es X.env)).any (·.1)=false:=by rfl):QE X (.Call (.Name x p) (e :: es) [] pos) (CB r t):=⟨ZB3 hc hg hm hv ha.h hn CC he Bh⟩
theorem JK {name:Str}{T id:String}{r:V->List V->Hp->VK->Prop}(pa:PlainAttrs T) (slot:Slot T name id) (Wj:typeOf (.builtin id)=pure (.type "method_descriptor")) (hm:Hc X id r) (ho:QE X o to) (ha:QA X (e :: es) t)
  (VC:attributeBase o name X.env (eval o X.env)=eval o X.env:=by rfl)
  (Vq:((backTo Bk (starEach (e :: es) X.env)).all (fun x=>!x.1) && (backToKw Bk (keywordEach [] X.env)).all (fun x=>x.1.isSome)
   && decide ((e :: es).length+([]:List Keyword).length+(if ([]:List Keyword).isEmpty then 0 else 1) < 30))=true:=by rfl)
  (Ud:(apos.endLine == Bk.line)=true:=by rfl) (hs:starEach (e :: es) X.env=(false,eval e X.env) :: starEach es X.env:=by rfl) (V9:(backTo Bk (starEach es X.env)).any (·.1)=false:=by rfl) :
  QE X (.Call (.Attribute o name apos) (e :: es) [] Bk) (Nv X.K T r to t):=⟨zl pa slot Wj hm ho.h ha.h VC Vq Ud hs V9⟩
end
section
variable {X:Cx}{elt iter:Expr}{x:Str}{px pos:Pos}{ifs:List Expr}{scope:Scope}{B4:List Str}{js:List Nat}{tt:TT}{te:TE}{wi:TI}{tg:Expr}
theorem Gi {l:Expr}{tl:TE}(hl:QE X l tl):QI X tg l (XJ X.K tl):=⟨ZAH hl.h⟩
theorem fg {l:Expr}{tl:TE}(hl:QE X l tl):QI X tg l (b6 tl):=⟨zq hl.h⟩
theorem fM {a:Expr}{ta:TA}{p pos:Pos}(hg:Gl X "range") (hm:X.mg "range" = none) (ha:QA X [a] ta) (hs:starEach [a] X.env=[(false,eval a X.env)]:=by rfl):QI X tg (.Call (.Name "range" p) [a] [] pos) (VD ta):=⟨oJ hg hm ha.h hs⟩
theorem Wv:RJ X [] WV:=⟨ZB9⟩
theorem KW {c:Expr}{t:TT}(hc:QT X c t):RJ X [c] t:=⟨sf hc.h⟩
theorem IV (hc:X.calm=true) (S:Dd X.N X.env.scope scope x B4 js) (hi:QI X (.Name x px) iter wi)
  (Gj:∀ fp C s H,RJ (Ce X (B4++[x]) scope (EG X.env.cells scope.names) C s H fp) ifs tt) (Gq:∀ fp C s H,QE (Ce X (B4++[x]) scope (EG X.env.cells scope.names) C s H fp) elt te)
  (hs:∀ v,foldedSetIterable iter X.env v=pure v:=by intro _;rfl):QE X (.ListComp elt [⟨.Name x px,iter,ifs,0⟩] scope pos) (LS wi js tt te):=⟨ZBZ hc S hi.h (fun fp C s H=>(Gj fp C s H).h) (fun fp C s H=>(Gq fp C s H).h) hs⟩
theorem sG {i:Nat}{y:Str}{py Ng:Pos}(hN:X.N.Nodup) (DM:X.N[i]?=some y) (hy:Loc X.env.scope y) (hc:X.calm=true) (S:Dd X.N X.env.scope scope x B4 js) (hi:QI X (.Name x px) iter wi)
  (Gj:∀ fp C s H,RJ (Ce X (B4++[x]) scope (EG X.env.cells scope.names) C s H fp) ifs tt) (Gq:∀ fp C s H,QE (Ce X (B4++[x]) scope (EG X.env.cells scope.names) C s H fp) elt te)
  (Xp:swapsWith (.ListComp elt [⟨.Name x px,iter,ifs,0⟩] scope pos) (some (.Name y py)) Ng.line X.env=pure true:=by rfl)
  (hf:X.fn y=true∨X.env.scope.names.lookup y=some .local:=by first | exact .inl rfl | exact .inr rfl | assumption)
  (hs:∀ v,foldedSetIterable iter X.env v=pure v:=by intro _;rfl):QS X (.Assign [.Name y py] (.ListComp elt [⟨.Name x px,iter,ifs,0⟩] scope pos) Ng) (FF (LS wi js tt te) (Cn i)):=
 ⟨rN hN DM hy hc S hi.h (fun fp C s H=>(Gj fp C s H).h) (fun fp C s H=>(Gq fp C s H).h) Xp hf hs⟩
theorem sX {i:Nat}{x:Str}(hN:X.N.Nodup) (hi:X.N[i]?=some x) (hx:Loc X.env.scope x) (hf:X.fn x=true∨X.env.scope.names.lookup x=some .local:=by first | exact .inl rfl | exact .inr rfl | assumption):QG X (.Name x pos) (Cn i):=⟨dh hN hi hx hf⟩
theorem Jd:Rb X [] Mh:=⟨nC⟩
theorem DP {e:Expr}{es:List Expr}{t:TG}{u:HI}(h1:QG X e t) (h2:Rb X es u)
  (hs:(assignEach (e :: es) X.env).map (·.2)=assign e X.env :: (assignEach es X.env).map (·.2):=by rfl):Rb X (e :: es) (Gb t u):=⟨ze h1.h h2.h hs⟩
theorem Jk {es:List Expr}{k:Nat}{t:HI}{n:Nat}(hc:X.calm=true) (h:Rb X es t) (hn:(assignEach es X.env).length=n:=by rfl) (BY:(assignEach es X.env).findIdx? (·.1)=none:=by rfl):QG X (.Tuple es k pos) (OD X.K n t):=⟨md hc h.h hn BY⟩
theorem XA {o i:Expr}{to ti:TE}{t:RC}(ho:QE X o to) (hi:QE X i ti) (hs:Xl X t)
  (ha:∀ v,assign (.Subscript o i pos) X.env v=(do
   let ov <- holding [v] (eval o X.env)
   let iv <- holding [v,ov] (eval i X.env)
   standAt pos
   holding [v,ov,iv] (setItem ov iv v)
   release [v,ov,iv] []):=by intro _;rfl):QG X (.Subscript o i pos) (U3 to ti t):=⟨u5 ho.h hi.h hs ha⟩
end
section
variable {X:Cx}{st:Stmt}{rest:List Stmt}{t u:TS}{e:Expr}{te:TE}{pos:Pos}
theorem Ah:Gz X [] UK:=⟨uL⟩
theorem AB {body rest:List Stmt}{st:Stmt}{t u:TS}(e:body=st :: rest) (h:QS X st t) (h2:Gz X rest u):Gz X body (OK t u):=⟨ZAx e h.h h2.h⟩
theorem AD {body:List Stmt}{st:Stmt}{t:TS}(e:body=[st]) (h:QS X st t):Gz X body t:=⟨ZBT e h.h⟩
theorem GJ:QS X st cW:=⟨zo⟩
theorem EL (he:QE X e te) (hs:swapsWith e none pos.line X.env=pure false:=by rfl):QS X (.Expr e pos) (J1 te):=⟨jh he.h hs⟩
theorem AY (he:QE X e te):QS X (.Return (some e) pos) (Fn te):=⟨z6 he.h⟩
theorem Ag {c:Expr}{a b:List Stmt}{tc:TT}(hc:QT X c tc) (ha:Gz X a t) (hb:Gz X b u):QS X (.If c a b pos) (Pk tc t u):=⟨zO hc.h ha.h hb.h⟩
theorem Iq {tg e:Expr}{te:TE}{g:TG}(he:QE X e te) (hg:QG X tg g) (hs:swapsWithSole [tg] e pos.line X.env=pure false:=by rfl) (hw:swappedStores [tg] e X.env=pure none:=by rfl)
  (h1:(assignEach [tg] X.env).map (·.2)=[assign tg X.env]:=by rfl):QS X (.Assign [tg] e pos) (FF te g):=⟨ZAj he.h hg.h hs hw h1⟩
theorem nU {i:Nat}{x:Str}{pos':Pos}(hN:X.N.Nodup) (hi:X.N[i]?=some x) (hx:Loc X.env.scope x) (he:QE X e te) (hs:swapsWith e (some (.Name x pos')) pos.line X.env=pure false:=by rfl) (hf:X.fn x=true∨X.env.scope.names.lookup x=some .local:=by first | exact .inl rfl | exact .inr rfl | assumption) :
  QS X (.Assign [.Name x pos'] e pos) (FF te (Cn i)):=⟨pS hN hi hx he.h hs hf⟩
theorem b5 {c:Expr}{body:List Stmt}{tc:TT}{tb:TS}(hp:PassesOwn (model X.prog X.w) X.A X.env X.xe) (hc:QT X c tc) (hb:Gz X body tb):QS X (.While c body [] pos) (cO tc tb):=⟨jc hp hc.h hb.h⟩
theorem JW {tg iter:Expr}{body:List Stmt}{wi:TI}{g:TG}{tb:TS}(hp:PassesOwn (model X.prog X.w) X.A X.env X.xe) (hc:X.calm=true) (hi:QI X tg iter wi) (hg:QG X tg g) (hb:Gz X body tb)
  (hs:∀ x,foldedSetIterable iter X.env x=pure x:=by intro _;rfl):QS X (.For tg iter body [] pos) (VT wi g tb):=⟨mF hp hc hi.h hg.h hb.h hs⟩
theorem CO (h:QS X st t):QS X st (UB t):=⟨tG h.h⟩
end
theorem AK.Az {P:Program}{w:World}{K:ZCy}{mg:ZD0}{base:Heap}{x qual:Str}{st:Stmt}{f:Addr}{fd:FuncData}{N ps:List Str}{k:Nat}{sp:Sp}(F:AK K x qual st f fd) (S:Au N ps (Ae st)) (len:∀ vs H Q E,sp vs H Q E->vs.length=ps.length)
  (NZ:∀ (Aa:Value) (A:Around) (outer:List Env) (s:Shared) (H:Hp) (vs:List V) (Q:VK) (E:XK),Bn k (A.deeper (envOfC qual (Ae st) s.heap.objs.size f Aa))->sp vs H Q E->
   ∃ t,Gz (KY Ft P w K mg base N qual (Ae st) f Aa A outer s H E).O1 (Jy st) t/\t { nx:=fun _ H'=>Q .AF H',rt:=Q } (start N vs) H):DD P w K mg base Ft (k+1) f fd ps sp:=
 F.ok S len fun Aa A outer s H vs Q E hr h=>let ⟨t,q,r⟩:=NZ Aa A outer s H vs Q E hr h;⟨t,q.h,r⟩
section
variable {X:Cx}{a b e o:Expr}{es:List Expr}{ta tb te:TE}{t:TA}{pos p:Pos}{x:Str}
theorem B2 {id:String}{r:List V->Hp->VK->Prop}(hc:Ci X (.builtin id) r) (hm:X.mg x=none) (ha:QA X (e :: es) t) (hg:Gl X x:=by rfl) (hv:bootBuiltins x=some (.builtin id):=by decide +kernel) (hn:x ≠ "__name__" := by decide) (CC:(x == ("__debug__" : Str))=false:=by decide)
  (he:starEach (e :: es) X.env=(false,eval e X.env) :: starEach es X.env:=by rfl) (Bh:(backTo pos (starEach es X.env)).any (·.1)=false:=by rfl):QE X (.Call (.Name x p) (e :: es) [] pos) (CB r t):=ug hc hg hm hv ha hn CC he Bh
theorem CY {T:String}{r:List V->Hp->VK->Prop}(hc:Ci X (.type T) r) (hm:X.mg x=none) (ha:QA X (e :: es) t) (hg:Gl X x:=by rfl) (hv:bootBuiltins x=some (.type T):=by decide +kernel) (hn:x ≠ "__name__" := by decide) (CC:(x == ("__debug__" : Str))=false:=by decide)
  (he:starEach (e :: es) X.env=(false,eval e X.env) :: starEach es X.env:=by rfl) (Bh:(backTo pos (starEach es X.env)).any (·.1)=false:=by rfl):QE X (.Call (.Name x p) (e :: es) [] pos) (CB r t):=ZAB hc hg hm hv ha hn CC he Bh
theorem AH {r:R2}(hr:FN X r) (ha:QE X a ta) (hb:QE X b tb) (hs:XC b:=by exact fun _ _=>rfl):QE X (.Subscript a b pos) (BQ r ta tb):=xq hr ha hb hs
theorem AZ {j k:Nat}{ps:List Str}{sp:Sp}(h:AA X.prog X.w X.K X.mg X.base x k ps sp) (hr:Bn j X.A) (ha:QA X (e :: es) t) (hk:k<=j:=by decide) (hg:Gl X x:=by rfl) (CC:(x == ("__debug__" : Str))=false:=by decide)
  (he:starEach (e :: es) X.env=(false,eval e X.env) :: starEach es X.env:=by rfl) (Bh:(backTo pos (starEach es X.env)).any (·.1)=false:=by rfl):QE X (.Call (.Name x p) (e :: es) [] pos) (CP sp [] E0 t):=pP h hr hk ha hg CC he Bh
theorem Gh {op:CmpOp}{r:R2}(ho:BB X (compareOp op) r) (ha:QE X a ta) (hb:QE X b tb) (hm:behindInMarks op b=false:=by first | exact h9 _ | with_unfolding_all rfl):QE X (.Compare a [op] [b] pos) (BQ r ta tb):=jB ho ha hb hm
theorem AX {op:CmpOp}{r:R2}(ho:BB X (compareOp op) r) (ha:QE X a ta) (hb:QE X b tb) (hm:behindInMarks op b=false:=by first | exact h9 _ | with_unfolding_all rfl):QT X (.Compare a [op] [b] pos) (LB (BQ r ta tb)):=yK ho ha hb hm
theorem Ar (i:Nat){x:Str}{pos':Pos}(hN:X.N.Nodup) (he:QE X e te) (hi:X.N[i]?=some x:=by rfl) (hx:Loc X.env.scope x:=by first | exact Or.inl rfl | exact Or.inr rfl) (hs:swapsWith e (some (.Name x pos')) pos.line X.env=pure false:=by rfl) (hf:X.fn x=true∨X.env.scope.names.lookup x=some .local:=by first | exact .inl rfl | exact .inr rfl | assumption) :
  QS X (.Assign [.Name x pos'] e pos) (FF te (Cn i)):=nU hN hi hx he hs hf
theorem CL (i:Nat){x:Str}(hN:X.N.Nodup) (hi:X.N[i]?=some x:=by rfl) (hx:Loc X.env.scope x:=by first | exact Or.inl rfl | exact Or.inr rfl) (hf:X.fn x=true∨X.env.scope.names.lookup x=some .local:=by first | exact .inl rfl | exact .inr rfl | assumption):QG X (.Name x pos) (Cn i):=sX hN hi hx hf
end
section
variable {X:Cx}
theorem PL {x y:Str}{t:Tok}:Dg (.str x) (.str y t)=(y == x):=rfl
theorem TK (x:Str):∀ (ss:List Str) (m:Nat) (hm:m < ss.length),m < ss.idxOf x->ss[m]≠x
 | [],_,hm,_=>absurd hm (Nat.not_lt_zero _)
 | a :: r,m,hm,h=>by
  rw [iV] at h
  by_cases e:a=x
  ·have:(a == x)=true:=by simpa using e
   rw [this] at h
   exact absurd h (Nat.not_lt_zero _)
  ·have e':(a == x)=false:=by simpa using e
   rw [e'] at h
   cases m with
   | zero=>exact e
   | succ k=>
    have h':k+1 < r.idxOf x+1:=h
    exact TK x r k (by simpa using hm) (by omega)
theorem GY {ss:List Str}{x:Str}(h:x∈ss):∃ hj:ss.idxOf x < ss.length,ss[ss.idxOf x]=x/\∀ m (hm:m < ss.length),m < ss.idxOf x->ss[m]≠x:=by
 have hj:ss.idxOf x < ss.length:=List.idxOf_lt_length_iff.mpr h
 exact ⟨hj,YQ hj,fun m hm Al=>TK x ss m hm Al⟩
def fG (K:ZCy):V->List V->Hp->VK->Prop:=fun x vs H Q=>∃ (l:Addr) (ss:List Str) (y:Str),x=.ref l/\vs=[.str y]/\AE K H l (ss.map V.str)/\y∈ss/\Q (.int (ss.idxOf y:Nat)) H
theorem QR:Hc X "list.index" (fG X.K):=by
 intro pins s σ H x vs v us Q I rx rv h
 obtain ⟨l,ss,y,rfl,rfl,hq,hy,q⟩:=h
 cases rx
 obtain ⟨u,rfl,ru⟩:=rv.one
 obtain ⟨A6,r,pl,hz⟩:=I.list hq
 obtain ⟨⟨c,d,dt,sl⟩,n,ho,hc,hd,Ks⟩:=id pl
 simp only at hc hd Ks
 subst hc;subst hd;subst Ks
 have hl:=r.length
 rw [AV] at hl
 obtain ⟨hj,SQ,KH⟩:=GY hy
 have at':∀ (m:Nat) (hm:m < A6.toArray.size),∃ t,A6.toArray[m]=.str (ss[m]'(by simp at hm;omega)) t:=fun m hm=>by
  have Mu:m < A6.length:=by simpa using hm
  obtain ⟨h2,t,e⟩:=fZ r (B1 Mu)
  exact ⟨t,by simpa using e⟩
 have Nb:ss.idxOf y < A6.toArray.size:=by simp;omega
 refine call_meets S8 ⟨_,ho,rfl⟩ PySem.F.entry_list_index (PySem.F.args_list_index_2 _ _) (SeqAt.list_indexAt l A6.toArray n none sl u (Dg (.str y)) (ss.idxOf y) Nb ?_ ?_ (fun m hm Al=>?_)) ⟨ho,fun z U6=>KO ru rfl r (by
   rw [HC];intro w hw;obtain ⟨y',_,rfl⟩:=List.mem_map.mp hw;rfl) z (by simpa using U6),?_⟩
 ·have h1:ss.length<=sizeLine:=by rw [AV] at hz;exact hz
  have h2:=JA
  have h3:((sizeLine:Nat):Int) < 2 ^ 63:=by exact_mod_cast h2
  omega
 ·obtain ⟨t,e⟩:=at' _ Nb
  rw [e,PL];simpa using SQ
 ·obtain ⟨t,e⟩:=at' _ hm
  rw [e,PL]
  have:=KH m (by simp at hm;omega) Al
  simpa using this
 ·exact ⟨.int _,H,I.tok _,⟨_,rfl⟩,q⟩
theorem tm (l:Addr) (items:Array Value) (n:Nat) (dd:Option Addr) (sl:Array (Option Value)) (x:Value) (e:Value->Bool) (j:Nat) (hj:j < items.size) (hit:e items[j]=true) (KH:∀ m (hm:m < items.size),m < j->e items[m]=false) :
  Meets (Builtin.«tuple.index» ⟨[.ref l,x],[]⟩)
   (fun A R s=>s.heap.get? l=some { cls:=.type "tuple", dict:=dd,data:=.seq items n,slots:=sl }/\(∀ y,y∈items->SeqAt.EqAt A.in1 s y x (e y))/\R (.ok (.ret (.int j s.toks))) { s with toks:=s.toks+1 }):=by
 refine Meets.of_wp fun prog w A R s h=>?_
 obtain ⟨hp,g,d,tk,os⟩:=s
 obtain ⟨hl,he,h⟩:=h
 wp_walk using AutoSeq1.wpAny_loadPart' hl
 show wpAny _ _ (forIn [:min items.size items.size] ((none:Option Fin),()) (fun (i:Nat) (_:Option Fin×Unit)=>match items[i]? with
  | some y=>(do let b <- eqBool y x;if b=true then do let r <- retInt ((i:Nat):Int);pure (ForInStep.done (some r,())) else pure (ForInStep.yield (none,())))
  | _=>pure (ForInStep.yield (none,())))) _ _ _
 rw [Std.Legacy.Range.forIn_eq_forIn_range']
 have hsz:([:min items.size items.size]:Std.Legacy.Range).size=items.size:=by simp [Std.Legacy.Range.size]
 show wpAny _ _ (forIn (List.range' 0 ([:min items.size items.size]:Std.Legacy.Range).size 1) _ _) _ _ _
 rw [hsz]
 refine wpAny_forIn_list _ (fun rest b s'=>b=(none,())/\s'=⟨hp,g,d,tk,os⟩/\∃ i,rest=List.range' i (items.size - i) 1/\i<=j) _ ?_ ?_ _ _ ⟨rfl,rfl,0,rfl,Cc _⟩
 ·rintro i rest b s' ⟨rfl,rfl,i',hr,Fl⟩
  have Al:i' < items.size:=by omega
  have e1:List.range' i' (items.size - i') 1=i' :: List.range' (i'+1) (items.size - (i'+1)) 1:=by
   have:items.size - i'=(items.size - (i'+1))+1:=by omega
   rw [this,List.range'_succ]
  rw [e1] at hr
  injection hr with tj uh
  subst tj;subst uh
  have hi:items[i]?=some items[i]:=by simp [Al]
  rw [hi]
  refine wpAny_bind (he _ (Array.getElem_mem Al) prog w _ _ ?_)
  by_cases e2:i=j
  ·subst e2
   rw [hit,if_pos rfl]
   wp_walk
   exact ⟨_,rfl,h⟩
  ·rw [KH i Al (by omega),if_neg (by decide)]
   exact wpAny_pure ⟨rfl,rfl,i+1,rfl,by omega⟩
 ·rintro b s' ⟨rfl,rfl,i,hr,Fl⟩
  have:0 < (List.range' i (items.size - i) 1).length:=by rw [List.length_range'];omega
  rw [<- hr] at this
  exact absurd this (by simp)
def my (K:ZCy):V->List V->Hp->VK->Prop:=fun x vs H Q=>∃ (l:Addr) (ss:List Str) (y:Str),x=.ref l/\vs=[.str y]/\A9 K H l (ss.map V.str)/\y∈ss/\Q (.int (ss.idxOf y:Nat)) H
theorem vN:Hc X "tuple.index" (my X.K):=by
 intro pins s σ H x vs v us Q I rx rv h
 obtain ⟨l,ss,y,rfl,rfl,hq,hy,q⟩:=h
 cases rx
 obtain ⟨u,rfl,ru⟩:=rv.one
 obtain ⟨A6,r,pl,hz⟩:=I.tuple hq
 obtain ⟨⟨c,d,dt,sl⟩,ho,hc,n,Ks⟩:=id pl
 simp only at hc Ks
 subst hc;subst Ks
 have hl:=r.length
 rw [AV] at hl
 obtain ⟨hj,SQ,KH⟩:=GY hy
 have at':∀ (m:Nat) (hm:m < A6.toArray.size),∃ t,A6.toArray[m]=.str (ss[m]'(by simp at hm;omega)) t:=fun m hm=>by
  have Mu:m < A6.length:=by simpa using hm
  obtain ⟨h2,t,e⟩:=fZ r (B1 Mu)
  exact ⟨t,by simpa using e⟩
 have Nb:ss.idxOf y < A6.toArray.size:=by simp;omega
 refine call_meets ZCI ⟨_,ho,rfl⟩ PySem.F.entry_tuple_index (PySem.F.args_tuple_index_2 _ _) (tm l A6.toArray n d sl u (Dg (.str y)) (ss.idxOf y) Nb ?_ (fun m hm Al=>?_)) ⟨ho,fun z U6=>KO ru rfl r (by
   rw [HC];intro w hw;obtain ⟨y',_,rfl⟩:=List.mem_map.mp hw;rfl) z (by simpa using U6),?_⟩
 ·obtain ⟨t,e⟩:=at' _ Nb
  rw [e,PL];simpa using SQ
 ·obtain ⟨t,e⟩:=at' _ hm
  rw [e,PL]
  have:=KH m (by simp at hm;omega) Al
  simpa using this
 ·exact ⟨.int _,H,I.tok _,⟨_,rfl⟩,q⟩
def zX (t u:TE):TE:=fun σ H Q=>t σ H Q∨u σ H Q
theorem k6 {e:Expr}{t u:TE}(h:QE X e t) (h2:QE X e u):QE X e (zX t u):=⟨fun pins s σ H Q I q=>q.elim (h.h pins s σ H Q I) (h2.h pins s σ H Q I)⟩
end
theorem yA:typeLookup (.type "list_reverseiterator") "__len__" = pure none:=by rw [typeLookup_type,builtinLookup_eq_fast];kernel_rfl
theorem qk:typeLookup (.type "list_reverseiterator") "__length_hint__" = pure (some (.builtin "list_reverseiterator.__length_hint__")):=by rw [typeLookup_type,builtinLookup_eq_fast];kernel_rfl
section
variable {prog:Program}{w:World}{A:Around}{s:Shared}{R:Result->Shared->Prop}
variable {I:Addr}{fp wr:List Addr}{G:Array GenState->Array GenState->Prop}{n:Nat}{P:Nat->Value->Prop}{St:Nat->Shared->Prop}
theorem uJ (W:WalksS prog w A.in1 I fp wr G n P St) (hT:∀ i s,St i s->s.TypeIs (.ref I) "list_reverseiterator") (S:Addr) (res:Value) (c₀:Nat) (BY:St 0 s) (Fi:S∉fp) (hI:I∈fp)
  (hS:s.heap.get? S=some { cls:=.type "list", data:=.seq #[] c₀ })
  (hR:∀ s' Dp c',Moved (S :: wr) G s s'->s'.heap.get? S=some { cls:=.type "list", dict:=none,data:=.seq Dp c',slots:=#[] }->ItemsOf P Dp n->R (.ok (.ret res)) s') (hn:n<=sizeLine) :
  wpAny (model prog w) A.in1 (Builtin.List.listExtendWith (.ref S) (.ref I) res)
   (fun fin s'=>match fin with | .done f=>R (.ok f) s' | .again c'=>c'.quiet=true/\codeAny (model prog w) A c' R s') (fun e s'=>R (.error e) s') s:=by
 have kA:S≠I:=fun e=>Fi (e▸hI)
 unfold Builtin.List.listExtendWith
 refine wpAny_bind (wpAny_typeOf (hT 0 _ BY) ?_)
 have h1:Builtin.List.listSameRef (.ref S) (.ref I)=false:=by simp [Builtin.List.listSameRef,kA]
 rw [if_neg (by rw [h1];decide)]
 refine wpAny_bind (W.self 0 _ _ _ BY ?_)
 refine wpAny_bind (wpAny_holding ?_)
 unfold Builtin.List.listLengthHint
 refine wpAny_bind (wpAny_specialOf (hT 0 _ BY) yA ?_)
 show wpAny _ A.in1 (specialOf (Value.ref I) (Str.ofString "__length_hint__") >>= _) _ _ _
 refine wpAny_bind (wpAny_specialOf (hT 0 _ BY) qk ?_)
 generalize JB:("list_reverseiterator.__length_hint__" : String)=Ni
 wp_delta
 rw [show splitId Ni=some ("list_reverseiterator", "__length_hint__") from by subst JB;decide +kernel]
 subst JB
 refine wpAny_bind (wpAny_isInstance (b:=true) (hT 0 _ BY) (by rw [isSubtype_type];kernel_rfl) ?_)
 refine wpAny_pure ?_
 rw [if_neg (by decide)]
 refine wpAny_pure ⟨plainId_quiet F.plain_extend_loop _,codeAny_extend_loopS W hn _ Fi _ n 0 _ _ _ rfl (Cc _) BY hS (ItemsOf.nil P) fun s' Dp c' hm EF B9=>?_⟩
 exact hR s' Dp c' hm EF B9
theorem wB (W:WalksS prog w A.in1 I fp wr G n P St) (hT:∀ i s,St i s->s.TypeIs (.ref I) "list_reverseiterator") (S:Addr) (BY:St 0 s) (Fi:S∉fp) (hI:I∈fp)
  (hS:s.heap.get? S=some { cls:=.type "list", data:=.seq #[] })
  (hR:∀ s' Dp c',Moved (S :: wr) G s s'->s'.heap.get? S=some { cls:=.type "list", dict:=none,data:=.seq Dp c',slots:=#[] }->ItemsOf P Dp n->R (.ok (.ret .none)) s') (hn:n<=sizeLine) :
  wpAny (model prog w) A.in1 (Builtin.«list.__init__» ⟨[.ref S,.ref I],[]⟩)
   (fun fin s'=>match fin with | .done f=>R (.ok f) s' | .again c'=>c'.quiet=true/\codeAny (model prog w) A c' R s') (fun e s'=>R (.error e) s') s:=by
 show wpAny _ A.in1 (do let old <- Builtin.List.listItems (.ref S);Builtin.List.listUpdate (.ref S) (fun _=>#[]);letGo old.toList.reverse;Builtin.List.listExtendWith (.ref S) (.ref I) .none) _ _ s
 refine wpAny_bind ?_
 unfold Builtin.List.listItems
 refine wpAny_bind (wpAny_seqItems hS rfl (wpAny_pure ?_))
 show wpAny _ A.in1 (updateSeq S (fun _=>#[]) >>= fun _=>letGo (#[]:Array Value).toList.reverse >>= fun _=>Builtin.List.listExtendWith (.ref S) (.ref I) .none) _ _ s
 refine wpAny_bind (wpAny_updateSeq hS rfl ?_)
 have hS₂:=HB (Obj.mapSeq (fun _=>(#[]:Array Value))) hS rfl
 have E4:∀ b o,b≠S->s.heap.get? b=some o->(s.heap.update S (Obj.mapSeq (fun _=>(#[]:Array Value)))).get? b=some o:=
  fun b o hb e=>(Em _ _ (BS hb)).trans e
 refine wpAny_bind (wpAny_letGo ?_)
 refine uJ (hn:=hn) W hT S .none _ (W.frame 0 s _ s.toks BY (An _) fun b hb o e=>E4 b o (fun h=>Fi (h▸hb)) e) Fi hI hS₂ fun s' Dp c' hm EF B9=>?_
 exact hR s' Dp c' (Moved.trans W.gtrans ((Moved.refl W.grefl).then_heap (An _) fun b o hb e=>E4 b o (fun h=>hb (h▸EA)) e) hm) EF B9
end
section
variable {prog:Program}{w:World}{A:Around}{E:Value->Shared->Prop}{s:Shared}
variable {I:Addr}{fp wr:List Addr}{G:Array GenState->Array GenState->Prop}{n:Nat}{P:Nat->Value->Prop}{St:Nat->Shared->Prop}
theorem k9 {Q:Value->Shared->Prop}(W:WalksS prog w A.in1.in1 I fp wr G n P St) (hT:∀ i s,St i s->s.TypeIs (.ref I) "list_reverseiterator") (BY:St 0 s) (hfp:∀ b∈fp,b < s.heap.objs.size) (hI:I∈fp)
  (hQ:∀ s' Dp c',Moved (s.heap.objs.size :: wr) G { s with heap:=s.heap.push { cls:=.type "list", data:=.seq #[] } } s'->
   s'.heap.get? s.heap.objs.size=some { cls:=.type "list", dict:=none,data:=.seq Dp c',slots:=#[] }->ItemsOf P Dp n->Q (.ref s.heap.objs.size) s') (hn:n<=sizeLine) :
  wpAny (model prog w) A (call (.type "list") [.ref I]) Q E s:=by
 have Fi:s.heap.objs.size∉fp:=fun hm=>L4 _ (hfp _ hm)
 refine callType_codes (Q₁:=fun obj s₁=>obj=.ref s.heap.objs.size/\s₁={ s with heap:=s.heap.push { cls:=.type "list", data:=.seq #[] } }) F.called_list (F.typeCall_list_1 _) F.entry_list_init
  (code_list_new _ ⟨rfl,rfl⟩) fun obj s₁ h₁=>?_
 obtain ⟨rfl,rfl⟩:=h₁
 have hS:(s.heap.push { cls:=.type "list", data:=.seq #[] }).get? s.heap.objs.size=some { cls:=.type "list", data:=.seq #[] }:=CI _ rfl
 refine ⟨⟨_,hS,rfl⟩,F.args_list_init_2 _ _,wB (hn:=hn) W hT _ (W.frame 0 s _ s.toks BY (An _) fun b _ o e=>Bl _ e) Fi hI hS fun s' Dp c' hm EF B9=>?_⟩
 exact ⟨rfl,hQ s' Dp c' hm EF B9⟩
end
section
variable {prog:Program}{w:World}{A:Around}{E:Value->Shared->Prop}{s:Shared}
end
section
variable {prog:Program}{w:World}{A:Around}{s:Shared}{R:Result->Shared->Prop}
variable {I:Addr}{l:Addr}{items:Array Value}
end
section
variable {prog:Program}{w:World}{A:Around}{E:Value->Shared->Prop}{s:Shared}
end
end L2
namespace HT
section
variable {prog:Program}{w:World}{A:Around}{E:Value->Shared->Prop}{s:Shared}
theorem y3 {t sl:Addr}{items:Array Value}{vl vu:Value}{lo hi:Option Int}{Q:Value->Shared->Prop}(ht:IsTup s.heap t items) (hs:s.heap.IsSliceOf sl vl vu .none) (pl:IsPart vl lo) (pu:IsPart vu hi)
  (hw:Ak items.size 0 lo=0/\Ak items.size items.size hi=items.size) (h:Q (.ref t) s):wpAny (model prog w) A (getItem (.ref t) (.ref sl)) Q E s:=by
 obtain ⟨os,KI,QV,OA⟩:=id hs
 have XO:s.TypeIs (.ref sl) "slice" := ⟨os,KI,QV⟩
 unfold getItem
 try with_reducible refine wpAny_holding ?_
 first | refine wpAny_bind (wpAny_pure ?_) | skip
 refine wpAny_bind (wpAny_sequenceKey ht.typeIs (by decide) ?_)
 refine wpAny_bind (wpAny_callSpecial?_slot (name:=Str.ofString "__getitem__") ht.typeIs Ya
  (wpAny_call_entry Ya ht.typeIs entry_tuple_getitem ?_ (args_tuple_getitem _ _)))
 show wpAny _ _ (Builtin.Tuple.tupleItemsOf (.ref t) >>= _) _ _ s
 refine wpAny_bind (tupleItemsOf_ ht ?_)
 refine wpAny_bind (wpAny_typeOf XO ?_)
 rw [if_pos (by decide)]
 refine wpAny_bind (eE hs pl pu ?_)
 have gP:((((Ak items.size 0 lo:Nat):Int) == 0 && (1:Int) == 1 && (Ak items.size items.size hi - Ak items.size 0 lo) == items.size)=true):=by
  rw [hw.1,hw.2];simp
 first
 | rw [if_pos gP]
 | simp only [gP,if_true]
 refine wpAny_bind ?_
 unfold Builtin.Tuple.tupleIsExact
 refine wpAny_bind (wpAny_typeOf ht.typeIs (wpAny_pure ?_))
 rw [if_pos (by decide)]
 exact wpAny_bind (wpAny_rule (wpAny_pure ⟨_,rfl,wpAny_pure h⟩))
end
end HT
namespace L2
section
variable {X:Cx}
def df (K:ZCy):V->Option Int->Option Int->Hp->VK->Prop:=fun x lo hi H Q=>∃ a xs,x=.ref a/\A9 K H a xs/\
 ((HT.Ak xs.length 0 lo=0/\HT.Ak xs.length xs.length hi=xs.length)->Q (.ref a) H)/\(¬ (HT.Ak xs.length 0 lo=0/\HT.Ak xs.length xs.length hi=xs.length)->∀ p,H p=none->Q (.ref p) (upd H p (.tup (C4 xs lo hi))))
theorem e9:GA X (df X.K):=by
 intro pins s σ H x v vl vu lo hi sl Q I rx hs pl pu h
 obtain ⟨a,xs,rfl,hx,q1,q2⟩:=h
 by_cases hw:HT.Ak xs.length 0 lo=0/\HT.Ak xs.length xs.length hi=xs.length
 ·cases rx
  obtain ⟨A6,r,ht,hz⟩:=I.tuple hx
  have hlen:A6.toArray.size=xs.length:=by rw [Br];exact r.length.symm
  refine ⟨"tuple", _,PyProof.Rows.slot_tuple_getitem.lookup,ht.typeIs,?_⟩
  exact HT.y3 ht hs pl pu (by rw [hlen];exact hw) ⟨.ref a,H,I,rfl,q1 hw⟩
 ·exact dJ pins s σ H _ v vl vu lo hi sl Q I rx hs pl pu ⟨a,xs,rfl,hx,hw,q2 hw⟩
def kD (K:ZCy):V->Option Int->Option Int->Hp->VK->Prop:=fun x lo hi H Q=>∃ a tp xs,x=.ref a/\CS K tp H a xs/\∀ p H',A8 H H'->CS K tp H' p (C4 xs lo hi)->Q (.ref p) H'
theorem mD {xs:List V}{lo hi:Option Int}(h:HT.Ak xs.length 0 lo=0/\HT.Ak xs.length xs.length hi=xs.length):C4 xs lo hi=xs:=by
 unfold C4
 rw [h.1,h.2];simp
theorem NR:GA X (kD X.K):=by
 intro pins s σ H x v vl vu lo hi sl Q I rx hs pl pu h
 obtain ⟨a,tp,xs,rfl,hx,q⟩:=h
 cases tp with
 | false=>exact Ir pins s σ H _ v vl vu lo hi sl Q I rx hs pl pu ⟨a,xs,rfl,hx,fun p hp=>q p _ (Ac hp _) (AE.of AI)⟩
 | true=>exact e9 pins s σ H _ v vl vu lo hi sl Q I rx hs pl pu ⟨a,xs,rfl,hx,fun hw=>q a H (A8.refl _) (by rw [mD hw];exact hx),fun _ p hp=>q p _ (Ac hp _) (A9.of AI)⟩
theorem qg {ys:List V}{A6:List Value}(r:Vals ys A6){acc:Array Value}(h:ItemsOf (fun i v=>A6.toArray[A6.toArray.size - 1 - i]?=some v) acc A6.toArray.size):∃ us:List Value,Vals ys.reverse us/\acc=us.toArray:=by
 have e:acc=A6.reverse.toArray:=by
  apply Array.toList_inj.mp
  rw [List.toList_toArray]
  apply Rj
  intro i
  have hs:acc.size=A6.length:=by rw [h.1];simp
  by_cases hi:i < A6.length
  ·have h1:acc.toList[i]?=some (acc[i]'(by omega)):=by simp
   have h2:=h.2 i (acc[i]'(by omega)) (by simp)
   rw [h1,List.getElem?_reverse hi]
   simp at h2
   rw [<- h2]
  ·have h1:acc.toList[i]?=none:=JZ (by simp;omega)
   have h2:A6.reverse[i]?=none:=JZ (by simp;omega)
   rw [h1,h2]
 exact ⟨A6.reverse,r.reverse,e⟩
def qD (K:ZCy) (t:TA):TE:=fun σ H Q=>t σ H fun vs H1=>∃ a tp ys,vs=[.ref a]/\CS K tp H1 a ys/\∀ l,H1 l=none->Q (.ref l) (upd H1 l (.lst ys.reverse))
theorem Inv.nD {pins:ZCz}{σ:St} {H:Hp}{s:Shared}{h':Heap}{t':Nat}{fp:List Addr}(I:Inv X pins σ H s) (hf:∀ b∈fp,ED X pins H b) (k:∀ b o,b∉fp->s.heap.get? b=some o->h'.get? b=some o) :
  Inv X pins σ H { s with heap:=h',toks:=t' }:=by
 have JR:∀ b u,H b=some u->b∉fp:=fun b u e z=>by rw [(hf b z).1] at e;cases e
 refine I.step (g':=s.gens) (d':=s.drawn) (ch:=fp) (fun b hb=>?_) (fun b o _ _ hc e _=>k b o hc e) (fun b o _ _ hc e _=>⟨o.slots,k b o hc e⟩) (fun _ _ _ _ n=>n)
  (fun b o hc e=>⟨o,k b o hc e⟩) (fun _ _ e=>e) (fun _ _ _ e=>e) (fun b ps e=>⟨#[],by rw [e];simp⟩) (fun m hm=>?_) (fun b u e=>?_) I.bare
 ·obtain ⟨_,h1,_,h3,h4,h5⟩:=hf b hb
  exact ⟨h3,h1,h4,h5⟩
 ·obtain ⟨o,es,ep,ho,r⟩:=hm
  exact ⟨o,es,ep,k _ o (fun z=>(hf _ z).2.1 rfl) ho,r⟩
 ·refine (I.AM b u e).Il (fun c v hc q=>k c v ?_ q) (fun _ q=>q) fun _ _ q=>q
  rcases hc with z | z
  ·rw [z];exact JR b u e
  ·exact JR c _ z
theorem Inv.yX {pins:ZCz}{σ:St} {H:Hp}{s:Shared}{h':Heap}{t':Nat}{fp:List Addr}{a:Addr}{o:HO}(I:Inv X pins σ H s) (hf:∀ b∈fp,ED X pins H b) (k:∀ b o,b∉fp->s.heap.get? b=some o->h'.get? b=some o)
  (ha:s.heap.objs.size<=a) (new:C5 X.prog X.w (upd H a o) h' a o):Inv X pins σ (upd H a o) { s with heap:=h',toks:=t' }:=by
 have hn:H a=none:=I.AM.fresh ha
 have JR:∀ b u,H b=some u->b∉fp:=fun b u e z=>by rw [(hf b z).1] at e;cases e
 have ne:∀ b u,H b=some u->b≠a:=fun b u e=>EN e hn
 have ne2:∀ b u,s.heap.get? b=some u->b≠a:=fun b u e=>Bx (EB (BA e) ha)
 refine I.step (g':=s.gens) (d':=s.drawn) (ch:=fp) (fun b hb=>?_) (fun b o _ _ hc e _=>k b o hc e) (fun b o _ _ hc e _=>⟨o.slots,k b o hc e⟩) (fun b o _ e n=>by rw [Aj (ne2 b o e)];exact n)
  (fun b o hc e=>⟨o,k b o hc e⟩) (fun b _ e=>by rw [Aj (ne b _ e)];exact e) (fun b _ _ e=>by rw [Aj (ne b _ e)];exact e) (fun b ps e=>⟨#[],by rw [Aj (ne b _ e),e];simp⟩) (fun m hm=>?_) (fun b u e=>?_) I.bare
 ·obtain ⟨_,h1,_,h3,h4,h5⟩:=hf b hb
  exact ⟨h3,h1,h4,h5⟩
 ·obtain ⟨o,es,ep,ho,r⟩:=hm
  exact ⟨o,es,ep,k _ o (fun z=>(hf _ z).2.1 rfl) ho,r⟩
 ·by_cases hb:b=a
  ·subst hb
   rw [AI] at e;cases e
   exact new
  ·rw [Aj hb] at e
   refine (I.AM b u e).Il (fun c v hc q=>k c v ?_ q) (fun c q=>by rw [Aj (ne c _ q)];exact q) fun c _ q=>by rw [Aj (ne c _ q)];exact q
   rcases hc with z | z
   ·rw [z];exact JR b u e
   ·exact JR c _ z
noncomputable def Yy (K:ZCy) (a:Addr) (xs:List V):It:=
 ⟨fun i H=>AE K H a xs/\i < xs.length,fun i H x H'=>∃ p y,xs[i]?=some y/\x=.ref p/\H p=none/\H'=upd H p (.tup [.int i,y]),fun i H=>AE K H a xs/\xs.length<=i⟩
theorem xy {P:Program}{w:World}{K:ZCy}{es:List Expr}{k1:Nat}{p1:Pos}(a e it:Addr) (xs:List V) (aA:e≠it) :
  Turn P w K (.Tuple es k1 p1) (Yy K a xs) [e,it] e (fun i h=>(∃ old,IsEnum h e it i old)/\h.IsListIter it a i) where
 mem:=by simp
 obj:=fun i h st b hb=>by
  obtain ⟨⟨old,h1⟩,o,h2,_,d⟩:=st
  rcases List.mem_cons.mp hb with z | z
  ·subst z;exact ⟨_,h1,fun v z=>by cases z⟩
  ·have:b=it:=by simpa using z
   subst this
   exact ⟨o,h2,fun v z=>by rw [d] at z;cases z⟩
 keep:=fun i h h' st k=>⟨let ⟨old,h1⟩:=st.1;⟨old,k e (by simp) _ h1⟩,st.2.at fun o q=>k it (by simp) o q⟩
 item:=by
  intro X hP hw hK hc i pins s σ H E I hf st hg
  subst hP hw hK
  obtain ⟨hq,hi⟩:=hg
  obtain ⟨⟨old,he⟩,hit⟩:=st
  obtain ⟨A6,rv,p,hz⟩:=I.list hq
  obtain ⟨u,hu,ru⟩:=rv.get (B1 hi)
  refine wpAny_pyNext_enum_item he hit p.isList (x:=u) (by simpa using hu) aA fun h1 JL uM Mj oY x3=>⟨_,rfl,?_⟩
  refine wpAny_letOwnedTupleGo_enum JL fun h2 Lx Ct=>?_
  have Al:e < s.heap.objs.size:=BA he
  have P8:h2.get? s.heap.objs.size=some { cls:=.type "tuple", data:=.seq #[.int i s.toks,u] }:=(Ct.2 _ (L6 Al)).trans Mj
  have kp:∀ b o,b∉[e,it]->s.heap.get? b=some o->h2.get? b=some o:=fun b o hb q=>by
   have E2:b≠e/\b≠it:=by simpa using hb
   exact (Ct.2 b E2.1).trans (x3 b o E2.1 E2.2 q)
  refine ⟨.ref s.heap.objs.size,_,I.yX (t':=s.toks+1) (a:=s.heap.objs.size) (o:=.tup [.int i,xs[i]]) hf kp (An _) ?_,rfl,⟨_,_,B1 hi,rfl,I.AM.fresh (An _),rfl⟩,⟨⟨_,Lx⟩,uM.at fun o q=>(Ct.2 it (BS aA)).trans q⟩,fun b hb=>?_⟩
  ·exact ⟨(by show 2<=sizeLine;decide),[.int i s.toks,u],.cons ⟨_,rfl⟩ (.cons ru .nil),⟨_,P8,rfl,_,rfl⟩,fun ob q=>by rw [P8] at q;cases q;rfl⟩
  ·have Lg:b < s.heap.objs.size:=by
    rcases List.mem_cons.mp hb with z | z
    ·rw [z];exact Al
    ·have:b=it:=by simpa using z
     obtain ⟨o,q,_⟩:=hit
     rw [this];exact BA q
   rw [Aj (Bx Lg)]
   exact (hf b hb).1
 done:=by
  intro X hP hw hK hc i pins s σ H E I hf st hg
  subst hP hw hK
  obtain ⟨hq,hx⟩:=hg
  obtain ⟨⟨old,he⟩,hit⟩:=st
  obtain ⟨A6,rv,p,hz⟩:=I.list hq
  have hl:=rv.length
  exact wpAny_pyNext_enum_end (I.ok.hd hc) he hit p.isList (by simp;omega) fun h' eb=>⟨rfl,I.nD (t':=s.toks) hf fun b o hb q=>eb b o (fun z=>hb (by simp [z])) q⟩
 self:=fun _ _ _ _ _ st h=>let ⟨⟨_,he⟩,_⟩:=st;wpAny_pyIter_enum he h
def TJ (K:ZCy) (t:TA):TI:=fun σ H R=>t σ H fun vs H1=>∃ a xs,vs=[.ref a]/\AE K H1 a xs/\R (Yy K a xs) H1
theorem ZAd {es:List Expr}{k1:Nat}{p1 p pos:Pos}{l:Expr}{t:TA}(hg:Gl X "enumerate") (hm:X.mg "enumerate" = none) (ha:PA X [l] t) (hs:starEach [l] X.env=[(false,eval l X.env)]:=by rfl) :
  PI X (.Tuple es k1 p1) (.Call (.Name "enumerate" p) [l] [] pos) (TJ X.K t):=by
 intro pins s σ H R I h
 refine wpAny_Call_Name_kw (J8 I hg hm (show bootBuiltins "enumerate" = some (.type "enumerate") by decide +kernel) ?_ (by decide) (by decide))
 refine Oe (AR (ha pos pins s σ H _ I h) fun us s1 ⟨vs,H1,I1,r1,q1⟩=>?_) hs rfl
 obtain ⟨a,xs,rfl,hq,q⟩:=q1
 obtain ⟨u,rfl,rx⟩:=vals1 r1
 cases rx
 obtain ⟨A6,rv,p,hz⟩:=I1.list hq
 refine call_enumerate_list p.isList fun h' he hit hsz kp=>?_
 refine wpAny_pyIter_enum he ?_
 have As:s1.heap.objs.size+1≠s1.heap.objs.size:=Nat.succ_ne_self _
 refine ⟨s1.heap.objs.size+1,[s1.heap.objs.size+1,s1.heap.objs.size],_,_,H1,rfl,I1.kept (t':=s1.toks) kp,xy a _ _ xs As,⟨⟨_,he⟩,hit⟩,fun b hb=>?_,q⟩
 have Lg:s1.heap.objs.size<=b:=by
  rcases List.mem_cons.mp hb with z | z
  ·rw [z];exact Jb _
  ·have:b=s1.heap.objs.size:=by simpa using z
   rw [this];exact An _
 exact I1.N8 Lg (I1.AM.fresh Lg)
theorem Z6 {es:List Expr}{k1:Nat}{p1 p pos:Pos}{l:Expr}{t:TA}(hg:Gl X "enumerate") (hm:X.mg "enumerate" = none) (ha:QA X [l] t) (hs:starEach [l] X.env=[(false,eval l X.env)]:=by rfl) :
  QI X (.Tuple es k1 p1) (.Call (.Name "enumerate" p) [l] [] pos) (TJ X.K t):=⟨ZAd hg hm ha.h hs⟩
end
theorem sI (t:SetTable) (n:Nat):(t.orStandIn n).led=t.led:=by unfold SetTable.orStandIn;split <;> rfl
theorem Yj (t:SetTable) (es:Array (Int×Value)) (h:Int) (x:Value):(layNew t es h x).2.1.led=t.led:=by
 unfold layNew
 split
 ·show (SetTable.orStandIn (t.put _).1 _).led=t.led
  rw [sI];rfl
 ·rfl
theorem Yx {mask finger moves:Nat}{led plain:Bool}{hs:Array Int}{p:SetTable×Array Nat}(h:SetTable.laid mask finger moves led plain hs=some p):p.1.led=led/\p.1.plain=plain:=by
 unfold SetTable.laid at h
 cases hc:SetTable.layClean mask hs with
 | none=>rw [hc] at h;cases h
 | some ow=>rw [hc] at h;cases h;exact ⟨rfl,rfl⟩
theorem nJ (t:SetTable) (es:Array (Int×Value)) (n:Nat) (hp:t.plain=false):(relayAll t es n).2.1.led=t.led/\(relayAll t es n).2.1.plain=false:=by
 unfold relayAll
 split
 ·next t' order hr=>
  have q:=Yx (p:=(t',order)) hr
  dsimp only at q ⊢
  split
  ·exact ⟨q.1,q.2.trans hp⟩
  ·exact ⟨rfl,rfl⟩
 ·exact ⟨rfl,rfl⟩
noncomputable def cS (w:World):Bool:=w.params.followText "set-order"
def Pd (prog:Program) (w:World) (h:Heap) (a:Addr) (S:Str->Bool) (n:Nat):Prop:=
 ∃ o es ep t,h.get? a=some o/\o.ExactSet/\o.data=.set es ep t/\ElemsOf (PySem.strKind prog w) es.toList/\(∀ k,S k=true↔∃ e∈es.toList,(PySem.strKind prog w).is k e.2=true)/\
  es.size < scanBound/\t.fits es.size=true/\es.size=n/\(t.led=!cS w)/\(0 < es.size->t.plain=false)
section
variable {prog:Program}{w:World}{A:Around}{E:Value->Shared->Prop}{s:Shared}
theorem Pg {h:Heap}{a:Addr}{o:Obj}{es:Array (Int×Value)}{ep:Nat}{t:SetTable}(ho:h.get? a=some o) (hd:o.data=.set es ep t) (CQ:Array (Int×Value)) (t':SetTable) :
  (h.update a (Obj.putSet CQ t')).get? a=some { o with data:=.set CQ (ep+1) t' }:=by
 have q:=HB (Obj.putSet CQ t') ho (by rw [putSet_of CQ t' hd];rfl)
 rw [q,putSet_of CQ t' hd]
theorem Pd.put {a:Addr}{S:Str->Bool}{n:Nat}{k:Str}{tk:Tok}{Q:Bool->Shared->Prop}(hS:Pd prog w s.heap a S n) (Jm:n+1 < scanBound)
  (h:∀ h',Heap.SameBut a s.heap h'->Pd prog w h' a (fun k'=>S k' || decide (k'=k)) (if S k then n else n+1)->Q (!S k) { s with heap:=h' }) :
  wpAny (model prog w) A (setAddHashed a (.str k tk) ((PySem.strKind prog w).hash k)) Q E s:=by
 obtain ⟨o,es,ep,t,ho,hex,hd,IA,Eg,hb,hf,hn,NX,Bh⟩:=hS
 have IG:(PySem.strKind prog w).is k (.str k tk)=true:=PySem.strKind_is prog w k tk
 have KU:(Value.str k tk).scannable=true:=rfl
 have rm:es.size+1 < scanBound:=by rw [hn];exact Jm
 have gw:∀ (b:Bool) (s1:Shared) (Q1:Unit->Shared->Prop),Q1 () s1->wpAny (model prog w) A (match b with | true=>rule "set.scan.the-table-gave-way" | false=>pure ()) Q1 E s1:=by
  intro b s1 Q1 q;cases b
  ·exact wpAny_pure q
  ·exact wpAny_rule q
 unfold setAddHashed setAddHashedIn
 refine wpAny_holding ?_
 refine wpAny_bind (wpAny_setState_of ho hd hf ?_)
 dsimp only
 rw [byScan_of KU hb IA]
 simp only [↓reduceIte]
 unfold setAddByScan
 refine wpAny_bind ?_
 refine wpAny_bind (wpAny_rule ?_)
 refine wpAny_bind (wpAny_setScan_of IG ho hd hf IA ?_)
 cases hr:List.findIdx? (fun e=>(PySem.strKind prog w).is k e.2) es.toList with
 | some j=>
  dsimp only
  obtain ⟨hj,U8,_⟩:=List.findIdx?_eq_some_iff_getElem.mp hr
  have hk:S k=true:=(Eg k).mpr ⟨es.toList[j],OT hj,U8⟩
  refine wpAny_pure ?_
  refine wpAny_pure ?_
  have q:=h s.heap (Heap.SameBut.refl a s.heap) ⟨o,es,ep,t,ho,hex,hd,IA,fun k'=>by
   rw [<- Eg k',Bool.or_eq_true,decide_eq_true_eq]
   exact ⟨fun z=>z.elim id fun e=>e▸hk,Or.inl⟩,hb,hf,by rw [if_pos hk];exact hn,NX,Bh⟩
  rw [hk] at q
  exact q
 | none=>
  dsimp only
  have hk:S k=false:=by
   cases e:S k with
   | false=>rfl
   | true=>
    obtain ⟨x,hx,hp⟩:=(Eg k).mp e
    have q:=List.findIdx?_eq_none_iff.mp hr x hx
    rw [hp] at q;exact Bool.noConfusion q
  have p1:=layNew_perm t es ((PySem.strKind prog w).hash k) (.str k tk)
  have f1:=layNew_fits t es ((PySem.strKind prog w).hash k) (.str k tk)
  have l1:=Yj t es ((PySem.strKind prog w).hash k) (.str k tk)
  generalize layNew t es ((PySem.strKind prog w).hash k) (.str k tk)=L at p1 f1 l1 ⊢
  obtain ⟨B3,t1,wd,gv⟩:=L
  dsimp only at p1 f1 l1 ⊢
  rw [ZBl] at p1
  have S9:ElemsOf (PySem.strKind prog w) B3.toList:=(IA.push IG KU).perm p1
  have m1:∀ k',(S k' || decide (k'=k))=true↔∃ e∈B3.toList,(PySem.strKind prog w).is k' e.2=true:=mem_push_iff IG Eg p1
  have z1:B3.size=n+1:=by rw [<- Cj,p1.length_eq,Bm,Cj,hn];rfl
  have b1:B3.size < scanBound:=by rw [z1];exact Jm
  have fin:∀ (h':Heap) (o':Obj) (CQ:Array (Int×Value)) (GZ:Nat) (t':SetTable),Heap.SameBut a s.heap h'->h'.get? a=some o'->o'.ExactSet->o'.data=.set CQ GZ t'->CQ.toList.Perm B3.toList->t'.fits CQ.size=true->t'.led=t.led->t'.plain=false->
    Q true { s with heap:=h' }:=by
   intro h' o' CQ GZ t' sb go xo d' pp ff ll pf
   have zz:CQ.size=n+1:=by rw [<- z1,<- Cj,pp.length_eq,Cj]
   have q:=h h' sb ⟨o',CQ,GZ,t',go,xo,d',S9.perm pp,fun k'=>(m1 k').trans ⟨fun ⟨e,he,q⟩=>⟨e,pp.mem_iff.mpr he,q⟩,fun ⟨e,he,q⟩=>⟨e,pp.mem_iff.mp he,q⟩⟩,by rw [zz];exact Jm,ff,by rw [hk];exact zz,ll.trans NX,fun _=>pf⟩
   rw [hk] at q
   exact q
  have tail:∀ (t2:SetTable),t2.fits B3.size=true->t2.led=t.led->t2.plain=false->wpAny (model prog w) A (do
    storeSet a B3 t2
    if (
      !wd && t2.tooFull)=true then do
      (match (relayAll t2 B3 (SetTable.grown B3.size)).2.2 with | true=>rule "set.scan.the-table-gave-way" | false=>pure ())
      storeSet a (relayAll t2 B3 (SetTable.grown B3.size)).1 (relayAll t2 B3 (SetTable.grown B3.size)).2.1
      pure (some true)
     else pure (some true)) (fun r s'=>match r with | some b=>Q b s' | none=>False) E s:=by
   intro t2 f2 l2 Ow
   refine wpAny_bind (wpAny_storeSet_of ho hd ?_ (fits_of_scanBound b1))
   have o1:=Pg ho hd B3 t2
   have O7:=YF s.heap a (Obj.putSet B3 t2)
   split
   ·have p3:=relayAll_perm t2 B3 (SetTable.grown B3.size)
    have f3:=relayAll_fits t2 B3 (SetTable.grown B3.size)
    have l3:=nJ t2 B3 (SetTable.grown B3.size) Ow
    generalize relayAll t2 B3 (SetTable.grown B3.size)=Rl at p3 f3 l3 ⊢
    obtain ⟨KZ,t3,g3⟩:=Rl
    dsimp only at p3 f3 l3 ⊢
    have z3:KZ.size=B3.size:=by rw [<- Cj,p3.length_eq,Cj]
    refine wpAny_bind (gw _ _ _ ?_)
    refine wpAny_bind (wpAny_storeSet_of o1 rfl ?_ (fits_of_scanBound (by rw [z3];exact b1)))
    refine wpAny_pure ?_
    exact fin _ _ KZ _ t3 (O7.trans (YF _ a _)) (Pg o1 rfl KZ t3) hex rfl p3 f3 (l3.1.trans l2) l3.2
   ·exact wpAny_pure (fin _ _ B3 _ t2 O7 o1 hex rfl (List.Perm.refl _) f2 l2 Ow)
  refine wpAny_bind (gw _ _ _ ?_)
  split
  ·next Ec=>
   refine wpAny_bind ?_
   rw [hashByValue_scannable 8 KU]
   refine wpAny_pure ?_
   refine wpAny_mono (tail { t1 with plain:=false } (SetTable.fits_plain_off f1) l1 rfl) (fun r s' q=>?_) fun _ _ e=>e
   cases r with
   | none=>exact q.elim
   | some b=>exact wpAny_pure q
  ·next Ec=>
   refine wpAny_bind (wpAny_pure ?_)
   simp only [↓reduceIte]
   refine wpAny_mono (tail t1 f1 l1 (by simpa using Ec)) (fun r s' q=>?_) fun _ _ e=>e
   cases r with
   | none=>exact q.elim
   | some b=>exact wpAny_pure q
end
section
variable {prog:Program}{w:World}{A:Around}
end
theorem StrsAre.len:∀ {vs:List Value}{ss:List Str},StrsAre vs ss->vs.length=ss.length
 | _,_,.nil=>rfl
 | _,_,.cons _ _ h=>by rw [Bc,Bc,StrsAre.len h]
section
variable {prog:Program}{w:World}{A:Around}{E:Value->Shared->Prop}{s:Shared}
end
section
variable {prog:Program}{w:World}{A:Around}{R:Result->Shared->Prop}{I:Addr}{fp wr:List Addr}{G:Array GenState->Array GenState->Prop}{n:Nat}{P:Nat->Value->Prop}{St:Nat->Shared->Prop}{ss:List Str}
end
section
variable {prog:Program}{w:World}{A:Around}{E:Value->Shared->Prop}{s:Shared}{ss:List Str}
end
noncomputable def UL (P:Program) (w:World) (a:Addr) (f:Str->Bool) (n:Nat):HO:=.ext fun h=>Pd P w h a f n
section
variable {X:Cx}
theorem Inv.drew {pins:ZCz}{σ:St} {H:Hp}{s:Shared}(I:Inv X pins σ H s) (d:Drawn):Inv X pins σ H { s with drawn:=d }:=
 I.step (h':=s.heap) (g':=s.gens) (t':=s.toks) (d':=d) (ch:=[]) (fun _ z=>nomatch z) (fun b o _ _ _ e _=>e) (fun b o _ _ _ e _=>⟨o.slots,e⟩) (fun _ _ _ _ n=>n) (fun b o _ e=>⟨o,e⟩) (fun _ _ e=>e) (fun _ _ _ e=>e) (fun b ps e=>⟨#[],by rw [e];simp⟩) (fun m hm=>hm) I.AM I.bare
end
section
variable {prog:Program}{w:World}{A:Around}{E:Value->Shared->Prop}{s:Shared}
theorem ZAR {l:Addr}{vs:List Value}{Q:List Value->Shared->Prop}(hl:IsTup s.heap l vs.toArray) (h:Q vs { s with heap:=(s.heap.push (seqObj "list" #[] 0)).update s.heap.objs.size (Obj.mapSeq (·++vs.toArray)) }) (hsz:vs.length<=sizeLine) :
  wpAny (model prog w) A (collect (.ref l)) Q E s:=by
 obtain ⟨o,ho,hc,n,hd⟩:=id hl
 unfold collect
 refine wpAny_bind (wpAny_runValue (codeAny_builtin entry_proto_collect' ?_))
 show wpAny _ _ (newList [] >>= fun x=>again (.builtin "list.__iadd__" ⟨[x,.ref l],[]⟩)) _ _ s
 refine wpAny_bind (wpAny_newList ?_)
 refine wpAny_pure ⟨Code.quiet_builtin _ (by decide +kernel),codeAny_builtin entry_list_iadd' ?_⟩
 show wpAny _ _ (Builtin.List.listExtendWith (.ref s.heap.objs.size) (.ref l) (.ref s.heap.objs.size)) _ _ { s with heap:=s.heap.push (seqObj "list" #[] 0) }
 unfold Builtin.List.listExtendWith
 have g:(s.heap.push (seqObj "list" #[] 0)).get? l=some o:=Bl _ ho
 refine wpAny_bind (wpAny_typeOf (T := "tuple") ⟨o,g,hc⟩ ?_)
 rw [if_pos (by simp)]
 refine wpAny_bind (listItems_at g hd ?_)
 refine wpAny_bind (listItems_at (xs:=#[]) (n:=0) (CI _ rfl) rfl ?_)
 rw [if_neg (by simp)]
 refine wpAny_bind (listUpdate_at (xs:=#[]) (n:=0) (CI _ rfl) rfl ?_ (Cc _) (by show (#[]++vs.toArray).size<=sizeLine+1;simp only [Array.size_append,Br,Rp];omega))
 refine wpAny_pure ?_
 show wpAny (model prog w) A (load s.heap.objs.size >>= fun o=>(match o.data with | .seq xs _=>pure xs.toList | _=>unsupported "internal:collect")) Q E _
 refine wpAny_bind (wpAny_load (get?_update_seq (CI _ rfl) _) ?_)
 show wpAny _ _ (pure ((#[]:Array Value)++vs.toArray).toList) Q E _
 have e:((#[]:Array Value)++vs.toArray).toList=vs:=by simp
 rw [e]
 exact wpAny_pure h
theorem Zl {v:Value}{Pc:List Value->Shared->Prop}{Q:Value->Shared->Prop}
  (hc:∀ (A1:Around) (E1:Value->Shared->Prop) (Q1:List Value->Shared->Prop),A1.handled=A.handled->(∀ vs s1,Pc vs s1->Q1 vs s1)->wpAny (model prog w) A1 (collect v) Q1 E1 s)
  (h:∀ vs s1,Pc vs s1->vs.length < 64/\∃ ss,StrsAre vs ss/\∀ out AQ e h',(∀ b o,s1.heap.get? b=some o->h'.get? b=some o)->h'.get? s1.heap.objs.size=some (seqObj "list" out e)->StrsAre out.toList AQ->AQ.Perm ss->sortedS AQ=true->Q (.ref s1.heap.objs.size) { s1 with heap:=h' }) :
  wpAny (model prog w) A (call (.builtin "sorted") [v]) Q E s:=by
 refine Calls.call_function_entry kind_sorted plain_sorted entry_sorted (args_sorted1 _) ?_
 unfold Builtin.«sorted»
 refine wpAny_bind (m:=checkCount "sorted" 1 1 _) (wpAny_pure ?_)
 refine wpAny_bind (hc _ _ _ rfl fun vs s1 hp=>?_)
 obtain ⟨GC,ss,II,k⟩:=h vs s1 hp
 refine wpAny_bind (wpAny_newList ?_)
 have OI:(s1.heap.push (seqObj "list" vs.toArray 0)).get? s1.heap.objs.size=some (seqObj "list" vs.toArray 0):=CI _ rfl
 refine wpAny_bind (wpAny_holding (wpAny_call_entry slot_list_sort ⟨_,OI,rfl⟩ entry_list_sort (list_sort_treeK (s:={ s1 with heap:=s1.heap.push (seqObj "list" vs.toArray 0) }) strKind_oneLt OI II.keysOf (fun v₁ v₂ rest e=>keyKind_strs (by rw [<- e];exact II)) GC fun DE a1 a2=>⟨_,rfl,?_⟩) (args_list_sort _)))
 obtain ⟨AQ,b1,b2,b3⟩:=sorted_out_str II a1 a2
 obtain ⟨e,he⟩:=sortedHeap_at (out:=(arrOf DE).map (·.2)) OI
 refine wpAny_pure ⟨_,rfl,k _ AQ e _ (fun b o hb=>?_) he b1 b2 b3⟩
 have Al:=BA hb
 rw [sortedHeap_old (Bx Al) (by rw [JY];exact Oc Al)]
 exact Bl _ hb
end
theorem ZO:∀ {ss:List Str}{us:List Value},Vals (ss.map V.str) us->StrsAre us ss
 | [],_,.nil=>.nil
 | x :: r,_,.cons ⟨t,e⟩ h=>by rw [e];exact .cons x t (ZO h)
theorem i9:∀ {ss:List Str}{us:List Value},StrsAre us ss->Vals (ss.map V.str) us
 | _,_,.nil=>.nil
 | _,_,.cons x t h=>.cons ⟨t,rfl⟩ (i9 h)
section
variable {X:Cx}
theorem bD {pins:ZCz}{σ:St} {H:Hp}{s s1:Shared}{Q:VK}(I:Inv X pins σ H s) (hg:s1.gens=s.gens) (ho:s1.os=s.os) (hk:∀ b o,s.heap.get? b=some o->s1.heap.get? b=some o) (hs:s.heap.objs.size<=s1.heap.objs.size)
  {out:Array Value}{AQ:List Str}{e:Nat}{h':Heap}(kp:∀ b o,s1.heap.get? b=some o->h'.get? b=some o) (he:h'.get? s1.heap.objs.size=some (seqObj "list" out e)) (hS:StrsAre out.toList AQ) (GC:AQ.length < 64)
  (q:∀ l,H l=none->Q (.ref l) (upd H l (.lst (AQ.map V.str)))):EP X pins σ Q (.ref s1.heap.objs.size) { s1 with heap:=h' }:=by
 obtain ⟨h1,g1,d1,t1,o1⟩:=s1
 simp only at hg ho hk hs kp he
 subst hg;subst ho
 refine ⟨.ref _,_,(I.drew d1).laid (a:=h1.objs.size) (h':=h') (t':=t1) (o:=.lst (AQ.map V.str)) (fun b o q=>kp b o (hk b o q)) hs ?_,rfl,q _ (I.AM.fresh hs)⟩
 refine ⟨?_,out.toList,e,i9 hS,by simpa [seqObj] using he⟩
 rw [AV]
 exact Cs (Ob GC) (by decide +kernel)
def dC (K:ZCy):List V->Hp->VK->Prop:=fun xs H Q=>∃ (p:Addr) (tp:Bool) (ss:List Str),xs=[.ref p]/\CS K tp H p (ss.map V.str)/\ss.length < 64/\∀ l AQ,H l=none->AQ.Perm ss->sortedS AQ=true->Q (.ref l) (upd H l (.lst (AQ.map V.str)))
theorem Oh:Ci X (.builtin "sorted") (dC X.K):=by
 intro pins s σ H xs us Q I r h
 obtain ⟨p,tp,ss,rfl,hq,GC,q⟩:=h
 obtain ⟨u,rfl,rx⟩:=vals1 r
 cases rx
 have key:∀ A6:List Value,Vals (ss.map V.str) A6->(∀ (A1:Around) (E1:Value->Shared->Prop) (Q1:List Value->Shared->Prop),Q1 A6 { s with heap:=(s.heap.push (seqObj "list" #[] 0)).update s.heap.objs.size (Obj.mapSeq (·++A6.toArray)) }->wpAny (model X.prog X.w) A1 (collect (.ref p)) Q1 E1 s)->
   wpAny (model X.prog X.w) X.A (call (.builtin "sorted") [.ref p]) (EP X pins σ Q) X.xe s:=by
  intro A6 rv jA
  have hlen:=rv.length
  rw [AV] at hlen
  refine Zl (Pc:=fun vs s1=>vs=A6/\s1={ s with heap:=(s.heap.push (seqObj "list" #[] 0)).update s.heap.objs.size (Obj.mapSeq (·++A6.toArray)) }) (fun A1 E1 Q1 _ k=>jA A1 E1 Q1 (k _ _ ⟨rfl,rfl⟩)) ?_
  rintro vs s1 ⟨rfl,rfl⟩
  refine ⟨by omega,ss,ZO rv,fun out AQ e h' kp he hS hp hs=>?_⟩
  refine bD (s1:={ s with heap:=(s.heap.push (seqObj "list" #[] 0)).update s.heap.objs.size (Obj.mapSeq (·++vs.toArray)) }) I rfl rfl (fun b o hb=>?_) (by show s.heap.objs.size<=((s.heap.push (seqObj "list" #[] 0)).update s.heap.objs.size (Obj.mapSeq (·++vs.toArray))).objs.size;rw [Heap.size_update,JY];exact Jb _) kp he hS (by rw [hp.length_eq];exact GC) fun l hl=>q l AQ hl hp hs
  show ((s.heap.push _).update _ _).get? b=some o
  rw [Heap.get?_update_ne _ _ _ _ (Bx (BA hb))]
  exact Bl _ hb
 cases tp with
 | false=>
  obtain ⟨A6,rv,pl,hz⟩:=I.list hq
  have hlen:=rv.length
  exact key A6 rv fun A1 E1 Q1 k=>collect_list pl.isList k (by omega)
 | true=>
  obtain ⟨A6,rv,pl,hz⟩:=I.tuple hq
  have hlen:=rv.length
  exact key A6 rv fun A1 E1 Q1 k=>ZAR pl k (by omega)
def jX (P:Program) (w:World):List V->Hp->VK->Prop:=fun xs H Q=>∃ (p:Addr) (f:Str->Bool) (n:Nat),xs=[.ref p]/\H p=some (UL P w p f n)/\n < 64/\∀ l ts,H l=none->ts.length=n->(∀ k,f k=true↔k∈ts)->sortedS ts=true->Q (.ref l) (upd H l (.lst (ts.map V.str)))
end
inductive Fq (K:ZCy) (H:Hp):Nat->V->V->Prop where
 | flat {d:Nat}{x y:V}:Dn x=true->Dn y=true->Cq x y=true->Fq K H d x y
 | same {d:Nat}{p:Addr}:Fq K H d (.ref p) (.ref p)
 | tup {d:Nat}{p q:Addr}{xs ys:List V}:A9 K H p xs->A9 K H q ys->xs.length=ys.length->(∀ (j:Nat) (x y:V),xs[j]?=some x->ys[j]?=some y->Fq K H d x y)->Fq K H (d+1) (.ref p) (.ref q)
theorem Fq.mono {K:ZCy}{H H':Hp}(s:A8 H H'){d:Nat}{x y:V}(h:Fq K H d x y):Fq K H' d x y:=by
 induction h with
 | flat a b c=>exact .flat a b c
 | same=>exact .same
 | tup a b c _ ih=>exact .tup (s.Ln a) (s.Ln b) c ih
section
variable {X:Cx}{pins:ZCz}{σ:St} {H:Hp}{s:Shared}
theorem V8 {A:Around}{xs ys:List V}{A6 C3:List Value}(r1:Vals xs A6) (r2:Vals ys C3) (hl:xs.length=ys.length)
  (h:∀ (j:Nat) (x y:V) (u v:Value),xs[j]?=some x->ys[j]?=some y->RelV x u->RelV y v->SeqAt.EqAt A s u v true) :
  ∀ j (h1:j < A6.toArray.size) (h2:j < C3.toArray.size),SeqAt.EqAt A s A6.toArray[j] C3.toArray[j] ((fun _=>true) j):=fun j h1 h2=>by
 have l1:=r1.length
 have l2:=r2.length
 have K2:j < A6.length:=by simpa using h1
 have UO:j < C3.length:=by simpa using h2
 have e1:xs[j]?=some (xs[j]'(by omega)):=B1 _
 have e2:ys[j]?=some (ys[j]'(by omega)):=B1 _
 obtain ⟨u,hu,ru⟩:=r1.get e1
 obtain ⟨v,hv,rv⟩:=r2.get e2
 rw [B1 K2] at hu
 rw [B1 UO] at hv
 have Td:A6[j]=u:=BU hu
 have N1:C3[j]=v:=BU hv
 have q:=h j _ _ u v e1 e2 ru rv
 rw [<- Td,<- N1] at q
 simpa using q
theorem cy {xs ys:List V}{A6 C3:List Value}(r1:Vals xs A6) (r2:Vals ys C3) (hl:xs.length=ys.length) :
  ((List.range (min A6.toArray.size C3.toArray.size)).all (fun _=>true) && A6.toArray.size == C3.toArray.size)=true:=by
 have l1:=r1.length
 have l2:=r2.length
 have e:A6.toArray.size=C3.toArray.size:=by simp only [Br];omega
 rw [e]
 simp
theorem hG (I:Inv X pins σ H s){d:Nat}{x y:V}(h:Fq X.K H d x y):∀ (A:Around) (u v:Value),RelV x u->RelV y v->A.units+d < cLine->SeqAt.EqAt A s u v true:=by
 induction h with
 | flat a b c=>
  intro A u v ru rv _
  have q:=WU (A:=A) (s:=s) ru rv a b
  rw [c] at q
  exact q
 | same=>
  intro A u v ru rv _
  cases ru;cases rv
  exact iz _
 | @tup d p q xs ys a b c _ ih=>
  intro A u v ru rv hu
  cases ru;cases rv
  by_cases e:p=q
  ·subst e;exact iz _
  ·obtain ⟨A6,r1,p1,z1⟩:=I.tuple a
   obtain ⟨C3,r2,p2,z2⟩:=I.tuple b
   have k:=SeqAt.RcAt.tuples (A:=A) (e:=fun _=>true) p1 p2 (by omega) (V8 r1 r2 c fun j x y u v hx hy ru rv=>ih j x y hx hy A.in1 u v ru rv (by show A.units+1+d < cLine;omega))
   rw [cy r1 r2 c] at k
   exact SeqAt.EqAt.of_refs e k
def Xj (K:ZCy) (neg:Bool):R2:=fun x y H Q=>∃ p q xs ys,x=.ref p/\y=.ref q/\A9 K H p xs/\A9 K H q ys/\xs.length=ys.length/\(∀ (j:Nat) (x y:V),xs[j]?=some x->ys[j]?=some y->Fq K H 8 x y)/\Q (.bl (!neg)) H
theorem kM (hu:X.A.units+64 < cLine):BB X (compareOp .NotEq) (Xj X.K true):=by
 intro pins s σ H x y v u Q I rx ry h
 obtain ⟨p,q,xs,ys,rfl,rfl,ha,hb,hl,hE,hQ⟩:=h
 cases rx;cases ry
 obtain ⟨A6,r1,p1,z1⟩:=I.tuple ha
 obtain ⟨C3,r2,p2,z2⟩:=I.tuple hb
 refine SeqAt.RcNeAt.tuples (e:=fun _=>true) p1 p2 (by omega) (V8 r1 r2 hl fun j x y u v hx hy ru rv=>hG I (hE j x y hx hy) X.A.in1 u v ru rv (by show X.A.units+1+8 < cLine;omega)) _ _ _ _ ⟨.bl false,H,I,?_,hQ⟩
 rw [cy r1 r2 hl]
 rfl
end
end L2
namespace MA
noncomputable def lets (n:Nat):List Nat:=if h:n < 26 then [97+n] else (97+n % 26) :: lets (n / 26)
termination_by n
decreasing_by omega
noncomputable def vals:List Nat->Nat
 | []=>0
 | c :: r=>(c - 97)+26 * vals r
theorem Le {n:Nat}(h:n < 26):lets n=[97+n]:=by unfold lets;simp [h]
theorem N5 {n:Nat}(h:¬ n < 26):lets n=(97+n % 26) :: lets (n / 26):=by rw [lets];simp [h]
theorem gs:∀ n,vals (lets n)=n:=by
 intro n
 induction n using Nat.strongRecOn with
 | _ n ih=>
  by_cases h:n < 26
  ·rw [Le h];simp [vals]
  ·rw [N5 h]
   have:=ih (n / 26) (by omega)
   simp only [vals,this]
   omega
theorem wW {a b:Nat}(h:lets a=lets b):a=b:=by rw [<- gs a,h,gs]
theorem SA (n:Nat):1<=(lets n).length:=by
 by_cases h:n < 26
 ·rw [Le h];simp
 ·rw [N5 h];simp
theorem Ox:∀ (k n:Nat),n < 26 ^ (k+1)->(lets n).length<=k+1
 | 0,n,h=>by rw [Le (by simpa using h)];simp
 | k+1,n,h=>by
  by_cases h1:n < 26
  ·rw [Le h1];simp
  ·rw [N5 h1]
   have:=Ox k (n / 26) (by rw [Nat.pow_succ] at h;exact Nat.div_lt_of_lt_mul (by rw [Nat.mul_comm];exact h))
   simp only [Bc];omega
theorem uR:∀ n,∀ c∈lets n,97<=c/\c<=122:=by
 intro n
 induction n using Nat.strongRecOn with
 | _ n ih=>
  by_cases h:n < 26
  ·rw [Le h];intro c hc;simp at hc;omega
  ·rw [N5 h]
   intro c hc
   rcases List.mem_cons.mp hc with e | e
   ·omega
   ·exact ih (n / 26) (by omega) c e
theorem Yt {α:Type} [DecidableEq α]:∀ (k:Nat) (f:Nat->α) (l:List α),(∀ i j,i < k->j < k->f i=f j->i=j)->(∀ i,i < k->f i∈l)->k<=l.length
 | 0,_,_,_,_=>Cc _
 | k+1,f,l,hi,hm=>by
  have h1:=hm k (YW k)
  have:=Yt k f (l.erase (f k)) (fun i j a b e=>hi i j (by omega) (by omega) e) (fun i a=>by
   have As:f i≠f k:=fun e=>by have:=hi i k (by omega) (by omega) e;omega
   exact (ZC6 As).mpr (hm i (by omega)))
  rw [ZC3 h1] at this
  have hp:=ZC4 h1
  omega
end MA
namespace Lw
open L2
def Ba (H:Hp) (p:Addr):Prop:=∃ a b:Int,H p=some (.lst [.int a,.int b])/\0<=a/\a < 10 ^ 256/\0<=b/\b < 2147483647
structure BJ (p:Addr) (H H':Hp):Prop where
 AN:Ba H' p
 same:Er p H H'
theorem BJ.trans {p:Addr}{H H1 H2:Hp}(a:BJ p H H1) (b:BJ p H1 H2):BJ p H H2:=⟨b.AN,a.same.trans b.same⟩
theorem BJ.of {p:Addr}{H H':Hp}(h:Ba H p) (s:A8 H H'):BJ p H H':=by
 obtain ⟨a,b,e,r⟩:=h
 exact ⟨⟨a,b,s _ _ e,r⟩,Er.of s⟩
theorem Ba.same {p:Addr}{H H':Hp}(h:Ba H p) (s:A8 H H'):Ba H' p:=(BJ.of h s).AN
theorem BJ.MX {K:ZCy}{p a:Addr}{H H':Hp}{xs:List V}(s:BJ p H H') (h:AE K H a xs) (As:a≠p):AE K H' a xs:=by
 rcases h with (h | ⟨o,h⟩) | h
 ·exact .inl (.inl (s.same _ _ As h))
 ·exact .inl (.inr ⟨o,s.same _ _ As h⟩)
 ·exact .inr h
theorem BJ.at' {p a:Addr}{H H':Hp}{o:HO}(s:BJ p H H') (h:H a=some o) (As:a≠p):H' a=some o:=s.same _ _ As h
theorem Lc {a:Int}(h0:-(10 ^ 20) < a) (h1:a < 10 ^ 20):a.natAbs < 2 ^ 1000:=by
 have h4:a.natAbs < 10 ^ 20:=by omega
 exact ig h4 (by decide +kernel)
def US (K:ZCy):Sp:=fun vs H Q _=>∃ (a:Addr) (ns:List Int) (k:Int),vs=[.ref a,.int k]/\AE K H a (ns.map V.int)/\0<=k/\k<=1000/\∀ p H',H p=none->A8 H H'->Ba H' p->Q (.ref p) H'
def Iy:Sp:=fun vs H Q _=>∃ (p:Addr) (m:Int),vs=[.ref p,.int m]/\Ba H p/\0 < m/\m < 10 ^ 18/\∀ r H',0<=r->r < m->BJ p H H'->Q (.int r) H'
noncomputable def Cw (l:List Nat):Str:=⟨l.toArray⟩
def ZE:Sp:=fun vs H Q _=>∃ r:Int,vs=[.int r]/\0<=r/\r < 26 ^ 8/\Q (.str (Cw (MA.lets r.toNat))) H
theorem Mm {α:Type} {xs:List α}{k:Int}{v:α}(h0:0<=k) (h:xs[k.toNat]?=some v):BX xs k=some v:=by
 have ek:k=((k.toNat:Nat):Int):=by omega
 have q:=SE h
 rw [<- ek] at q
 exact q
noncomputable abbrev HK:Str := "abcdefghijklmnopqrstuvwxyz"
theorem wI:∀ j,j < 26->HK.cps.toList[j]?=some (97+j):=by decide +kernel
theorem eL {k:Int}(h0:0<=k) (h1:k < 26):BX HK.cps.toList k=some (97+k.toNat):=Mm h0 (wI _ (by omega))
theorem aJ (l:List Nat) (c:Nat):Cw l++(⟨#[c]⟩:Str)=Cw (l++[c]):=by
 show (⟨l.toArray++#[c]⟩:Str)=⟨(l++[c]).toArray⟩
 simp
theorem Qr (l:List Nat):(Cw l).length=l.length:=by simp [Cw,Str.length]
theorem dZ {l:List Nat}:(V.str (Cw l)=V.str (Str.ofString ""))↔l=[]:=by
 constructor
 ·intro h
  injection h with h
  have h2:=congrArg (fun x=>x.cps.toList) h
  have e:(Str.ofString "").cps.toList=[]:=by decide +kernel
  rw [e] at h2
  simpa [Cw] using h2
 ·rintro rfl;rfl
theorem small {n:Nat}(h:n<=100000):n<=sizeLine:=Cs h (by decide +kernel)
theorem ZR {n k:Nat}{pre:List Nat}(h:pre++MA.lets k=MA.lets n):(0 < k / 26->(pre++[97+k % 26])++MA.lets (k / 26)=MA.lets n)/\(k / 26=0->pre++[97+k % 26]=MA.lets n):=by
 constructor
 ·intro h1
  rw [MA.N5 (by omega)] at h
  rw [<- h,CD];rfl
 ·intro h1
  have h2:k < 26:=by omega
  rw [MA.Le h2] at h
  rw [<- h,Nat.mod_eq_of_lt h2]
def Nm (x:Str):Prop:=1<=x.length/\x.length<=8/\∀ c∈x.cps.toList,97<=c/\c<=122
instance (x:Str):Decidable (Nm x):=by unfold Nm;exact inferInstance
theorem Gm (x:Str):x.length=x.cps.toList.length:=by simp [Str.length]
theorem SN {n:Nat}(h:n < 26 ^ 8):Nm (Cw (MA.lets n)):=by
 refine ⟨by rw [Qr];exact MA.SA n,by rw [Qr];exact MA.Ox 7 n h,fun c hc=>MA.uR n c (by simpa [Cw] using hc)⟩
noncomputable def menu:List Str:=["put", "take", "none", "ahead", "all", "over", "next", "a", "ab", "abc", "abcdefgh", "b", "step"]
theorem ZAq:∀ x∈menu,Nm x:=by decide +kernel
noncomputable def RY:List V:=[.str "put", .str "take", .str "none", .str "ahead", .str "all", .str "over", .str "next", .str "a", .str "ab", .str "abc", .str "abcdefgh", .str "b", .str "step"]
theorem vz {i:Int}(h0:0<=i) (h1:i < 13):∃ x,BX RY i=some (.str x)/\Nm x:=by
 have hl:menu.length=13:=rfl
 have hi:i.toNat < menu.length:=by omega
 have e:RY=menu.map V.str:=rfl
 refine ⟨menu[i.toNat],Mm h0 ?_,ZAq _ (OT hi)⟩
 rw [e,BF,B1 hi];rfl
theorem Mq {ns:List Str}{i:Int}(h0:0<=i) (h1:i < ns.length):∃ x,BX (ns.map V.str) i=some (.str x)/\x∈ns/\ns[i.toNat]?=some x:=by
 have hi:i.toNat < ns.length:=by omega
 exact ⟨ns[i.toNat],Mm h0 (by rw [BF,B1 hi];rfl),OT hi,B1 hi⟩
theorem Fo (ns:List Str):(ns.map V.str).all Dn=true:=by
 rw [HC];intro x hx
 obtain ⟨y,_,rfl⟩:=List.mem_map.mp hx;rfl
theorem KD (x:Str) (ns:List Str):Dv (.str x) (ns.map V.str)=decide (x∈ns):=by
 unfold Dv
 rw [OQ,List.any_eq_true,decide_eq_true_iff]
 constructor
 ·rintro ⟨v,hv,h⟩
  obtain ⟨y,hy,rfl⟩:=List.mem_map.mp hv
  have h':(y == x)=true:=h
  have:y=x:=by simpa using h'
  rw [<- this];exact hy
 ·intro h
  exact ⟨.str x,List.mem_map.mpr ⟨x,h,rfl⟩,by show (x == x)=true;simp⟩
theorem OO (xs:List V):Et xs []=decide (xs=[]):=by
 cases xs with
 | nil=>rfl
 | cons x r=>rw [LY (by simp)];simp
theorem zZ {x y:Str}(h:x.cps.toList=y.cps.toList):x=y:=by
 cases x;cases y;simp only [Str.mk.injEq];exact Array.toList_inj.mp h
theorem yQ (z:Str){a b:Nat}{lo hi:Option Int}(Ds:a<=b) (hb:b<=z.length) (e:Builtin.Str.strSliceIndices lo hi 1 z.length=Builtin.Str.strSliceIndices (some (a:Int)) (some (b:Int)) 1 z.length) :
  (Txt.slice z lo hi).cps.toList=(z.cps.toList.drop a).take (b - a):=by
 have q:=StrLaws.sliced_plain z Ds hb
 rw [<- e] at q
 unfold Txt.slice
 split
 ·rename_i h
  have hl:(Builtin.Str.strSliceIndices lo hi 1 z.length).length=z.length:=by simpa using h
  rw [e,StrLaws.strSliceIndices_plain Ds hb,AV,List.length_range] at hl
  have h1:a=0:=by omega
  have h2:b=z.length:=by omega
  subst h1;subst h2
  rw [iP,ik,Gm,MP]
 ·rw [<- q]
theorem kU (z:Str){j:Int}(h:0<=j):(Txt.slice z none (some j)).cps.toList=z.cps.toList.take j.toNat:=by
 have e:=yQ z (a:=0) (b:=min j.toNat z.length) (lo:=none) (hi:=some j) (Cc _) (ZCC _ _) (by
  have h1:¬ j < 0:=by omega
  have h2:¬ (((min j.toNat z.length:Nat):Int) < 0):=by omega
  have h3:max (0:Int) (min j (z.length:Int))=max 0 (min ((min j.toNat z.length:Nat):Int) (z.length:Int)):=by omega
  simp only [Builtin.Str.strSliceIndices,h1,h2,if_false,h3]
  rfl)
 rw [e,iP,ik]
 rcases ie j.toNat z.length with h1 | h1
 ·rw [Ry h1]
 ·rw [ij h1,Gm,MP,Rw (by rw [<- Gm];exact h1)]
theorem gL {z:Str}{j:Int}(h:1<=j) (hj:j<=8) (hz:1<=z.length) (hc:∀ c∈z.cps.toList,97<=c/\c<=122):Nm (Txt.slice z none (some j)):=by
 have e:=kU z (j:=j) (by omega)
 refine ⟨?_,?_,fun c Fm=>hc c ?_⟩
 ·rw [Gm,e,CF,<- Gm];omega
 ·rw [Gm,e,CF];omega
 ·rw [e] at Fm;exact iZ Fm
theorem gH (x y:Str):(x++y).cps.toList=x.cps.toList++y.cps.toList:=by
 show (x.cps++y.cps).toList=_
 simp
theorem fB (x y:Str):(x++y).length=x.length+y.length:=by rw [Gm,gH,Bm,<- Gm,<- Gm]
def Na (K:ZCy):Sp:=fun vs H Q _=>∃ (p q:Addr) (ns:List Str),vs=[.ref p,.ref q]/\Ba H p/\AE K H q (ns.map V.str)/\q≠p/\(∀ x∈ns,Nm x)/\ns.length<=1000/\∀ x H',Nm x->x∉ns->BJ p H H'->Q (.str x) H'
theorem oA {ns:List Str}{k:Nat}(h:∀ j,j < k->Cw (MA.lets j)∈ns):k<=ns.length:=
 MA.Yt k (fun j=>Cw (MA.lets j)) ns (fun i j _ _ e=>MA.wW (by
  have:=congrArg (fun x=>x.cps.toList) e
  simpa [Cw] using this)) h
theorem jv:1000 < 26 ^ 8:=by decide +kernel
theorem xJ:(1000:Int) < 26 ^ 8:=by decide +kernel
theorem zS:(26:Int) ^ (8:Int).toNat - 26 < 26 ^ 8:=by decide +kernel
theorem zB:(26:Int) < 26 ^ 8:=by decide +kernel
theorem ua:(0:Int) < 26 ^ (8:Int).toNat - 26:=by decide +kernel
theorem lH:(26:Int) ^ (8:Int).toNat - 26 < 10 ^ 18:=by decide +kernel
theorem dN {r:Int}(h0:0<=r) (h:r < 26 ^ 8):r.toNat < 26 ^ 8:=by omega
theorem BJ.upd {p l:Addr}{H H2:Hp}{o:HO}(s:BJ p H H2) (h:H l=none) (As:l≠p):BJ p H (upd H2 l o):=by
 obtain ⟨a,b,e,r⟩:=s.AN
 refine ⟨⟨a,b,by rw [Aj (BS As)];exact e,r⟩,fun c u hc q=>?_⟩
 rw [Aj (EN q h)]
 exact s.same c u hc q
theorem BJ.none {p l:Addr}{H H2:Hp}(s:BJ p H H2) (h:H2 l=none):H l=none:=by
 cases q:H l with
 | none=>rfl
 | some o=>
  by_cases e:l=p
  ·obtain ⟨a,b,e2,_⟩:=s.AN
   rw [<- e,h] at e2;cases e2
  ·rw [s.same l o e q] at h;cases h
theorem Ba.ne {p l:Addr}{H:Hp}(h:Ba H p) (hl:H l=none):l≠p:=by
 obtain ⟨_,_,e,_⟩:=h
 exact (EN e hl).symm
theorem A8.none {l:Addr}{H H2:Hp}(s:A8 H H2) (h:H2 l=none):H l=none:=by
 cases q:H l with
 | none=>rfl
 | some o=>rw [s l o q] at h;cases h
def hZ:Sp:=fun vs H Q _=>∃ (p:Addr) (m:Int),vs=[.ref p,.int m]/\Ba H p/\0<=m/\m<=100/\
 ∀ l H' (ns:List Str),H l=none->BJ p H H'->H' l=some (.lst (ns.map V.str))->(ns.length:Int)=m->(∀ x∈ns,Nm x)->ns.Nodup->Q (.ref l) H'
def VP:Sp:=fun vs H Q _=>∃ (p:Addr) (m:Int),vs=[.ref p,.int m]/\Ba H p/\1<=m/\m<=100/\
 ∀ l H' (ns:List Str),H l=none->BJ p H H'->H' l=some (.lst (ns.map V.str))->(ns.length:Int)<=m->(∀ x∈ns,Nm x)->ns.Nodup->Q (.ref l) H'
theorem P0 {α:Type} {l:List α}{x:α}(h:l.Nodup) (hx:x∉l):(l++[x]).Nodup:=by
 rw [Cb]
 exact ⟨h,by simp,fun a ha b hb=>by
  have:b=x:=by simpa using hb
  subst this
  rintro rfl
  exact hx ha⟩
theorem qN {m j:Int}(h0:0<=j) (h1:j < 3) (hm:1<=m):∃ k:Int,BX [V.int 0,V.int 1,V.int m] j=some (.int k)/\0<=k/\k<=m:=by
 have:j=0∨j=1∨j=2:=by omega
 rcases this with rfl | rfl | rfl
 ·exact ⟨0,rfl,by omega,by omega⟩
 ·exact ⟨1,rfl,by omega,by omega⟩
 ·exact ⟨m,rfl,by omega,by omega⟩
noncomputable def Kf (c:Nat):Bool:=!(Builtin.Str.occurrences HK ⟨#[c]⟩ 0 HK.length 1).isEmpty
noncomputable def isNm (x:Str):Bool:=decide ((1:Int)<=x.length) && (decide ((x.length:Int)<=8) && x.cps.toList.all Kf)
def Ke:Sp:=fun vs H Q _=>∃ x:Str,vs=[.str x]/\x.length<=1000/\∀ H',A8 H H'->Q (.bl (isNm x)) H'
theorem pG {α:Type} (l:List α):l.filter (fun _=>true)=l:=List.filter_eq_self.mpr fun _ _=>rfl
noncomputable def Ww:V->V
 | .str y=>.bl (!(Builtin.Str.occurrences HK y 0 HK.length 1).isEmpty)
 | _=>.bl false
theorem bG (x:Str):((GN x).filter (fun _=>true)).map Ww=(x.cps.toList.map Kf).map V.bl:=by
 unfold GN
 rw [pG,HD,HD]
 rfl
theorem signs_get {x:Str}{i:Nat}{v:V}(h:(GN x)[i]?=some v):∃ c,v=.str ⟨#[c]⟩:=by
 unfold GN at h
 rw [BF] at h
 cases q:x.cps.toList[i]? with
 | none=>rw [q] at h;cases h
 | some c=>rw [q] at h;simp at h;exact ⟨c,h.symm⟩
theorem all_map {α:Type} (f:α->Bool) (l:List α):(l.map f).all id=l.all f:=by rw [iN];rfl
theorem MD {ss:List Str}{i:Nat}{v:V}(h:(ss.map V.str)[i]?=some v):∃ x,v=.str x/\x∈ss:=by
 rw [BF] at h
 cases q:ss[i]? with
 | none=>rw [q] at h;cases h
 | some x=>rw [q] at h;simp at h;exact ⟨x,h.symm,CG q⟩
theorem ZAM (xs:List Str):Et (xs.map V.str) (xs.map V.str)=true:=by
 rw [MC rfl,HC]
 intro j hj
 have L8:j < xs.length:=by simpa using hj
 have e:(xs.map V.str)[j]?=some (.str xs[j]):=by rw [BF,B1 L8];rfl
 rw [Nf e];show (xs[j] == xs[j])=true;simp
theorem Yz (K:ZCy) (t:String):PySem.W.kitOne K (.type t) (.type t)=some true:=by
 unfold PySem.W.kitOne;rw [if_pos (by simp)]
def ON (K:ZCy):Sp:=fun vs H Q _=>∃ (a:Addr) (ns:List Int),vs=[.ref a]/\AE K H a (ns.map V.int)/\ns.length<=63/\∀ H',Q (.bl true) H'
inductive AJ where
 | put (x:Str) (i:Nat) | take (x:Str) | move (x:Str) (i:Nat) | turn (lo hi:Nat)
noncomputable def AJ.vals:AJ->List V
 | .put x i=>[.str "put", .str x,.int i]
 | .take x=>[.str "take", .str x]
 | .move x i=>[.str "move", .str x,.int i]
 | .turn lo hi=>[.str "turn", .int lo,.int hi]
def AJ.Ok (m:Nat) (ns:List Str):AJ->Prop
 | .put x i=>Nm x/\x∉ns/\i<=ns.length/\ns.length < m
 | .take x=>x∈ns
 | .move x i=>x∈ns/\i < ns.length
 | .turn lo hi=>lo<=hi/\hi<=ns.length
noncomputable def ins (ns:List Str) (x:Str) (i:Nat):List Str:=ns.take i++x :: ns.drop i
noncomputable def wo (ns:List Str) (x:Str):List Str:=ns.filter fun y=>!decide (y=x)
noncomputable def FE (ns:List Str) (lo hi:Nat):List Str:=ns.take lo++((ns.drop lo).take (hi - lo)).reverse++ns.drop hi
noncomputable def AJ.done (ns:List Str):AJ->List Str
 | .put x i=>ins ns x i
 | .take x=>wo ns x
 | .move x i=>ins (wo ns x) x i
 | .turn lo hi=>FE ns lo hi
noncomputable def AJ.back (ns:List Str):AJ->AJ
 | .put x _=>.take x
 | .take x=>.put x (ns.idxOf x)
 | .move x _=>.move x (ns.idxOf x)
 | .turn lo hi=>.turn lo hi
theorem Lj {ns:List Str}{x:Str}(h:x∉ns):wo ns x=ns:=by
 unfold wo
 rw [ZBw]
 intro y hy
 have:y≠x:=fun e=>h (e▸hy)
 simp [this]
theorem JQ {ns:List Str}{x y:Str}:y∈wo ns x↔y∈ns/\y≠x:=by
 unfold wo
 rw [iX]
 simp
theorem aV {ns:List Str}{x:Str}(h:ns.Nodup):(wo ns x).Nodup:=h.filter _
theorem eK (as bs:List Str) (x:Str):wo (as++bs) x=wo as x++wo bs x:=by unfold wo;rw [YM]
theorem bg (bs:List Str) (x:Str):wo (x :: bs) x=wo bs x:=by unfold wo;rw [YN];simp
theorem Ei {ns:List Str}{x:Str}(h:x∈ns):ns=ns.take (ns.idxOf x)++x :: ns.drop (ns.idxOf x+1):=by
 have hj:ns.idxOf x < ns.length:=List.idxOf_lt_length_iff.mpr h
 have e:ns[ns.idxOf x]=x:=YQ hj
 conv=>lhs;rw [<- L3 (ns.idxOf x) ns,iO hj,e]
theorem Z4 {ns:List Str}{x:Str}(h:x∈ns):x∉ns.take (ns.idxOf x):=by
 intro hm
 obtain ⟨m,Nz,e⟩:=List.mem_iff_getElem.mp hm
 rw [CF] at Nz
 rw [ZC1] at e
 exact TK x ns m (by omega) (by omega) e
theorem aa {ns:List Str}{x:Str}(h:x∈ns) (nd:ns.Nodup):x∉ns.drop (ns.idxOf x+1):=by
 rw [Ei h] at nd
 have h2:=(List.nodup_append.mp nd).2.1
 exact (List.nodup_cons.mp h2).1
theorem uK {ns:List Str}{x:Str}(h:x∈ns) (nd:ns.Nodup):wo ns x=ns.take (ns.idxOf x)++ns.drop (ns.idxOf x+1):=by
 conv=>lhs;rw [Ei h]
 rw [eK,bg,Lj (Z4 h),Lj (aa h nd)]
theorem Mg {ns:List Str}{x:Str}(h:x∈ns) (nd:ns.Nodup):(wo ns x).length+1=ns.length:=by
 have hj:ns.idxOf x < ns.length:=List.idxOf_lt_length_iff.mpr h
 rw [uK h nd,Bm,CF,E8]
 omega
theorem R4 {ns:List Str}{x:Str}{i:Nat}:(ins ns x i).length=ns.length+1:=by
 unfold ins
 rw [Bm,Bc,CF,E8]
 omega
theorem Q5 {ns:List Str}{x y:Str}{i:Nat}:y∈ins ns x i↔y=x∨y∈ns:=by
 unfold ins
 rw [Ie,HE]
 have:y∈ns↔y∈ns.take i∨y∈ns.drop i:=by rw [<- Ie,L3]
 rw [this]
 constructor
 ·rintro (h | h | h)
  ·exact .inr (.inl h)
  ·exact .inl h
  ·exact .inr (.inr h)
 ·rintro (h | h | h)
  ·exact .inr (.inl h)
  ·exact .inl h
  ·exact .inr (.inr h)
theorem Wh {ns:List Str}{x:Str}{i:Nat}(h:ns.Nodup) (hx:x∉ns):(ins ns x i).Nodup:=by
 unfold ins
 have e:(ns.take i++ns.drop i).Nodup:=by rw [L3];exact h
 obtain ⟨h1,h2,h3⟩:=List.nodup_append.mp e
 rw [Cb]
 refine ⟨h1,List.nodup_cons.mpr ⟨fun z=>hx (iY z),h2⟩,fun a ha b hb=>?_⟩
 rcases List.mem_cons.mp hb with z | z
 ·rw [z];rintro rfl;exact hx (iZ ha)
 ·exact h3 a ha b z
theorem aD {ns:List Str}{lo hi:Nat}(h1:lo<=hi) (h2:hi<=ns.length):(FE ns lo hi).length=ns.length:=by
 unfold FE
 rw [Bm,Bm,OU,CF,CF,E8,E8]
 omega
theorem fV {ns:List Str}{lo hi:Nat}(h1:lo<=hi):ns=ns.take lo++(ns.drop lo).take (hi - lo)++ns.drop hi:=by
 have:ns.drop hi=(ns.drop lo).drop (hi - lo):=by rw [List.drop_drop];congr 1;omega
 rw [this,CD,L3,L3]
theorem dW {ns:List Str}{lo hi:Nat}(h1:lo<=hi){y:Str}:y∈FE ns lo hi↔y∈ns:=by
 conv=>rhs;rw [fV (ns:=ns) h1]
 unfold FE
 simp only [Ie,List.mem_reverse]
theorem uB {ns:List Str}{lo hi:Nat}(h1:lo<=hi) (nd:ns.Nodup):(FE ns lo hi).Nodup:=by
 have p:List.Perm (FE ns lo hi) ns:=by
  conv=>rhs;rw [fV (ns:=ns) h1]
  unfold FE
  exact ((List.reverse_perm _).append_left _).append_right _
 exact p.nodup_iff.mpr nd
theorem AJ.step {m:Nat}{ns:List Str}{d:AJ}(h:d.Ok m ns) (nd:ns.Nodup) (hN:∀ x∈ns,Nm x) (hm:ns.length<=m) :
  (d.done ns).Nodup/\(∀ x∈d.done ns,Nm x)/\(d.done ns).length<=m:=by
 cases d with
 | put x i=>
  obtain ⟨h1,h2,h3,h4⟩:=h
  refine ⟨Wh nd h2,fun y hy=>?_,?_⟩
  ·rcases Q5.mp hy with e | e
   ·rw [e];exact h1
   ·exact hN y e
  ·show (ins ns x i).length<=m
   rw [R4];omega
 | take x=>
  refine ⟨aV nd,fun y hy=>hN y (JQ.mp hy).1,?_⟩
  have:=Mg h nd
  show (wo ns x).length<=m
  omega
 | move x i=>
  obtain ⟨h1,h2⟩:=h
  refine ⟨Wh (aV nd) (fun z=>(JQ.mp z).2 rfl),fun y hy=>?_,?_⟩
  ·rcases Q5.mp hy with e | e
   ·rw [e];exact hN x h1
   ·exact hN y (JQ.mp e).1
  ·have:=Mg h1 nd
   show (ins (wo ns x) x i).length<=m
   rw [R4];omega
 | turn lo hi=>
  obtain ⟨h1,h2⟩:=h
  exact ⟨uB h1 nd,fun y hy=>hN y ((dW h1).mp hy),by show (FE ns lo hi).length<=m;rw [aD h1 h2];exact hm⟩
theorem QP (xs:List V) (i:Nat):C4 xs none (some (i:Int))=xs.take i:=by
 unfold C4
 rw [HT.bL,HT.Of,iP,ik]
 rcases ie i xs.length with h | h
 ·rw [Ry h]
 ·rw [ij h,MP,Rw h]
theorem Pw (xs:List V) (i:Nat):C4 xs (some (i:Int)) none=xs.drop i:=by
 unfold C4
 rw [HT.bL,HT.Of]
 rcases ie i xs.length with h | h
 ·rw [Ry h,Rw (by rw [E8];omega)]
 ·rw [ij h,YX,ia,List.drop_of_length_le h]
theorem aN (xs:List V){i j:Nat}(hi:i<=j) (hj:j<=xs.length):C4 xs (some (i:Int)) (some (j:Int))=(xs.drop i).take (j - i):=by
 unfold C4
 rw [HT.Of,HT.Of,Ry hj,Ry (Cs hi hj)]
noncomputable def BI (tp:Bool) (xs:List V):HO:=match tp with
 | false=>.lst xs
 | true=>.tup xs
theorem BI.sq {K:ZCy}{tp:Bool}{H:Hp}{a:Addr}{xs:List V}(h:H a=some (BI tp xs)):CS K tp H a xs:=by
 cases tp
 ·exact AE.of h
 ·exact A9.of h
def Lb:Sp:=fun vs H Q _=>∃ (a:Addr) (tp:Bool) (ns:List Str) (x:Str),vs=[.ref a,.str x]/\H a=some (BI tp (ns.map V.str))/\x∈ns/\Q (.int (ns.idxOf x:Nat)) H
def aY:Sp:=fun vs H Q _=>∃ (a:Addr) (tp:Bool) (ns:List Str) (x:Str) (i:Nat),vs=[.ref a,.str x,.int i]/\H a=some (BI tp (ns.map V.str))/\(AJ.put x i).Ok 40 ns/\∀ H',A8 H H'->Q .AF H'
def fO:Sp:=fun vs H Q _=>∃ (a:Addr) (tp:Bool) (ns:List Str) (x:Str) (i:Nat),vs=[.ref a,.str x,.int i]/\H a=some (BI tp (ns.map V.str))/\(AJ.move x i).Ok 40 ns/\Q .AF H
def dD:Sp:=fun vs H Q _=>∃ (a:Addr) (tp:Bool) (ns:List Str) (lo hi:Nat),vs=[.ref a,.int lo,.int hi]/\H a=some (BI tp (ns.map V.str))/\(AJ.turn lo hi).Ok 40 ns/\Q .AF H
def aZ:Sp:=fun vs H Q _=>∃ (a t:Addr) (tp:Bool) (ns:List Str) (d:AJ),vs=[.ref a,.ref t]/\H a=some (BI tp (ns.map V.str))/\H t=some (.tup d.vals)/\d.Ok 40 ns/\∀ H',A8 H H'->Q .AF H'
def MJ (H:Hp) (Q:VK) (ns:List Str):Prop:=∀ l H',H l=none->A8 H H'->H' l=some (.lst (ns.map V.str))->Q (.ref l) H'
def eP:Sp:=fun vs H Q _=>∃ (a:Addr) (tp:Bool) (ns:List Str) (x:Str) (i:Nat),vs=[.ref a,.str x,.int i]/\H a=some (BI tp (ns.map V.str))/\ns.length<=1000/\MJ H Q (ins ns x i)
def bA:Sp:=fun vs H Q _=>∃ (a:Addr) (tp:Bool) (ns:List Str) (x:Str),vs=[.ref a,.str x]/\H a=some (BI tp (ns.map V.str))/\ns.length<=1000/\MJ H Q (wo ns x)
def Vi:Sp:=fun vs H Q _=>∃ (a t:Addr) (ns:List Str) (d:AJ),vs=[.ref a,.ref t]/\H a=some (.lst (ns.map V.str))/\H t=some (.tup d.vals)/\d.Ok 40 ns/\ns.length<=40/\ns.Nodup/\MJ H Q (d.done ns)
def R1:Sp:=fun vs H Q _=>∃ (p a:Addr) (m:Nat) (ns:List Str),vs=[.ref p,.ref a,.int m]/\Ba H p/\H a=some (.lst (ns.map V.str))/\a≠p/\(∀ x∈ns,Nm x)/\ns.length<=m/\1<=m/\m<=100/\
 ∀ (d:AJ) t H',H t=none->BJ p H H'->H' t=some (.tup d.vals)->d.Ok m ns->Q (.ref t) H'
theorem HH {c A B:Prop} [Decidable c] (h:c) (a:A):if c then A else B:=by rw [if_pos h];exact a
theorem B8 {c A B:Prop} [Decidable c] (h:¬ c) (b:B):if c then A else B:=by rw [if_neg h];exact b
theorem vq:∀ j,j < 26->Kf (97+j)=true:=by decide +kernel
theorem Tv {x:Str}(h:Nm x):isNm x=true:=by
 obtain ⟨h1,h2,h3⟩:=h
 unfold isNm
 rw [decide_eq_true (by omega),decide_eq_true (by omega),Kz,Kz,HC]
 intro c hc
 obtain ⟨a,b⟩:=h3 c hc
 have:=vq (c - 97) (by omega)
 have e:97+(c - 97)=c:=by omega
 rw [e] at this
 exact this
theorem Dk (ns:List Str):(ns.map V.str).length=ns.length:=AV _
noncomputable def HU (y:V):V->Bool:=fun v=>!decide (v=y)
theorem Nx (ns:List Str) (x:Str):((ns.map V.str).filter (HU (.str x))).map (fun v=>v)=(wo ns x).map V.str:=by
 unfold wo HU
 rw [iW,iQ]
 congr 1
 apply ZBv
 intro y _
 simp
theorem wH (ns:List Str) (i:Int):((ns.map V.str).filter (HU (.int i))).map (fun v=>v)=ns.map V.str:=by
 unfold HU
 rw [iW,ZBw]
 intro v hv
 obtain ⟨y,_,rfl⟩:=List.mem_map.mp hv
 rfl
theorem kX {H H':Hp}{l:Addr}{o:HO}(s:A8 H H') (h:H l=none):A8 H (upd H' l o):=fun b u q=>by rw [Aj (EN q h)];exact s b u q
theorem lU (K:ZCy):PySem.W.kitOne K (.type "int") (.type "bool")=some false:=by
 unfold PySem.W.kitOne;rw [if_neg (by decide)];with_unfolding_all rfl
end Lw
namespace Fz
open L2 Lw
inductive PV where
 | AF | bl (b:Bool) | int (i:Int) | str (x:Str) | lst (xs:List PV) | tup (xs:List PV)
 | Ao (ks:List Key) (xs:List PV) | obj (C:Addr) (ns:List Str) (xs:List PV) | exc (C:Addr) (ns:List Str) (xs:List PV) | con (a:Addr) (xs:List PV)
noncomputable def iC (a C:Addr) (dx:Option Addr):HO:=.ext fun h=>∃ ob vs,h.get? a=some ob/\ob.cls=.ref C/\ob.dict=dx/\ob.data=.fields vs
mutual
inductive Rep (F:Hp):V->PV->Prop where
 | AF:Rep F .AF .AF
 | bl (b:Bool):Rep F (.bl b) (.bl b)
 | int (i:Int):Rep F (.int i) (.int i)
 | str (x:Str):Rep F (.str x) (.str x)
 | lst {a:Addr}{vs:List V}{xs:List PV}:F a=some (.lst vs)->AU F vs xs->Rep F (.ref a) (.lst xs)
 | tup {a:Addr}{vs:List V}{xs:List PV}:F a=some (.tup vs)->AU F vs xs->Rep F (.ref a) (.tup xs)
 | Ao {a:Addr}{ks:List Key}{vs:List V}{xs:List PV}:F a=some (.dK (ks.zip vs))->ks.length=vs.length->AU F vs xs->Rep F (.ref a) (.Ao ks xs)
 | obj {a C dx:Addr}{ns:List Str}{vs:List V}{xs:List PV}:F a=some (.ins C dx (ns.zip vs))->F dx=some (.own a)->ns.length=vs.length->AU F vs xs->Rep F (.ref a) (.obj C ns xs)
 | con {a:Addr}{xs:List PV}:Rep F (.ref a) (.con a xs)
 | WO {a C:Addr}:F a=some (iC a C none)->Rep F (.ref a) (.exc C [] [])
 | exc {a C dx:Addr}{ns:List Str}{vs:List V}{xs:List PV}:F a=some (iC a C (some dx))->F dx=some (.xd (ns.zip vs))->ns.length=vs.length->AU F vs xs->Rep F (.ref a) (.exc C ns xs)
inductive AU (F:Hp):List V->List PV->Prop where
 | nil:AU F [] []
 | cons {v:V}{p:PV}{vs:List V}{ps:List PV}:Rep F v p->AU F vs ps->AU F (v :: vs) (p :: ps)
end
mutual
theorem Rep.mono {F F':Hp}(s:A8 F F'):∀ {v:V}{p:PV},Rep F v p->Rep F' v p
 | _,_,.AF=>.AF
 | _,_,.bl b=>.bl b
 | _,_,.int i=>.int i
 | _,_,.str x=>.str x
 | _,_,.lst h r=>.lst (s _ _ h) (AU.mono s r)
 | _,_,.tup h r=>.tup (s _ _ h) (AU.mono s r)
 | _,_,.Ao h e r=>.Ao (s _ _ h) e (AU.mono s r)
 | _,_,.obj h h2 e r=>.obj (s _ _ h) (s _ _ h2) e (AU.mono s r)
 | _,_,.con=>.con
 | _,_,.WO h=>.WO (s _ _ h)
 | _,_,.exc h h2 e r=>.exc (s _ _ h) (s _ _ h2) e (AU.mono s r)
theorem AU.mono {F F':Hp}(s:A8 F F'):∀ {vs:List V}{ps:List PV},AU F vs ps->AU F' vs ps
 | _,_,.nil=>.nil
 | _,_,.cons r t=>.cons (Rep.mono s r) (AU.mono s t)
end
theorem AU.length {F:Hp}:∀ {vs:List V}{ps:List PV},AU F vs ps->vs.length=ps.length
 | [],_,.nil=>rfl
 | _ :: _,_,.cons _ t=>by rw [Bc,Bc,AU.length t]
theorem AU.get {F:Hp}:∀ {vs:List V}{ps:List PV}{i:Nat}{p:PV},AU F vs ps->ps[i]?=some p->∃ v,vs[i]?=some v/\Rep F v p
 | _,_,_,_,.nil,e=>by simp at e
 | _,_,0,_,.cons r _,e=>by simp at e;subst e;exact ⟨_,rfl,r⟩
 | _,_,i+1,p,.cons _ t,e=>by
  obtain ⟨u,h1,h2⟩:=AU.get (i:=i) (p:=p) t (by simpa using e)
  exact ⟨u,by simpa using h1,h2⟩
theorem AU.get' {F:Hp}:∀ {vs:List V}{ps:List PV}{i:Nat}{v:V},AU F vs ps->vs[i]?=some v->∃ p,ps[i]?=some p/\Rep F v p
 | _,_,_,_,.nil,e=>by simp at e
 | _,_,0,_,.cons r _,e=>by simp at e;subst e;exact ⟨_,rfl,r⟩
 | _,_,i+1,p,.cons _ t,e=>by
  obtain ⟨u,h1,h2⟩:=AU.get' (i:=i) (v:=p) t (by simpa using e)
  exact ⟨u,by simpa using h1,h2⟩
theorem AU.append {F:Hp}:∀ {vs ws:List V}{ps qs:List PV},AU F vs ps->AU F ws qs->AU F (vs++ws) (ps++qs)
 | _,_,_,_,.nil,s=>s
 | _,_,_,_,.cons r t,s=>.cons r (AU.append t s)
theorem AU.take {F:Hp}:∀ {vs:List V}{ps:List PV}(n:Nat),AU F vs ps->AU F (vs.take n) (ps.take n)
 | _,_,0,_=>by simp only [ia];exact .nil
 | _,_,_+1,.nil=>.nil
 | _,_,n+1,.cons r t=>.cons r (AU.take n t)
theorem AU.drop {F:Hp}:∀ {vs:List V}{ps:List PV}(n:Nat),AU F vs ps->AU F (vs.drop n) (ps.drop n)
 | _,_,0,r=>r
 | _,_,_+1,.nil=>.nil
 | _,_,n+1,.cons _ t=>AU.drop n t
theorem AU.one {F:Hp}{v:V}{p:PV}(r:Rep F v p):AU F [v] [p]:=.cons r .nil
theorem AU.reverse {F:Hp}:∀ {vs:List V}{ps:List PV},AU F vs ps->AU F vs.reverse ps.reverse
 | _,_,.nil=>.nil
 | _,_,.cons r t=>by rw [YU,YU];exact (AU.reverse t).append (.one r)
def flat:PV->Bool
 | .lst _=>false
 | .tup _=>false
 | .Ao _ _=>false
 | .obj _ _ _=>false
 | .exc _ _ _=>false
 | .con _ _=>false
 | _=>true
def enc:PV->V
 | .bl b=>.bl b
 | .int i=>.int i
 | .str x=>.str x
 | _=>.AF
theorem Rep.enc {F:Hp}{v:V}{p:PV}(h:flat p=true) (r:Rep F v p):v=enc p:=by
 cases r <;> first | rfl | cases h
theorem uP {F:Hp}{p:PV}(h:flat p=true):Rep F (enc p) p:=by
 cases p with
 | AF=>exact .AF
 | bl b=>exact .bl b
 | int i=>exact .int i
 | str x=>exact .str x
 | lst xs=>cases h
 | tup xs=>cases h
 | Ao ks xs=>cases h
 | obj C ns xs=>cases h
 | exc C ns xs=>cases h
 | con a xs=>cases h
theorem AU.enc {F:Hp}:∀ {vs:List V}{ps:List PV},ps.all flat=true->AU F vs ps->vs=ps.map enc
 | _,_,_,.nil=>rfl
 | _,_,h,.cons r t=>by
  rw [YH,El] at h
  rw [Bq,<- Rep.enc h.1 r,<- AU.enc h.2 t]
theorem Tz {F:Hp}:∀ {ps:List PV},ps.all flat=true->AU F (ps.map enc) ps
 | [],_=>.nil
 | p :: r,h=>by
  rw [YH,El] at h
  exact .cons (uP h.1) (Tz h.2)
theorem Za {p:PV}(h:flat p=true):Dn (Fz.enc p)=true:=by cases p <;> first | rfl | cases h
theorem b8 (ns:List Str):(ns.map PV.str).all flat=true:=by
 rw [HC];intro x hx
 obtain ⟨y,_,rfl⟩:=List.mem_map.mp hx;rfl
theorem z9 (ns:List Int):(ns.map PV.int).all flat=true:=by
 rw [HC];intro x hx
 obtain ⟨y,_,rfl⟩:=List.mem_map.mp hx;rfl
theorem ZAb (ns:List Bool):(ns.map PV.bl).all flat=true:=by
 rw [HC];intro x hx
 obtain ⟨y,_,rfl⟩:=List.mem_map.mp hx;rfl
theorem VZ (ns:List Str):(ns.map PV.str).map Fz.enc=ns.map V.str:=by rw [HD];rfl
theorem yY (ns:List Bool):(ns.map PV.bl).map Fz.enc=ns.map V.bl:=by rw [HD];rfl
theorem rD (ns:List Int):(ns.map PV.int).map Fz.enc=ns.map V.int:=by rw [HD];rfl
theorem AU.strs {F:Hp}{vs:List V}{ns:List Str}(r:AU F vs (ns.map PV.str)):vs=ns.map V.str:=(r.enc (b8 ns)).trans (VZ ns)
theorem Kb {F:Hp}(ns:List Str):AU F (ns.map V.str) (ns.map PV.str):=by rw [<- VZ];exact Tz (b8 ns)
theorem AU.cN {F:Hp}{vs:List V}{ns:List Bool}(r:AU F vs (ns.map PV.bl)):vs=ns.map V.bl:=(r.enc (ZAb ns)).trans (yY ns)
inductive NK where
 | lst | Ao (ks:List Key) | obj (C dx:Addr) (ns:List Str)
def NK.ho:NK->List V->HO
 | .lst,vs=>.lst vs
 | .Ao ks,vs=>.dK (ks.zip vs)
 | .obj C dx ns,vs=>.ins C dx (ns.zip vs)
def NK.more:NK->List Addr
 | .obj _ dx _=>[dx]
 | _=>[]
def NK.side (k:NK) (a:Addr) (H:Hp):Prop:=match k with
 | .obj _ dx _=>H dx=some (.own a)
 | _=>True
def NK.fit (k:NK) (n:Nat):Prop:=match k with
 | .Ao ks=>ks.length=n
 | .obj _ _ ns=>ns.length=n
 | _=>True
inductive OV where
 | fz (p:PV)
 | tp (xs:List OV)
 | nd (k:NK) (a:Addr) (xs:List OV)
mutual
def OV.addrs:OV->List Addr
 | .fz _=>[]
 | .tp xs=>OV.Ai xs
 | .nd k a xs=>a :: (k.more++OV.Ai xs)
def OV.Ai:List OV->List Addr
 | []=>[]
 | x :: r=>x.addrs++OV.Ai r
end
mutual
def OV.pv:OV->PV
 | .fz p=>p
 | .tp xs=>.tup (OV.C8 xs)
 | .nd .lst _ xs=>.lst (OV.C8 xs)
 | .nd (.Ao ks) _ xs=>.Ao ks (OV.C8 xs)
 | .nd (.obj C _ ns) _ xs=>.obj C ns (OV.C8 xs)
def OV.C8:List OV->List PV
 | []=>[]
 | x :: r=>x.pv :: OV.C8 r
end
mutual
inductive BE (F H:Hp):V->OV->Prop where
 | fz {v:V}{p:PV}:Rep F v p->BE F H v (.fz p)
 | tp {a:Addr}{vs:List V}{xs:List OV}:F a=some (.tup vs)->Aq F H vs xs->BE F H (.ref a) (.tp xs)
 | nd {k:NK}{a:Addr}{vs:List V}{xs:List OV}:H a=some (k.ho vs)->k.side a H->k.fit vs.length->Aq F H vs xs->BE F H (.ref a) (.nd k a xs)
inductive Aq (F H:Hp):List V->List OV->Prop where
 | nil:Aq F H [] []
 | cons {v:V}{t:OV}{vs:List V}{ts:List OV}:BE F H v t->Aq F H vs ts->Aq F H (v :: vs) (t :: ts)
end
theorem OV.D6 {k:NK}{a:Addr}{xs:List OV}:(OV.nd k a xs).addrs=a :: (k.more++OV.Ai xs):=by rw [OV.addrs]
theorem OV.Hf {xs:List OV}:(OV.tp xs).addrs=OV.Ai xs:=by rw [OV.addrs]
theorem OV.HV {p:PV}:(OV.fz p).addrs=[]:=by rw [OV.addrs]
theorem OV.Cr {x:OV}{r:List OV}:OV.Ai (x :: r)=x.addrs++OV.Ai r:=by rw [OV.Ai]
theorem OV.Hw:OV.Ai []=[]:=by rw [OV.Ai]
theorem NK.Z2 {k:NK}{a:Addr}{H H':Hp}(h:k.side a H) (s:∀ b∈k.more,∀ o,H b=some o->H' b=some o):k.side a H':=by
 cases k with
 | obj C dx ns=>exact s dx (by simp [NK.more]) _ h
 | _=>trivial
mutual
theorem BE.mono {F F' H H':Hp}(f:A8 F F'):∀ {v:V}{t:OV},BE F H v t->(∀ a∈t.addrs,∀ o,H a=some o->H' a=some o)->BE F' H' v t
 | _,_,.fz r,_=>.fz (r.mono f)
 | _,_,.tp h r,s=>by
  rw [OV.Hf] at s
  exact .tp (f _ _ h) (Aq.mono f r s)
 | _,_,.nd h sd ft r,s=>by
  rw [OV.D6] at s
  exact .nd (s _ (by simp) _ h) (NK.Z2 sd fun b hb=>s b (by simp [hb])) ft (Aq.mono f r fun a ha=>s a (by simp [ha]))
theorem Aq.mono {F F' H H':Hp}(f:A8 F F'):∀ {vs:List V}{ts:List OV},Aq F H vs ts->(∀ a∈OV.Ai ts,∀ o,H a=some o->H' a=some o)->Aq F' H' vs ts
 | _,_,.nil,_=>.nil
 | _,_,.cons r t,s=>by
  rw [OV.Cr] at s
  exact .cons (BE.mono f r fun a ha=>s a (by simp [ha])) (Aq.mono f t fun a ha=>s a (by simp [ha]))
end
mutual
theorem BE.there {F H:Hp}:∀ {v:V}{t:OV},BE F H v t->∀ a∈t.addrs,H a≠none
 | _,_,.fz _,a,ha=>by rw [OV.addrs] at ha;cases ha
 | _,_,.tp _ r,a,ha=>by rw [OV.Hf] at ha;exact Aq.there r a ha
 | _,_,@BE.nd _ _ k b vs xs h sd ft r,a,ha=>by
  rw [OV.D6,HE,Ie] at ha
  rcases ha with rfl | ha | ha
  ·rw [h];simp
  ·cases k with
   | obj C dx ns=>
    have e:a=dx:=by simpa [NK.more] using ha
    subst e
    have UC:H a=some (.own b):=sd
    rw [UC];simp
   | _=>simp [NK.more] at ha
  ·exact Aq.there r a ha
theorem Aq.there {F H:Hp}:∀ {vs:List V}{ts:List OV},Aq F H vs ts->∀ a∈OV.Ai ts,H a≠none
 | _,_,.nil,a,ha=>by rw [OV.Hw] at ha;cases ha
 | _,_,.cons r t,a,ha=>by
  rw [OV.Cr,Ie] at ha
  rcases ha with ha | ha
  ·exact BE.there r a ha
  ·exact Aq.there t a ha
end
theorem Aq.length {F H:Hp}:∀ {vs:List V}{ts:List OV},Aq F H vs ts->vs.length=ts.length
 | [],_,.nil=>rfl
 | _ :: _,_,.cons _ t=>by rw [Bc,Bc,Aq.length t]
inductive Slot where
 | any | is (p:PV) | own (xs:List PV) | AN | sq (tp:Bool) (xs:List PV) | raw (P:Hp->V->Prop) | ow (lt:Bool) (t:OV)
structure Ent0 where
 A:List Addr
 F0:Hp
 H0:Hp
 B:List Addr
abbrev E3 (A:List Addr) (F H:Hp):Ent0:=⟨A,F,H,[]⟩
def Ok (E:Ent0) (F H:Hp):Slot->Option (Option V)->Prop
 | .any,_=>True
 | .is p,o=>∃ v,o=some (some v)/\Rep F v p
 | .own xs,o=>∃ l vs,o=some (some (.ref l))/\F l=none/\E.H0 l=none/\H l=some (.lst vs)/\AU F vs xs
 | .AN,o=>∃ l,o=some (some (.ref l))/\F l=none/\(E.H0 l=none∨l∈E.A)/\Ba H l
 | .sq true xs,o=>∃ v,o=some (some v)/\Rep F v (.tup xs)
 | .sq false xs,o=>∃ l vs,o=some (some (.ref l))/\(l∉E.A/\l∉E.B)/\E.H0 l=some (.lst vs)/\AU F vs xs
 | .raw P,o=>∃ v,o=some (some v)/\P F v/\∀ F F',A8 F F'->P F v->P F' v
 | .ow lt t,o=>∃ v,o=some (some v)/\BE F H v t/\t.addrs.Nodup/\∀ a∈t.addrs,F a=none/\(E.H0 a=none∨(lt=true/\a∈E.B))
def BL:Slot->Option (Option V)->Addr->Prop
 | .own _,o,l=>o=some (some (.ref l))
 | .AN,o,l=>o=some (some (.ref l))
 | .ow _ t,_,l=>l∈t.addrs
 | _,_,_=>False
structure Fin (E:Ent0) (F H:Hp):Prop where
 fh:A8 F H
 f0:A8 E.F0 F
 keep:∀ a o,(a∉E.A/\a∉E.B)->E.H0 a=some o->H a=some o
 fresh:∀ a o,F a=some o->E.F0 a=some o∨E.H0 a=none
 GI:∀ a,a∈E.A->Ba H a
 K6:∀ a,a∈E.A->F a=none
 a0:∀ a,a∈E.A->E.H0 a≠none
 bF:∀ a,a∈E.B->F a=none
 bH:∀ a,a∈E.B->H a≠none
 b0:∀ a,a∈E.B->E.H0 a≠none/\a∉E.A
structure Sg (E:Ent0) (ss:List Slot) (σ:L2.St) (F H:Hp):Prop extends Fin E F H where
 len:ss.length=σ.length
 ok:∀ (i:Nat) s,ss[i]?=some s->Ok E F H s σ[i]?
 By:∀ (i j:Nat) s u l,i≠j->ss[i]?=some s->ss[j]?=some u->BL s σ[i]? l->¬ BL u σ[j]? l
structure Ex where
 C:Addr
 ns:List Str
 xs:List PV
def Ex.at (x:Ex) (F:Hp) (C:Value) (dx:Option Addr):Prop:=
 C=.ref x.C/\((x.ns=[]/\x.xs=[]/\dx=none)∨∃ a vs,dx=some a/\F a=some (.xd (x.ns.zip vs))/\x.ns.length=vs.length/\AU F vs x.xs)
class Xw where
 e:L2.St->XK
 J:List Slot->Prop
 D:Ex->Prop
structure Ent [Xw] extends Ent0 where
 hx:∀ (ss:List Slot) (σ:L2.St) (F H:Hp) (x:Ex) (C:Value) (dx:Option Addr),Xw.J ss->Sg toEnt0 ss σ F H->Xw.D x->x.at F C dx->Xw.e σ C dx H
instance [Xw]:CoeOut Ent Ent0:=⟨Ent.toEnt0⟩
instance noX:Xw:=⟨fun _=>E0,fun _=>True,fun _=>False⟩
def Cd (ss:List Slot) (σ:L2.St) (a:Addr):Prop:=∀ i:Nat,ss[i]?=some .AN->σ[i]?≠some (some (.ref a))
structure Mv (E:Ent0) (ss:List Slot) (σ:L2.St) (F H F' H':Hp):Prop where
 st:Sg E ss σ F' H'
 ff:A8 F F'
 hh:∀ a o,Cd ss σ a->H a=some o->H' a=some o
 nn:∀ a o,F' a=some o->F a=some o∨H a=none
theorem Sg.NA {E:Ent0}{ss:List Slot}{σ:L2.St} {F H:Hp}(S:Sg E ss σ F H){l:Addr}(h:H l=none):Cd ss σ l:=fun i hi e=>by
 obtain ⟨l',e1,_,_,_,_,e2,_⟩:=S.ok i _ hi
 rw [e] at e1
 cases e1
 rw [h] at e2;cases e2
theorem Mv.none {E:Ent0}{ss:List Slot}{σ:L2.St} {F H F' H':Hp}(m:Mv E ss σ F H F' H'){a:Addr}(h:H' a=none):H a=none:=by
 cases e:H a with
 | none=>rfl
 | some o=>rw [m.hh a o (m.st.NA h) e] at h;cases h
theorem Mv.refl {E:Ent0}{ss:List Slot}{σ:L2.St} {F H:Hp}(S:Sg E ss σ F H):Mv E ss σ F H F H:=⟨S,A8.refl _,fun _ _ _ e=>e,fun _ _ e=>.inl e⟩
theorem Mv.trans {E:Ent0}{ss:List Slot}{σ:L2.St} {F H F1 H1 F2 H2:Hp}(a:Mv E ss σ F H F1 H1) (b:Mv E ss σ F1 H1 F2 H2):Mv E ss σ F H F2 H2:=
 ⟨b.st,a.ff.trans b.ff,fun c o n e=>b.hh c o n (a.hh c o n e),fun c o e=>(b.nn c o e).elim (fun e=>a.nn c o e) fun e=>.inr (a.none e)⟩
section
variable {E:Ent0}{ss:List Slot}{σ:L2.St} {F H F' H':Hp}
theorem Sg.Dz (S:Sg E ss σ F H){p:Addr}(h:H p=none):E.H0 p=none:=by
 cases e:E.H0 p with
 | none=>rfl
 | some o=>
  by_cases q:p∈E.A
  ·obtain ⟨_,_,e1,_⟩:=S.GI p q
   rw [h] at e1;cases e1
  ·by_cases qb:p∈E.B
   ·exact absurd h (S.bH p qb)
   ·rw [S.keep p o ⟨q,qb⟩ e] at h;cases h
theorem Sg.Bb (S:Sg E ss σ F H){p:Addr}(h:H p=none):F p=none:=A8.none S.fh h
theorem Ba.keep {H H':Hp}{l:Addr}(h:Ba H l) (k:∀ o,H l=some o->H' l=some o):Ba H' l:=by
 obtain ⟨a,b,e,r⟩:=h
 exact ⟨a,b,k _ e,r⟩
theorem Sg.cF (S:Sg E ss σ F H){l:Addr}{o:HO}(h:F l=some o):Cd ss σ l:=fun i hi e=>by
 obtain ⟨l',e1,e2,_⟩:=S.ok i _ hi
 rw [e] at e1
 cases e1
 rw [h] at e2;cases e2
theorem Sg.ZW (S:Sg E ss σ F H){l:Addr}{o:HO}(hA:l∉E.A) (h:E.H0 l=some o):Cd ss σ l:=fun i hi e=>by
 obtain ⟨l',e1,_,q,_⟩:=S.ok i _ hi
 rw [e] at e1
 cases e1
 rcases q with q | q
 ·rw [h] at q;cases q
 ·exact hA q
theorem Sg.ZAP (S:Sg E ss σ F H){l:Addr}(h:l∈E.B):Cd ss σ l:=fun i hi e=>by
 obtain ⟨l',e1,_,q,_⟩:=S.ok i _ hi
 rw [e] at e1
 cases e1
 obtain ⟨h0,hA⟩:=S.b0 l h
 rcases q with q | q
 ·exact h0 q
 ·exact hA q
theorem Sg.EI (S:Sg E ss σ F H){i:Nat}{s:Slot}{l:Addr}(h:ss[i]?=some s) (m:BL s σ[i]? l):H l≠none:=by
 have k:=S.ok i s h
 cases s with
 | own xs=>obtain ⟨l',vs,e1,_,_,e2,_⟩:=k;rw [show σ[i]?=some (some (.ref l)) from m] at e1;cases e1;rw [e2];simp
 | AN=>obtain ⟨l',e1,_,_,_,_,e2,_⟩:=k;rw [show σ[i]?=some (some (.ref l)) from m] at e1;cases e1;rw [e2];simp
 | ow lt t=>obtain ⟨v,_,r,_⟩:=k;exact r.there l m
 | _=>cases m
theorem Sg.ZAD (S:Sg E ss σ F H){i:Nat}{s:Slot}{l:Addr}(h:ss[i]?=some s) (m:BL s σ[i]? l):F l=none:=by
 have k:=S.ok i s h
 cases s with
 | own xs=>obtain ⟨l',vs,e1,e2,_⟩:=k;rw [show σ[i]?=some (some (.ref l)) from m] at e1;cases e1;exact e2
 | AN=>obtain ⟨l',e1,e2,_⟩:=k;rw [show σ[i]?=some (some (.ref l)) from m] at e1;cases e1;exact e2
 | ow lt t=>obtain ⟨v,_,r,_,q⟩:=k;exact (q l m).1
 | _=>cases m
theorem Sg.Rc (S:Sg E ss σ F H){i:Nat}{s:Slot}{l:Addr}(h:ss[i]?=some s) (hl:H l=none):¬ BL s σ[i]? l:=fun m=>S.EI h m hl
theorem Sg.LL (S:Sg E ss σ F H){i:Nat}{s:Slot}{l:Addr}(h:ss[i]?=some s) (m:BL s σ[i]? l) (np:s≠.AN):Cd ss σ l:=fun j hj ej=>
 S.By i j s _ l (by rintro rfl;rw [h] at hj;exact np (BU hj)) h hj m ej
theorem Ok.go (S:Sg E ss σ F H){i:Nat}{s:Slot}(hi:ss[i]?=some s) (ff:A8 F F') (hk:∀ a o,BL s σ[i]? a->H a=some o->H' a=some o) (Bb:∀ a,H a≠none->F a=none->F' a=none) (np:s≠.AN):Ok E F' H' s σ[i]?:=by
 have k:=S.ok i s hi
 cases s with
 | any=>trivial
 | is p=>obtain ⟨v,e,r⟩:=k;exact ⟨v,e,r.mono ff⟩
 | own xs=>
  obtain ⟨l,vs,e,e1,e2,e3,r⟩:=k
  exact ⟨l,vs,e,Bb l (by rw [e3];simp) e1,e2,hk l _ e e3,r.mono ff⟩
 | AN=>exact absurd rfl np
 | sq tp xs=>
  cases tp with
  | true=>obtain ⟨v,e,r⟩:=k;exact ⟨v,e,r.mono ff⟩
  | false=>obtain ⟨l,vs,e,e1,e2,r⟩:=k;exact ⟨l,vs,e,e1,e2,r.mono ff⟩
 | raw P=>obtain ⟨v,e,r,st⟩:=k;exact ⟨v,e,st _ _ ff r,st⟩
 | ow lt t=>
  obtain ⟨v,e,r,nd,q⟩:=k
  exact ⟨v,e,r.mono ff fun a ha o=>hk a o ha,nd,fun a ha=>⟨Bb a (r.there a ha) (q a ha).1,(q a ha).2⟩⟩
theorem Sg.step (S:Sg E ss σ F H) (ff:A8 F F') (fh:A8 F' H') (hk:∀ a o,Cd ss σ a->H a=some o->H' a=some o) (hn:∀ a o,F' a=some o->F a=some o∨H a=none)
  (hp:∀ (i:Nat) l,ss[i]?=some .AN->σ[i]?=some (some (.ref l))->Ba H' l):Mv E ss σ F H F' H':=by
 have Bb:∀ a,H a≠none->F a=none->F' a=none:=fun a h1 h2=>by
  cases e:F' a with
  | none=>rfl
  | some o=>
   rcases hn a o e with q | q
   ·rw [h2] at q;cases q
   ·exact absurd q h1
 have ZAg:∀ a,Ba H a->Cd ss σ a->Ba H' a:=fun a p n=>Ba.keep p fun o e=>hk a o n e
 refine ⟨⟨⟨fh,S.f0.trans ff,fun a o hA e=>?_,fun a o e=>?_,fun a hA=>?_,fun a hA=>?_,S.a0,fun a hB=>Bb a (S.bH a hB) (S.bF a hB),fun a hB=>?_,S.b0⟩,S.len,fun i s hi=>?_,S.By⟩,ff,hk,hn⟩
 ·exact hk a o (S.ZW hA.1 e) (S.keep a o hA e)
 ·rcases hn a o e with q | q
  ·exact S.fresh a o q
  ·exact .inr (S.Dz q)
 ·by_cases q:∃ i:Nat,ss[i]?=some .AN/\σ[i]?=some (some (.ref a))
  ·obtain ⟨i,q1,q2⟩:=q
   exact hp i a q1 q2
  ·exact ZAg a (S.GI a hA) fun i h1 h2=>q ⟨i,h1,h2⟩
 ·refine Bb a ?_ (S.K6 a hA)
  obtain ⟨_,_,e1,_⟩:=S.GI a hA
  rw [e1];simp
 ·obtain ⟨o,e⟩:=Option.ne_none_iff_exists'.mp (S.bH a hB)
  rw [hk a o (S.ZAP hB) e];simp
 ·by_cases np:s=.AN
  ·subst np
   obtain ⟨l,e,e1,e2,e3⟩:=S.ok i _ hi
   have Mr:=e3
   obtain ⟨_,_,e4,_⟩:=Mr
   exact ⟨l,e,Bb l (by rw [e4];simp) e1,e2,hp i l hi e⟩
  ·exact Ok.go S hi ff (fun a o m=>hk a o (S.LL hi m np)) Bb np
theorem Sg.E7 (S:Sg E ss σ F H){i:Nat}{l:Addr}(hi:ss[i]?=some .AN) (e:σ[i]?=some (some (.ref l))):Ba H l:=by
 obtain ⟨l',e1,_,_,p⟩:=S.ok i _ hi
 rw [e] at e1;cases e1;exact p
theorem Sg.alloc (S:Sg E ss σ F H){p:Addr}(h:H p=none) (o:HO):Mv E ss σ F H (upd F p o) (upd H p o):=by
 refine S.step (Ac (S.Bb h) _) (fun a u e=>?_) (fun a u _ e=>Ac h o a u e) (fun a u e=>?_) fun i l hi e=>Ba.keep (S.E7 hi e) fun u e=>Ac h o l u e
 ·by_cases q:a=p
  ·subst q;rw [AI] at e ⊢;exact e
  ·rw [Aj q] at e ⊢;exact S.fh a u e
 ·by_cases q:a=p
  ·subst q;exact .inr h
  ·rw [Aj q] at e;exact .inl e
theorem Sg.make (S:Sg E ss σ F H){p:Addr}(h:H p=none) (o:HO):Mv E ss σ F H F (upd H p o):=
 S.step (A8.refl _) (S.fh.trans (Ac h o)) (fun a u _ e=>Ac h o a u e) (fun a u e=>.inl e) fun i l hi e=>Ba.keep (S.E7 hi e) fun u e=>Ac h o l u e
theorem Sg.grow (S:Sg E ss σ F H) (s:A8 H H'):Mv E ss σ F H F H':=
 S.step (A8.refl _) (S.fh.trans s) (fun a u _ e=>s a u e) (fun a u e=>.inl e) fun i l hi e=>Ba.keep (S.E7 hi e) fun u e=>s l u e
theorem Sg.setG (S:Sg E ss σ F H){j:Nat}{s:Slot}{v:V}(AM:Ok E F H s (some (some v))) (ZD:∀ l,BL s (some (some v)) l->∀ (i:Nat) u,i≠j->ss[i]?=some u->¬ BL u σ[i]? l):Sg E (ss.set j s) (σ.set j (some v)) F H:=by
 refine ⟨S.toFin,by rw [MO,MO];exact S.len,fun i u hi=>?_,fun i k u w l Qj hi hk mu mw=>?_⟩
 ·by_cases q:i=j
  ·subst q
   have Al:i < ss.length:=by have:=(List.getElem?_eq_some_iff.mp hi).1;simpa using this
   rw [Ca Al] at hi
   cases hi
   rw [Ca (by rw [<- S.len];exact Al)]
   exact AM
  ·rw [CJ (BS q)] at hi ⊢
   exact S.ok i u hi
 ·by_cases q:i=j
  ·subst q
   have Al:i < ss.length:=by have:=(List.getElem?_eq_some_iff.mp hi).1;simpa using this
   rw [Ca Al] at hi
   rw [Ca (by rw [<- S.len];exact Al)] at mu
   cases hi
   rw [CJ Qj] at hk mw
   exact ZD l mu k w (BS Qj) hk mw
  ·rw [CJ (BS q)] at hi mu
   by_cases q2:k=j
   ·subst q2
    have Al:k < ss.length:=by have:=(List.getElem?_eq_some_iff.mp hk).1;simpa using this
    rw [Ca Al] at hk
    cases hk
    rw [Ca (by rw [<- S.len];exact Al)] at mw
    exact ZD l mw i u Qj hi mu
   ·rw [CJ (BS q2)] at hk mw
    exact S.By i k u w l Qj hi hk mu mw
theorem Sg.FD (S:Sg E ss σ F H){j:Nat}{v:V}{p:PV}(r:Rep F v p):Sg E (ss.set j (.is p)) (σ.set j (some v)) F H:=S.setG ⟨v,rfl,r⟩ fun _ h=>by cases h
end
def Sv (ss:List Slot) (σ:L2.St) (F H:Hp) (v:V):Bool->List PV->Prop
 | true,xs=>Rep F v (.tup xs)
 | false,xs=>∃ l vs,v=.ref l/\Cd ss σ l/\H l=some (.lst vs)/\AU F vs xs
def Fv (E:Ent0) (F:Hp) (v:V):Bool->List PV->Prop
 | true,xs=>Rep F v (.tup xs)
 | false,xs=>∃ l vs,v=.ref l/\(F l=some (.lst vs)∨((l∉E.A/\l∉E.B)/\E.H0 l=some (.lst vs)))/\AU F vs xs
structure Wp [Xw] (ss:List Slot) (t:TE) (k:PV->Prop):Prop where
 go:∀ (E:Ent) (σ:L2.St) (F H:Hp) (Q:VK),Sg E ss σ F H->(∀ v p F' H',Mv E ss σ F H F' H'->Rep F' v p->k p->Q v H')->t σ H Q
structure Wn [Xw] (ss:List Slot) (t:TE) (k:List PV->Prop):Prop where
 go:∀ (E:Ent) (σ:L2.St) (F H:Hp) (Q:VK),Sg E ss σ F H->(∀ l vs xs F' H',Mv E ss σ F H F' H'->F' l=none->H l=none->H' l=some (.lst vs)->AU F' vs xs->k xs->Q (.ref l) H')->t σ H Q
structure Wq [Xw] (ss:List Slot) (t:TE) (k:Bool->List PV->Prop):Prop where
 go:∀ (E:Ent) (σ:L2.St) (F H:Hp) (Q:VK),Sg E ss σ F H->(∀ v tp xs F' H',Mv E ss σ F H F' H'->Sv ss σ F' H' v tp xs->k tp xs->Q v H')->t σ H Q
structure Wz [Xw] (ss:List Slot) (t:TE) (k:Bool->List PV->Prop):Prop where
 go:∀ (E:Ent) (σ:L2.St) (F H:Hp) (Q:VK),Sg E ss σ F H->(∀ v tp xs F' H',Mv E ss σ F H F' H'->Fv E F' v tp xs->k tp xs->Q v H')->t σ H Q
structure Wt [Xw] (ss:List Slot) (t:TT) (k:Bool->Prop):Prop where
 go:∀ (E:Ent) (σ:L2.St) (F H:Hp) (Q:Bool->Hp->Prop),Sg E ss σ F H->(∀ b F' H',Mv E ss σ F H F' H'->k b->Q b H')->t σ H Q
def Av (ss:List Slot) (σ:L2.St) (F H:Hp) (v:V):Slot->Prop
 | .is p=>Rep F v p
 | .sq tp xs=>Sv ss σ F H v tp xs
 | .raw P=>P F v/\∀ F F',A8 F F'->P F v->P F' v
 | _=>False
inductive FQ (ss:List Slot) (σ:L2.St) (F H:Hp):List V->List Slot->Prop where
 | nil:FQ ss σ F H [] []
 | cons {v:V}{s:Slot}{vs:List V}{l:List Slot}:Av ss σ F H v s->FQ ss σ F H vs l->FQ ss σ F H (v :: vs) (s :: l)
structure Wa [Xw] (ss:List Slot) (t:TA) (k:List Slot->Prop):Prop where
 go:∀ (E:Ent) (σ:L2.St) (F H:Hp) (Q:List V->Hp->Prop),Sg E ss σ F H->(∀ vs l F' H',Mv E ss σ F H F' H'->FQ ss σ F' H' vs l->k l->Q vs H')->t σ H Q
inductive Ay where
 | is (k:PV->Prop) | new (k:List PV->Prop) | AN | ow (k:OV->Prop) | mt (k:PV->OV->Prop)
def OV.val:OV->V
 | .nd _ a _=>.ref a
 | _=>.AF
def Ay.ok (R:Ay) (E:Ent0) (F' H':Hp) (v:V):Prop:=match R with
 | .is k=>∃ p,Rep F' v p/\k p
 | .new k=>∃ l vs xs,v=.ref l/\F' l=none/\E.H0 l=none/\H' l=some (.lst vs)/\AU F' vs xs/\k xs
 | .AN=>∃ l,v=.ref l/\F' l=none/\E.H0 l=none/\Ba H' l
 | .ow k=>∃ t,BE F' H' v t/\t.addrs.Nodup/\(∀ a∈t.addrs,F' a=none/\E.H0 a=none)/\k t
 | .mt k=>∃ p t,Rep F' v p/\BE F' H' t.val t/\t.addrs.Nodup/\(∀ a∈t.addrs,F' a=none/\(E.H0 a=none∨a∈E.B))/\k p t
structure Ws [Xw] (ss:List Slot) (t:TS) (nx:List Slot->Prop) (R:Ay):Prop where
 go:∀ (E:Ent) (D:Ends) (σ:L2.St) (F H:Hp),Sg E ss σ F H->(∀ AQ σ' F' H',nx AQ->Sg E AQ σ' F' H'->A8 F F'->D.nx σ' H')->(∀ v F' H',Fin E F' H'->R.ok E F' H' v->D.rt v H')->t D σ H
section
variable [Xw]
variable {E:Ent0}{ss:List Slot}{σ:L2.St} {F H F' H':Hp}{K:ZCy}{ta tb tc te:TE}{k:PV->Prop}{v:V}{tp:Bool}{xs:List PV}{nx:List Slot->Prop}{R:Ay}
theorem Sv.mv (h:Sv ss σ F H v tp xs) (m:Mv E ss σ F H F' H'):Sv ss σ F' H' v tp xs:=by
 cases tp with
 | true=>exact Rep.mono m.ff h
 | false=>
  obtain ⟨l,vs,e,n,r,q⟩:=h
  exact ⟨l,vs,e,n,m.hh l _ n r,q.mono m.ff⟩
theorem Sv.seq (S:Sg E ss σ F H) (h:Sv ss σ F H v tp xs):∃ l vs,v=.ref l/\H l=some (BI tp vs)/\AU F vs xs:=by
 cases tp with
 | true=>cases h with | tup e r=>exact ⟨_,_,rfl,S.fh _ _ e,r⟩
 | false=>obtain ⟨l,vs,e,_,r,q⟩:=h;exact ⟨l,vs,e,r,q⟩
theorem Fv.sv (S:Sg E ss σ F H) (h:Fv E F v tp xs):Sv ss σ F H v tp xs:=by
 cases tp with
 | true=>exact h
 | false=>
  obtain ⟨l,vs,e,h1 | ⟨hA,h1⟩,r⟩:=h
  ·exact ⟨l,vs,e,S.cF h1,S.fh _ _ h1,r⟩
  ·exact ⟨l,vs,e,S.ZW hA.1 h1,S.keep _ _ hA h1,r⟩
theorem Fv.mono (h:Fv E F v tp xs) (s:A8 F F'):Fv E F' v tp xs:=by
 cases tp with
 | true=>exact Rep.mono s h
 | false=>
  obtain ⟨l,vs,e,h1,r⟩:=h
  exact ⟨l,vs,e,h1.imp (fun h=>s _ _ h) id,r.mono s⟩
theorem Av.mv {s:Slot}(h:Av ss σ F H v s) (m:Mv E ss σ F H F' H'):Av ss σ F' H' v s:=by
 cases s with
 | is p=>exact Rep.mono m.ff h
 | sq tp xs=>exact Sv.mv h m
 | raw P=>exact ⟨h.2 _ _ m.ff h.1,h.2⟩
 | _=>exact h
theorem FQ.mv {vs:List V}{l:List Slot}(h:FQ ss σ F H vs l) (m:Mv E ss σ F H F' H'):FQ ss σ F' H' vs l:=by
 induction h with
 | nil=>exact .nil
 | cons a _ ih=>exact .cons (a.mv m) ih
theorem Wp.mono {k':PV->Prop}(h:Wp ss te k) (i:∀ p,k p->k' p):Wp ss te k':=⟨fun E σ F H Q S q=>h.go E σ F H Q S fun v p F' H' m r kk=>q v p F' H' m r (i p kk)⟩
theorem AO {i:Nat}{p:PV}(h:ss[i]?=some (.is p)) (hk:k p):Wp ss (BG i) k:=⟨fun E σ F H Q S q=>by
 obtain ⟨v,hv,r⟩:=S.ok i _ h
 exact ⟨v,hv,q v p F H (.refl S) r hk⟩⟩
theorem Bg {i:Int}(hk:k (.int i)):Wp ss (tC (.int i)) k:=⟨fun E σ F H Q S q=>q _ _ F H (.refl S) (.int i) hk⟩
theorem EW {x:Str}(hk:k (.str x)):Wp ss (tC (.str x)) k:=⟨fun E σ F H Q S q=>q _ _ F H (.refl S) (.str x) hk⟩
theorem Cg {b:Bool}(hk:k (.bl b)):Wp ss (tC (.bl b)) k:=⟨fun E σ F H Q S q=>q _ _ F H (.refl S) (.bl b) hk⟩
theorem qX (hk:k .AF):Wp ss (tC .AF) k:=⟨fun E σ F H Q S q=>q _ _ F H (.refl S) .AF hk⟩
theorem EJ (h:Wn ss te (fun xs=>k (.lst xs))):Wp ss te k:=⟨fun E σ F H Q S q=>h.go E σ F H Q S fun l vs xs F' H' m fl hl DC r kk=>by
 have S':=m.st
 have fr:Mv E ss σ F H (upd F' l (.lst vs)) H':=by
  have nF:∀ a,H' a≠none->a≠l->F' a=none->upd F' l (.lst vs) a=none:=fun a _ h1 h2=>by rw [Aj h1];exact h2
  refine ⟨⟨⟨fun a u e=>?_,S'.f0.trans (Ac fl _),S'.keep,fun a u e=>?_,S'.GI,fun a hA=>?_,S'.a0,fun a hB=>?_,S'.bH,S'.b0⟩,S'.len,fun i s hi=>?_,S'.By⟩,m.ff.trans (Ac fl _),m.hh,fun a u e=>?_⟩
  ·by_cases q:a=l
   ·subst q;rw [AI] at e;rw [<- e];exact DC
   ·rw [Aj q] at e;exact S'.fh a u e
  ·by_cases q:a=l
   ·subst q;exact .inr (S.Dz hl)
   ·rw [Aj q] at e;exact S'.fresh a u e
  ·by_cases q:a=l
   ·subst q
    obtain ⟨_,_,e,_⟩:=S.GI _ hA
    rw [hl] at e;cases e
   ·rw [Aj q];exact S'.K6 a hA
  ·by_cases q:a=l
   ·subst q;exact absurd hl (S.bH _ hB)
   ·rw [Aj q];exact S'.bF a hB
  ·have WY:∀ a,BL s σ[i]? a->a≠l:=by
    rintro a m rfl;exact S.Rc hi hl m
   have kk:=S'.ok i s hi
   cases s with
   | any=>trivial
   | is p=>obtain ⟨v,e,r⟩:=kk;exact ⟨v,e,r.mono (Ac fl _)⟩
   | own ys=>
    obtain ⟨l',ws,e,e1,e2,e3,r⟩:=kk
    exact ⟨l',ws,e,by rw [Aj (WY l' e)];exact e1,e2,e3,r.mono (Ac fl _)⟩
   | AN=>
    obtain ⟨l',e,e1,e2,e3⟩:=kk
    exact ⟨l',e,by rw [Aj (WY l' e)];exact e1,e2,e3⟩
   | sq tp ys=>
    cases tp with
    | true=>obtain ⟨v,e,r⟩:=kk;exact ⟨v,e,r.mono (Ac fl _)⟩
    | false=>obtain ⟨l',ws,e,e1,e2,r⟩:=kk;exact ⟨l',ws,e,e1,e2,r.mono (Ac fl _)⟩
   | raw P=>obtain ⟨v,e,r,st⟩:=kk;exact ⟨v,e,st _ _ (Ac fl _) r,st⟩
   | ow lt t=>
    obtain ⟨v,e,r,nd,q⟩:=kk
    exact ⟨v,e,r.mono (Ac fl _) fun a _ o h=>h,nd,fun a ha=>⟨by rw [Aj (WY a ha)];exact (q a ha).1,(q a ha).2⟩⟩
  ·by_cases q:a=l
   ·subst q;exact .inr hl
   ·rw [Aj q] at e;exact m.nn a u e
 exact q _ _ _ _ fr (.lst AI (r.mono (Ac fl _))) kk⟩
theorem BD {k:Bool->List PV->Prop}(h:Wp ss te (fun p=>∃ xs,(p=.lst xs/\k false xs)∨(p=.tup xs/\k true xs))):Wq ss te k:=⟨fun E σ F H Q S q=>h.go E σ F H Q S fun v p F' H' m r ⟨xs,h⟩=>by
 rcases h with ⟨rfl,kk⟩ | ⟨rfl,kk⟩
 ·cases r with | lst h r=>exact q _ false xs F' H' m ⟨_,_,rfl,m.st.cF h,m.st.fh _ _ h,r⟩ kk
 ·exact q v true xs F' H' m r kk⟩
theorem Vz {i:Nat}{k:Bool->List PV->Prop}(h:ss[i]?=some (.is (.lst xs))) (hk:k false xs):Wq ss (BG i) k:=BD (AO h ⟨xs,.inl ⟨rfl,hk⟩⟩)
theorem FH {i:Nat}{k:Bool->List PV->Prop}(h:ss[i]?=some (.is (.tup xs))) (hk:k true xs):Wq ss (BG i) k:=BD (AO h ⟨xs,.inr ⟨rfl,hk⟩⟩)
theorem pB {i:Nat}{k:Bool->List PV->Prop}(h:ss[i]?=some (.own xs)) (hk:k false xs):Wq ss (BG i) k:=⟨fun E σ F H Q S q=>by
 obtain ⟨l,vs,e,e1,e2,e3,r⟩:=S.ok i _ h
 exact ⟨_,e,q _ false xs F H (.refl S) ⟨l,vs,rfl,S.LL h e (by simp),e3,r⟩ hk⟩⟩
theorem cX {i:Nat}{k:Bool->List PV->Prop}(h:ss[i]?=some (.sq tp xs)) (hk:k tp xs):Wz ss (BG i) k:=⟨fun E σ F H Q S q=>by
 have kk:=S.ok i _ h
 cases tp with
 | true=>obtain ⟨v,e,r⟩:=kk;exact ⟨_,e,q _ true xs F H (.refl S) r hk⟩
 | false=>
  obtain ⟨l,vs,e,hA,h0,r⟩:=kk
  exact ⟨_,e,q _ false xs F H (.refl S) ⟨l,vs,rfl,.inr ⟨hA,h0⟩,r⟩ hk⟩⟩
theorem Hx {k:Bool->List PV->Prop}(h:Wp ss te (fun p=>∃ xs,(p=.lst xs/\k false xs)∨(p=.tup xs/\k true xs))):Wz ss te k:=⟨fun E σ F H Q S q=>h.go E σ F H Q S fun v p F' H' m r ⟨xs,h⟩=>by
 rcases h with ⟨rfl,kk⟩ | ⟨rfl,kk⟩
 ·cases r with | lst h r=>exact q _ false xs F' H' m ⟨_,_,rfl,.inl h,r⟩ kk
 ·exact q _ true xs F' H' m r kk⟩
theorem ag {k:Bool->List PV->Prop}(h:Wz ss te k):Wq ss te k:=⟨fun E σ F H Q S q=>h.go E σ F H Q S fun v tp xs F' H' m f kk=>q v tp xs F' H' m (f.sv m.st) kk⟩
theorem qF {i:Nat}{k:Bool->List PV->Prop}(h:ss[i]?=some (.sq tp xs)) (hk:k tp xs):Wq ss (BG i) k:=ag (cX h hk)
theorem kz {C:Int->Int->Prop}{f:Int->Int->Int}(h:Wp ss ta fun x=>∃ i,x=.int i/\Wp ss tb fun y=>∃ j,y=.int j/\C i j/\k (.int (f i j))):Wp ss (BQ (rI C fun i j=>.int (f i j)) ta tb) k:=⟨fun E σ F H Q S q=>
 h.go E σ F H _ S fun v p F1 H1 m1 r1 ⟨i,e1,h2⟩=>by
  subst e1;cases r1
  exact h2.go E σ F1 H1 _ m1.st fun v2 p2 F2 H2 m2 r2 ⟨j,e2,c,kk⟩=>by
   subst e2;cases r2
   exact ⟨i,j,rfl,rfl,c,q _ _ F2 H2 (m1.trans m2) (.int _) kk⟩⟩
theorem TX {f:Int->Int->Int}(h:Wp ss ta fun x=>∃ i,x=.int i/\Wp ss tb fun y=>∃ j,y=.int j/\k (.int (f i j))):Wp ss (BQ (G4 fun i j=>.int (f i j)) ta tb) k:=⟨fun E σ F H Q S q=>
 h.go E σ F H _ S fun v p F1 H1 m1 r1 ⟨i,e1,h2⟩=>by
  subst e1;cases r1
  exact h2.go E σ F1 H1 _ m1.st fun v2 p2 F2 H2 m2 r2 ⟨j,e2,kk⟩=>by
   subst e2;cases r2
   exact ⟨i,j,rfl,rfl,q _ _ F2 H2 (m1.trans m2) (.int _) kk⟩⟩
theorem FL {f:Int->Int->Bool}(h:Wp ss ta fun x=>∃ i,x=.int i/\Wp ss tb fun y=>∃ j,y=.int j/\k (.bl (f i j))):Wp ss (BQ (G4 fun i j=>.bl (f i j)) ta tb) k:=⟨fun E σ F H Q S q=>
 h.go E σ F H _ S fun v p F1 H1 m1 r1 ⟨i,e1,h2⟩=>by
  subst e1;cases r1
  exact h2.go E σ F1 H1 _ m1.st fun v2 p2 F2 H2 m2 r2 ⟨j,e2,kk⟩=>by
   subst e2;cases r2
   exact ⟨i,j,rfl,rfl,q _ _ F2 H2 (m1.trans m2) (.bl _) kk⟩⟩
theorem xX {f:Int->Int}(h:Wp ss ta fun x=>∃ i,x=.int i/\k (.int (f i))):Wp ss (om (rU fun i=>.int (f i)) ta) k:=⟨fun E σ F H Q S q=>
 h.go E σ F H _ S fun v p F1 H1 m1 r1 ⟨i,e1,kk⟩=>by
  subst e1;cases r1
  exact ⟨i,rfl,q _ _ F1 H1 m1 (.int _) kk⟩⟩
def alike:PV->PV->Bool
 | .int i,.int j=>decide (i=j)
 | .str i,.str j=>decide (i=j)
 | .bl i,.bl j=>decide (i=j)
 | .AF,.AF=>true
 | _,_=>false
noncomputable def M5 (p q:PV):Bool:=flat p && flat q && MT (Fz.enc p) (Fz.enc q)
theorem ZY {p q:PV}(h:M5 p q=true):decide (Fz.enc p=Fz.enc q)=alike p q:=by
 unfold M5 at h
 rw [El,El] at h
 obtain ⟨⟨h1,h2⟩,h3⟩:=h
 cases p <;> cases q <;> first | (simp [Fz.enc,alike];done) | (simp [flat] at h1;done) | (simp [flat] at h2;done) | (simp [Fz.enc,MT] at h3;done)
theorem vO (h:Wp ss ta fun x=>Wp ss tb fun y=>M5 x y=true/\k (.bl (alike x y))):Wp ss (BQ Zs ta tb) k:=⟨fun E σ F H Q S q=>
 h.go E σ F H _ S fun v p F1 H1 m1 r1 h2=>h2.go E σ F1 H1 _ m1.st fun v2 p2 F2 H2 m2 r2 ⟨sc,kk⟩=>by
  have UQ:=sc
  unfold M5 at sc
  rw [El,El] at sc
  rw [r1.enc sc.1.1,r2.enc sc.1.2]
  refine ⟨sc.2,?_⟩
  rw [ZY UQ]
  exact q _ _ F2 H2 (m1.trans m2) (.bl _) kk⟩
theorem zi (h:Wp ss ta fun x=>Wp ss tb fun y=>M5 x y=true/\k (.bl (!alike x y))):Wp ss (BQ Yo ta tb) k:=⟨fun E σ F H Q S q=>
 h.go E σ F H _ S fun v p F1 H1 m1 r1 h2=>h2.go E σ F1 H1 _ m1.st fun v2 p2 F2 H2 m2 r2 ⟨sc,kk⟩=>by
  have UQ:=sc
  unfold M5 at sc
  rw [El,El] at sc
  rw [r1.enc sc.1.1,r2.enc sc.1.2]
  refine ⟨sc.2,?_⟩
  rw [ZY UQ]
  exact q _ _ F2 H2 (m1.trans m2) (.bl _) kk⟩
theorem Z8 (h:Wp ss ta fun x=>∃ c,x=.bl c/\if c=true then Wp ss tb k else k (.bl false)):Wp ss (Sy ta tb) k:=⟨fun E σ F H Q S q=>
 h.go E σ F H _ S fun v p F1 H1 m1 r1 ⟨c,e,h2⟩=>by
  subst e;cases r1
  refine ⟨c,rfl,?_⟩
  cases c with
  | true=>rw [if_pos rfl] at h2 ⊢;exact h2.go E σ F1 H1 _ m1.st fun v2 p2 F2 H2 m2 r2 kk=>q _ _ F2 H2 (m1.trans m2) r2 kk
  | false=>rw [if_neg (by decide)] at h2 ⊢;exact q _ _ F1 H1 m1 (.bl _) h2⟩
theorem zL (h:Wp ss ta fun x=>∃ c,x=.bl c/\if c=true then k (.bl true) else Wp ss tb k):Wp ss (Tj ta tb) k:=⟨fun E σ F H Q S q=>
 h.go E σ F H _ S fun v p F1 H1 m1 r1 ⟨c,e,h2⟩=>by
  subst e;cases r1
  refine ⟨c,rfl,?_⟩
  cases c with
  | true=>rw [if_pos rfl] at h2 ⊢;exact q _ _ F1 H1 m1 (.bl _) h2
  | false=>rw [if_neg (by decide)] at h2 ⊢;exact h2.go E σ F1 H1 _ m1.st fun v2 p2 F2 H2 m2 r2 kk=>q _ _ F2 H2 (m1.trans m2) r2 kk⟩
theorem fJ (h:Wp ss ta fun x=>∃ c,x=.bl c/\k (.bl (!c))):Wp ss (YD ta) k:=⟨fun E σ F H Q S q=>
 h.go E σ F H _ S fun v p F1 H1 m1 r1 ⟨c,e,kk⟩=>by subst e;cases r1;exact ⟨c,rfl,q _ _ F1 H1 m1 (.bl _) kk⟩⟩
theorem ZAc {f g:Int->Int->Bool}(h:Wp ss ta fun x=>∃ i,x=.int i/\Wp ss tb fun y=>∃ j,y=.int j/\if f i j=true then Wp ss tc (fun z=>∃ l,z=.int l/\k (.bl (g j l))) else k (.bl false)) :
  Wp ss (O4 (G4 fun i j=>.bl (f i j)) (G4 fun i j=>.bl (g i j)) ta tb tc) k:=⟨fun E σ F H Q S q=>
 h.go E σ F H _ S fun v p F1 H1 m1 r1 ⟨i,e1,h2⟩=>by
  subst e1;cases r1
  exact h2.go E σ F1 H1 _ m1.st fun v2 p2 F2 H2 m2 r2 ⟨j,e2,h3⟩=>by
   subst e2;cases r2
   refine ⟨i,j,rfl,rfl,f i j,rfl,?_⟩
   cases c:f i j with
   | true=>
    rw [c,if_pos rfl] at h3
    rw [if_pos rfl]
    exact h3.go E σ F2 H2 _ m2.st fun v3 p3 F3 H3 m3 r3 ⟨l,e3,kk⟩=>by
     subst e3;cases r3
     exact ⟨j,l,rfl,rfl,q _ _ F3 H3 (m1.trans (m2.trans m3)) (.bl _) kk⟩
   | false=>
    rw [c,if_neg (by decide)] at h3
    rw [if_neg (by decide)]
    exact q _ _ F2 H2 (m1.trans m2) (.bl _) h3⟩
theorem DT {k:Bool->Prop}(h:Wp ss te fun x=>∃ c,x=.bl c/\k c):Wt ss (LB te) k:=⟨fun E σ F H Q S q=>
 h.go E σ F H _ S fun v p F1 H1 m1 r1 ⟨c,e,kk⟩=>by subst e;cases r1;exact ⟨c,rfl,q _ F1 H1 m1 kk⟩⟩
theorem EV {k:Bool->Prop}(h:Wp ss te fun x=>∃ c,x=.bl c/\k c):Wt ss (tB te) k:=⟨fun E σ F H Q S q=>
 h.go E σ F H _ S fun v p F1 H1 m1 r1 ⟨c,e,kk⟩=>by subst e;cases r1;exact ⟨c,rfl,q _ F1 H1 m1 kk⟩⟩
theorem dF {k:Bool->Prop}(h:k true):Wt ss WV k:=⟨fun E σ F H Q S q=>q _ F H (.refl S) h⟩
theorem KR {t:TT}{k:Bool->Prop}(h:Wt ss t fun c=>k (!c)):Wt ss (RG t) k:=⟨fun E σ F H Q S q=>h.go E σ F H _ S fun c F1 H1 m1 kk=>q _ F1 H1 m1 kk⟩
theorem vG {t u:TT}{k:Bool->Prop}(h:Wt ss t fun c=>if c=true then Wt ss u k else k false):Wt ss (Oy t u) k:=⟨fun E σ F H Q S q=>
 h.go E σ F H _ S fun c F1 H1 m1 h2=>by
  show if c=true then _ else _
  cases c with
  | true=>rw [if_pos rfl] at h2 ⊢;exact h2.go E σ F1 H1 _ m1.st fun c2 F2 H2 m2 kk=>q _ F2 H2 (m1.trans m2) kk
  | false=>rw [if_neg (by decide)] at h2 ⊢;exact q _ F1 H1 m1 h2⟩
theorem Gn {t u:TT}{k:Bool->Prop}(h:Wt ss t fun c=>if c=true then k true else Wt ss u k):Wt ss (SO t u) k:=⟨fun E σ F H Q S q=>
 h.go E σ F H _ S fun c F1 H1 m1 h2=>by
  show if c=true then _ else _
  cases c with
  | true=>rw [if_pos rfl] at h2 ⊢;exact q _ F1 H1 m1 h2
  | false=>rw [if_neg (by decide)] at h2 ⊢;exact h2.go E σ F1 H1 _ m1.st fun c2 F2 H2 m2 kk=>q _ F2 H2 (m1.trans m2) kk⟩
end
structure We [Xw] (ss:List Slot) (t:TA) (k:List PV->Prop):Prop where
 go:∀ (E:Ent) (σ:L2.St) (F H:Hp) (Q:List V->Hp->Prop),Sg E ss σ F H->(∀ vs ps F' H',Mv E ss σ F H F' H'->AU F' vs ps->k ps->Q vs H')->t σ H Q
structure Wo [Xw] (ss:List Slot) (t:TO) (k:Option Int->Prop):Prop where
 go:∀ (E:Ent) (σ:L2.St) (F H:Hp) (Q:Option Int->Hp->Prop),Sg E ss σ F H->(∀ o F' H',Mv E ss σ F H F' H'->k o->Q o H')->t σ H Q
section
variable [Xw]
variable {E:Ent0}{ss:List Slot}{σ:L2.St} {F H F' H':Hp}{K:ZCy}{ta tb tc te:TE}{k:PV->Prop}{v:V}{tp:Bool}{xs:List PV}{nx:List Slot->Prop}{R:Ay}
theorem IM {k:List PV->Prop}(h:k []):We ss Aw k:=⟨fun E σ F H Q S q=>q _ _ F H (.refl S) .nil h⟩
theorem Fh {k:List PV->Prop}{t:TA}(h:Wp ss te fun p=>We ss t fun ps=>k (p :: ps)):We ss (AS te t) k:=⟨fun E σ F H Q S q=>
 h.go E σ F H _ S fun v p F1 H1 m1 r1 h2=>h2.go E σ F1 H1 _ m1.st fun vs ps F2 H2 m2 r2 kk=>q _ _ F2 H2 (m1.trans m2) (.cons (r1.mono m2.ff) r2) kk⟩
theorem IS {k:List Slot->Prop}(h:k []):Wa ss Aw k:=⟨fun E σ F H Q S q=>q _ _ F H (.refl S) .nil h⟩
theorem FV {k:List Slot->Prop}{t:TA}(h:Wp ss te fun p=>Wa ss t fun l=>k (.is p :: l)):Wa ss (AS te t) k:=⟨fun E σ F H Q S q=>
 h.go E σ F H _ S fun v p F1 H1 m1 r1 h2=>h2.go E σ F1 H1 _ m1.st fun vs l F2 H2 m2 r2 kk=>q _ _ F2 H2 (m1.trans m2) (.cons (s:=.is p) (r1.mono m2.ff) r2) kk⟩
theorem lE {k:List Slot->Prop}{t:TA}(h:Wq ss te fun tp xs=>Wa ss t fun l=>k (.sq tp xs :: l)):Wa ss (AS te t) k:=⟨fun E σ F H Q S q=>
 h.go E σ F H _ S fun v tp xs F1 H1 m1 r1 h2=>h2.go E σ F1 H1 _ m1.st fun vs l F2 H2 m2 r2 kk=>q _ _ F2 H2 (m1.trans m2) (.cons (s:=.sq tp xs) (r1.mv m2) r2) kk⟩
theorem qP {k:List Slot->Prop}{t:TA}{i:Nat}{P:Hp->V->Prop}(hi:ss[i]?=some (.raw P)) (h:Wa ss t fun l=>k (.raw P :: l)):Wa ss (AS (BG i) t) k:=⟨fun E σ F H Q S q=>by
 obtain ⟨v,e,r,st⟩:=S.ok i _ hi
 exact ⟨v,e,h.go E σ F H _ S fun vs l F2 H2 m2 r2 kk=>q _ _ F2 H2 m2 (.cons (s:=.raw P) ⟨st _ _ m2.ff r,st⟩ r2) kk⟩⟩
theorem uk {k:Option Int->Prop}(h:k none):Wo ss YA k:=⟨fun E σ F H Q S q=>q _ F H (.refl S) h⟩
theorem mL {k:Option Int->Prop}(h:Wp ss te fun p=>∃ i,p=.int i/\k (some i)):Wo ss (Sh te) k:=⟨fun E σ F H Q S q=>
 h.go E σ F H _ S fun v p F1 H1 m1 r1 ⟨i,e,kk⟩=>by subst e;cases r1;exact ⟨i,rfl,q _ F1 H1 m1 kk⟩⟩
theorem Qs {n:Nat}(h:n<=99999):n < sizeLine:=EB (Nat.lt_succ_of_le h) (small (An 100000))
theorem M8 {t:TA}(h:We ss t fun ps=>ps.length<=100000/\k (.tup ps)):Wp ss (X7 t) k:=⟨fun E σ F H Q S q=>
 h.go E σ F H _ S fun vs ps F1 H1 m1 r1 ⟨hz,kk⟩=>⟨small (by rw [r1.length];exact hz),fun a ha=>by
  have m2:=m1.st.alloc ha (.tup vs)
  exact q _ _ _ _ (m1.trans m2) (.tup AI (r1.mono m2.ff)) kk⟩⟩
theorem aT {t:TA}{k:List PV->Prop}(h:We ss t fun ps=>ps.length<=100000/\k ps):Wn ss (RP t) k:=⟨fun E σ F H Q S q=>
 h.go E σ F H _ S fun vs ps F1 H1 m1 r1 ⟨hz,kk⟩=>⟨small (by rw [r1.length];exact hz),fun a ha=>by
  have m2:=m1.st.make ha (.lst vs)
  refine q a vs ps F1 _ (m1.trans m2) (m1.st.Bb ha) ?_ AI r1 kk
  cases e:H a with
  | none=>rfl
  | some o=>rw [m1.hh a o (m1.st.NA ha) e] at ha;cases ha⟩⟩
theorem CU (h:Wq ss te fun _ xs=>k (.int xs.length)):Wp ss (CB (QF K) (AS te Aw)) k:=⟨fun E σ F H Q S q=>
 h.go E σ F H _ S fun v tp xs F1 H1 m1 sv kk=>by
  obtain ⟨l,vs,rfl,hl,r⟩:=sv.seq m1.st
  refine ⟨l,vs,rfl,(BI.sq (K:=K) hl).or,?_⟩
  rw [r.length]
  exact q _ _ F1 H1 m1 (.int _) kk⟩
theorem AU.BX {vs:List V}{i:Int}{p:PV}(r:AU F vs xs) (h:L2.BX xs i=some p):∃ u,L2.BX vs i=some u/\Rep F u p:=by
 unfold L2.BX at h ⊢
 rw [r.length]
 cases e:G6 xs.length i with
 | none=>rw [e] at h;cases h
 | some j=>
  rw [e] at h
  exact r.get h
theorem jK (h:Wq ss ta fun tp xs=>tp=false/\Wp ss tb fun y=>∃ i p,y=.int i/\L2.BX xs i=some p/\k p):Wp ss (BQ (Mt K) ta tb) k:=⟨fun E σ F H Q S q=>
 h.go E σ F H _ S fun v tp xs F1 H1 m1 sv ⟨et,h2⟩=>h2.go E σ F1 H1 _ m1.st fun v2 p2 F2 H2 m2 r2 ⟨i,p,e,ha,kk⟩=>by
  subst e;cases r2;subst et
  obtain ⟨l,vs,rfl,hl,r⟩:=(sv.mv m2).seq m2.st
  obtain ⟨u,hu,ru⟩:=r.BX ha
  exact ⟨l,vs,i,u,rfl,rfl,AE.of hl,hu,q _ _ F2 H2 (m1.trans m2) ru kk⟩⟩
theorem EH (h:Wq ss ta fun tp xs=>tp=true/\Wp ss tb fun y=>∃ i p,y=.int i/\L2.BX xs i=some p/\k p):Wp ss (BQ (Jf K) ta tb) k:=⟨fun E σ F H Q S q=>
 h.go E σ F H _ S fun v tp xs F1 H1 m1 sv ⟨et,h2⟩=>h2.go E σ F1 H1 _ m1.st fun v2 p2 F2 H2 m2 r2 ⟨i,p,e,ha,kk⟩=>by
  subst e;cases r2;subst et
  obtain ⟨l,vs,rfl,hl,r⟩:=(sv.mv m2).seq m2.st
  obtain ⟨u,hu,ru⟩:=r.BX ha
  exact ⟨l,vs,i,u,rfl,rfl,A9.of hl,hu,q _ _ F2 H2 (m1.trans m2) ru kk⟩⟩
theorem xQ (h:Wq ss ta fun tp xs=>Wp ss tb fun y=>∃ i p,y=.int i/\L2.BX xs i=some p/\k p):Wp ss (BQ (fun x y H Q=>Mt K x y H Q∨Jf K x y H Q) ta tb) k:=⟨fun E σ F H Q S q=>
 h.go E σ F H _ S fun v tp xs F1 H1 m1 sv h2=>h2.go E σ F1 H1 _ m1.st fun v2 p2 F2 H2 m2 r2 ⟨i,p,e,ha,kk⟩=>by
  subst e;cases r2
  obtain ⟨l,vs,rfl,hl,r⟩:=(sv.mv m2).seq m2.st
  obtain ⟨u,hu,ru⟩:=r.BX ha
  cases tp with
  | false=>exact .inl ⟨l,vs,i,u,rfl,rfl,AE.of hl,hu,q _ _ F2 H2 (m1.trans m2) ru kk⟩
  | true=>exact .inr ⟨l,vs,i,u,rfl,rfl,A9.of hl,hu,q _ _ F2 H2 (m1.trans m2) ru kk⟩⟩
theorem Yk {neg:Bool}(h:Wp ss ta fun p=>∃ x,p=.str x/\Wq ss tb fun _ ys=>∃ ns:List Str,ys=ns.map PV.str/\k (.bl (if neg then !decide (x∈ns) else decide (x∈ns)))):Wp ss (BQ (Kr K neg) ta tb) k:=⟨fun E σ F H Q S q=>
 h.go E σ F H _ S fun v p F1 H1 m1 r1 ⟨x,e,h2⟩=>by
  subst e;cases r1
  exact h2.go E σ F1 H1 _ m1.st fun v2 tp ys F2 H2 m2 sv ⟨ns,e2,kk⟩=>by
   subst e2
   obtain ⟨l,vs,rfl,hl,r⟩:=sv.seq m2.st
   rw [r.strs] at hl
   refine ⟨l,_,rfl,(BI.sq (K:=K) hl).or,rfl,Fo ns,?_⟩
   rw [KD]
   exact q _ _ F2 H2 (m1.trans m2) (.bl _) kk⟩
theorem Nj {k:List PV->Prop}{r:List V->Hp->VK->Prop}(hr:r=fun xs H Q=>∃ p ys,xs=[.ref p]/\(AE K H p ys∨A9 K H p ys)/\∀ l,H l=none->Q (.ref l) (upd H l (.lst ys))) (h:Wq ss te fun _ xs=>k xs):Wn ss (CB r (AS te Aw)) k:=⟨fun E σ F H Q S q=>
 h.go E σ F H _ S fun v tp xs F1 H1 m1 sv kk=>by
  subst hr
  obtain ⟨l,vs,rfl,hl,r⟩:=sv.seq m1.st
  refine ⟨l,vs,rfl,(BI.sq (K:=K) hl).or,fun a ha=>?_⟩
  have m2:=m1.st.make ha (.lst vs)
  exact q a vs xs F1 _ (m1.trans m2) (m1.st.Bb ha) (m1.none ha) AI r kk⟩
theorem Xf {r:List V->Hp->VK->Prop}(hr:r=fun xs H Q=>∃ p ys,xs=[.ref p]/\((AE K H p ys/\∀ l,H l=none->Q (.ref l) (upd H l (.tup ys)))∨(A9 K H p ys/\Q (.ref p) H))) (h:Wq ss te fun _ xs=>k (.tup xs)):Wp ss (CB r (AS te Aw)) k:=⟨fun E σ F H Q S q=>
 h.go E σ F H _ S fun v tp xs F1 H1 m1 sv kk=>by
  subst hr
  cases tp with
  | false=>
   obtain ⟨l,vs,rfl,hl,r⟩:=sv.seq m1.st
   refine ⟨l,vs,rfl,.inl ⟨AE.of hl,fun a ha=>?_⟩⟩
   have m2:=m1.st.alloc ha (.tup vs)
   exact q _ _ _ _ (m1.trans m2) (.tup AI (r.mono m2.ff)) kk
  | true=>
   have SD:Rep F1 v (.tup xs):=sv
   cases SD with
   | tup e r=>exact ⟨_,_,rfl,.inr ⟨A9.of (m1.st.fh _ _ e),q _ _ F1 H1 m1 (.tup e r) kk⟩⟩⟩
theorem fD {k:List PV->Prop}(h:Wq ss ta fun tp xs=>tp=false/\Wq ss tb fun DY ys=>DY=false/\xs.length+ys.length<=100000/\k (xs++ys)):Wn ss (BQ Z3 ta tb) k:=⟨fun E σ F H Q S q=>
 h.go E σ F H _ S fun v tp xs F1 H1 m1 sv ⟨et,h2⟩=>h2.go E σ F1 H1 _ m1.st fun v2 DY ys F2 H2 m2 Hz ⟨KS,hz,kk⟩=>by
  subst et;subst KS
  obtain ⟨l,vs,rfl,hl,r⟩:=(sv.mv m2).seq m2.st
  obtain ⟨l2,GS,rfl,Ck,r2⟩:=Hz.seq m2.st
  refine ⟨l,l2,vs,GS,rfl,rfl,hl,Ck,small (by rw [r.length,r2.length];exact hz),fun a ha=>?_⟩
  have m3:=m2.st.make ha (.lst (vs++GS))
  exact q a _ _ F2 _ (m1.trans (m2.trans m3)) (m2.st.Bb ha) ((m1.trans m2).none ha) AI (r.append r2) kk⟩
noncomputable def G8 {α:Type} (xs:List α) (lo hi:Option Int):List α:=(xs.drop (HT.Ak xs.length 0 lo)).take (HT.Ak xs.length xs.length hi - HT.Ak xs.length 0 lo)
theorem AU.cut {vs:List V}(r:AU F vs xs) (lo hi:Option Int):AU F (C4 vs lo hi) (G8 xs lo hi):=by
 unfold C4 G8
 rw [r.length]
 exact (r.drop _).take _
theorem Zk {k:List PV->Prop}{tl th:TO}(h:Wq ss te fun tp xs=>tp=false/\Wo ss tl fun lo=>Wo ss th fun hi=>k (G8 xs lo hi)):Wn ss (LC (Ug K) te tl th) k:=⟨fun E σ F H Q S q=>
 h.go E σ F H _ S fun v tp xs F1 H1 m1 sv ⟨et,h2⟩=>h2.go E σ F1 H1 _ m1.st fun lo F2 H2 m2 h3=>h3.go E σ F2 H2 _ m2.st fun hi F3 H3 m3 kk=>by
  subst et
  obtain ⟨l,vs,rfl,hl,r⟩:=(sv.mv (m2.trans m3)).seq m3.st
  refine ⟨l,vs,rfl,AE.of hl,fun a ha=>?_⟩
  have m4:=m3.st.make ha (.lst (C4 vs lo hi))
  exact q a _ _ F3 _ (m1.trans (m2.trans (m3.trans m4))) (m3.st.Bb ha) ((m1.trans (m2.trans m3)).none ha) AI (r.cut lo hi) kk⟩
def h8 (tp:Bool) (xs:List PV):PV:=if tp then .tup xs else .lst xs
def QN (K:ZCy):V->Option Int->Option Int->Hp->VK->Prop:=fun x lo hi H Q=>Ug K x lo hi H Q∨df K x lo hi H Q
theorem rC {X:Cx}:GA X (QN X.K):=by
 intro pins s σ H x v vl vu lo hi sl Q I rx hs pl pu h
 rcases h with h | h
 ·exact Ir pins s σ H x v vl vu lo hi sl Q I rx hs pl pu h
 ·exact e9 pins s σ H x v vl vu lo hi sl Q I rx hs pl pu h
theorem bf {tl th:TO}(h:Wq ss te fun tp xs=>Wo ss tl fun lo=>Wo ss th fun hi=>k (h8 tp (G8 xs lo hi))):Wp ss (LC (QN K) te tl th) k:=⟨fun E σ F H Q S q=>
 h.go E σ F H _ S fun v tp xs F1 H1 m1 sv h2=>h2.go E σ F1 H1 _ m1.st fun lo F2 H2 m2 h3=>h3.go E σ F2 H2 _ m2.st fun hi F3 H3 m3 kk=>by
  have dQ:=sv.mv (m2.trans m3)
  have Ur:=m1.trans (m2.trans m3)
  cases tp with
  | false=>
   obtain ⟨l,vs,rfl,hl,r⟩:=dQ.seq m3.st
   refine .inl ⟨l,vs,rfl,AE.of hl,fun a ha=>?_⟩
   have m4:=m3.st.alloc ha (.lst (C4 vs lo hi))
   exact q _ _ _ _ (Ur.trans m4) (.lst AI ((r.cut lo hi).mono m4.ff)) kk
  | true=>
   have SD:Rep F3 v (.tup xs):=dQ
   cases SD with
   | @tup _ vs _ e r=>
    refine .inr ⟨_,vs,rfl,A9.of (m3.st.fh _ _ e),fun hw=>?_,fun hw a ha=>?_⟩
    ·have ew:G8 xs lo hi=xs:=by
      rw [r.length] at hw
      unfold G8;rw [hw.1,hw.2];simp
     refine q _ _ F3 H3 Ur (.tup e r) ?_
     have eB:=kk
     rw [ew] at eB
     exact eB
    ·have m4:=m3.st.alloc ha (.tup (C4 vs lo hi))
     exact q _ _ _ _ (Ur.trans m4) (.tup AI ((r.cut lo hi).mono m4.ff)) kk⟩
theorem zj {k:List PV->Prop}(h:Wq ss te fun _ xs=>∃ ns:List Str,xs=ns.map PV.str/\ns.length < 64/\∀ Bw:List Str,Bw.Perm ns->sortedS Bw=true->k (Bw.map PV.str)):Wn ss (CB (dC K) (AS te Aw)) k:=⟨fun E σ F H Q S q=>
 h.go E σ F H _ S fun v tp xs F1 H1 m1 sv ⟨ns,e,hz,kk⟩=>by
  subst e
  obtain ⟨l,vs,rfl,hl,r⟩:=sv.seq m1.st
  rw [r.strs] at hl
  refine ⟨l,tp,ns,rfl,BI.sq hl,hz,fun a Bw ha hp hs=>?_⟩
  have m2:=m1.st.make ha (.lst (Bw.map V.str))
  exact q a _ _ F1 _ (m1.trans m2) (m1.st.Bb ha) (m1.none ha) AI (Kb Bw) (kk Bw hp hs)⟩
theorem ou (xs ys:List Str):Et (xs.map V.str) (ys.map V.str)=decide (xs=ys):=by
 by_cases h:xs=ys
 ·subst h;rw [ZAM,decide_eq_true rfl]
 ·rw [decide_eq_false h]
  by_cases hl:xs.length=ys.length
  ·rw [MC (by simpa using hl)]
   cases c:(List.range (xs.map V.str).length).all fun j=>Cq ((xs.map V.str).getD j .AF) ((ys.map V.str).getD j .AF) with
   | false=>rfl
   | true=>
    exfalso
    apply h
    apply List.ext_getElem hl
    intro j h1 h2
    have q:=List.all_eq_true.mp c j (List.mem_range.mpr (by simpa using h1))
    have e1:(xs.map V.str)[j]?=some (.str xs[j]):=by rw [BF,B1 h1];rfl
    have e2:(ys.map V.str)[j]?=some (.str ys[j]):=by rw [BF,B1 h2];rfl
    rw [Nf e1,Nf e2] at q
    have q':(xs[j] == ys[j])=true:=q
    simpa using q'
  ·rw [LY (by simpa using hl)]
theorem c5 {neg:Bool}(h:Wq ss ta fun tp xs=>∃ ns:List Str,xs=ns.map PV.str/\Wq ss tb fun DY ys=>DY=tp/\∃ ms:List Str,ys=ms.map PV.str/\k (.bl (if neg then !decide (ns=ms) else decide (ns=ms)))):Wp ss (BQ (O0 K neg) ta tb) k:=⟨fun E σ F H Q S q=>
 h.go E σ F H _ S fun v tp xs F1 H1 m1 sv ⟨ns,e1,h2⟩=>h2.go E σ F1 H1 _ m1.st fun v2 DY ys F2 H2 m2 Hz ⟨et,ms,e2,kk⟩=>by
  subst e1;subst e2;subst et
  obtain ⟨l,vs,rfl,hl,r⟩:=(sv.mv m2).seq m2.st
  obtain ⟨l2,GS,rfl,Ck,r2⟩:=Hz.seq m2.st
  rw [r.strs] at hl
  rw [r2.strs] at Ck
  refine ⟨l,l2,ns.map V.str,ms.map V.str,rfl,rfl,?_,Fo _,Fo _,?_⟩
  ·cases DY
   ·exact .inl ⟨AE.of hl,AE.of Ck⟩
   ·exact .inr ⟨A9.of hl,A9.of Ck⟩
  ·rw [ou]
   cases neg
   ·exact q _ _ F2 H2 (m1.trans m2) (.bl _) kk
   ·exact q _ _ F2 H2 (m1.trans m2) (.bl _) kk⟩
theorem gM {r:List V->Hp->VK->Prop}(hr:r=fun xs H Q=>∃ (p:Addr) (bs:List Bool),xs=[.ref p]/\AE K H p (bs.map V.bl)/\Q (.bl (bs.all id)) H) (h:Wq ss te fun tp xs=>tp=false/\∃ bs:List Bool,xs=bs.map PV.bl/\k (.bl (bs.all id))):Wp ss (CB r (AS te Aw)) k:=⟨fun E σ F H Q S q=>
 h.go E σ F H _ S fun v tp xs F1 H1 m1 sv ⟨et,bs,e,kk⟩=>by
  subst hr;subst e;subst et
  obtain ⟨l,vs,rfl,hl,r⟩:=sv.seq m1.st
  rw [r.cN] at hl
  exact ⟨l,bs,rfl,AE.of hl,q _ _ F1 H1 m1 (.bl _) kk⟩⟩
theorem ZBf {r:List V->Hp->VK->Prop}(hr:r=fun xs H Q=>∃ (p:Addr) (bs:List Bool),xs=[.ref p]/\AE K H p (bs.map V.bl)/\Q (.bl (bs.any id)) H) (h:Wq ss te fun tp xs=>tp=false/\∃ bs:List Bool,xs=bs.map PV.bl/\k (.bl (bs.any id))):Wp ss (CB r (AS te Aw)) k:=⟨fun E σ F H Q S q=>
 h.go E σ F H _ S fun v tp xs F1 H1 m1 sv ⟨et,bs,e,kk⟩=>by
  subst hr;subst e;subst et
  obtain ⟨l,vs,rfl,hl,r⟩:=sv.seq m1.st
  rw [r.cN] at hl
  exact ⟨l,bs,rfl,AE.of hl,q _ _ F1 H1 m1 (.bl _) kk⟩⟩
def tyP:PV->String
 | .AF => "NoneType"
 | .bl _ => "bool"
 | .int _ => "int"
 | .str _ => "str"
 | .lst _ => "list"
 | .tup _ => "tuple"
 | .Ao _ _ => "dict"
 | _ => ""
def Ku:PV->Value
 | .obj _ _ _=>.none
 | .exc _ _ _=>.none
 | .con _ _=>.none
 | p=>.type (tyP p)
theorem RF {n:String}{b:Bool}(h:PySem.W.kitOne K .none (.type n)=some b):False:=by
 unfold PySem.W.kitOne PySem.W.kitCls PySem.W.subIn at h
 simp at h
theorem Rep.xi {p:PV}{n:String}{b:Bool}(s:A8 F H) (r:Rep F v p) (hb:PySem.W.kitOne K (Ku p) (.type n)=some b):EY K H v (Ku p):=by
 cases r with
 | AF=>exact .AF
 | bl b=>exact .bl b
 | int i=>exact .int i
 | str x=>exact .str x
 | lst h _=>exact .lst (s _ _ h)
 | tup h _=>exact .tup (s _ _ h)
 | Ao h _ _=>exact .dK (s _ _ h)
 | obj _ _ _ _=>exact (RF hb).elim
 | WO _=>exact (RF hb).elim
 | con=>exact (RF hb).elim
 | exc _ _ _ _=>exact (RF hb).elim
theorem fR {n:String}(h:Wp ss te fun p=>∃ b,PySem.W.kitOne K (Ku p) (.type n)=some b/\k (.bl b)):Wp ss (CB (XH K) (AS te (AS (tC (.ty n)) Aw))) k:=⟨fun E σ F H Q S q=>
 h.go E σ F H _ S fun v p F1 H1 m1 r ⟨b,hb,kk⟩=>⟨v,n,_,b,rfl,r.xi m1.st.fh hb,hb,q _ _ F1 H1 m1 (.bl _) kk⟩⟩
theorem nI {n:String}(h:Wq ss te fun tp xs=>∃ b,PySem.W.kitOne K (.type (tyP (h8 tp xs))) (.type n)=some b/\k (.bl b)):Wp ss (CB (XH K) (AS te (AS (tC (.ty n)) Aw))) k:=⟨fun E σ F H Q S q=>
 h.go E σ F H _ S fun v tp xs F1 H1 m1 sv ⟨b,hb,kk⟩=>by
  obtain ⟨l,vs,rfl,hl,r⟩:=sv.seq m1.st
  refine ⟨_,n,_,b,rfl,?_,hb,q _ _ F1 H1 m1 (.bl _) kk⟩
  cases tp
  ·exact .lst hl
  ·exact .tup hl⟩
theorem ub {r:List V->Hp->VK->Prop}(hr:r=fun xs H Q=>∃ i j,xs=[.int i,.int j]/\Q (.int (if j > i then j else i)) H) (h:Wp ss ta fun x=>∃ i,x=.int i/\Wp ss tb fun y=>∃ j,y=.int j/\k (.int (if j > i then j else i))):Wp ss (CB r (AS ta (AS tb Aw))) k:=⟨fun E σ F H Q S q=>
 h.go E σ F H _ S fun v p F1 H1 m1 r1 ⟨i,e1,h2⟩=>by
  subst hr;subst e1;cases r1
  exact h2.go E σ F1 H1 _ m1.st fun v2 p2 F2 H2 m2 r2 ⟨j,e2,kk⟩=>by
   subst e2;cases r2
   exact ⟨i,j,rfl,q _ _ F2 H2 (m1.trans m2) (.int _) kk⟩⟩
theorem lX {r:List V->Hp->VK->Prop}(hr:r=fun xs H Q=>∃ i j,xs=[.int i,.int j]/\Q (.int (if j < i then j else i)) H) (h:Wp ss ta fun x=>∃ i,x=.int i/\Wp ss tb fun y=>∃ j,y=.int j/\k (.int (if j < i then j else i))):Wp ss (CB r (AS ta (AS tb Aw))) k:=⟨fun E σ F H Q S q=>
 h.go E σ F H _ S fun v p F1 H1 m1 r1 ⟨i,e1,h2⟩=>by
  subst hr;subst e1;cases r1
  exact h2.go E σ F1 H1 _ m1.st fun v2 p2 F2 H2 m2 r2 ⟨j,e2,kk⟩=>by
   subst e2;cases r2
   exact ⟨i,j,rfl,q _ _ F2 H2 (m1.trans m2) (.int _) kk⟩⟩
end
structure Src (E:Ent0) (F1:Hp) (J:It) (xs:List PV):Prop where
 go:∀ (ss:List Slot) (σ:L2.St) (F H:Hp) (i:Nat),A8 F1 F->Sg E ss σ F H->i < xs.length->J.go i H
 stop:∀ (ss:List Slot) (σ:L2.St) (F H:Hp),A8 F1 F->Sg E ss σ F H->J.stop xs.length H
 Gg:∀ (ss:List Slot) (σ:L2.St) (F H:Hp) (i:Nat) (x:V) (H':Hp),A8 F1 F->Sg E ss σ F H->i < xs.length->J.Gg i H x H'->∃ p F',xs[i]?=some p/\Mv E ss σ F H F' H'/\Rep F' x p
structure Wi [Xw] (ss:List Slot) (wi:TI) (k:List PV->Prop):Prop where
 go:∀ (E:Ent) (σ:L2.St) (F H:Hp) (R:It->Hp->Prop),Sg E ss σ F H->(∀ J xs F' H',Mv E ss σ F H F' H'->Src E F' J xs->k xs->R J H')->wi σ H R
structure Wg [Xw] (ss:List Slot) (g:TG) (p:PV) (k:List Slot->Prop):Prop where
 go:∀ (E:Ent) (σ:L2.St) (F H:Hp) (v:V) (Q:L2.St->Hp->Prop),Sg E ss σ F H->Rep F v p->(∀ AQ σ',k AQ->Sg E AQ σ' F H->Q σ' H)->g v σ H Q
section
variable [Xw]
variable {E:Ent0}{ss:List Slot}{σ:L2.St} {F H F' H':Hp}{K:ZCy}{ta tb tc te:TE}{k:PV->Prop}{v:V}{tp:Bool}{xs:List PV}{nx:List Slot->Prop}{R:Ay}
theorem ZT {l:Addr}{vs:List V}(h:∀ (ss:List Slot) (σ:L2.St) (F H:Hp),A8 F' F->Sg E ss σ F H->H l=some (BI tp vs)) (r:AU F' vs xs):Src E F' (Mw K tp l vs) xs where
 go:=fun ss σ F H i s S hi=>⟨BI.sq (h ss σ F H s S),by rw [r.length];exact hi⟩
 stop:=fun ss σ F H s S=>⟨BI.sq (h ss σ F H s S),by rw [r.length];exact An _⟩
 Gg:=fun ss σ F H i x H' s S hi y=>by
  obtain ⟨e,hx⟩:=y
  subst e
  obtain ⟨p,hp,rp⟩:=r.get' hx
  exact ⟨p,F,hp,.refl S,rp.mono s⟩
theorem NS {k:List PV->Prop}(h:Wz ss te fun _ xs=>k xs):Wi ss (XJ K te) k:=⟨fun E σ F H R S q=>
 h.go E σ F H _ S fun v tp xs F1 H1 m1 f kk=>by
  cases tp with
  | true=>
   have f':Rep F1 v (.tup xs):=f
   cases f' with
   | tup e r=>exact ⟨true,_,_,rfl,A9.of (m1.st.fh _ _ e),q _ _ F1 H1 m1 (ZT (tp:=true) (fun ss σ F H s S=>S.fh _ _ (s _ _ e)) r) kk⟩
  | false=>
   obtain ⟨l,vs,rfl,h1,r⟩:=f
   have hl:∀ (ss:List Slot) (σ:L2.St) (F H:Hp),A8 F1 F->Sg E ss σ F H->H l=some (.lst vs):=fun ss σ F H s S=>by
    rcases h1 with h1 | ⟨hA,h1⟩
    ·exact S.fh _ _ (s _ _ h1)
    ·exact S.keep _ _ hA h1
   exact ⟨false,l,vs,rfl,AE.of (hl ss σ F1 H1 (A8.refl _) m1.st),q _ _ F1 H1 m1 (ZT (tp:=false) hl r) kk⟩⟩
def GL (n:Nat):List PV:=(List.range n).map fun i:Nat=>PV.int (i:Int)
theorem Mx (n:Nat):(GL n).length=n:=by simp [GL]
theorem ZBB {n i:Nat}{p:PV}(h:(GL n)[i]?=some p):i < n/\p=.int (i:Int):=by
 have hi:i < n:=by have:=(List.getElem?_eq_some_iff.mp h).1;rwa [Mx] at this
 unfold GL at h
 rw [BF,Rm hi] at h
 exact ⟨hi,(BU h).symm⟩
theorem zV {k:List PV->Prop}(h:Wp ss te fun p=>∃ j:Int,p=.int j/\j<=1000000/\-1000000<=j/\k (GL j.toNat)):Wi ss (VD (AS te Aw)) k:=⟨fun E σ F H R S q=>
 h.go E σ F H _ S fun v p F1 H1 m1 r ⟨j,e,h1,h2,kk⟩=>by
  subst e;cases r
  refine ⟨j,rfl,by omega,by omega,q _ (GL j.toNat) F1 H1 m1 ⟨fun ss σ F H i s S hi=>?_,fun ss σ F H s S=>?_,fun ss σ F H i x H' s S hi y=>?_⟩ kk⟩
  ·rw [Mx] at hi;exact hi
  ·show _<=_
   rw [Mx];exact An _
  ·obtain ⟨e,hx⟩:=y
   subst e;subst hx
   rw [Mx] at hi
   refine ⟨.int (i:Int),F,?_,.refl S,?_⟩
   ·unfold GL;rw [BF,Rm hi];rfl
   ·rw [Int.zero_add];exact .int _⟩
theorem OL {j:Nat}{p:PV}{k:List Slot->Prop}(h:k (ss.set j (.is p))):Wg ss (Cn j) p k:=⟨fun E σ F H v Q S r q=>q _ _ h (S.FD r)⟩
theorem av {i j:Nat}{p:PV}{k:List Slot->Prop}(h:∃ a b,p=.tup [a,b]/\k ((ss.set i (.is a)).set j (.is b))):Wg ss (OD K 2 (Gb (Cn i) (Gb (Cn j) Mh))) p k:=⟨fun E σ F H v Q S r q=>by
 obtain ⟨a,b,rfl,kk⟩:=h
 cases r with
 | tup e r=>
  cases r with
  | cons r1 r=>cases r with
   | cons r2 r=>cases r with
    | nil=>exact ⟨_,_,rfl,A9.of (S.fh _ _ e),rfl,_,_,rfl,_,_,rfl,rfl,q _ _ kk ((S.FD r1).FD r2)⟩⟩
theorem ZAh {i j l:Nat}{p:PV}{k:List Slot->Prop}(h:∃ a b c,p=.tup [a,b,c]/\k (((ss.set i (.is a)).set j (.is b)).set l (.is c))):Wg ss (OD K 3 (Gb (Cn i) (Gb (Cn j) (Gb (Cn l) Mh)))) p k:=⟨fun E σ F H v Q S r q=>by
 obtain ⟨a,b,c,rfl,kk⟩:=h
 cases r with
 | tup e r=>
  cases r with
  | cons r1 r=>cases r with
   | cons r2 r=>cases r with
    | cons r3 r=>cases r with
     | nil=>exact ⟨_,_,rfl,A9.of (S.fh _ _ e),rfl,_,_,rfl,_,_,rfl,_,_,rfl,rfl,q _ _ kk (((S.FD r1).FD r2).FD r3)⟩⟩
theorem Am {t u:TS}(h:Ws ss t (fun AQ=>Ws AQ u nx R) R):Ws ss (OK t u) nx R:=⟨fun E D σ F H S hn hr=>
 h.go E { D with nx:=u D } σ F H S (fun AQ σ' F' H' w S' s=>w.go E D σ' F' H' S' (fun E5 σ2 F2 H2 n2 S2 s2=>hn E5 σ2 F2 H2 n2 S2 (s.trans s2)) hr) hr⟩
theorem ES {t:TS}(h:Ws ss t nx R):Ws ss (UB t) nx R:=⟨fun E D σ F H S hn hr=>⟨D.nx,h.go E { D with nx:=D.nx } σ F H S hn hr,fun _ _ q=>q⟩⟩
theorem Ws.mono {t:TS}{Q7:List Slot->Prop}(h:Ws ss t nx R) (i:∀ s,nx s->Q7 s):Ws ss t Q7 R:=⟨fun E D σ F H S hn hr=>h.go E D σ F H S (fun AQ σ' F' H' n=>hn AQ σ' F' H' (i _ n)) hr⟩
theorem bu {t u:TS}(J:List Slot->Prop) (h:Ws ss t J R) (h2:∀ AQ,J AQ->Ws AQ u nx R):Ws ss (OK t u) nx R:=Am (h.mono h2)
theorem G2 {i:Nat}(h:Wp ss te fun p=>nx (ss.set i (.is p))):Ws ss (FF te (Cn i)) nx R:=⟨fun E D σ F H S hn hr=>
 h.go E σ F H _ S fun v p F1 H1 m1 r kk=>hn _ _ F1 H1 kk (m1.st.FD r) m1.ff⟩
theorem dr {g:TG}(h:Wp ss te fun p=>Wg ss g p nx):Ws ss (FF te g) nx R:=⟨fun E D σ F H S hn hr=>
 h.go E σ F H _ S fun v p F1 H1 m1 r kk=>kk.go E σ F1 H1 v _ m1.st r fun AQ σ' n S'=>hn _ _ F1 H1 n S' m1.ff⟩
theorem P5 {i:Nat}(h:Wn ss te fun xs=>nx (ss.set i (.own xs))):Ws ss (FF te (Cn i)) nx R:=⟨fun E D σ F H S hn hr=>
 h.go E σ F H _ S fun l vs xs F1 H1 m1 fl hl My r kk=>hn _ _ F1 H1 kk (m1.st.setG ⟨l,vs,rfl,fl,S.Dz hl,My,r⟩ fun l' e j u _ hu mu=>by cases e;exact S.Rc hu hl mu) m1.ff⟩
theorem FK {k:PV->Prop}(h:Wp ss te k):Ws ss (Fn te) nx (.is k):=⟨fun E D σ F H S hn hr=>
 h.go E σ F H _ S fun v p F1 H1 m1 r kk=>hr v F1 H1 m1.st.toFin ⟨p,r,kk⟩⟩
theorem kR {k:List PV->Prop}(h:Wn ss te k):Ws ss (Fn te) nx (.new k):=⟨fun E D σ F H S hn hr=>
 h.go E σ F H _ S fun l vs xs F1 H1 m1 fl hl My r kk=>hr _ F1 H1 m1.st.toFin ⟨l,vs,xs,rfl,fl,S.Dz hl,My,r,kk⟩⟩
theorem oI {i:Nat}{k:List PV->Prop}(h:ss[i]?=some (.own xs)) (kk:k xs):Ws ss (Fn (BG i)) nx (.new k):=⟨fun E D σ F H S hn hr=>by
 obtain ⟨l,vs,e,e1,e2,e3,r⟩:=S.ok i _ h
 exact ⟨_,e,hr _ F H S.toFin ⟨l,vs,xs,rfl,e1,e2,e3,r,kk⟩⟩⟩
theorem CH {c:TT}{t u:TS}(h:Wt ss c fun b=>if b=true then Ws ss t nx R else Ws ss u nx R):Ws ss (Pk c t u) nx R:=⟨fun E D σ F H S hn hr=>
 h.go E σ F H _ S fun b F1 H1 m1 w=>by
  show if b=true then _ else _
  cases b with
  | true=>rw [if_pos rfl] at w ⊢;exact w.go E D σ F1 H1 m1.st (fun E5 σ2 F2 H2 n S2 s2=>hn E5 σ2 F2 H2 n S2 (m1.ff.trans s2)) hr
  | false=>rw [if_neg (by decide)] at w ⊢;exact w.go E D σ F1 H1 m1.st (fun E5 σ2 F2 H2 n S2 s2=>hn E5 σ2 F2 H2 n S2 (m1.ff.trans s2)) hr⟩
theorem B7 (h:nx ss):Ws ss UK nx R:=⟨fun E D σ F H S hn hr=>hn ss σ F H h S (A8.refl _)⟩
theorem Sg.drop (S:Sg E ss σ F H) (i:Nat):Sg E (ss.set i .any) σ F H:=by
 have DG:∀ (j:Nat) u,(ss.set i .any)[j]?=some u->u=.any∨ss[j]?=some u:=fun j u hj=>by
  by_cases q:j=i
  ·subst q
   have Al:j < ss.length:=by have:=(List.getElem?_eq_some_iff.mp hj).1;simpa using this
   rw [Ca Al] at hj
   exact .inl (BU hj).symm
  ·rw [CJ (BS q)] at hj;exact .inr hj
 refine ⟨S.toFin,by rw [MO];exact S.len,fun j u hj=>?_,fun j k u w l QY hj hk mu mw=>?_⟩
 ·rcases DG j u hj with rfl | h
  ·trivial
  ·exact S.ok j u h
 ·rcases DG j u hj with rfl | h
  ·cases mu
  ·rcases DG k w hk with rfl | h2
   ·cases mw
   ·exact S.By j k u w l QY h h2 mu mw
theorem N7 {i:Nat}{v:V}(e:σ[i]?=some (some v)):σ.set i (some v)=σ:=by
 apply Rj
 intro j
 by_cases q:j=i
 ·subst q
  rw [Ca (List.getElem?_eq_some_iff.mp e).1,e]
 ·rw [CJ (BS q)]
theorem Sg.Xs (S:Sg E ss σ F H){a:Addr}{o:HO}(fa:F a=none) (h0:E.H0 a=none∨a∈E.B) (hn:∀ (i:Nat) s,ss[i]?=some s->¬ BL s σ[i]? a):Sg E ss σ F (upd H a o):=by
 have hb:∀ b u,b≠a->H b=some u->upd H a o b=some u:=fun b u h e=>by rw [Aj h];exact e
 refine ⟨⟨fun b u e=>?_,S.f0,fun b u hA e=>?_,S.fresh,fun b hA=>?_,S.K6,S.a0,S.bF,fun b hB=>?_,S.b0⟩,S.len,fun i s hi=>?_,S.By⟩
 ·exact hb b u (EN e fa) (S.fh b u e)
 ·refine hb b u ?_ (S.keep b u hA e)
  rintro rfl
  rcases h0 with h0 | h0
  ·rw [h0] at e;cases e
  ·exact hA.2 h0
 ·refine Ba.keep (S.GI b hA) fun u e=>hb b u ?_ e
  rintro rfl
  rcases h0 with h0 | h0
  ·exact S.a0 _ hA h0
  ·exact (S.b0 _ h0).2 hA
 ·by_cases q:b=a
  ·subst q;rw [AI];simp
  ·rw [Aj q];exact S.bH b hB
 ·by_cases np:s=.AN
  ·subst np
   obtain ⟨l,e,e1,e2,e3⟩:=S.ok i _ hi
   exact ⟨l,e,e1,e2,Ba.keep e3 fun u h=>hb l u (by rintro rfl;exact hn i _ hi e) h⟩
  ·exact Ok.go S hi (A8.refl _) (fun b u m h=>hb b u (by rintro rfl;exact hn i _ hi m) h) (fun _ _ h=>h) np
theorem Sg.put (S:Sg E ss σ F H){i:Nat}{l:Addr}{C6:List V}{xs ys:List PV}(hi:ss[i]?=some (.own xs)) (e:σ[i]?=some (some (.ref l))) (fl:F l=none) (h0:E.H0 l=none) (r:AU F C6 ys):Sg E (ss.set i (.own ys)) σ F (upd H l (.lst C6)):=by
 have ne1:∀ (j:Nat) s,(ss.set i .any)[j]?=some s->¬ BL s σ[j]? l:=fun j s hj mj=>by
  by_cases q:j=i
  ·subst q
   have Al:j < ss.length:=(List.getElem?_eq_some_iff.mp hi).1
   rw [Ca Al] at hj
   cases hj;cases mj
  ·rw [CJ (BS q)] at hj
   exact S.By j i s _ l q hj hi mj e
 have S2:=(S.drop i).Xs (o:=.lst C6) fl (.inl h0) ne1
 have S3:=S2.setG (j:=i) (s:=.own ys) (v:=.ref l) ⟨l,C6,rfl,fl,h0,AI,r⟩ fun l' e' j u hj hu mu=>by cases e';exact ne1 j u hu mu
 rw [N7 e,Rv] at S3
 exact S3
theorem lO {i:Nat}(hi:ss[i]?=some (.own xs)) (h:Wp ss te fun p=>xs.length<=99999/\nx (ss.set i (.own (xs++[p])))):Ws ss (J1 (Nv K "list" Xd (BG i) (AS te Aw))) nx R:=⟨fun E D σ F H S hn hr=>by
 obtain ⟨l,vs,e,e1,e2,e3,r⟩:=S.ok i _ hi
 refine ⟨_,e,.inl ⟨rfl,_,AE.of e3⟩,h.go E σ F H _ S fun v p F1 H1 m1 rv ⟨hz,kk⟩=>?_⟩
 obtain ⟨l',C6,e',Dl,Bu,Mr,r'⟩:=m1.st.ok i _ hi
 rw [e] at e'
 cases e'
 refine ⟨l,C6,v,rfl,rfl,Mr,Qs (by rw [r'.length];exact hz),?_⟩
 exact hn _ σ F1 _ kk (m1.st.put hi e Dl Bu (r'.append (.one rv))) m1.ff⟩
theorem oR {i:Nat}(hi:ss[i]?=some (.own xs)) (h:Wp ss ta fun a=>∃ j:Int,a=.int j/\0<=j/\j<=xs.length/\Wp ss te fun p=>xs.length<=99999/\nx (ss.set i (.own (xs.take j.toNat++p :: xs.drop j.toNat)))) :
  Ws ss (J1 (Nv K "list" Xx (BG i) (AS ta (AS te Aw)))) nx R:=⟨fun E D σ F H S hn hr=>by
 obtain ⟨l,vs,e,e1,e2,e3,r⟩:=S.ok i _ hi
 refine ⟨_,e,.inl ⟨rfl,_,AE.of e3⟩,h.go E σ F H _ S fun v1 p1 F1 H1 m1 vE ⟨j,ej,j0,j1,h2⟩=>?_⟩
 subst ej;cases vE
 refine h2.go E σ F1 H1 _ m1.st fun v p F2 H2 m2 rv ⟨hz,kk⟩=>?_
 obtain ⟨l',C6,e',Dl,Bu,Mr,r'⟩:=m2.st.ok i _ hi
 rw [e] at e'
 cases e'
 refine ⟨l,C6,j,v,rfl,rfl,Mr,j0,by rw [r'.length];exact j1,Qs (by rw [r'.length];exact hz),?_⟩
 exact hn _ σ F2 _ kk (m2.st.put hi e Dl Bu ((r'.take _).append (.cons rv (r'.drop _)))) (m1.ff.trans m2.ff)⟩
theorem ZBY {i:Nat}(hi:ss[i]?=some (.own xs)) (h:nx (ss.set i (.own xs.reverse))):Ws ss (J1 (yz K "list" ZBQ (BG i))) nx R:=⟨fun E D σ F H S hn hr=>by
 obtain ⟨l,vs,e,e1,e2,e3,r⟩:=S.ok i _ hi
 exact ⟨_,e,.inl ⟨rfl,_,AE.of e3⟩,l,vs,rfl,rfl,e3,hn _ σ F _ h (S.put hi e e1 e2 r.reverse) (A8.refl _)⟩⟩
def Bz (F H:Hp) (as:List Addr):Hp:=fun a=>if a∈as then H a else F a
theorem Sg.lay (S:Sg E ss σ F H) (as:List Addr) (h0:∀ a∈as,F a=none/\E.H0 a=none/\H a≠none) (hn:∀ a∈as,∀ (i:Nat) s,ss[i]?=some s->¬ BL s σ[i]? a):Sg E ss σ (Bz F H as) H/\A8 F (Bz F H as):=by
 have T4:∀ a,a∈as->Bz F H as a=H a:=fun a h=>if_pos h
 have QD:∀ a,a∉as->Bz F H as a=F a:=fun a h=>if_neg h
 have ff:A8 F (Bz F H as):=fun a o e=>by
  by_cases q:a∈as
  ·rw [(h0 a q).1] at e;cases e
  ·rw [QD a q];exact e
 have nF:∀ a,a∉as->F a=none->Bz F H as a=none:=fun a q h=>by rw [QD a q];exact h
 refine ⟨⟨⟨fun a o e=>?_,S.f0.trans ff,S.keep,fun a o e=>?_,S.GI,fun a hA=>?_,S.a0,fun a hB=>?_,S.bH,S.b0⟩,S.len,fun i s hi=>?_,S.By⟩,ff⟩
 ·by_cases q:a∈as
  ·rw [T4 a q] at e;exact e
  ·rw [QD a q] at e;exact S.fh a o e
 ·by_cases q:a∈as
  ·exact .inr (h0 a q).2.1
  ·rw [QD a q] at e;exact S.fresh a o e
 ·exact nF a (fun q=>S.a0 a hA (h0 a q).2.1) (S.K6 a hA)
 ·exact nF a (fun q=>(S.b0 a hB).1 (h0 a q).2.1) (S.bF a hB)
 ·have no:∀ a,BL s σ[i]? a->a∉as:=fun a m q=>hn a q i s hi m
  have kk:=S.ok i s hi
  cases s with
  | any=>trivial
  | is p=>obtain ⟨v,e,r⟩:=kk;exact ⟨v,e,r.mono ff⟩
  | own ys=>
   obtain ⟨l',ws,q,q1,q2,q3,r⟩:=kk
   exact ⟨l',ws,q,nF l' (no l' q) q1,q2,q3,r.mono ff⟩
  | AN=>
   obtain ⟨l',q,q1,q2,q3⟩:=kk
   exact ⟨l',q,nF l' (no l' q) q1,q2,q3⟩
  | sq tp ys=>
   cases tp with
   | true=>obtain ⟨v,e,r⟩:=kk;exact ⟨v,e,r.mono ff⟩
   | false=>obtain ⟨l',ws,q,q1,q2,r⟩:=kk;exact ⟨l',ws,q,q1,q2,r.mono ff⟩
  | raw P=>obtain ⟨v,e,r,st⟩:=kk;exact ⟨v,e,st _ _ ff r,st⟩
  | ow lt t=>
   obtain ⟨v,e,r,nd,q⟩:=kk
   exact ⟨v,e,r.mono ff fun a _ o h=>h,nd,fun a ha=>⟨nF a (no a ha) (q a ha).1,(q a ha).2⟩⟩
theorem O6 {t:TS}(i:Nat) (hi:ss[i]?=some (.own xs)) (h:Ws (ss.set i (.is (.lst xs))) t nx R):Ws ss t nx R:=⟨fun E D σ F H S hn hr=>by
 obtain ⟨l,vs,e,e1,e2,e3,r⟩:=S.ok i _ hi
 have one:∀ a,a∈[l]->a=l:=fun a h=>by simpa using h
 obtain ⟨S1,nf⟩:=(S.drop i).lay [l] (fun a h=>by rw [one a h,e3];exact ⟨e1,e2,by simp⟩) fun a h j s hj m=>by
  rw [one a h] at m
  by_cases q:j=i
  ·subst q
   rw [Ca (List.getElem?_eq_some_iff.mp hi).1] at hj
   cases hj;cases m
  ·rw [CJ (BS q)] at hj
   exact S.By j i s _ l q hj hi m e
 have S2:=S1.FD (j:=i) (v:=.ref l) (p:=.lst xs) (.lst (by unfold Bz;rw [if_pos (by simp)];exact e3) (r.mono nf))
 rw [N7 e,Rv] at S2
 exact h.go E D σ _ H S2 (fun E5 σ2 F2 H2 n S2 s2=>hn E5 σ2 F2 H2 n S2 (nf.trans s2)) hr⟩
theorem Km {wi:TI}{g:TG}{tb:TS}(I:List PV->Nat->List Slot->Prop) (h:Wi ss wi fun xs=>I xs 0 ss/\(∀ (i:Nat) p AQ,xs[i]?=some p->I xs i AQ->Wg AQ g p fun E5=>Ws E5 tb (I xs (i+1)) R)/\∀ AQ,I xs xs.length AQ->nx AQ):Ws ss (VT wi g tb) nx R:=⟨fun E D σ F H S hn hr=>
 h.go E σ F H _ S fun J xs F1 H1 m1 sr ⟨i0,hs,hd⟩=>by
  refine ⟨fun i m σ' H'=>m=xs.length - i/\i<=xs.length/\∃ AQ F',I xs i AQ/\Sg E AQ σ' F' H'/\A8 F1 F',⟨_,rfl,Cc _,ss,F1,i0,m1.st,A8.refl _⟩,?_⟩
  rintro i m σ' H' ⟨rfl,hi,AQ,F',hI,S',s'⟩
  by_cases Al:i < xs.length
  ·refine .inr ⟨sr.go AQ σ' F' H' i s' S' Al,fun σ2 H2=>∃ E5 F2,I xs (i+1) E5/\Sg E E5 σ2 F2 H2/\A8 F1 F2,fun σ2 H2 ⟨E5,F2,a,b,c⟩=>⟨_,by omega,rfl,Al,E5,F2,a,b,c⟩,fun x H3 y=>?_⟩
   obtain ⟨p,F3,hp,m3,rp⟩:=sr.Gg AQ σ' F' H' i x H3 s' S' Al y
   refine (hs i p AQ hp hI).go E σ' F3 H3 x _ m3.st rp fun ss4 σ4 w S4=>?_
   exact w.go E _ σ4 F3 H3 S4 (fun xV σ5 F5 H5 n5 S5 s5=>⟨xV,F5,n5,S5,(s'.trans m3.ff).trans s5⟩) hr
  ·have e:i=xs.length:=by omega
   subst e
   exact .inl ⟨sr.stop AQ σ' F' H' s' S',hn AQ σ' F' H' (hd AQ hI) S' (m1.ff.trans s')⟩⟩
end
def Dm (js:List Nat) (ss:List Slot):List Slot:=js.map fun j=>(ss[j]?).getD .any
def Uy (js:List Nat) (ss:List Slot):Bool:=js.all fun j=>match ss[j]? with
 | some .AN=>false
 | _=>true
section
variable [Xw]
variable {E:Ent0}{ss:List Slot}{σ:L2.St} {F H F' H':Hp}{K:ZCy}{js:List Nat}
theorem o4 {i:Nat}{s:Slot}{j:Nat}(h:js[i]?=some j) (e:(Dm js ss)[i]?=some s):s=(ss[j]?).getD .any:=by
 unfold Dm at e
 rw [BF,h] at e
 exact (BU e).symm
theorem Sg.B4 (S:Sg E ss σ F H) (nd:js.Nodup){vs:List V}{ps:List PV}(r:AU F vs ps):Sg E (Dm js ss++ps.map .is) (Bi js σ++vs.map some) F H:=by
 have hl:(Dm js ss).length=js.length:=by simp [Dm]
 have Ck:(Bi js σ).length=js.length:=by simp [Bi]
 have DG:∀ (i:Nat) (hi:i < js.length),(Dm js ss++ps.map .is)[i]?=some ((ss[js[i]]?).getD .any)/\(Bi js σ++vs.map some)[i]?=some ((σ[js[i]]?).join):=fun i hi=>by
  rw [En (by rw [hl];exact hi),En (by rw [Ck];exact hi)]
  unfold Dm Bi
  rw [BF,BF,B1 hi]
  exact ⟨rfl,rfl⟩
 have at2:∀ (i:Nat) s,js.length<=i->(Dm js ss++ps.map .is)[i]?=some s->∃ p v,s=.is p/\(Bi js σ++vs.map some)[i]?=some (some v)/\Rep F v p:=fun i s hi e=>by
  rw [GU (by rw [hl];exact hi),hl,BF] at e
  rw [GU (by rw [Ck];exact hi),Ck,BF]
  cases q:ps[i - js.length]? with
  | none=>rw [q] at e;cases e
  | some p=>
   rw [q] at e
   obtain ⟨v,hv,rv⟩:=r.get q
   rw [hv]
   exact ⟨p,v,(BU e).symm,rfl,rv⟩
 have fx:∀ (s:Slot) (m:Nat) (l:Addr),BL s (some (σ[m]?).join) l->BL s σ[m]? l:=fun s m l o=>by
  have fy:∀ l,some (σ[m]?).join=some (some (V.ref l))->σ[m]?=some (some (.ref l)):=fun l e=>by
   cases q:σ[m]? with
   | none=>rw [q] at e;cases e
   | some o=>rw [q] at e;cases o with
    | none=>cases e
    | some v=>simpa using e
  cases s with
  | own xs=>exact fy l o
  | AN=>exact fy l o
  | ow lt t=>exact o
  | _=>exact o
 have sm:∀ (i:Nat) s l,(Dm js ss++ps.map .is)[i]?=some s->BL s (Bi js σ++vs.map some)[i]? l->∃ hi:i < js.length,ss[js[i]]?=some s/\BL s σ[js[i]]? l:=fun i s l e m=>by
  by_cases hi:i < js.length
  ·rw [(DG i hi).2] at m
   refine ⟨hi,?_,fx s _ l m⟩
   rw [(DG i hi).1] at e
   cases q:ss[js[i]]? with
   | none=>rw [q] at e;cases e;cases m
   | some u=>rw [q] at e;exact e
  ·obtain ⟨p,v,rfl,_⟩:=at2 i s (by omega) e
   cases m
 refine ⟨S.toFin,?_,fun i s e=>?_,fun i j s u l Fl hi hj ms mu=>?_⟩
 ·rw [Bm,Bm,hl,Ck,AV,AV,r.length]
 ·by_cases hi:i < js.length
  ·obtain ⟨a,b⟩:=DG i hi
   rw [a] at e
   rw [b]
   cases q:ss[js[i]]? with
   | none=>rw [q] at e;cases e;trivial
   | some u=>
    rw [q] at e
    have eu:u=s:=BU e
    subst eu
    have kk:=S.ok _ _ q
    cases u with
    | any=>trivial
    | is p=>obtain ⟨v,e,r⟩:=kk;rw [e];exact ⟨v,rfl,r⟩
    | own xs=>obtain ⟨l,vs,e,r⟩:=kk;rw [e];exact ⟨l,vs,rfl,r⟩
    | AN=>obtain ⟨l,e,r⟩:=kk;rw [e];exact ⟨l,rfl,r⟩
    | sq tp xs=>
     cases tp with
     | true=>obtain ⟨v,e,r⟩:=kk;rw [e];exact ⟨v,rfl,r⟩
     | false=>obtain ⟨l,vs,e,r⟩:=kk;rw [e];exact ⟨l,vs,rfl,r⟩
    | raw P=>obtain ⟨v,e,r⟩:=kk;rw [e];exact ⟨v,rfl,r⟩
    | ow lt t=>obtain ⟨v,e,r⟩:=kk;rw [e];exact ⟨v,rfl,r⟩
  ·obtain ⟨p,v,rfl,hv,rv⟩:=at2 i s (by omega) e
   rw [hv];exact ⟨v,rfl,rv⟩
 ·obtain ⟨li,qi,oi⟩:=sm i s l hi ms
  obtain ⟨lj,qj,oj⟩:=sm j u l hj mu
  refine S.By js[i] js[j] s u l (fun e=>Fl ?_) qi qj oi oj
  exact (iU nd).mp e
theorem Mv.out {ps:List PV}{τ:L2.St} (S:Sg E ss σ F H) (np:Uy js ss=true) (m:Mv E (Dm js ss++ps.map .is) τ F H F' H'):Mv E ss σ F H F' H':=by
 have nn:∀ a,Cd (Dm js ss++ps.map .is) τ a:=fun a i hi _=>by
  by_cases h:i < (Dm js ss).length
  ·rw [En h] at hi
   have hj:i < js.length:=by simpa [Dm] using h
   have q:=o4 (B1 hj) hi
   have z:=List.all_eq_true.mp np js[i] (OT hj)
   cases w:ss[js[i]]? with
   | none=>rw [w] at q;cases q
   | some u=>rw [w] at q z;cases q;cases z
  ·rw [GU (by omega),BF] at hi
   cases w:ps[i - (Dm js ss).length]? with
   | none=>rw [w] at hi;cases hi
   | some p=>rw [w] at hi;cases hi
 have hk:∀ a o,H a=some o->H' a=some o:=fun a o e=>m.hh a o (nn a) e
 exact S.step m.ff m.st.fh (fun a o _ e=>hk a o e) m.nn fun i l hi e=>Ba.keep (S.E7 hi e) fun o e=>hk l o e
theorem cQ {wi:TI}{tt:TT}{te:TE}{k:List PV->Prop}(f:PV->Bool) (g:PV->PV)
  (h:Wi ss wi fun xs=>xs.length<=100000/\(∀ x∈xs,Wt (Dm js ss++[.is x]) tt fun b=>b=f x)/\(∀ x∈xs,f x=true->Wp (Dm js ss++[.is x]) te fun p=>p=g x)/\k ((xs.filter f).map g))
  (nd:js.Nodup:=by decide) (np:Uy js ss=true:=by rfl):Wn ss (LS wi js tt te) k:=⟨fun E σ F H Q S q=>
 h.go E σ F H _ S fun J xs F1 H1 m1 sr ⟨hz,ht,he,kk⟩ acc B9=>by
  have JO:Cd ss σ acc:=m1.st.NA B9
  have jx:=m1.st.Dz B9
  have sT:∀ (i:Nat) s,ss[i]?=some s->¬ BL s σ[i]? acc:=fun i s hi=>m1.st.Rc hi B9
  refine ⟨fun i m H2=>m=xs.length - i/\i<=xs.length/\∃ F2 vs,Mv E ss σ F1 H1 F2 H2/\F2 acc=none/\H2 acc=some (.lst vs)/\AU F2 vs (((xs.take i).filter f).map g),⟨_,rfl,Cc _,F1,[],m1.st.make B9 _,m1.st.Bb B9,AI,.nil⟩,?_⟩
  rintro i m H2 ⟨rfl,hi,F2,vs,m2,fa,ha,rv⟩
  by_cases Al:i < xs.length
  ·refine .inr ⟨sr.go ss σ F2 H2 i m2.ff m2.st Al,fun x H3 y=>?_⟩
   obtain ⟨p,F3,hp,m3,rp⟩:=sr.Gg ss σ F2 H2 i x H3 m2.ff m2.st Al y
   have ZU:p∈xs:=CG hp
   have Lz:(xs.take (i+1))=xs.take i++[p]:=by
    have e2:xs[i]=p:=by rw [B1 Al] at hp;exact BU hp
    rw [YV Al,e2]
   have e1:List.filter f (xs.take (i+1))=(xs.take i).filter f++(if f p=true then [p] else []):=by
    rw [Lz,YM];congr 1
    by_cases hf:f p=true <;> simp [hf]
   have gS:∀ {F4:Hp},(∀ a o,F4 a=some o->F2 a=some o∨H2 a=none)->F4 acc=none:=fun {F4} n=>by
    cases e:F4 acc with
    | none=>rfl
    | some o=>
     rcases n acc o e with w | w
     ·rw [fa] at w;cases w
     ·rw [ha] at w;cases w
   have S3:=m3.st.B4 (js:=js) nd (.one rp)
   refine (ht p ZU).go E _ F3 H3 _ S3 fun b F4 H4 m4 hb=>?_
   have Js:=m3.trans (m4.out (ps:=[p]) m3.st np)
   show if b=true then _ else _
   rw [hb]
   by_cases hf:f p=true
   ·rw [if_pos hf]
    have S4:=Js.st.B4 (js:=js) nd (.one (rp.mono (m4.out (ps:=[p]) m3.st np).ff))
    refine (he p ZU hf).go E _ F4 H4 _ S4 fun w pw F5 H5 m5 bQ ew=>?_
    have m45:=m4.out (ps:=[p]) m3.st np
    have qw:=m5.out (ps:=[p]) Js.st np
    have P6:=Js.trans qw
    have sV:=P6.hh acc _ JO ha
    have fj:=gS P6.nn
    have hlen:vs.length<=99999:=by
     rw [rv.length,AV]
     have:=Ro f (xs.take i)
     rw [CF] at this
     omega
    refine ⟨vs,sV,Qs hlen,xs.length - (i+1),by omega,rfl,Al,F5,vs++[w],?_,fj,AI,?_⟩
    ·have Q0:=m2.trans P6
     refine ⟨Q0.st.Xs fj (.inl jx) sT,Q0.ff,fun a o n e=>?_,Q0.nn⟩
     rw [Aj (EN e B9)];exact Q0.hh a o n e
    ·rw [e1,if_pos hf,E9]
     rw [ew] at bQ
     exact (rv.mono P6.ff).append (.one bQ)
   ·have TV:f p=false:=by simpa using hf
    rw [TV,if_neg (by decide)]
    refine ⟨xs.length - (i+1),by omega,rfl,Al,F4,vs,m2.trans Js,gS Js.nn,Js.hh acc _ JO ha,?_⟩
    rw [e1,if_neg hf,Fx]
    exact rv.mono Js.ff
  ·have e:i=xs.length:=by omega
   subst e
   refine .inl ⟨sr.stop ss σ F2 H2 m2.ff m2.st,q acc vs _ F2 H2 (m1.trans m2) fa (m1.none B9) ha ?_ kk⟩
   rw [MP] at rv
   exact rv⟩
end
abbrev Pre:=List Slot->Ay->Prop
def Bp (pre:Pre):Sp:=fun vs H Q _=>∃ (ss:List Slot) (R:Ay) (F:Hp) (A:List Addr),pre ss R/\Sg (E3 A F H) ss (vs.map some) F H/\∀ v F' H',Fin (E3 A F H) F' H'->R.ok (E3 A F H) F' H' v->Q v H'
section
variable [Xw]
variable {E:Ent0}{ss:List Slot}{σ:L2.St} {F H F' H':Hp}{pre:Pre}{t:TA}{k:PV->Prop}
theorem FQ.at {vs:List V}{l:List Slot}(h:FQ ss σ F H vs l):∀ {i:Nat}{s:Slot},l[i]?=some s->∃ v,vs[i]?=some v/\Av ss σ F H v s:=by
 induction h with
 | nil=>intro i s e;simp at e
 | cons a _ ih=>
  intro i s e
  cases i with
  | zero=>simp at e;subst e;exact ⟨_,rfl,a⟩
  | succ i=>exact ih (by simpa using e)
theorem FQ.len {vs:List V}{l:List Slot}(h:FQ ss σ F H vs l):l.length=vs.length:=by
 induction h with
 | nil=>rfl
 | cons a _ ih=>rw [Bc,Bc,ih]
theorem Av.ok {A:List Addr}{v:V}{s:Slot}(S:Sg E ss σ F H) (a:Av ss σ F H v s) (hA:∀ l,Cd ss σ l->l∉A):Ok (E3 A F H) F H s (some (some v))/\∀ o l,¬ BL s o l:=by
 cases s with
 | is p=>exact ⟨⟨v,rfl,a⟩,fun _ _ z=>z⟩
 | sq tp xs=>
  cases tp with
  | true=>exact ⟨⟨v,rfl,a⟩,fun _ _ z=>z⟩
  | false=>obtain ⟨l,vs,rfl,n,h,r⟩:=a;exact ⟨⟨l,vs,rfl,⟨hA l n,BH⟩,h,r⟩,fun _ _ z=>z⟩
 | raw P=>exact ⟨⟨v,rfl,a⟩,fun _ _ z=>z⟩
 | any=>exact a.elim
 | own xs=>exact a.elim
 | AN=>exact a.elim
 | ow lt t=>exact a.elim
theorem Sg.U7 (S:Sg E ss σ F H){vs:List V}{l:List Slot}(a:FQ ss σ F H vs l):Sg (E3 [] F H) l (vs.map some) F H:=by
 have nn:∀ {p:Prop}(a:Addr),a∈([]:List Addr)->p:=fun a h=>absurd h BH
 refine ⟨⟨S.fh,A8.refl _,fun _ _ _ e=>e,fun _ _ e=>.inl e,fun a h=>nn a h,fun a h=>nn a h,fun a h=>nn a h,fun a h=>nn a h,fun a h=>nn a h,fun a h=>nn a h⟩,by rw [AV];exact a.len,fun i s hi=>?_,fun i j s u l Fl hi hj ms mu=>?_⟩
 ·obtain ⟨v,hv,q⟩:=a.at hi
  rw [BF,hv]
  exact (q.ok S fun _ _ h=>absurd h BH).1
 ·obtain ⟨v,hv,q⟩:=a.at hi
  exact (q.ok S (A:=[]) fun _ _ h=>absurd h BH).2 _ _ ms
theorem Sg.jM (S:Sg E ss σ F H){i0:Nat}{p:Addr}(hi:ss[i0]?=some .AN) (e:σ[i0]?=some (some (.ref p))){vs:List V}{l:List Slot}(a:FQ ss σ F H vs l):Sg (E3 [p] F H) (.AN :: l) ((V.ref p :: vs).map some) F H:=by
 obtain ⟨p',e',fp,_,pp⟩:=S.ok i0 _ hi
 rw [e] at e'
 cases e'
 have hA:∀ l,Cd ss σ l->l∉[p]:=fun l n h=>by
  have:l=p:=by simpa using h
  subst this
  exact n i0 hi e
 have one:∀ a,a∈[p]->a=p:=fun a h=>by simpa using h
 have nn:∀ {p:Prop}(a:Addr),a∈([]:List Addr)->p:=fun a h=>absurd h BH
 refine ⟨⟨S.fh,A8.refl _,fun _ _ _ e=>e,fun _ _ e=>.inl e,fun a h=>(one a h)▸pp,fun a h=>(one a h)▸fp,fun a h=>?_,fun a h=>nn a h,fun a h=>nn a h,fun a h=>nn a h⟩,by rw [AV,Bc,Bc];rw [a.len],fun i s hi=>?_,fun i j s u l' Fl hi hj ms mu=>?_⟩
 ·rw [one a h]
  obtain ⟨_,_,q,_⟩:=pp
  show H p≠none
  rw [q];simp
 ·cases i with
  | zero=>simp at hi;subst hi;exact ⟨p,rfl,fp,.inr (by simp),pp⟩
  | succ i=>
   obtain ⟨v,hv,q⟩:=a.at (i:=i) (s:=s) (by simpa using hi)
   have:((V.ref p :: vs).map some)[i+1]?=some (some v):=by rw [Bq,List.getElem?_cons_succ,BF,hv];rfl
   rw [this]
   exact (q.ok S hA).1
 ·have z:∀ (i:Nat) s o l',(Slot.AN :: l)[i]?=some s->BL s o l'->i=0:=fun i s o l' h m=>by
   cases i with
   | zero=>rfl
   | succ i=>
    obtain ⟨v,hv,q⟩:=a.at (i:=i) (s:=s) (by simpa using h)
    exact ((q.ok S hA).2 _ _ m).elim
  exact absurd ((z i s _ _ hi ms).trans (z j u _ _ hj mu).symm) Fl
theorem Sg.back (S:Sg E ss σ F H){A:List Addr}(hA:∀ a,a∈A->∃ i:Nat,ss[i]?=some .AN/\σ[i]?=some (some (.ref a))) (f:Fin (E3 A F H) F' H'):Mv E ss σ F H F' H':=by
 refine S.step f.f0 f.fh (fun a o n e=>f.keep a o ⟨fun h=>?_,BH⟩ e) f.fresh fun i l hi e=>?_
 ·obtain ⟨i,q1,q2⟩:=hA a h
  exact n i q1 q2
 ·by_cases q:l∈A
  ·exact f.GI l q
  ·exact Ba.keep (S.E7 hi e) fun o e=>f.keep l o ⟨q,BH⟩ e
theorem wp_call (h:Wa ss t fun l=>∃ k',pre l (.is k')/\∀ p,k' p->k p):Wp ss (CP (Bp pre) [] E0 t) k:=⟨fun E σ F H Q S q=>
 h.go E σ F H _ S fun vs l F1 H1 m1 a ⟨k',hp,kk⟩=>by
  rw [Fx]
  refine ⟨l,.is k',F1,[],hp,m1.st.U7 a,fun v F' H' f ⟨p,r,kp⟩=>?_⟩
  exact q v p F' H' (m1.trans (m1.st.back (fun _ h=>absurd h BH) f)) r (kk p kp)⟩
theorem ai {i:Nat}(hi:ss[i]?=some .AN) (h:Wa ss t fun l=>∃ k',pre (.AN :: l) (.is k')/\∀ p,k' p->k p):Wp ss (CP (Bp pre) [] E0 (AS (BG i) t)) k:=⟨fun E σ F H Q S q=>by
 obtain ⟨p,e,_⟩:=S.ok i _ hi
 refine ⟨_,e,h.go E σ F H _ S fun vs l F1 H1 m1 a ⟨k',hp,kk⟩=>?_⟩
 show Bp pre ((V.ref p :: vs)++[]) H1 Q E0
 rw [Fx]
 refine ⟨.AN :: l,.is k',F1,[p],hp,m1.st.jM hi e a,fun v F' H' f ⟨pv,r,kp⟩=>?_⟩
 exact q v pv F' H' (m1.trans (m1.st.back (A:=[p]) (fun a h=>⟨i,hi,(show a=p from by simpa using h)▸e⟩) f)) r (kk pv kp)⟩
theorem Sg.grown (S:Sg E ss σ F H) (n:Nat):Sg E (ss++List.replicate n .any) (σ++List.replicate n none) F H:=by
 have DG:∀ (i:Nat) s,(ss++List.replicate n .any)[i]?=some s->s≠.any->ss[i]?=some s/\(σ++List.replicate n none)[i]?=σ[i]?:=fun i s e hs=>by
  by_cases h:i < ss.length
  ·rw [En h] at e
   rw [En (by rw [<- S.len];exact h)]
   exact ⟨e,rfl⟩
  ·rw [GU (by omega),ZBz] at e
   split at e
   ·exact absurd (BU e).symm hs
   ·cases e
 refine ⟨S.toFin,by simp [S.len],fun i s e=>?_,fun i j s u l Fl hi hj ms mu=>?_⟩
 ·cases s with
  | any=>trivial
  | _=>obtain ⟨a,b⟩:=DG i _ e (by simp);rw [b];exact S.ok i _ a
 ·have ns:s≠.any:=by rintro rfl;cases ms
  have nu:u≠.any:=by rintro rfl;cases mu
  obtain ⟨a,b⟩:=DG i s hi ns
  obtain ⟨c,d⟩:=DG j u hj nu
  rw [b] at ms
  rw [d] at mu
  exact S.By i j s u l Fl a c ms mu
end
section
variable {E:Ent0}{ss:List Slot}{σ:L2.St} {F H F' H':Hp}{pre:Pre}{t:TA}{k:PV->Prop}
def Rh (E:Ent0):Ent:=⟨E,fun _ _ _ _ _ _ _ _ _ d=>d.elim⟩
theorem HL {N:List Str}{n:Nat}{vs:List V}{Q:VK}{X:XK}{t:TS}(h:Bp pre vs H Q X) (hl:∀ ss R,pre ss R->ss.length=n)
  (hw:∀ ss R,pre ss R->Ws (ss++List.replicate (N.length - n) .any) t (fun _=>∃ k,R=.is k/\k .AF) R):t { nx:=fun _ H'=>Q .AF H',rt:=Q } (L2.start N vs) H:=by
 obtain ⟨ss,R,F,A,hp,S,q⟩:=h
 have e:vs.length=n:=by have:=S.len;rw [AV] at this;rw [<- this];exact hl ss R hp
 unfold L2.start
 rw [e]
 refine (hw ss R hp).go (Rh (E3 A F H)) _ _ F H (S.grown _) (fun AQ σ' F' H' ⟨k,e,kn⟩ S' _=>?_) fun v F' H' f ok=>q v F' H' f ok
 subst e
 exact q .AF F' H' S'.toFin ⟨.AF,.AF,kn⟩
theorem He {n:Nat}{vs:List V}{Q:VK}{X:XK}(hl:∀ ss R,pre ss R->ss.length=n) (h:Bp pre vs H Q X):vs.length=n:=by
 obtain ⟨ss,R,F,A,hp,S,q⟩:=h
 have:=S.len
 rw [AV] at this
 rw [<- this];exact hl ss R hp
end
end Fz
namespace L2
section
variable {X:Cx}
def xj (K:ZCy):R2:=fun x y H Q=>∃ p q xs,x=.ref p/\y=.ref q/\AE K H p xs/\AE K H q []/\Q (.bl (!decide (xs=[]))) H
def xK (K:ZCy):R2:=fun x y H Q=>∃ p q xs,x=.ref p/\y=.ref q/\AE K H p xs/\AE K H q []/\Q (.bl (decide (xs=[]))) H
end
end L2
namespace Lw
open L2
inductive Tr (lr lb:Addr) (H:Hp):List V->List V->Addr->List Str->Prop where
 | base {l:Addr}{rs:List Str}:l≠lr->l≠lb->H l=some (.lst (rs.map V.str))->Tr lr lb H [.ref l] [] l rs
 | snoc {vs bs:List V}{l:Addr}{rs:List Str}{l':Addr}{Mf:List Str}{t:Addr}{d:AJ}:Tr lr lb H vs bs l rs->l'≠lr->l'≠lb->t≠lr->t≠lb->H l'=some (.lst (Mf.map V.str))->H t=some (.tup d.vals)->
   d.Ok 40 Mf->Mf.length<=40->d.done Mf=rs->Tr lr lb H (vs++[.ref l']) (bs++[.ref t]) l' Mf
theorem Tr.mono {lr lb:Addr}{H H':Hp}(k:∀ b o,b≠lr->b≠lb->H b=some o->H' b=some o){vs bs:List V}{l:Addr}{rs:List Str}(h:Tr lr lb H vs bs l rs):Tr lr lb H' vs bs l rs:=by
 induction h with
 | base a b c=>exact .base a b (k _ _ a b c)
 | snoc _ a b c d e f g i j ih=>exact .snoc ih a b c d (k _ _ a b e) (k _ _ c d f) g i j
theorem Tr.len {lr lb:Addr}{H:Hp}{vs bs:List V}{l:Addr}{rs:List Str}(h:Tr lr lb H vs bs l rs):vs.length=bs.length+1:=by
 induction h with
 | base a b c=>rfl
 | snoc _ a b c d e f g i j ih=>simp [ih]
theorem Me:∀ l:List Nat,¬ l < l
 | [],h=>by simp at h
 | a :: r,h=>by
  rw [YJ] at h
  rcases h with h | ⟨_,h⟩
  ·omega
  ·exact Me r h
theorem Ot:∀ {a b c:List Nat},a < b->b < c->a < c
 | _,[],_,h,_=>by simp at h
 | _,_ :: _,[],_,h=>by simp at h
 | [],_ :: _,_ :: _,_,_=>by simp
 | a :: r,b :: s,c :: t,h,h'=>by
  rw [YJ] at h h' ⊢
  rcases h with h | ⟨rfl,h⟩
  ·rcases h' with h' | ⟨rfl,h'⟩
   ·left;omega
   ·left;exact h
  ·rcases h' with h' | ⟨rfl,h'⟩
   ·left;exact h'
   ·right;exact ⟨rfl,Ot h h'⟩
theorem bZ:∀ a b:List Nat,a < b∨a=b∨b < a
 | [],[]=>.inr (.inl rfl)
 | [],_ :: _=>.inl (by simp)
 | _ :: _,[]=>.inr (.inr (by simp))
 | a :: r,b :: s=>by
  rw [YJ,YJ]
  rcases Rx a b with h | rfl | h
  ·exact .inl (.inl h)
  ·rcases bZ r s with h | rfl | h
   ·exact .inl (.inr ⟨rfl,h⟩)
   ·exact .inr (.inl rfl)
   ·exact .inr (.inr (.inr ⟨rfl,h⟩))
  ·exact .inr (.inr (.inl h))
abbrev IQ (a b:Str):Prop:=a.cps.toList < b.cps.toList
theorem Ui (a b:Str):IQ a b∨a=b∨IQ b a:=by
 rcases bZ a.cps.toList b.cps.toList with h | h | h
 ·exact .inl h
 ·exact .inr (.inl (zZ h))
 ·exact .inr (.inr h)
abbrev Up (ss:List Str):Prop:=ss.Pairwise IQ
theorem PR {ss:List Str}(h:Up ss):ss.Nodup:=by
 refine ZBp (fun {a b} (Ds:IQ a b) (e:a=b)=>?_) h
 subst e
 exact Me _ Ds
theorem gF:∀ (l:List Str) (p:Str),risingS p l=true->(∀ x∈l,¬ IQ x p)/\l.Pairwise fun a b=>¬ IQ b a
 | [],p,_=>⟨fun x hx=>absurd hx (by simp),.nil⟩
 | y :: r,p,h=>by
  have h1:(!ltCps y.cps.toList p.cps.toList && risingS y r)=true:=h
  rw [El,ltCps_eq] at h1
  have hyp:¬ IQ y p:=by
   intro z
   rw [decide_eq_true z] at h1
   exact absurd h1.1 (by decide)
  obtain ⟨h2,h3⟩:=gF r y h1.2
  refine ⟨fun x hx=>?_,List.pairwise_cons.mpr ⟨fun x hx=>h2 x hx,h3⟩⟩
  rcases List.mem_cons.mp hx with rfl | hx
  ·exact hyp
  ·intro z
   rcases Ui y p with q | q | q
   ·exact hyp q
   ·exact h2 x hx (q▸z)
   ·exact h2 x hx (Ot z q)
theorem rH {l:List Str}(h:sortedS l=true):l.Pairwise fun a b=>¬ IQ b a:=by
 cases l with
 | nil=>exact .nil
 | cons x r=>
  obtain ⟨h1,h2⟩:=gF r x h
  exact List.pairwise_cons.mpr ⟨h1,h2⟩
theorem Z9 {l:List Str}(h:sortedS l=true) (nd:l.Nodup):Up l:=by
 have w:=rH h
 have q:=List.Pairwise.and w nd
 refine q.imp fun {a b} Ds=>?_
 rcases Ui a b with z | z | z
 ·exact z
 ·exact absurd z Ds.2
 ·exact absurd z Ds.1
theorem Ve:∀ {as bs:List Str},Up as->Up bs->(∀ x,x∈as↔x∈bs)->as=bs
 | [],[],_,_,_=>rfl
 | [],b :: bs,_,_,h=>absurd ((h b).mpr EA) (by simp)
 | a :: as,[],_,_,h=>absurd ((h a).mp EA) (by simp)
 | a :: as,b :: bs,ha,hb,h=>by
  obtain ⟨a1,a2⟩:=List.pairwise_cons.mp ha
  obtain ⟨b1,b2⟩:=List.pairwise_cons.mp hb
  have e:a=b:=by
   rcases List.mem_cons.mp ((h a).mp EA) with z | z
   ·exact z
   ·rcases List.mem_cons.mp ((h b).mpr EA) with y | y
    ·exact y.symm
    ·exact absurd (Ot (a1 b y) (b1 a z)) (Me _)
  subst e
  congr 1
  refine Ve a2 b2 fun x=>⟨fun hx=>?_,fun hx=>?_⟩
  ·rcases List.mem_cons.mp ((h x).mp (Fy _ hx)) with z | z
   ·exact absurd (z▸a1 x hx) (Me _)
   ·exact z
  ·rcases List.mem_cons.mp ((h x).mpr (Fy _ hx)) with z | z
   ·exact absurd (z▸b1 x hx) (Me _)
   ·exact z
theorem IC:∀ {as bs:List Str},as.Nodup->(∀ x∈as,x∈bs)->as.length<=bs.length
 | [],_,_,_=>Cc _
 | a :: as,bs,nd,h=>by
  obtain ⟨h1,h2⟩:=List.nodup_cons.mp nd
  have ha:=h a EA
  have q:=IC (bs:=bs.erase a) h2 fun x hx=>(ZC6 (fun e:x=a=>h1 (by rw [<- e];exact hx))).mpr (h x (Fy _ hx))
  have e:=ZC3 ha
  have p:=ZC4 ha
  simp only [Bc]
  omega
noncomputable def EX:List Str:=["none", "ahead", "all"]
noncomputable def ZQ (ss:List Str):Bool:=decide (Up ss)
noncomputable def gZ (ns ss:List Str):Bool:=ss.all fun x=>decide (x∈ns)
noncomputable def eJ (n:Nat) (g:Int):Bool:=decide (0<=g) && decide (g<=(n:Int))
noncomputable def UW (ns:List Str) (r:Str) (g:Int) (ss:List Str):Bool:=decide (r∈EX) && (eJ ns.length g && (ZQ ss && gZ ns ss))
def LoopAt (K:ZCy) (H:Hp) (t:Addr) (r:Str) (g:Int) (ss:List Str):Prop:=∃ c,A9 K H t [.str r,.int g,.ref c]/\A9 K H c (ss.map V.str)
theorem LoopAt.same {K:ZCy}{H H':Hp}{t:Addr}{r:Str}{g:Int}{ss:List Str}(s:A8 H H') (h:LoopAt K H t r g ss):LoopAt K H' t r g ss:=by
 obtain ⟨c,h1,h2⟩:=h
 exact ⟨c,s.Ln h1,s.Ln h2⟩
theorem ZF {j:Int}(h0:0<=j) (h1:j < 3):∃ r,BX (EX.map V.str) j=some (.str r)/\r∈EX:=by
 obtain ⟨x,a,b,_⟩:=Mq (ns:=EX) h0 h1
 exact ⟨x,a,b⟩
noncomputable def LZ (ss:List Str) (x:Str):Bool:=decide (x∈ss)
noncomputable def Ez (ns:List Str) (g:Nat) (ss:List Str):List Str:=(ns.drop g).filter (LZ ss)++(ns.take g).filter (LZ ss)
theorem r8 (ns:List Str) (g:Nat) (ss:List Str):(ns.drop g++ns.take g).filter (LZ ss)=Ez ns g ss:=YM ..
theorem QC {ns:List Str}{g:Nat}{ss:List Str}{x:Str}:x∈Ez ns g ss↔x∈ns/\x∈ss:=by
 unfold Ez
 rw [Ie,iX,iX]
 have e:(x∈ns)↔(x∈ns.take g∨x∈ns.drop g):=by
  rw [<- Ie,L3]
 unfold LZ
 simp only [decide_eq_true_eq]
 rw [e]
 constructor
 ·rintro (⟨a,b⟩ | ⟨a,b⟩)
  ·exact ⟨.inr a,b⟩
  ·exact ⟨.inl a,b⟩
 ·rintro ⟨a | a,b⟩
  ·exact .inr ⟨a,b⟩
  ·exact .inl ⟨a,b⟩
theorem xC (ns ss:List Str):((ns.map V.str).filter (fun v=>Dv v (ss.map V.str))).map (fun v=>v)=(ns.filter (LZ ss)).map V.str:=by
 rw [iW,iQ]
 congr 1
 apply ZBv
 intro y _
 show Dv (.str y) (ss.map V.str)=LZ ss y
 rw [KD];rfl
def GW (H:Hp) (t:Addr) (r:Str) (g:Int) (ss:List Str):Prop:=∃ c,H t=some (.tup [.str r,.int g,.ref c])/\H c=some (.tup (ss.map V.str))
theorem GW.same {H H':Hp}{t:Addr}{r:Str}{g:Int}{ss:List Str}(s:A8 H H') (h:GW H t r g ss):GW H' t r g ss:=by
 obtain ⟨c,a,b⟩:=h
 exact ⟨c,s _ _ a,s _ _ b⟩
structure CN (ns:List Str) (r:Str) (g:Int) (ss:List Str):Prop where
 rule:r∈EX
 g0:0<=g
 g1:g<=(ns.length:Int)
 up:Up ss
 sub:∀ x∈ss,x∈ns
theorem CN.UW {ns:List Str}{r:Str}{g:Int}{ss:List Str}(h:CN ns r g ss):UW ns r g ss=true:=by
 unfold Lw.UW eJ ZQ gZ
 rw [decide_eq_true h.rule,decide_eq_true h.g0,decide_eq_true h.g1,decide_eq_true h.up,Kz,Kz,Kz,Kz,HC]
 intro x hx
 exact decide_eq_true (h.sub x hx)
theorem Xg {ss:List Str}(x:Str) (h:Up ss):Up (wo ss x):=h.filter _
theorem ZH {ss:List Str}{x:Str}(nd:ss.Nodup) (h:x∈ss):(wo ss x).length+1=ss.length:=by
 have e:=Ei h
 have h1:=Z4 h
 have h2:=aa h nd
 have:wo ss x=ss.take (ss.idxOf x)++ss.drop (ss.idxOf x+1):=by
  conv=>lhs;rw [e]
  rw [eK,bg,Lj h1,Lj h2]
 rw [this]
 conv=>rhs;rw [e]
 simp only [Bm,Bc]
 omega
theorem CN.step {ns:List Str}{r:Str}{g:Int}{ss:List Str}(h:CN ns r g ss){x:Str}(hx:x∈ns):CN ns r ((ns.idxOf x:Nat)+1) (wo ss x):=by
 have hj:ns.idxOf x < ns.length:=List.idxOf_lt_length_iff.mpr hx
 exact ⟨h.rule,by omega,by omega,Xg x h.up,fun y hy=>h.sub y (JQ.mp hy).1⟩
def Vr (K:ZCy):Sp:=fun vs H Q _=>∃ (c:Addr) (ss:List Str) (x:Str),vs=[.ref c,.str x]/\A9 K H c (ss.map V.str)/\ss.length<=1000/\∀ l H',H l=none->A8 H H'->H' l=some (.tup ((wo ss x).map V.str))->Q (.ref l) H'
noncomputable def Md (ns:List Str) (g:Nat) (ss:List Str):Option Str:=(Ez ns g ss).head?
noncomputable def X1 (ns:List Str) (g:Nat) (ss:List Str):Nat:=match Md ns g ss with
 | none=>g
 | some x=>ns.idxOf x+1
noncomputable def W6 (ns:List Str) (g:Nat) (ss:List Str):List Str:=match Md ns g ss with
 | none=>ss
 | some x=>wo ss x
noncomputable def pA:Option Str->V
 | none=>.AF
 | some x=>.str x
def Uz (H:Hp) (t':Addr) (ns:List Str) (r:Str) (g:Nat) (ss:List Str):Prop:=∃ td,H t'=some (.tup [pA (Md ns g ss),.ref td])/\GW H td r (X1 ns g ss:Nat) (W6 ns g ss)
theorem Uz.same {H H':Hp}{t':Addr}{ns:List Str}{r:Str}{g:Nat}{ss:List Str}(s:A8 H H') (h:Uz H t' ns r g ss):Uz H' t' ns r g ss:=by
 obtain ⟨td,a,b⟩:=h
 exact ⟨td,s _ _ a,b.same s⟩
theorem Vo {x:Str}{FZ:List Str}:BX ((x :: FZ).map V.str) 0=some (.str x):=Mm (by decide) rfl
structure Ent where
 a:Addr
 ns:List Str
 t:Addr
 r:Str
 g:Nat
 ss:List Str
structure Ent.Ok (H:Hp) (lr lp:Addr) (e:Ent):Prop where
 ar:e.a≠lr
 ap:e.a≠lp
 ha:H e.a=some (.lst (e.ns.map V.str))
 hl:GW H e.t e.r e.g e.ss
 good:CN e.ns e.r e.g e.ss
 len:e.ns.length<=40
theorem GW.mono {H H':Hp}{lr lp t:Addr}{r:Str}{g:Int}{ss:List Str}{vs ws:List V}(h:GW H t r g ss) (hr:H lr=some (.lst vs)) (hp:H lp=some (.lst ws)) (k:∀ b o,b≠lr->b≠lp->H b=some o->H' b=some o):GW H' t r g ss:=by
 obtain ⟨c,a,b⟩:=h
 have ne:∀ {x y:Addr}{us vs:List V},H x=some (.tup us)->H y=some (.lst vs)->x≠y:=fun h1 h2 e=>by subst e;rw [h1] at h2;cases h2
 exact ⟨c,k _ _ (ne a hr) (ne a hp) a,k _ _ (ne b hr) (ne b hp) b⟩
theorem Ent.Ok.mono {H H':Hp}{lr lp:Addr}{e:Ent}{vs ws:List V}(h:e.Ok H lr lp) (hr:H lr=some (.lst vs)) (hp:H lp=some (.lst ws)) (k:∀ b o,b≠lr->b≠lp->H b=some o->H' b=some o):e.Ok H' lr lp:=
 ⟨h.ar,h.ap,k _ _ h.ar h.ap h.ha,h.hl.mono hr hp k,h.good,h.len⟩
theorem Ent.Ok.same {H H':Hp}{lr lp:Addr}{e:Ent}(h:e.Ok H lr lp) (s:A8 H H'):e.Ok H' lr lp:=⟨h.ar,h.ap,s _ _ h.ha,h.hl.same s,h.good,h.len⟩
end Lw
namespace L2
section
variable {X:Cx}
def mC (K:ZCy):R2:=fun x y H Q=>∃ a b xs ys,x=.ref a/\y=.ref b/\A9 K H a xs/\A9 K H b ys/\ys≠[]/\xs.length+ys.length<=sizeLine/\∀ p H',A8 H H'->A9 K H' p (xs++ys)->Q (.ref p) H'
theorem cM:BB X (binaryOp .Add) (mC X.K):=by
 intro pins s σ H x y v u Q I rx ry h
 obtain ⟨a,b,xs,ys,rfl,rfl,ha,hb,hy,hz,q⟩:=h
 by_cases hx:xs=[]
 ·subst hx
  cases rx;cases ry
  obtain ⟨A6,r1,p1,_⟩:=I.tuple ha
  obtain ⟨C3,r2,p2,_⟩:=I.tuple hb
  obtain ⟨⟨cls,dd,data,sl⟩,ho,hc,n,hd⟩:=id p1
  obtain ⟨⟨yl,RD,data2,KA⟩,Kt,Jv,n2,hd2⟩:=id p2
  simp only at hc hd Jv hd2
  subst hc hd Jv hd2
  have e:A6=[]:=r1.PB.mpr rfl
  exact concat_meets ⟨_,ho,rfl⟩ ⟨_,Kt,rfl⟩ noFill_tuple_add seq_tuple_add iu ir (iq _ _)
   (tuple_addW0 a b A6.toArray C3.toArray n n2 dd RD sl KA (by simp [e])) ⟨ho,Kt,⟨.ref b,H,I,rfl,q b H (A8.refl _) hb⟩⟩
 ·exact tN pins s σ H _ _ _ _ Q I rx ry ⟨a,b,xs,ys,rfl,rfl,ha,hb,hx,hz,fun e=>absurd e hy,fun _ p hp=>q p _ (Ac hp _) (A9.of AI)⟩
end
end L2
namespace Lw
open L2
noncomputable def FJ (i g:Nat):Nat:=if i < g then g+1 else g
noncomputable def EC (p g:Nat):Nat:=if p < g then g - 1 else g
noncomputable def AJ.gap (ns:List Str) (g:Nat):AJ->Nat
 | .put _ i=>FJ i g
 | .take x=>EC (ns.idxOf x) g
 | .move x i=>FJ i (EC (ns.idxOf x) g)
 | .turn _ _=>g
noncomputable def DS:List Str->Str->List Str
 | [],x=>[x]
 | y :: r,x=>if IQ x y then x :: y :: r else y :: DS r x
noncomputable def CZ (r:Str) (g i:Nat):Bool:=if decide (V.str r=V.str "all")=true then true else if decide (V.str r=V.str "ahead")=true then decide ((g:Int)<=(i:Int)) else false
noncomputable def AJ.Du (r:Str) (g:Nat) (ss:List Str):AJ->List Str
 | .put x i=>if CZ r g i=true then DS ss x else ss
 | .take x=>wo ss x
 | .move _ _=>ss
 | .turn _ _=>ss
theorem Ny {x k:Str}:∀ {ss:List Str},k∈DS ss x↔k=x∨k∈ss
 | []=>by simp [DS]
 | y :: r=>by
  unfold DS
  split
  ·simp
  ·rw [HE,Ny (ss:=r),HE]
   constructor
   ·rintro (h | h | h)
    ·exact .inr (.inl h)
    ·exact .inl h
    ·exact .inr (.inr h)
   ·rintro (h | h | h)
    ·exact .inr (.inl h)
    ·exact .inl h
    ·exact .inr (.inr h)
theorem Y1 {x:Str}:∀ {ss:List Str},(DS ss x).length=ss.length+1
 | []=>rfl
 | y :: r=>by
  unfold DS
  split
  ·rfl
  ·rw [Bc,Y1 (ss:=r)];rfl
theorem PX {x:Str}:∀ {ss:List Str},Up ss->x∉ss->Up (DS ss x)
 | [],_,_=>List.pairwise_singleton _ _
 | y :: r,h,hx=>by
  obtain ⟨h1,h2⟩:=List.pairwise_cons.mp h
  unfold DS
  split
  ·next c=>exact List.pairwise_cons.mpr ⟨fun k hk=>(List.mem_cons.mp hk).elim (fun e=>by rw [e];exact c) fun hk=>Ot c (h1 k hk),h⟩
  ·next c=>
   refine List.pairwise_cons.mpr ⟨fun k hk=>?_,PX h2 fun hm=>hx (Fy _ hm)⟩
   rcases Ny.mp hk with rfl | hk
   ·rcases Ui k y with z | z | z
    ·exact absurd z c
    ·exact absurd (by rw [z];exact EA) hx
    ·exact z
   ·exact h1 k hk
theorem Vf {ss ts:List Str}{x:Str}(hp:ts.Perm (ss++[x])) (hs:sortedS ts=true) (h:Up ss) (hx:x∉ss):ts=DS ss x:=by
 have nd:ts.Nodup:=hp.nodup_iff.mpr (P0 (PR h) hx)
 refine Ve (Z9 hs nd) (PX h hx) fun k=>?_
 rw [hp.mem_iff,Ny,Ie,List.mem_singleton]
 exact or_comm
theorem CN.len {ns:List Str}{r:Str}{g:Int}{ss:List Str}(h:CN ns r g ss):ss.length<=ns.length:=IC (PR h.up) h.sub
theorem CN.led {ns:List Str}{r:Str}{g:Nat}{ss:List Str}{d:AJ}(h:CN ns r g ss) (ok:d.Ok 40 ns) (nd:ns.Nodup):CN (d.done ns) r (d.gap ns g:Nat) (d.Du r g ss):=by
 have g1:=h.g1
 cases d with
 | put x i=>
  obtain ⟨h1,h2,h3,h4⟩:=ok
  refine ⟨h.rule,by omega,?_,?_,?_⟩
  ·show ((FJ i g:Nat):Int)<=((ins ns x i).length:Int)
   rw [R4]
   unfold FJ
   split <;> omega
  ·show Up (if CZ r g i=true then DS ss x else ss)
   split
   ·exact PX h.up fun hm=>h2 (h.sub x hm)
   ·exact h.up
  ·intro k hk
   show k∈ins ns x i
   rw [Q5]
   have Vb:k∈(if CZ r g i=true then DS ss x else ss):=hk
   split at Vb
   ·rcases Ny.mp Vb with z | z
    ·exact .inl z
    ·exact .inr (h.sub k z)
   ·exact .inr (h.sub k Vb)
 | take x=>
  have hx:x∈ns:=ok
  have hl:=Mg hx nd
  have hj:ns.idxOf x < ns.length:=List.idxOf_lt_length_iff.mpr hx
  refine ⟨h.rule,by omega,?_,Xg x h.up,fun k hk=>?_⟩
  ·show ((EC (ns.idxOf x) g:Nat):Int)<=((wo ns x).length:Int)
   unfold EC
   split <;> omega
  ·obtain ⟨a,b⟩:=JQ.mp (show k∈wo ss x from hk)
   exact JQ.mpr ⟨h.sub k a,b⟩
 | move x i=>
  obtain ⟨hx,hi⟩:=ok
  have hl:=Mg hx nd
  have hj:ns.idxOf x < ns.length:=List.idxOf_lt_length_iff.mpr hx
  refine ⟨h.rule,by omega,?_,h.up,fun k hk=>?_⟩
  ·show ((FJ i (EC (ns.idxOf x) g):Nat):Int)<=((ins (wo ns x) x i).length:Int)
   rw [R4]
   unfold FJ EC
   split <;> split <;> omega
  ·show k∈ins (wo ns x) x i
   rw [Q5,JQ]
   by_cases e:k=x
   ·exact .inl e
   ·exact .inr ⟨h.sub k hk,e⟩
 | turn lo hi=>
  obtain ⟨h1,h2⟩:=ok
  refine ⟨h.rule,by omega,?_,h.up,fun k hk=>(dW h1).mpr (h.sub k hk)⟩
  show ((g:Nat):Int)<=((FE ns lo hi).length:Int)
  rw [aD h1 h2];exact g1
def gQ:Sp:=fun vs H Q _=>∃ (g i:Nat),vs=[.int g,.int i]/\Q (.int (FJ i g:Nat)) H
def i5:Sp:=fun vs H Q _=>∃ (g p:Nat),vs=[.int g,.int p]/\Q (.int (EC p g:Nat)) H
def eG:Sp:=fun vs H Q _=>∃ (a t:Addr) (ns:List Str) (g:Nat) (d:AJ),vs=[.ref a,.int g,.ref t]/\H a=some (.lst (ns.map V.str))/\H t=some (.tup d.vals)/\d.Ok 40 ns/\∀ H',A8 H H'->Q (.int (d.gap ns g:Nat)) H'
def hU:Sp:=fun vs H Q _=>∃ (t:Addr) (r:Str) (g i:Nat) (c:Addr),vs=[.ref t,.int i]/\H t=some (.tup [.str r,.int g,.ref c])/\Q (.bl (CZ r g i)) H
theorem Vk {ns ss:List Str}{r:Str}{g:Int}{d:AJ}(h:CN ns r g ss) (ok:d.Ok 40 ns):∀ x i,d=.put x i->x∉ss:=by
 rintro x i rfl hm
 exact ok.2.1 (h.sub x hm)
theorem uf (p g:Nat):((g:Int) - (if decide ((p:Int) < (g:Int))=true then 1 else 0))=((EC p g:Nat):Int):=by
 unfold EC
 by_cases h:p < g
 ·rw [if_pos h,if_pos (decide_eq_true (by omega))];omega
 ·rw [if_neg h,if_neg (by simp;omega)];omega
theorem vc (i g:Nat):((g:Int)+(if decide ((i:Int) < (g:Int))=true then 1 else 0))=((FJ i g:Nat):Int):=by
 unfold FJ
 by_cases h:i < g
 ·rw [if_pos h,if_pos (decide_eq_true (by omega))];omega
 ·rw [if_neg h,if_neg (by simp;omega)];omega
noncomputable def AJ.kind:AJ->Str
 | .put _ _ => "put"
 | .take _ => "take"
 | .move _ _ => "move"
 | .turn _ _ => "turn"
theorem Gk (d:AJ):BX d.vals 0=some (.str d.kind):=by cases d <;> rfl
noncomputable def AJ.NH (ns:List Str) (g:Nat):AJ->Nat
 | .take x=>EC (ns.idxOf x) g
 | .move x _=>EC (ns.idxOf x) g
 | _=>g
theorem p5 {ns:List Str}(g:Nat){d:AJ}(ok:d.Ok 40 ns) (h:Dv (.str d.kind) [.str "take", .str "move"]=true):∃ x,BX d.vals 1=some (.str x)/\x∈ns/\d.NH ns g=EC (ns.idxOf x) g:=by
 cases d with
 | put x i=>(simp only [AJ.kind] at h;exact absurd h (by decide +kernel))
 | take x=>exact ⟨x,rfl,ok,rfl⟩
 | move x i=>exact ⟨x,rfl,ok.1,rfl⟩
 | turn lo hi=>(simp only [AJ.kind] at h;exact absurd h (by decide +kernel))
theorem qf {ns:List Str}(g:Nat){d:AJ}(h:¬ Dv (.str d.kind) [.str "take", .str "move"]=true):d.NH ns g=g:=by
 cases d with
 | put x i=>rfl
 | take x=>exact absurd (by simp only [AJ.kind];decide +kernel) h
 | move x i=>exact absurd (by simp only [AJ.kind];decide +kernel) h
 | turn lo hi=>rfl
theorem xg {ns:List Str}(g:Nat){d:AJ}(h:Dv (.str d.kind) [.str "put", .str "move"]=true):∃ i:Nat,BX d.vals 2=some (.int i)/\d.gap ns g=FJ i (d.NH ns g):=by
 cases d with
 | put x i=>exact ⟨i,rfl,rfl⟩
 | take x=>(simp only [AJ.kind] at h;exact absurd h (by decide +kernel))
 | move x i=>exact ⟨i,rfl,rfl⟩
 | turn lo hi=>(simp only [AJ.kind] at h;exact absurd h (by decide +kernel))
theorem lF {ns:List Str}(g:Nat){d:AJ}(h:¬ Dv (.str d.kind) [.str "put", .str "move"]=true):d.gap ns g=d.NH ns g:=by
 cases d with
 | put x i=>exact absurd (by simp only [AJ.kind];decide +kernel) h
 | take x=>rfl
 | move x i=>exact absurd (by simp only [AJ.kind];decide +kernel) h
 | turn lo hi=>rfl
noncomputable def AJ.RA (ss:List Str):AJ->List Str
 | .take x=>wo ss x
 | _=>ss
theorem x2 {r:Str}{g:Nat}{ss:List Str}{d:AJ}(h:decide (V.str d.kind=V.str "take")=true):∃ x,BX d.vals 1=some (.str x)/\d.RA ss=wo ss x:=by
 cases d with
 | take x=>exact ⟨x,rfl,rfl⟩
 | _=>
  have h':=of_decide_eq_true h
  injection h' with h2
  exact absurd h2 (by simp only [AJ.kind];decide +kernel)
theorem bo {ss:List Str}{d:AJ}(h:¬ decide (V.str d.kind=V.str "take")=true):d.RA ss=ss:=by
 cases d with
 | take x=>exact absurd (by simp only [AJ.kind];decide +kernel) h
 | _=>rfl
theorem Xn {d:AJ}(h:decide (V.str d.kind=V.str "put")=true):∃ x i,d=.put x i:=by
 cases d with
 | put x i=>exact ⟨x,i,rfl⟩
 | _=>
  have h':=of_decide_eq_true h
  injection h' with h2
  exact absurd h2 (by simp only [AJ.kind];decide +kernel)
theorem Zq {r:Str}{g:Nat}{ss:List Str}{d:AJ}(h:¬ decide (V.str d.kind=V.str "put")=true):d.Du r g ss=d.RA ss:=by
 cases d with
 | put x i=>exact absurd (by simp only [AJ.kind];decide +kernel) h
 | _=>rfl
theorem UA {r:Str}{g:Nat}{ss:List Str}{x:Str}{i:Nat}(h:CZ r g i=true):AJ.Du r g ss (.put x i)=DS ss x:=by show (if _ then _ else _)=_;rw [if_pos h]
theorem ND {r:Str}{g:Nat}{ss:List Str}{x:Str}{i:Nat}(h:CZ r g i=false):AJ.Du r g ss (.put x i)=ss:=by show (if _ then _ else _)=_;rw [if_neg (by rw [h];decide)]
theorem XD {d:AJ}(h:decide (V.str d.kind=V.str "take")=true):∃ x,d=.take x:=by
 cases d with
 | take x=>exact ⟨x,rfl⟩
 | _=>
  have h':=of_decide_eq_true h
  injection h' with h2
  exact absurd h2 (by simp only [AJ.kind];decide +kernel)
theorem oy {d:AJ}(h:decide (V.str d.kind=V.str "move")=true):∃ x i,d=.move x i:=by
 cases d with
 | move x i=>exact ⟨x,i,rfl⟩
 | _=>
  have h':=of_decide_eq_true h
  injection h' with h2
  exact absurd h2 (by simp only [AJ.kind];decide +kernel)
theorem xa {d:AJ}(h1:¬ decide (V.str d.kind=V.str "put")=true) (h2:¬ decide (V.str d.kind=V.str "take")=true) (h3:¬ decide (V.str d.kind=V.str "move")=true):∃ lo hi,d=.turn lo hi:=by
 cases d with
 | put x i=>exact absurd (by simp only [AJ.kind];decide +kernel) h1
 | take x=>exact absurd (by simp only [AJ.kind];decide +kernel) h2
 | move x i=>exact absurd (by simp only [AJ.kind];decide +kernel) h3
 | turn lo hi=>exact ⟨lo,hi,rfl⟩
theorem o7 {r:Str}{g:Nat}{ss:List Str}{d:AJ}(h1:¬ decide (V.str d.kind=V.str "put")=true) (h2:¬ decide (V.str d.kind=V.str "take")=true):d.Du r g ss=ss:=by
 rw [Zq h1,bo h2]
noncomputable def AJ.v1:AJ->V
 | .put x _=>.str x
 | .take x=>.str x
 | .move x _=>.str x
 | .turn lo _=>.int lo
theorem ax (d:AJ):BX d.vals 1=some d.v1:=by cases d <;> rfl
theorem vx (y:Str) (d:AJ):MT (.str y) d.v1=true:=by cases d <;> rfl
noncomputable def AJ.made (ns:List Str):AJ->List Str
 | .put x _=>wo ns x
 | .take x=>wo ns x
 | .move x _=>wo ns x
 | .turn _ _=>ns
theorem rQ (ns:List Str) (d:AJ):((ns.map V.str).filter (HU d.v1)).map (fun v=>v)=(d.made ns).map V.str:=by
 cases d with
 | turn lo hi=>exact wH ns lo
 | _=>exact Nx ns _
theorem tO (ns:List Str) (d:AJ):(d.made ns).length<=ns.length:=by
 cases d with
 | turn lo hi=>exact An _
 | _=>exact Ro _ _
theorem wM {d:AJ}(h:decide (V.str d.kind=V.str "turn")=true):∃ lo hi,d=.turn lo hi:=by
 cases d with
 | turn lo hi=>exact ⟨lo,hi,rfl⟩
 | _=>
  have h':=of_decide_eq_true h
  injection h' with h2
  exact absurd h2 (by simp only [AJ.kind];decide +kernel)
theorem kZ {ns:List Str}{d:AJ}(h:¬ (!decide (V.str d.kind=V.str "take"))=true):d.done ns=d.made ns:=by
 have h':decide (V.str d.kind=V.str "take")=true:=by simpa using h
 obtain ⟨x,rfl⟩:=XD h'
 rfl
theorem nr {ns:List Str}{d:AJ}(ok:d.Ok 40 ns) (nd:ns.Nodup) (h1:¬ decide (V.str d.kind=V.str "turn")=true) (h2:(!decide (V.str d.kind=V.str "take"))=true) :
  ∃ (x:Str) (i:Nat),BX d.vals 2=some (.int i)/\d.v1=.str x/\i<=(d.made ns).length/\d.done ns=ins (d.made ns) x i:=by
 cases d with
 | put x i=>
  refine ⟨x,i,rfl,rfl,?_,?_⟩
  ·show i<=(wo ns x).length
   rw [Lj ok.2.1];exact ok.2.2.1
  ·show ins ns x i=ins (wo ns x) x i
   rw [Lj ok.2.1]
 | take x=>exact absurd h2 (by simp only [AJ.kind];decide +kernel)
 | move x i=>
  refine ⟨x,i,rfl,rfl,?_,rfl⟩
  show i<=(wo ns x).length
  have:=Mg ok.1 nd
  have:=ok.2
  omega
 | turn lo hi=>exact absurd (by simp only [AJ.kind];decide +kernel) h1
def bE:Sp:=fun vs H Q _=>∃ r:Str,vs=[.str r]/\r∈EX/\Q .AF H
theorem GY {rs:List Str}(nd:rs.Nodup){g:Nat}{x:Str}(h:rs[g]?=some x):rs.idxOf x=g:=by
 obtain ⟨hg,e⟩:=List.getElem?_eq_some_iff.mp h
 have hx:x∈rs:=CG h
 have hj:rs.idxOf x < rs.length:=List.idxOf_lt_length_iff.mpr hx
 have e2:rs[rs.idxOf x]=x:=YQ hj
 have pw:=List.pairwise_iff_getElem.mp nd
 rcases Rx (rs.idxOf x) g with c | c | c
 ·exact absurd (e2.trans e.symm) (pw _ _ hj hg c)
 ·exact c
 ·exact absurd (e.trans e2.symm) (pw _ _ hg hj c)
end Lw
namespace L2
section
variable {X:Cx}{pins:ZCz}{σ:St} {H2:Hp}{s2:Shared}{elt iter:Expr}{x z:Str}{px pz tp pos:Pos}{tk:Nat}{scope:Scope}{B4:List Str}{js:List Nat}{te:TE}{J:It}{fp:List Addr}{it:Addr}
 {tn:Nat->Heap->Prop}
end
end L2
namespace Fz
open L2 Lw
section
variable [Xw]
variable {E:Ent0}{ss:List Slot}{σ:L2.St} {F H F' H':Hp}{K:ZCy}{js:List Nat}{ta tb te:TE}{k:PV->Prop}{nx:List Slot->Prop}{R:Ay}
theorem Sg.Qa (S:Sg E ss σ F H){i:Nat}{p:Addr}(hi:ss[i]?=some .AN) (e:σ[i]?=some (some (.ref p))) (s:BJ p H H'):Mv E ss σ F H F H':=by
 obtain ⟨p',e',fp,_,pp⟩:=S.ok i _ hi
 rw [e] at e'
 cases e'
 refine S.step (A8.refl _) (fun a o q=>s.same a o (EN q fp) (S.fh a o q)) (fun a o n q=>s.same a o (fun z=>?_) q) (fun a o q=>.inl q) fun j l hj ej=>?_
 ·rw [z] at n;exact n i hi e
 ·by_cases z:l=p
  ·rw [z];exact s.AN
  ·exact Ba.keep (S.E7 hj ej) fun o q=>s.same l o z q
theorem kG {i:Nat}(hi:ss[i]?=some .AN) (h:Wp ss te fun x=>∃ m,x=.int m/\0 < m/\m < 10 ^ 18/\∀ r:Int,0<=r->r < m->k (.int r)):Wp ss (CP Iy [] E0 (AS (BG i) (AS te Aw))) k:=⟨fun E σ F H Q S q=>by
 obtain ⟨p,e,_⟩:=S.ok i _ hi
 refine ⟨_,e,h.go E σ F H _ S fun v x F1 H1 m1 r ⟨m,em,m0,N3,kk⟩=>?_⟩
 subst em;cases r
 exact ⟨p,m,rfl,m1.st.E7 hi e,m0,N3,fun r H2 r0 r1 s=>q _ _ F1 H2 (m1.trans (m1.st.Qa hi e s)) (.int r) (kk r r0 r1)⟩⟩
theorem kP {sp:Sp}{i:Nat}{k:List PV->Prop}(Fb:sp=VP) (hi:ss[i]?=some .AN) (h:Wp ss te fun x=>∃ m,x=.int m/\1<=m/\m<=100/\∀ ns:List Str,(ns.length:Int)<=m->(∀ x∈ns,Nm x)->ns.Nodup->k (ns.map PV.str)):Wn ss (CP sp [] E0 (AS (BG i) (AS te Aw))) k:=⟨fun E σ F H Q S q=>by
 subst Fb
 obtain ⟨p,e,_⟩:=S.ok i _ hi
 refine ⟨_,e,h.go E σ F H _ S fun v x F1 H1 m1 r ⟨m,em,m0,N3,kk⟩=>?_⟩
 subst em;cases r
 refine ⟨p,m,rfl,m1.st.E7 hi e,m0,N3,fun l H2 ns hl s Ck hz hN nd=>?_⟩
 have m2:=m1.st.Qa hi e s
 exact q l _ _ F1 H2 (m1.trans m2) (m1.st.Bb hl) (m1.none hl) Ck (Kb ns) (kk ns hz hN nd)⟩
def DW (K:ZCy) (ns:List Int):Hp->V->Prop:=fun F v=>∃ a,v=.ref a/\AE K F a (ns.map V.int)
theorem W3 (K:ZCy) (ns:List Int):∀ (v:V) (F F':Hp),A8 F F'->DW K ns F v->DW K ns F' v:=fun v F F' s ⟨a,e,h⟩=>⟨a,e,by
 rcases h with (h | ⟨o,h⟩) | h
 ·exact .inl (.inl (s _ _ h))
 ·exact .inl (.inr ⟨o,s _ _ h⟩)
 ·exact .inr h⟩
theorem yk {i:Nat}{ns:List Int}(hi:ss[i]?=some (.raw (DW K ns))) (h:k (.int ns.length)):Wp ss (CB (QF K) (AS (BG i) Aw)) k:=⟨fun E σ F H Q S q=>by
 obtain ⟨v,e,⟨a,ev,hq⟩,st⟩:=S.ok i _ hi
 subst ev
 obtain ⟨a',ea,Ib⟩:=W3 K ns _ F H S.fh ⟨a,rfl,hq⟩
 cases ea
 refine ⟨_,e,a,_,rfl,.inl Ib,?_⟩
 rw [AV]
 exact q _ _ F H (.refl S) (.int _) h⟩
theorem ZAu {i j:Nat}{ns:List Int}(hi:ss[i]?=some (.raw (DW K ns))) (h:Wp ss te fun x=>∃ m,x=.int m/\0<=m/\m<=1000/\nx (ss.set j .AN)):Ws ss (FF (CP (US K) [] E0 (AS (BG i) (AS te Aw))) (Cn j)) nx R:=⟨fun E D σ F H S hn hr=>by
 obtain ⟨v,e,⟨a,ev,hq⟩,st⟩:=S.ok i _ hi
 subst ev
 refine ⟨_,e,h.go E σ F H _ S fun v x F1 H1 m1 r ⟨m,em,m0,N3,kk⟩=>?_⟩
 subst em;cases r
 obtain ⟨v',e',yj,_⟩:=m1.st.ok i _ hi
 rw [e] at e';cases e'
 obtain ⟨a',ea,Ib⟩:=W3 K ns _ F1 H1 m1.st.fh yj
 cases ea
 refine ⟨a,ns,m,rfl,Ib,m0,N3,fun p H2 hp s pp=>?_⟩
 have m2:=m1.st.grow s
 exact hn _ _ F1 H2 kk (m2.st.setG ⟨p,rfl,m1.st.Bb hp,.inl (m1.st.Dz hp),pp⟩ fun l e b u _ hu mu=>by cases e;exact m1.st.Rc hu hp mu) m1.ff⟩
end
section
variable {E:Ent0}{ss:List Slot}{σ:L2.St} {F H F' H':Hp}{K:ZCy}
theorem wb {N:List Str}{vs:List V}{Q:VK}{X:XK}{t:TS}(h:ON K vs H Q X) (hw:∀ ns:List Int,ns.length<=63->Ws (.raw (DW K ns) :: List.replicate (N.length - 1) .any) t (fun _=>False) (.is fun p=>p=.bl true)):t { nx:=fun _ H'=>Q .AF H',rt:=Q } (L2.start N vs) H:=by
 obtain ⟨a,ns,rfl,hS,Pp,q⟩:=h
 have S:Sg (E3 [] H H) [.raw (DW K ns)] [some (.ref a)] H H:=by
  have nn:∀ {p:Prop}(a:Addr),a∈([]:List Addr)->p:=fun a h=>absurd h BH
  refine ⟨⟨A8.refl _,A8.refl _,fun _ _ _ e=>e,fun _ _ e=>.inl e,fun a h=>nn a h,fun a h=>nn a h,fun a h=>nn a h,fun a h=>nn a h,fun a h=>nn a h,fun a h=>nn a h⟩,rfl,fun i s hi=>?_,fun i j s u l Fl hi hj ms=>?_⟩
  ·cases i with
   | zero=>cases hi;exact ⟨_,rfl,⟨a,rfl,hS⟩,W3 K ns _⟩
   | succ i=>simp at hi
  ·cases i with
   | zero=>cases hi;cases ms
   | succ i=>simp at hi
 refine (hw ns Pp).go (Rh (E3 [] H H)) _ _ H H (S.grown _) (fun _ _ _ _ h=>h.elim) fun v F' H' f ok=>?_
 obtain ⟨p,r,rfl⟩:=ok
 cases r
 exact q H'
end
section
variable [Xw]
variable {E:Ent0}{ss:List Slot}{σ:L2.St} {F H F' H':Hp}{K:ZCy}{js:List Nat}{ta tb te:TE}{k:PV->Prop}{nx:List Slot->Prop}{R:Ay}
theorem Wi.mono {wi:TI}{k k':List PV->Prop}(h:Wi ss wi k) (i:∀ xs,k xs->k' xs):Wi ss wi k':=⟨fun E σ F H R S q=>h.go E σ F H R S fun J xs F' H' m s kk=>q J xs F' H' m s (i xs kk)⟩
theorem Wt.mono {t:TT}{k k':Bool->Prop}(h:Wt ss t k) (i:∀ b,k b->k' b):Wt ss t k':=⟨fun E σ F H Q S q=>h.go E σ F H Q S fun b F' H' m kk=>q b F' H' m (i b kk)⟩
theorem iA {α:Type} {wi:TI}{tt:TT}{te:TE}{k:List PV->Prop}(c:α->PV) (f:α->Bool) (g:α->PV)
  (h:Wi ss wi fun xs=>∃ ns:List α,xs=ns.map c/\ns.length<=100000/\(∀ x∈ns,Wt (Dm js ss++[.is (c x)]) tt fun b=>b=f x)/\(∀ x∈ns,f x=true->Wp (Dm js ss++[.is (c x)]) te fun p=>p=g x)/\k ((ns.filter f).map g))
  (inj:∀ x y,c x=c y->x=y) (nd:js.Nodup:=by decide) (np:Uy js ss=true:=by rfl):Wn ss (LS wi js tt te) k:=by
 by_cases hα:Nonempty α
 ·obtain ⟨x0⟩:=hα
  have inv:∀ p:PV,∃ x:α,∀ y,c y=p->y=x:=fun p=>by
   by_cases q:∃ y,c y=p
   ·obtain ⟨y,hy⟩:=q
    exact ⟨y,fun z hz=>inj _ _ (hz.trans hy.symm)⟩
   ·exact ⟨x0,fun y hy=>absurd ⟨y,hy⟩ q⟩
  let d:PV->α:=fun p=>Classical.choose (inv p)
  have hd:∀ x,d (c x)=x:=fun x=>(Classical.choose_spec (inv (c x)) x rfl).symm
  refine cQ (fun p=>f (d p)) (fun p=>g (d p)) (h.mono fun xs ⟨ns,e,hz,h1,h2,kk⟩=>?_) nd np
  subst e
  refine ⟨by rw [AV];exact hz,fun x hx=>?_,fun x hx hf=>?_,?_⟩
  ·obtain ⟨y,hy,rfl⟩:=List.mem_map.mp hx
   rw [hd];exact h1 y hy
  ·obtain ⟨y,hy,rfl⟩:=List.mem_map.mp hx
   rw [hd] at hf ⊢;exact h2 y hy hf
  ·have e:((ns.map c).filter fun p=>f (d p)).map (fun p=>g (d p))=(ns.filter f).map g:=by
    rw [iQ,HD]
    congr 1
    ·funext x;show g (d (c x))=g x;rw [hd]
    ·congr 1;funext x;show f (d (c x))=f x;rw [hd]
   rw [e];exact kk
 ·refine cQ (fun _=>true) (fun p=>p) (h.mono fun xs ⟨ns,e,hz,h1,h2,kk⟩=>?_) nd np
  have en:ns=[]:=by
   cases ns with
   | nil=>rfl
   | cons x r=>exact absurd ⟨x⟩ hα
  subst en;subst e
  exact ⟨by simp,fun x hx=>absurd hx (by simp),fun x hx=>absurd hx (by simp),kk⟩
theorem str_inj:∀ x y:Str,PV.str x=PV.str y->x=y:=fun _ _ e=>by injection e
theorem zr (h:Wp ss ta fun p=>∃ x,p=.str x/\Wq ss tb fun _ ys=>∃ ns:List Str,ys=ns.map PV.str/\k (.bl (decide (x∈ns)))):Wp ss (BQ (Kr K false) ta tb) k:=Yk h
theorem Wr (h:Wp ss ta fun p=>∃ x,p=.str x/\Wq ss tb fun _ ys=>∃ ns:List Str,ys=ns.map PV.str/\k (.bl (!decide (x∈ns)))):Wp ss (BQ (Kr K true) ta tb) k:=Yk h
theorem tL (h:Wq ss ta fun tp xs=>∃ ns:List Str,xs=ns.map PV.str/\Wq ss tb fun DY ys=>DY=tp/\∃ ms:List Str,ys=ms.map PV.str/\k (.bl (decide (ns=ms)))):Wp ss (BQ (O0 K false) ta tb) k:=c5 h
theorem bj (h:Wq ss ta fun tp xs=>∃ ns:List Str,xs=ns.map PV.str/\Wq ss tb fun DY ys=>DY=tp/\∃ ms:List Str,ys=ms.map PV.str/\k (.bl (!decide (ns=ms)))):Wp ss (BQ (O0 K true) ta tb) k:=c5 h
theorem Wq.mono {k k':Bool->List PV->Prop}(h:Wq ss te k) (i:∀ b xs,k b xs->k' b xs):Wq ss te k':=⟨fun E σ F H Q S q=>h.go E σ F H Q S fun v tp xs F' H' m s kk=>q v tp xs F' H' m s (i tp xs kk)⟩
theorem Wo.mono {t:TO}{k k':Option Int->Prop}(h:Wo ss t k) (i:∀ o,k o->k' o):Wo ss t k':=⟨fun E σ F H Q S q=>h.go E σ F H Q S fun o F' H' m kk=>q o F' H' m (i o kk)⟩
theorem Ze {tl th:TO}{k:Bool->List PV->Prop}(h:Wq ss te fun tp xs=>Wo ss tl fun lo=>Wo ss th fun hi=>k tp (G8 xs lo hi)):Wz ss (LC (QN K) te tl th) k:=
 Hx (bf (h.mono fun tp xs h=>h.mono fun lo h=>h.mono fun hi h=>by
  cases tp
  ·exact ⟨_,.inl ⟨rfl,h⟩⟩
  ·exact ⟨_,.inr ⟨rfl,h⟩⟩))
theorem yP {tl th:TO}{k:Bool->List PV->Prop}(h:Wq ss te fun tp xs=>Wo ss tl fun lo=>Wo ss th fun hi=>k tp (G8 xs lo hi)):Wq ss (LC (QN K) te tl th) k:=ag (Ze h)
theorem sj {α β:Type} (c:α->β) (xs:List α) (lo hi:Option Int):G8 (xs.map c) lo hi=(G8 xs lo hi).map c:=by
 unfold G8;rw [AV,OZ,OY]
theorem yR {α β:Type} (c:α->β) (xs ys:List α):xs.map c++ys.map c=(xs++ys).map c:=by rw [E9]
theorem qu {α:Type} (g:α->Bool) (xs:List α):xs.map (fun x=>PV.bl (g x))=(xs.map g).map PV.bl:=by rw [HD];rfl
noncomputable def b2:PV->Bool
 | .bl b=>b
 | _=>false
end
end Fz
namespace HT
open AutoSeq1 (wpAny_loadPart')
section
variable {prog:Program}{w:World}{A:Around}{E:Value->Shared->Prop}{s:Shared}
end
end HT
namespace L2
section
variable {X:Cx}
noncomputable def lI (K:ZCy) (tp:Bool) (a:Addr) (xs:List V):It:=
 ⟨fun i H=>CS K tp H a xs/\i < xs.length,fun i H x H'=>∃ p y,xs[i]?=some y/\x=.ref p/\H p=none/\H'=upd H p (.tup [.int i,y]),fun i H=>CS K tp H a xs/\xs.length<=i⟩
def qW (K:ZCy) (t:TA):TI:=fun σ H R=>t σ H fun vs H1=>∃ a tp xs,vs=[.ref a]/\CS K tp H1 a xs/\R (lI K tp a xs) H1
end
end L2
namespace Fz
open L2 Lw
section
variable [Xw]
variable {E:Ent0}{ss:List Slot}{σ:L2.St} {F H F' H':Hp}{K:ZCy}{js:List Nat}{ta tb te:TE}{k:PV->Prop}{nx:List Slot->Prop}{R:Ay}{xs ys:List PV}
theorem kB (h:Wq ss ta fun _ xs=>∃ ns:List Str,xs=ns.map PV.str/\Wp ss tb fun p=>∃ x,p=.str x/\x∈ns/\k (.int (ns.idxOf x:Nat))):Wp ss (CP Lb [] E0 (AS ta (AS tb Aw))) k:=⟨fun E σ F H Q S q=>
 h.go E σ F H _ S fun v tp xs F1 H1 m1 sv ⟨ns,e,h2⟩=>h2.go E σ F1 H1 _ m1.st fun v2 p2 F2 H2 m2 r2 ⟨x,e2,hx,kk⟩=>by
  subst e;subst e2;cases r2
  obtain ⟨l,vs,rfl,hl,r⟩:=(sv.mv m2).seq m2.st
  rw [r.strs] at hl
  exact ⟨l,tp,ns,x,rfl,hl,hx,q _ _ F2 H2 (m1.trans m2) (.int _) kk⟩⟩
theorem gy (h:Wq ss ta fun tp xs=>tp=false/\∃ ns:List Str,xs=ns.map PV.str/\Wp ss tb fun p=>∃ x,p=.str x/\x∈ns/\k (.int (ns.idxOf x:Nat))):Wp ss (Nv K "list" (fG K) ta (AS tb Aw)) k:=⟨fun E σ F H Q S q=>
 h.go E σ F H _ S fun v tp xs F1 H1 m1 sv ⟨et,ns,e,h2⟩=>by
  subst e;subst et
  obtain ⟨l,vs,rfl,hl,r⟩:=sv.seq m1.st
  refine ⟨.inl ⟨rfl,_,AE.of hl⟩,h2.go E σ F1 H1 _ m1.st fun v2 p2 F2 H2 m2 r2 ⟨x,e2,hx,kk⟩=>?_⟩
  subst e2;cases r2
  obtain ⟨l',C6,e',DC,r'⟩:=(sv.mv m2).seq m2.st
  cases e'
  rw [r'.strs] at DC
  exact ⟨l,ns,x,rfl,rfl,AE.of DC,hx,q _ _ F2 H2 (m1.trans m2) (.int _) kk⟩⟩
noncomputable def IH (xs:List PV):List PV:=(List.range xs.length).map fun i:Nat=>.tup [.int (i:Int),xs.getD i .AF]
theorem LA (xs:List PV):(IH xs).length=xs.length:=by simp [IH]
theorem W2 {xs:List PV}{i:Nat}{x:PV}(h:xs[i]?=some x):(IH xs)[i]?=some (.tup [.int (i:Int),x]):=by
 have hi:i < xs.length:=(List.getElem?_eq_some_iff.mp h).1
 unfold IH
 rw [BF,Rm hi]
 show some (PV.tup [PV.int (i:Int),xs.getD i PV.AF])=_
 rw [Rk,h];rfl
theorem ak {xs:List PV}{i:Nat}{p:PV}(h:(IH xs)[i]?=some p):∃ x,xs[i]?=some x/\p=.tup [.int (i:Int),x]:=by
 have hi:i < xs.length:=by have:=(List.getElem?_eq_some_iff.mp h).1;rwa [LA] at this
 have e:=B1 hi
 refine ⟨xs[i],e,?_⟩
 rw [W2 e] at h
 exact (BU h).symm
theorem ZA9 {k:List PV->Prop}(h:Wz ss te fun _ xs=>k (IH xs)):Wi ss (qW K (AS te Aw)) k:=⟨fun E σ F H R S q=>
 h.go E σ F H _ S fun v tp xs F1 H1 m1 f kk=>by
  obtain ⟨l,vs,ev,hl,r⟩:∃ l vs,v=.ref l/\(∀ (ss:List Slot) (σ:L2.St) (F H:Hp),A8 F1 F->Sg E ss σ F H->H l=some (BI tp vs))/\AU F1 vs xs:=by
   cases tp with
   | true=>
    have f':Rep F1 v (.tup xs):=f
    cases f' with
    | tup e r=>exact ⟨_,_,rfl,fun ss σ F H s S=>S.fh _ _ (s _ _ e),r⟩
   | false=>
    obtain ⟨l,vs,e,h1,r⟩:=f
    refine ⟨l,vs,e,fun ss σ F H s S=>?_,r⟩
    rcases h1 with h1 | ⟨hA,h1⟩
    ·exact S.fh _ _ (s _ _ h1)
    ·exact S.keep _ _ hA h1
  subst ev
  refine ⟨l,tp,vs,rfl,BI.sq (hl ss σ F1 H1 (A8.refl _) m1.st),q _ (IH xs) F1 H1 m1 ⟨fun ss σ F H i s S hi=>?_,fun ss σ F H s S=>?_,fun ss σ F H i x H' s S hi y=>?_⟩ kk⟩
  ·rw [LA] at hi;exact ⟨BI.sq (hl ss σ F H s S),by rw [r.length];exact hi⟩
  ·refine ⟨BI.sq (hl ss σ F H s S),?_⟩
   rw [LA,r.length];exact An _
  ·obtain ⟨p,y,hy,ex,hp,eH⟩:=y
   subst ex;subst eH
   obtain ⟨z,hz,rz⟩:=r.get' hy
   have m:=S.alloc hp (.tup [.int i,y])
   exact ⟨_,_,W2 hz,m,.tup AI (.cons (.int _) (.one (rz.mono (s.trans m.ff))))⟩⟩
noncomputable def LH (a:Str×Str):PV:=.tup [.str a.1,.str a.2]
theorem mX {k:List PV->Prop}(h:Wq ss te fun _ xs=>k xs.reverse):Wn ss (qD K (AS te Aw)) k:=⟨fun E σ F H Q S q=>
 h.go E σ F H _ S fun v tp xs F1 H1 m1 sv kk=>by
  obtain ⟨l,vs,rfl,hl,r⟩:=sv.seq m1.st
  refine ⟨l,tp,vs,rfl,BI.sq hl,fun a ha=>?_⟩
  have m2:=m1.st.make ha (.lst vs.reverse)
  exact q a _ _ F1 _ (m1.trans m2) (m1.st.Bb ha) (m1.none ha) AI r.reverse kk⟩
theorem rV (h:Wq ss ta fun tp xs=>tp=false/\Wq ss tb fun DY ys=>DY=false/\ys=[]/\k (.bl (decide (xs.length=0)))):Wp ss (BQ (xK K) ta tb) k:=⟨fun E σ F H Q S q=>
 h.go E σ F H _ S fun v tp xs F1 H1 m1 sv ⟨et,h2⟩=>h2.go E σ F1 H1 _ m1.st fun v2 DY ys F2 H2 m2 Hz ⟨KS,ey,kk⟩=>by
  subst et;subst KS;subst ey
  obtain ⟨l,vs,rfl,hl,r⟩:=(sv.mv m2).seq m2.st
  obtain ⟨l2,GS,rfl,Ck,r2⟩:=Hz.seq m2.st
  cases r2
  refine ⟨l,l2,vs,rfl,rfl,AE.of hl,AE.of Ck,?_⟩
  have e:decide (vs=[])=decide (xs.length=0):=by
   rw [<- r.length]
   cases vs <;> simp
  rw [e]
  exact q _ _ F2 H2 (m1.trans m2) (.bl _) kk⟩
theorem nH {r:List V->Hp->VK->Prop}(hr:r=fun xs H Q=>(∃ i,xs=[.int i]/\Q (.int i) H)∨∃ k,xs=[.bl k]/\Q (.int (if k then 1 else 0)) H) (h:Wp ss te fun p=>∃ b,p=.bl b/\k (.int (if b then 1 else 0))):Wp ss (CB r (AS te Aw)) k:=⟨fun E σ F H Q S q=>
 h.go E σ F H _ S fun v p F1 H1 m1 r ⟨b,e,kk⟩=>by
  subst hr;subst e;cases r
  exact .inr ⟨b,rfl,q _ _ F1 H1 m1 (.int _) kk⟩⟩
end
theorem ER {c A B:Prop} [Decidable c] (h:c) (a:A):if c then A else B:=by rw [if_pos h];exact a
end Fz
namespace L2
theorem pU {X:Cx}{tg:Expr}{a b:Expr}{ta:TA}{p pos:Pos}(hg:Gl X "range") (hm:X.mg "range" = none) (ha:QA X [a,b] ta) (hs:starEach [a,b] X.env=[(false,eval a X.env),(false,eval b X.env)]:=by rfl) (Ct:starEach [b] X.env=[(false,eval b X.env)]:=by rfl):QI X tg (.Call (.Name "range" p) [a,b] [] pos) (WW ta):=⟨sF hg hm ha.h hs Ct⟩
end L2
namespace Fz
open L2 Lw
section
variable [Xw]
variable {E:Ent0}{ss:List Slot}{σ:L2.St} {F H F' H':Hp}{K:ZCy}{js:List Nat}{ta tb tc te:TE}{k:PV->Prop}{nx:List Slot->Prop}{R:Ay}{xs ys:List PV}
noncomputable def Jw (i:Int) (n:Nat):List PV:=(List.range n).map fun j:Nat=>PV.int (i+(j:Int))
theorem O5 (i:Int) (n:Nat):(Jw i n).length=n:=by simp [Jw]
theorem mY {i:Int}{n j:Nat}{p:PV}(h:(Jw i n)[j]?=some p):j < n/\p=.int (i+(j:Int)):=by
 have hj:j < n:=by have:=(List.getElem?_eq_some_iff.mp h).1;rwa [O5] at this
 unfold Jw at h
 rw [BF,Rm hj] at h
 exact ⟨hj,(BU h).symm⟩
theorem zt {k:List PV->Prop}(h:Wp ss ta fun p=>∃ i:Int,p=.int i/\Wp ss tb fun p=>∃ j:Int,p=.int j/\(i<=1000000/\-1000000<=i/\j<=1000000/\-1000000<=j)/\k (Jw i (j - i).toNat)):Wi ss (WW (AS ta (AS tb Aw))) k:=⟨fun E σ F H R S q=>
 h.go E σ F H _ S fun v p F1 H1 m1 r ⟨i,e,h2⟩=>by
  subst e;cases r
  exact h2.go E σ F1 H1 _ m1.st fun v2 p2 F2 H2 m2 r2 ⟨j,e2,hb,kk⟩=>by
   subst e2;cases r2
   refine ⟨i,j,rfl,by omega,q _ (Jw i (j - i).toNat) F2 H2 (m1.trans m2) ⟨fun ss σ F H n s S hn=>?_,fun ss σ F H s S=>?_,fun ss σ F H n x H' s S hn y=>?_⟩ kk⟩
   ·rw [O5] at hn;exact hn
   ·show _<=_
    rw [O5];exact An _
   ·obtain ⟨e,hx⟩:=y
    subst e;subst hx
    rw [O5] at hn
    refine ⟨.int (i+(n:Int)),F,?_,.refl S,.int _⟩
    unfold Jw;rw [BF,Rm hn];rfl⟩
theorem sH {r:List V->Hp->VK->Prop}(hr:r=fun xs H Q=>∃ i,xs=[.int i]/\Q (.int (if i < 0 then -i else i)) H) (h:Wp ss te fun p=>∃ i:Int,p=.int i/\k (.int (if i < 0 then -i else i))):Wp ss (CB r (AS te Aw)) k:=⟨fun E σ F H Q S q=>
 h.go E σ F H _ S fun v p F1 H1 m1 r ⟨i,e,kk⟩=>by
  subst hr;subst e;cases r
  exact ⟨i,rfl,q _ _ F1 H1 m1 (.int _) kk⟩⟩
noncomputable def dP:AJ->PV
 | .put x i=>.tup [.str "put", .str x,.int i]
 | .take x=>.tup [.str "take", .str x]
 | .move x i=>.tup [.str "move", .str x,.int i]
 | .turn lo hi=>.tup [.str "turn", .int lo,.int hi]
theorem ko {d:AJ}{t:Addr}(h:F t=some (.tup d.vals)):Rep F (.ref t) (dP d):=by
 cases d with
 | put x i=>exact .tup h (.cons (.str _) (.cons (.str _) (.one (.int _))))
 | take x=>exact .tup h (.cons (.str _) (.one (.str _)))
 | move x i=>exact .tup h (.cons (.str _) (.cons (.str _) (.one (.int _))))
 | turn lo hi=>exact .tup h (.cons (.str _) (.cons (.int _) (.one (.int _))))
theorem RH {d:AJ}{v:V}(r:Rep F v (dP d)):∃ t,v=.ref t/\F t=some (.tup d.vals):=by
 cases d with
 | put x i=>cases r with | tup h r=>cases r with | cons a r=>cases r with | cons b r=>cases r with | cons c r=>cases r;cases a;cases b;cases c;exact ⟨_,rfl,h⟩
 | take x=>cases r with | tup h r=>cases r with | cons a r=>cases r with | cons b r=>cases r;cases a;cases b;exact ⟨_,rfl,h⟩
 | move x i=>cases r with | tup h r=>cases r with | cons a r=>cases r with | cons b r=>cases r with | cons c r=>cases r;cases a;cases b;cases c;exact ⟨_,rfl,h⟩
 | turn lo hi=>cases r with | tup h r=>cases r with | cons a r=>cases r with | cons b r=>cases r with | cons c r=>cases r;cases a;cases b;cases c;exact ⟨_,rfl,h⟩
theorem Sg.adopt (S:Sg E ss σ F H) (m:Mv E ss σ F H F H'){t:Addr}{o:HO}(ht:H t=none) (e:H' t=some o):Mv E ss σ F H (upd F t o) H':=by
 have fn:=S.Bb ht
 refine S.step (Ac fn o) (fun a u q=>?_) m.hh (fun a u q=>?_) fun i l hi ei=>m.st.E7 hi ei
 ·by_cases z:a=t
  ·subst z;rw [AI] at q;rw [<- q];exact e
  ·rw [Aj z] at q;exact m.st.fh a u q
 ·by_cases z:a=t
  ·subst z;exact .inr ht
  ·rw [Aj z] at q;exact .inl q
theorem ae {i:Nat}(hi:ss[i]?=some .AN) (h:Wq ss ta fun tp xs=>tp=false/\∃ ns:List Str,xs=ns.map PV.str/\Wp ss tb fun p=>∃ m:Nat,p=.int m/\(∀ x∈ns,Nm x)/\ns.length<=m/\1<=m/\m<=100/\∀ d:AJ,d.Ok m ns->k (dP d)) :
  Wp ss (CP R1 [] E0 (AS (BG i) (AS ta (AS tb Aw)))) k:=⟨fun E σ F H Q S q=>by
 obtain ⟨p,e,_⟩:=S.ok i _ hi
 refine ⟨_,e,h.go E σ F H _ S fun v tp xs F1 H1 m1 sv ⟨et,ns,ex,h2⟩=>h2.go E σ F1 H1 _ m1.st fun v2 p2 F2 H2 m2 r2 ⟨m,em,hN,hz,h1,h3,kk⟩=>?_⟩
 subst et;subst ex;subst em;cases r2
 obtain ⟨l,vs,ev,hn,hl,r⟩:=sv.mv m2
 subst ev
 rw [r.strs] at hl
 refine ⟨p,l,m,ns,rfl,m2.st.E7 hi e,hl,fun z=>hn i hi (z▸e),hN,hz,h1,h3,fun d t H3 ht s e3 hd=>?_⟩
 have m3:=m2.st.adopt (m2.st.Qa hi e s) ht e3
 exact q _ _ _ H3 (m1.trans (m2.trans m3)) (ko AI) (kk d hd)⟩
theorem fi {k:List PV->Prop}(h:Wq ss ta fun tp xs=>tp=false/\∃ ns:List Str,xs=ns.map PV.str/\Wp ss tb fun p=>∃ d:AJ,p=dP d/\d.Ok 40 ns/\ns.length<=40/\ns.Nodup/\k ((d.done ns).map PV.str)) :
  Wn ss (CP Vi [] E0 (AS ta (AS tb Aw))) k:=⟨fun E σ F H Q S q=>
 h.go E σ F H _ S fun v tp xs F1 H1 m1 sv ⟨et,ns,ex,h2⟩=>h2.go E σ F1 H1 _ m1.st fun v2 p2 F2 H2 m2 r2 ⟨d,em,hd,hz,nd,kk⟩=>by
  subst et;subst ex;subst em
  obtain ⟨l,vs,ev,hl,r⟩:=(sv.mv m2).seq m2.st
  subst ev
  rw [r.strs] at hl
  obtain ⟨t,et,ht⟩:=RH r2
  subst et
  refine ⟨l,t,ns,d,rfl,hl,m2.st.fh _ _ ht,hd,hz,nd,fun a H3 ha s e3=>?_⟩
  have m3:=m2.st.grow s
  exact q a _ _ F2 H3 (m1.trans (m2.trans m3)) (m2.st.Bb ha) ((m1.trans m2).none ha) e3 (Kb _) kk⟩
end
end Fz
namespace L2
section
variable {X:Cx}
end
end L2
namespace Fz
open L2 Lw
section
variable [Xw]
variable {E:Ent0}{ss:List Slot}{σ:L2.St} {F H F' H':Hp}{K:ZCy}{js:List Nat}{ta tb tc te:TE}{k:PV->Prop}{nx:List Slot->Prop}{R:Ay}{xs ys:List PV}{P:Program}{w:World}
theorem nA (h:Wp ss ta fun p=>∃ a,p=.bl a/\Wp ss tb fun q=>∃ b,q=.bl b/\k (.bl (a == b))):Wp ss (BQ (fun x y H Q=>∃ a b,x=.bl a/\y=.bl b/\Q (.bl (a == b)) H) ta tb) k:=⟨fun E σ F H Q S q=>
 h.go E σ F H _ S fun v p F1 H1 m1 r1 ⟨a,e1,h2⟩=>by
  subst e1;cases r1
  exact h2.go E σ F1 H1 _ m1.st fun v2 p2 F2 H2 m2 r2 ⟨b,e2,kk⟩=>by
   subst e2;cases r2
   exact ⟨a,b,rfl,rfl,q _ _ F2 H2 (m1.trans m2) (.bl _) kk⟩⟩
theorem mQ (h:Wp ss ta fun p=>∃ a,p=.bl a/\Wp ss tb fun q=>∃ b,q=.bl b/\k (.bl (!(a == b)))):Wp ss (BQ (fun x y H Q=>∃ a b,x=.bl a/\y=.bl b/\Q (.bl (!(a == b))) H) ta tb) k:=⟨fun E σ F H Q S q=>
 h.go E σ F H _ S fun v p F1 H1 m1 r1 ⟨a,e1,h2⟩=>by
  subst e1;cases r1
  exact h2.go E σ F1 H1 _ m1.st fun v2 p2 F2 H2 m2 r2 ⟨b,e2,kk⟩=>by
   subst e2;cases r2
   exact ⟨a,b,rfl,rfl,q _ _ F2 H2 (m1.trans m2) (.bl _) kk⟩⟩
theorem uc (h:Wq ss ta fun tp xs=>tp=false/\Wq ss tb fun DY ys=>DY=false/\ys=[]/\k (.bl (!decide (xs.length=0)))):Wp ss (BQ (xj K) ta tb) k:=⟨fun E σ F H Q S q=>
 h.go E σ F H _ S fun v tp xs F1 H1 m1 sv ⟨et,h2⟩=>h2.go E σ F1 H1 _ m1.st fun v2 DY ys F2 H2 m2 Hz ⟨KS,ey,kk⟩=>by
  subst et;subst KS;subst ey
  obtain ⟨l,vs,rfl,hl,r⟩:=(sv.mv m2).seq m2.st
  obtain ⟨l2,GS,rfl,Ck,r2⟩:=Hz.seq m2.st
  cases r2
  refine ⟨l,l2,vs,rfl,rfl,AE.of hl,AE.of Ck,?_⟩
  have e:decide (vs=[])=decide (xs.length=0):=by
   rw [<- r.length]
   cases vs <;> simp
  rw [e]
  exact q _ _ F2 H2 (m1.trans m2) (.bl _) kk⟩
theorem sh {k:List PV->Prop}(h:Wq ss te fun _ xs=>∃ ns:List Str,xs=ns.map PV.str/\ns.length < 64/\∀ ts:List Str,ts.length=(dd ns).length->(∀ x,(dd ns).any (· == x)=true↔x∈ts)->sortedS ts=true->k (ts.map PV.str)) :
  Wn ss (CB (jX P w) (AS (CB (fun xs H Q=>∃ (p:Addr) (tp:Bool) (ss:List Str),xs=[.ref p]/\CS K tp H p (ss.map V.str)/\ss.length < 4000/\∀ l,H l=none->Q (.ref l) (upd H l (UL P w l (fun k'=>(dd ss).any (· == k')) (dd ss).length))) (AS te Aw)) Aw)) k:=⟨fun E σ F H Q S q=>
 h.go E σ F H _ S fun v tp xs F1 H1 m1 sv ⟨ns,e,hz,kk⟩=>by
  subst e
  obtain ⟨l,vs,rfl,hl,r⟩:=sv.seq m1.st
  rw [r.strs] at hl
  refine ⟨l,tp,ns,rfl,BI.sq hl,by omega,fun a ha=>?_⟩
  have m2:=m1.st.make ha (UL P w a (fun k'=>(dd ns).any (· == k')) (dd ns).length)
  refine ⟨a,_,_,rfl,AI,L5 (rX ns) hz,fun b ts hb Ck hm hs=>?_⟩
  have m3:=m2.st.make hb (.lst (ts.map V.str))
  exact q b _ _ F1 _ (m1.trans (m2.trans m3)) (m2.st.Bb hb) ((m1.trans m2).none hb) AI (Kb ts) (kk ts Ck hm hs)⟩
theorem xF (h:Wq ss te fun _ xs=>∃ ns:List Str,xs=ns.map PV.str/\ns.length < 4000/\k (.int ((dd ns).length:Nat))) :
  Wp ss (CB (fun xs H Q=>∃ l f n,xs=[.ref l]/\H l=some (PH P w l f n)/\Q (.int (n:Nat)) H) (AS (CB (fun xs H Q=>∃ (p:Addr) (tp:Bool) (ss:List Str),xs=[.ref p]/\CS K tp H p (ss.map V.str)/\ss.length < 4000/\∀ l,H l=none->Q (.ref l) (upd H l (PH P w l (fun k'=>(dd ss).any (· == k')) (dd ss).length))) (AS te Aw)) Aw)) k:=⟨fun E σ F H Q S q=>
 h.go E σ F H _ S fun v tp xs F1 H1 m1 sv ⟨ns,e,hz,kk⟩=>by
  subst e
  obtain ⟨l,vs,rfl,hl,r⟩:=sv.seq m1.st
  rw [r.strs] at hl
  refine ⟨l,tp,ns,rfl,BI.sq hl,hz,fun a ha=>?_⟩
  have m2:=m1.st.make ha (PH P w a (fun k'=>(dd ns).any (· == k')) (dd ns).length)
  exact ⟨a,_,_,rfl,AI,q _ _ F1 _ (m1.trans m2) (.int _) kk⟩⟩
end
end Fz
namespace L2
section
variable {X:Cx}{pins:ZCz}{σ:St} {H:Hp}{s:Shared}
def jr (K:ZCy):R2:=fun x y H Q=>∃ p q xs ys,x=.ref p/\y=.ref q/\AE K H p xs/\AE K H q ys/\xs.length=ys.length/\(∀ (j:Nat) (x y:V),xs[j]?=some x->ys[j]?=some y->Fq K H 8 x y)/\Q (.bl false) H
def lG (t:TA):TE:=fun σ H Q=>t σ H fun vs H1=>∃ n:Nat,vs=[.int n]/\n<=1000/\∀ l,H1 l=none->Q (.ref l) (upd H1 l (.lst ((List.range n).map fun i:Nat=>V.int i)))
end
end L2
namespace Fz
open L2 Lw
section
variable [Xw]
variable {K:ZCy}{E:Ent0}{ss:List Slot}{σ:L2.St} {F H:Hp}{te ta tb:TE}{k:PV->Prop}{nx:List Slot->Prop}{R:Ay}{xs ys:List PV}
theorem qo {k:List PV->Prop}(h:Wp ss te fun p=>∃ j:Int,p=.int j/\0<=j/\j<=1000/\k (GL j.toNat)):Wn ss (lG (AS te Aw)) k:=⟨fun E σ F H Q S q=>
 h.go E σ F H _ S fun v p F1 H1 m1 r ⟨j,e,h0,hz,kk⟩=>by
  subst e;cases r
  generalize hn:j.toNat=n at kk
  refine ⟨n,by rw [<- hn,Int.toNat_of_nonneg h0],by omega,fun a ha=>?_⟩
  have m2:=m1.st.make ha (.lst ((List.range n).map fun i:Nat=>V.int i))
  have rr:AU F1 ((List.range n).map fun i:Nat=>V.int i) (GL n):=by
   have e1:GL n=((List.range n).map fun i:Nat=>(i:Int)).map PV.int:=by unfold GL;rw [HD];rfl
   have e2:((List.range n).map fun i:Nat=>V.int (i:Int))=(GL n).map Fz.enc:=by rw [e1,rD,HD];rfl
   rw [e2]
   exact Tz (by rw [e1];exact z9 _)
  exact q a _ _ F1 _ (m1.trans m2) (m1.st.Bb ha) (m1.none ha) AI rr kk⟩
theorem kh {K:ZCy}{F H:Hp}(fh:A8 F H){v u:V}{a:Str×Str}(r1:Rep F v (LH a)) (r2:Rep F u (LH a)):Fq K H 8 v u:=by
 cases r1 with
 | tup h1 q1=>
  cases r2 with
  | tup h2 q2=>
   have e1:=q1.enc (ps:=[.str a.1,.str a.2]) rfl
   have e2:=q2.enc (ps:=[.str a.1,.str a.2]) rfl
   subst e1;subst e2
   refine .tup (d:=7) (A9.of (fh _ _ h1)) (A9.of (fh _ _ h2)) rfl fun j x y hx hy=>?_
   rw [hx] at hy;cases hy
   have hm:=CG hx
   rcases List.mem_cons.mp hm with rfl | hm
   ·exact .flat rfl rfl (by simp [Fz.enc,Cq])
   ·have:=List.mem_singleton.mp hm
    subst this
    exact .flat rfl rfl (by simp [Fz.enc,Cq])
theorem ZAN (h:Wq ss ta fun tp xs=>tp=false/\Wq ss tb fun DY ys=>DY=false/\(∃ ps:List (Str×Str),xs=ps.map LH/\ys=ps.map LH)/\k (.bl false)):Wp ss (BQ (jr K) ta tb) k:=⟨fun E σ F H Q S q=>
 h.go E σ F H _ S fun v tp xs F1 H1 m1 sv ⟨et,h2⟩=>h2.go E σ F1 H1 _ m1.st fun v2 DY ys F2 H2 m2 Hz ⟨KS,⟨ps,ex,ey⟩,kk⟩=>by
  subst et;subst KS;subst ex;subst ey
  obtain ⟨l,vs,rfl,hl,r⟩:=(sv.mv m2).seq m2.st
  obtain ⟨l2,GS,rfl,Ck,r2⟩:=Hz.seq m2.st
  refine ⟨l,l2,vs,GS,rfl,rfl,AE.of hl,AE.of Ck,by rw [r.length,r2.length],fun j x y hx hy=>?_,q _ _ F2 H2 (m1.trans m2) (.bl _) kk⟩
  obtain ⟨p,hp,rp⟩:=r.get' hx
  obtain ⟨p2,EK,K3⟩:=r2.get' hy
  rw [hp] at EK;cases EK
  rw [BF] at hp
  cases ha:ps[j]? with
  | none=>rw [ha] at hp;cases hp
  | some a=>
   rw [ha] at hp;cases hp
   exact kh m2.st.fh rp K3⟩
end
end Fz
namespace L2
end L2
namespace Lw
open L2
def Tn (lh:Addr) (H:Hp) (vs:List V):Prop:=∀ v∈vs,∃ (t f d:Addr) (xs:List Str),v=.ref t/\H t=some (.tup [.ref f,.ref d])/\f≠lh/\d≠lh/\H f=some (.lst (xs.map V.str))/\H d=some (.lst (xs.map V.str))
theorem Tn.mono {lh:Addr}{H H':Hp}{vs ws:List V}(h:Tn lh H vs) (hl:H lh=some (.lst ws)) (k:∀ b o,b≠lh->H b=some o->H' b=some o):Tn lh H' vs:=by
 intro v hv
 obtain ⟨t,f,d,xs,e,h1,h2,h3,h4,h5⟩:=h v hv
 have ht:t≠lh:=fun z=>by subst z;rw [h1] at hl;cases hl
 exact ⟨t,f,d,xs,e,k _ _ ht h1,h2,h3,k _ _ h2 h4,k _ _ h3 h5⟩
def ZX:Sp:=fun vs H Q _=>∃ (a t:Addr) (tp:Bool) (ns:List Str) (g:Nat) (d:AJ),vs=[.ref a,.int g,.ref t]/\H a=some (BI tp (ns.map V.str))/\H t=some (.tup d.vals)/\d.Ok 40 ns/\Q (.int (d.gap ns g:Nat)) H
def DQ (H:Hp) (t c:Addr) (r:Str) (g:Int) (ss:List Str):Prop:=H t=some (.tup [.str r,.int g,.ref c])/\H c=some (.tup (ss.map V.str))
theorem DQ.h {H:Hp}{t c:Addr}{r:Str}{g:Int}{ss:List Str}(h:DQ H t c r g ss):GW H t r g ss:=⟨c,h⟩
theorem DQ.same {H H':Hp}{t c:Addr}{r:Str}{g:Int}{ss:List Str}(s:A8 H H') (h:DQ H t c r g ss):DQ H' t c r g ss:=⟨s _ _ h.1,s _ _ h.2⟩
def gK:Sp:=fun vs H Q _=>∃ (tl td c0:Addr) (r:Str) (g:Nat) (ss:List Str) (d:AJ),vs=[.ref tl,.ref td]/\DQ H tl c0 r g ss/\H td=some (.tup d.vals)/\ss.length<=60/\Up ss/\(∀ x i,d=.put x i->x∉ss)/\
 ∀ c H',(H c=none∨c=c0)->A8 H H'->H' c=some (.tup ((d.Du r g ss).map V.str))->Q (.ref c) H'
def VH:Sp:=fun vs H Q _=>∃ (a tl td c0:Addr) (tp:Bool) (ns:List Str) (r:Str) (g:Nat) (ss:List Str) (d:AJ),vs=[.ref a,.ref tl,.ref td]/\H a=some (BI tp (ns.map V.str))/\DQ H tl c0 r g ss/\H td=some (.tup d.vals)/\d.Ok 40 ns/\CN ns r g ss/\ns.length<=40/\
 ∀ t' c' H',H t'=none->(H c'=none∨c'=c0)->A8 H H'->DQ H' t' c' r (d.gap ns g:Nat) (d.Du r g ss)->Q (.ref t') H'
def UM:Sp:=fun vs H Q _=>∃ (a tl td c0:Addr) (ns:List Str) (r:Str) (g:Nat) (ss:List Str) (d:AJ),vs=[.ref a,.ref tl,.ref td]/\H a=some (.lst (ns.map V.str))/\DQ H tl c0 r g ss/\H td=some (.tup d.vals)/\d.Ok 40 ns/\CN ns r g ss/\ns.length<=40/\
 ∀ t' c' H',H t'=none->(H c'=none∨c'=c0)->A8 H H'->DQ H' t' c' r (d.gap ns g:Nat) (d.Du r g ss)->Q (.ref t') H'
def V0 (K:ZCy):Sp:=fun vs H Q _=>∃ (a:Addr) (tp:Bool) (ns:List Str) (t:Addr) (r:Str) (g:Nat) (ss:List Str) (x:Str),vs=[.ref a,.ref t,.str x]/\H a=some (BI tp (ns.map V.str))/\GW H t r g ss/\ss.length < 64/\x∈ns/\
 ∀ t' c' H',H t'=none->H c'=none->A8 H H'->DQ H' t' c' r ((ns.idxOf x:Nat)+1) (wo ss x)->Q (.ref t') H'
def b9 (H H':Hp) (t' t:Addr) (ns:List Str) (r:Str) (g:Nat) (ss:List Str):Prop:=
 (Ez ns g ss=[]/\H' t'=some (.tup [.AF,.ref t]))∨∃ x FZ t2 c2,Ez ns g ss=x :: FZ/\H t2=none/\H c2=none/\H' t'=some (.tup [.str x,.ref t2])/\DQ H' t2 c2 r ((ns.idxOf x:Nat)+1) (wo ss x)
def WA:Sp:=fun vs H Q _=>∃ (a:Addr) (ns:List Str) (t:Addr) (r:Str) (g:Nat) (ss:List Str),vs=[.ref a,.ref t]/\H a=some (.lst (ns.map V.str))/\GW H t r g ss/\ss.length < 64/\ns.length<=1000/\
 ∀ t' H',H t'=none->A8 H H'->b9 H H' t' t ns r g ss->Q (.ref t') H'
def W7 (K:ZCy):Sp:=fun vs H Q _=>∃ (a:Addr) (tp:Bool) (ns:List Str) (r:Str),vs=[.ref a,.str r]/\CS K tp H a (ns.map V.str)/\r∈EX/\ns.length < 64/\∀ t c H' ts,H t=none->H c=none->A8 H H'->ts.Perm ns->sortedS ts=true->DQ H' t c r (0:Nat) ts->Q (.ref t) H'
end Lw
namespace Fz
open L2 Lw
noncomputable def D8 (r:Str) (g:Nat) (ss:List Str):PV:=.tup [.str r,.int g,.tup (ss.map .str)]
section
variable [Xw]
variable {E:Ent0}{ss:List Slot}{σ:L2.St} {F H F1 F' H':Hp}{K:ZCy}{js:List Nat}{ta tb tc te:TE}{nx:List Slot->Prop}{R:Ay}{k:PV->Prop}
theorem Mv.adopt (m:Mv E ss σ F H F1 H') (S:Sg E ss σ F H){t:Addr}{o:HO}(ht:H t=Option.none) (e:H' t=some o):Mv E ss σ F H (upd F1 t o) H':=by
 have sm:A8 F1 (upd F1 t o):=fun a u q=>by
  by_cases z:a=t
  ·subst z
   have w:=m.st.fh _ _ q
   rw [e] at w
   rw [AI];exact w
  ·rw [Aj z];exact q
 refine S.step (m.ff.trans sm) (fun a u q=>?_) m.hh (fun a u q=>?_) fun i l hi ei=>m.st.E7 hi ei
 ·by_cases z:a=t
  ·subst z;rw [AI] at q;rw [<- q];exact e
  ·rw [Aj z] at q;exact m.st.fh a u q
 ·by_cases z:a=t
  ·subst z;exact .inr ht
  ·rw [Aj z] at q;exact m.nn a u q
theorem RV {v:V}{r:Str}{g:Nat}{cs:List Str}(h:Rep F v (D8 r g cs)):∃ t c,v=.ref t/\DQ F t c r g cs:=by
 cases h with
 | tup e q=>cases q with
  | cons a q=>cases q with
   | cons b q=>cases q with
    | cons c q=>
     cases q;cases a;cases b
     cases c with
     | tup e2 q2=>rw [q2.strs] at e2;exact ⟨_,_,rfl,e,e2⟩
theorem Wk {t c:Addr}{r:Str}{g:Nat}{cs:List Str}(h:DQ F t c r g cs):Rep F (.ref t) (D8 r g cs):=.tup h.1 (.cons (.str _) (.cons (.int _) (.one (.tup h.2 (Kb cs)))))
theorem Mv.RM (m:Mv E ss σ F H F1 H') (S:Sg E ss σ F H){t c c0:Addr}{o:HO}{r:Str}{g:Nat}{cs:List Str}(ht:H t=Option.none) (hc:H c=Option.none∨c=c0) (h0:F c0=some o) (e:DQ H' t c r g cs):∃ F2,Mv E ss σ F H F2 H'/\A8 F1 F2/\Rep F2 (.ref t) (D8 r g cs):=by
 have key:∃ F2,Mv E ss σ F H F2 H'/\A8 F1 F2/\F2 c=some (.tup (cs.map V.str)):=by
  rcases hc with hc | rfl
  ·refine ⟨_,m.adopt S hc e.2,fun a u q=>?_,AI⟩
   by_cases z:a=c
   ·subst z
    have w:=m.st.fh _ _ q
    rw [e.2] at w
    rw [AI];exact w
   ·rw [Aj z];exact q
  ·refine ⟨F1,m,A8.refl _,?_⟩
   have w:=m.ff _ _ h0
   have w2:=m.st.fh _ _ w
   rw [e.2] at w2
   rw [w,<- w2]
 obtain ⟨F2,m2,s2,Jv⟩:=key
 have sm:A8 F2 (upd F2 t (.tup [.str r,.int g,.ref c])):=fun a u q=>by
  by_cases z:a=t
  ·subst z
   have w:=m2.st.fh _ _ q
   rw [e.1] at w
   rw [AI];exact w
  ·rw [Aj z];exact q
 exact ⟨_,m2.adopt S ht e.1,s2.trans sm,Wk ⟨AI,sm _ _ Jv⟩⟩
theorem qZ (h:Wq ss ta fun tp xs=>∃ ns:List Str,xs=ns.map PV.str/\Wp ss tb fun p=>∃ (r:Str) (g:Nat) (cs:List Str),p=D8 r g cs/\Wp ss tc fun p2=>∃ d:AJ,p2=dP d/\d.Ok 40 ns/\CN ns r g cs/\ns.length<=40/\k (D8 r (d.gap ns g) (d.Du r g cs))) :
  Wp ss (CP VH [] E0 (AS ta (AS tb (AS tc Aw)))) k:=⟨fun E σ F H Q S q=>
 h.go E σ F H _ S fun v tp xs F1 H1 m1 sv ⟨ns,ex,h2⟩=>h2.go E σ F1 H1 _ m1.st fun v2 p2 F2 H2 m2 r2 ⟨r,g,cs,ep,h3⟩=>h3.go E σ F2 H2 _ m2.st fun v3 p3 F3 H3 m3 r3 ⟨d,ed,hd,gd,hz,kk⟩=>by
  subst ex;subst ep;subst ed
  obtain ⟨l,vs,rfl,hl,rr⟩:=(sv.mv (m2.trans m3)).seq m3.st
  rw [rr.strs] at hl
  obtain ⟨tl,c0,rfl,lc⟩:=RV (r2.mono m3.ff)
  obtain ⟨t,rfl,ht⟩:=RH r3
  refine ⟨l,tl,t,c0,tp,ns,r,g,cs,d,rfl,hl,lc.same m3.st.fh,m3.st.fh _ _ ht,hd,gd,hz,fun t' c' H4 GB Fm s4 e4=>?_⟩
  obtain ⟨F4,m4,_,r4⟩:=(m3.st.grow s4).RM m3.st GB Fm lc.2 e4
  exact q _ _ F4 H4 (m1.trans (m2.trans (m3.trans m4))) r4 kk⟩
theorem uH (h:Wq ss ta fun tp xs=>tp=false/\∃ ns:List Str,xs=ns.map PV.str/\Wp ss tb fun p=>∃ (r:Str) (g:Nat) (cs:List Str),p=D8 r g cs/\Wp ss tc fun p2=>∃ d:AJ,p2=dP d/\d.Ok 40 ns/\CN ns r g cs/\ns.length<=40/\k (D8 r (d.gap ns g) (d.Du r g cs))) :
  Wp ss (CP UM [] E0 (AS ta (AS tb (AS tc Aw)))) k:=⟨fun E σ F H Q S q=>
 h.go E σ F H _ S fun v tp xs F1 H1 m1 sv ⟨et,ns,ex,h2⟩=>h2.go E σ F1 H1 _ m1.st fun v2 p2 F2 H2 m2 r2 ⟨r,g,cs,ep,h3⟩=>h3.go E σ F2 H2 _ m2.st fun v3 p3 F3 H3 m3 r3 ⟨d,ed,hd,gd,hz,kk⟩=>by
  subst et;subst ex;subst ep;subst ed
  obtain ⟨l,vs,rfl,hl,rr⟩:=(sv.mv (m2.trans m3)).seq m3.st
  rw [rr.strs] at hl
  obtain ⟨tl,c0,rfl,lc⟩:=RV (r2.mono m3.ff)
  obtain ⟨t,rfl,ht⟩:=RH r3
  refine ⟨l,tl,t,c0,ns,r,g,cs,d,rfl,hl,lc.same m3.st.fh,m3.st.fh _ _ ht,hd,gd,hz,fun t' c' H4 GB Fm s4 e4=>?_⟩
  obtain ⟨F4,m4,_,r4⟩:=(m3.st.grow s4).RM m3.st GB Fm lc.2 e4
  exact q _ _ F4 H4 (m1.trans (m2.trans (m3.trans m4))) r4 kk⟩
noncomputable def MI (ns:List Str) (r:Str) (g:Nat) (cs:List Str):PV:=match Ez ns g cs with
 | []=>.tup [.AF,D8 r g cs]
 | x :: _=>.tup [.str x,D8 r (ns.idxOf x+1) (wo cs x)]
theorem Mv.jl (m:Mv E ss σ F H F1 H') (S:Sg E ss σ F H){t t' c:Addr}{ns:List Str}{r:Str}{g:Nat}{cs:List Str}(ht:H t'=Option.none) (h0:DQ F t c r g cs) (e:b9 H H' t' t ns r g cs):∃ F2,Mv E ss σ F H F2 H'/\Rep F2 (.ref t') (MI ns r g cs):=by
 rcases e with ⟨er,e⟩ | ⟨x,FZ,t2,c2,er,h2,h3,e,lc⟩
 ·refine ⟨_,m.adopt S ht e,?_⟩
  have sm:=(m.adopt S ht e).ff
  unfold MI
  rw [er]
  exact .tup AI (.cons .AF (.one (Wk (h0.same sm))))
 ·have Wy:DQ H' t2 c2 r ((ns.idxOf x+1:Nat):Int) (wo cs x):=lc
  obtain ⟨F2,m2,_,r2⟩:=m.RM S h2 (.inl h3) h0.1 Wy
  refine ⟨_,m2.adopt S ht e,?_⟩
  have sm:A8 F2 (upd F2 t' (.tup [.str x,.ref t2])):=fun a u q=>by
   by_cases z:a=t'
   ·subst z
    have w:=m2.st.fh _ _ q
    rw [e] at w
    rw [AI];exact w
   ·rw [Aj z];exact q
  unfold MI
  rw [er]
  exact .tup AI (.cons (.str _) (.one (r2.mono sm)))
theorem ZAy (h:Wq ss ta fun tp xs=>tp=false/\∃ ns:List Str,xs=ns.map PV.str/\Wp ss tb fun p=>∃ (r:Str) (g:Nat) (cs:List Str),p=D8 r g cs/\CN ns r g cs/\ns.length<=60/\k (MI ns r g cs)) :
  Wp ss (CP WA [] E0 (AS ta (AS tb Aw))) k:=⟨fun E σ F H Q S q=>
 h.go E σ F H _ S fun v tp xs F1 H1 m1 sv ⟨et,ns,ex,h2⟩=>h2.go E σ F1 H1 _ m1.st fun v2 p2 F2 H2 m2 r2 ⟨r,g,cs,ep,gd,hz,kk⟩=>by
  subst et;subst ex;subst ep
  obtain ⟨l,vs,rfl,hl,rr⟩:=(sv.mv m2).seq m2.st
  rw [rr.strs] at hl
  obtain ⟨tl,c0,rfl,lc⟩:=RV r2
  have hlen:=gd.len
  refine ⟨l,ns,tl,r,g,cs,rfl,hl,(lc.same m2.st.fh).h,by omega,by omega,fun t' H4 GB s4 e4=>?_⟩
  obtain ⟨F4,m4,r4⟩:=(m2.st.grow s4).jl m2.st GB lc e4
  exact q _ _ F4 H4 (m1.trans (m2.trans m4)) r4 kk⟩
theorem lQ (h:Wq ss ta fun tp xs=>∃ ns:List Str,xs=ns.map PV.str/\Wp ss tb fun p=>∃ r:Str,p=.str r/\r∈EX/\ns.length < 64/\∀ ts:List Str,ts.Perm ns->sortedS ts=true->k (D8 r 0 ts)) :
  Wp ss (CP (W7 K) [] E0 (AS ta (AS tb Aw))) k:=⟨fun E σ F H Q S q=>
 h.go E σ F H _ S fun v tp xs F1 H1 m1 sv ⟨ns,ex,h2⟩=>h2.go E σ F1 H1 _ m1.st fun v2 p2 F2 H2 m2 r2 ⟨r,ep,hr,hz,kk⟩=>by
  subst ex;subst ep;cases r2
  obtain ⟨l,vs,rfl,hl,rr⟩:=(sv.mv m2).seq m2.st
  rw [rr.strs] at hl
  refine ⟨l,tp,ns,r,rfl,BI.sq hl,hr,hz,fun t' c' H4 ts GB Fm s4 pm st e4=>?_⟩
  have Qd:DQ H4 t' c' r ((0:Nat):Int) ts:=e4
  have m3:=(m2.st.grow s4).adopt m2.st Fm Qd.2
  obtain ⟨F4,m4,_,r4⟩:∃ F4,Mv E ss σ F2 H2 F4 H4/\True/\Rep F4 (.ref t') (D8 r 0 ts):=by
   refine ⟨_,m3.adopt m2.st GB Qd.1,trivial,Wk ⟨AI,?_⟩⟩
   by_cases z:c'=t'
   ·subst z;rw [AI];exact Qd.1.symm.trans Qd.2
   ·rw [Aj z,AI]
  exact q _ _ F4 H4 (m1.trans (m2.trans m4)) r4 (kk ts pm st)⟩
end
section
variable [Xw]
variable {E:Ent0}{ss:List Slot}{σ:L2.St} {F H F1 F' H':Hp}{K:ZCy}{js:List Nat}{ta tb tc te ti:TE}{nx:List Slot->Prop}{R:Ay}{k:PV->Prop}{xs:List PV}
noncomputable def JE:Nat->PV->Bool
 | 0,p=>flat p
 | d+1,.tup xs=>xs.all (JE d)
 | _+1,p=>flat p
theorem Pz {p:PV}(h:flat p=true):Cq (Fz.enc p) (Fz.enc p)=true:=by
 cases p with
 | AF=>rfl
 | bl b=>simp [Fz.enc,Cq]
 | int b=>simp [Fz.enc,Cq]
 | str b=>simp [Fz.enc,Cq]
 | lst xs=>cases h
 | tup xs=>cases h
 | Ao ks xs=>cases h
 | obj C ns xs=>cases h
 | exc C ns xs=>cases h
 | con a xs=>cases h
theorem Y5 (fh:A8 F H):∀ (d:Nat){p:PV}{v u:V},JE d p=true->Rep F v p->Rep F u p->Fq K H d v u
 | 0,p,v,u,h,r1,r2=>by
  have h':flat p=true:=h
  rw [r1.enc h',r2.enc h']
  exact .flat (Za h') (Za h') (Pz h')
 | d+1,.tup xs,v,u,h,r1,r2=>by
  have h':xs.all (JE d)=true:=h
  cases r1 with
  | tup e1 q1=>
   cases r2 with
   | tup e2 q2=>
    refine .tup (A9.of (fh _ _ e1)) (A9.of (fh _ _ e2)) (by rw [q1.length,q2.length]) fun j x y hx hy=>?_
    obtain ⟨p1,Ec,Nq⟩:=q1.get' hx
    obtain ⟨p2,EK,K3⟩:=q2.get' hy
    rw [Ec] at EK;cases EK
    exact Y5 fh d (List.all_eq_true.mp h' _ (CG Ec)) Nq K3
 | d+1,.AF,v,u,h,r1,r2=>by rw [r1.enc rfl,r2.enc rfl];exact .flat rfl rfl rfl
 | d+1,.bl b,v,u,h,r1,r2=>by rw [r1.enc rfl,r2.enc rfl];exact .flat rfl rfl (Pz (p:=.bl b) rfl)
 | d+1,.int b,v,u,h,r1,r2=>by rw [r1.enc rfl,r2.enc rfl];exact .flat rfl rfl (Pz (p:=.int b) rfl)
 | d+1,.str b,v,u,h,r1,r2=>by rw [r1.enc rfl,r2.enc rfl];exact .flat rfl rfl (Pz (p:=.str b) rfl)
 | d+1,.lst xs,v,u,h,r1,r2=>by cases h
 | d+1,.Ao _ _,v,u,h,r1,r2=>by cases h
 | d+1,.obj _ _ _,v,u,h,r1,r2=>by cases h
 | d+1,.exc _ _ _,v,u,h,r1,r2=>by cases h
 | d+1,.con _ _,v,u,h,r1,r2=>by cases h
theorem oh {neg:Bool}(h:Wp ss ta fun p=>Wp ss tb fun p2=>p2=p/\∃ xs,p=.tup xs/\xs.all (JE 8)=true/\k (.bl (!neg))):Wp ss (BQ (Xj K neg) ta tb) k:=⟨fun E σ F H Q S q=>
 h.go E σ F H _ S fun v p F1 H1 m1 r1 h2=>h2.go E σ F1 H1 _ m1.st fun v2 p2 F2 H2 m2 r2 ⟨e,xs,ep,ho,kk⟩=>by
  subst e;subst ep
  cases r1 with
  | tup e1 q1=>
   cases r2 with
   | tup e2 q2=>
    refine ⟨_,_,_,_,rfl,rfl,A9.of (m2.st.fh _ _ (m2.ff _ _ e1)),A9.of (m2.st.fh _ _ e2),by rw [q1.length,q2.length],fun j x y hx hy=>?_,q _ _ F2 H2 (m1.trans m2) (.bl _) kk⟩
    obtain ⟨p1,Ec,Nq⟩:=q1.get' hx
    obtain ⟨p2,EK,K3⟩:=q2.get' hy
    rw [Ec] at EK;cases EK
    exact Y5 m2.st.fh 8 (List.all_eq_true.mp ho _ (CG Ec)) (Nq.mono m2.ff) K3⟩
theorem zb (h:Wp ss ta fun p=>Wp ss tb fun p2=>p2=p/\∃ xs,p=.tup xs/\xs.all (JE 8)=true/\k (.bl false)):Wp ss (BQ (Xj K true) ta tb) k:=oh h
theorem hV {n j:Nat}(h:j < n):G6 n (j:Int)=some j:=by
 unfold G6
 simp;omega
theorem AU.set {vs:List V}:∀ {xs:List PV}(j:Nat){v:V}{p:PV},AU F vs xs->Rep F v p->AU F (vs.set j v) (xs.set j p):=by
 intro xs
 induction vs generalizing xs with
 | nil=>intro j v p h r;cases h;exact .nil
 | cons a vs ih=>
  intro j v p h r
  cases h with
  | cons r1 t=>
   cases j with
   | zero=>exact .cons r t
   | succ j=>exact .cons r1 (ih j t r)
end
mutual
noncomputable def O2:PV->PV->Bool
 | .lst xs,.lst ys=>MB xs ys
 | .tup xs,.tup ys=>MB xs ys
 | .tup xs,.con _ ys=>MB xs ys
 | .con _ xs,.tup ys=>MB xs ys
 | .con _ xs,.con _ ys=>MB xs ys
 | .AF,.AF=>true
 | .bl a,.bl b=>a == b
 | .bl a,.int b=>(if a then 1 else 0) == b
 | .int a,.bl b=>a == (if b then 1 else 0)
 | .int a,.int b=>a == b
 | .str a,.str b=>a == b
 | _,_=>false
noncomputable def MB:List PV->List PV->Bool
 | [],[]=>true
 | x :: r,y :: t=>O2 x y && MB r t
 | _,_=>false
end
def dat (K:ZCy):Nat->PV->Prop
 | _,.AF=>True
 | _,.bl _=>True
 | _,.int _=>True
 | _,.str _=>True
 | d+1,.lst xs=>∀ x∈xs,dat K d x
 | d+1,.tup xs=>∀ x∈xs,dat K d x
 | d+1,.con a xs=>(∀ x∈xs,dat K d x)/\xs.all flat=true/\∀ H,A9 K H a (xs.map Fz.enc)
 | _,_=>False
section
variable {X:Cx}{pins:ZCz}{σ:L2.St} {H:Hp}{s:Shared}
def gB (K:ZCy) (neg:Bool):R2:=fun x y H Q=>∃ p q,Rep H x p/\Rep H y q/\dat K 40 p/\dat K 40 q/\Q (.bl (if neg then !O2 p q else O2 p q)) H
end
section
variable [Xw]
variable {ss:List Slot}{K:ZCy}{ta tb:TE}{k:PV->Prop}
theorem ZBh (h:Wp ss ta fun p=>Wp ss tb fun q=>dat K 40 p/\dat K 40 q/\k (.bl (O2 p q))):Wp ss (BQ (gB K false) ta tb) k:=⟨fun E σ F H Q S q=>
 h.go E σ F H _ S fun v p F1 H1 m1 r1 h2=>h2.go E σ F1 H1 _ m1.st fun v2 p2 F2 H2 m2 r2 ⟨d1,d2,kk⟩=>
  ⟨p,p2,(r1.mono m2.ff).mono m2.st.fh,r2.mono m2.st.fh,d1,d2,q _ _ F2 H2 (m1.trans m2) (.bl _) kk⟩⟩
theorem lz (h:Wp ss ta fun p=>Wp ss tb fun q=>dat K 40 p/\dat K 40 q/\k (.bl (!O2 p q))):Wp ss (BQ (gB K true) ta tb) k:=⟨fun E σ F H Q S q=>
 h.go E σ F H _ S fun v p F1 H1 m1 r1 h2=>h2.go E σ F1 H1 _ m1.st fun v2 p2 F2 H2 m2 r2 ⟨d1,d2,kk⟩=>
  ⟨p,p2,(r1.mono m2.ff).mono m2.st.fh,r2.mono m2.st.fh,d1,d2,q _ _ F2 H2 (m1.trans m2) (.bl _) kk⟩⟩
end
def OV.at:OV->List Nat->Option OV
 | t,[]=>some t
 | .nd _ _ xs,j :: p=>(xs[j]?).bind fun x=>x.at p
 | .tp xs,j :: p=>(xs[j]?).bind fun x=>x.at p
 | .fz _,_ :: _=>none
termination_by _ p=>p.length
def OV.put:OV->List Nat->OV->OV
 | _,[],n=>n
 | .nd k a xs,j :: p,n=>match xs[j]? with
  | some x=>.nd k a (xs.set j (x.put p n))
  | none=>.nd k a xs
 | .tp xs,j :: p,n=>match xs[j]? with
  | some x=>.tp (xs.set j (x.put p n))
  | none=>.tp xs
 | .fz p,_ :: _,_=>.fz p
termination_by _ p=>p.length
theorem OV.HP {t:OV}:t.at []=some t:=by rw [OV.at]
theorem OV.Jr {k:NK}{a:Addr}{xs:List OV}{j:Nat}{p:List Nat}:(OV.nd k a xs).at (j :: p)=(xs[j]?).bind fun x=>x.at p:=by rw [OV.at]
theorem OV.MY {xs:List OV}{j:Nat}{p:List Nat}:(OV.tp xs).at (j :: p)=(xs[j]?).bind fun x=>x.at p:=by rw [OV.at]
theorem OV.FG {t n:OV}:t.put [] n=n:=by rw [OV.put]
theorem OV.J9 {k:NK}{a:Addr}{xs:List OV}{j:Nat}{p:List Nat}{n x:OV}(h:xs[j]?=some x):(OV.nd k a xs).put (j :: p) n=.nd k a (xs.set j (x.put p n)):=by rw [OV.put,h]
theorem OV.R0 {xs:List OV}{j:Nat}{p:List Nat}{n x:OV}(h:xs[j]?=some x):(OV.tp xs).put (j :: p) n=.tp (xs.set j (x.put p n)):=by rw [OV.put,h]
theorem OV.Li {u w:OV}:∀ {p:List Nat}{t:OV}{j:Nat},t.at p=some u->u.at [j]=some w->t.at (p++[j])=some w
 | [],t,j,h,h2=>by rw [OV.HP] at h;cases h;exact h2
 | i :: p,.nd k a xs,j,h,h2=>by
  rw [OV.Jr] at h
  rw [YI,OV.Jr]
  cases e:xs[i]? with
  | none=>rw [e] at h;cases h
  | some x=>rw [e] at h;exact OV.Li (t:=x) h h2
 | i :: p,.tp xs,j,h,h2=>by
  rw [OV.MY] at h
  rw [YI,OV.MY]
  cases e:xs[i]? with
  | none=>rw [e] at h;cases h
  | some x=>rw [e] at h;exact OV.Li (t:=x) h h2
 | i :: p,.fz q,j,h,h2=>by rw [OV.at] at h;cases h
theorem Hq:∀ {xs:List OV}{j:Nat}{x:OV},xs[j]?=some x->∃ l r,OV.Ai xs=l++x.addrs++r/\∀ y:OV,OV.Ai (xs.set j y)=l++y.addrs++r
 | x :: xs,0,z,h=>by
  simp at h;subst h
  exact ⟨[],OV.Ai xs,by rw [OV.Cr];rfl,fun y=>by rw [Ru,OV.Cr];rfl⟩
 | x :: xs,j+1,z,h=>by
  obtain ⟨l,r,e1,e2⟩:=Hq (xs:=xs) (j:=j) (x:=z) (by simpa using h)
  refine ⟨x.addrs++l,r,by rw [OV.Cr,e1];simp [CD],fun y=>by rw [Rt,OV.Cr,e2];simp [CD]⟩
theorem OV.split {u:OV}:∀ {p:List Nat}{t:OV},t.at p=some u->∃ l r,t.addrs=l++u.addrs++r/\∀ n:OV,(t.put p n).addrs=l++n.addrs++r
 | [],t,h=>by rw [OV.HP] at h;cases h;exact ⟨[],[],by simp,fun n=>by rw [OV.FG];simp⟩
 | j :: p,.nd k a xs,h=>by
  rw [OV.Jr] at h
  cases e:xs[j]? with
  | none=>rw [e] at h;cases h
  | some x=>
   rw [e] at h
   obtain ⟨l,r,e1,e2⟩:=Hq e
   obtain ⟨l2,r2,f1,f2⟩:=OV.split (t:=x) h
   refine ⟨a :: (k.more++(l++l2)),r2++r,by rw [OV.D6,e1,f1];simp [CD],fun n=>by rw [OV.J9 e,OV.D6,e2,f2];simp [CD]⟩
 | j :: p,.tp xs,h=>by
  rw [OV.MY] at h
  cases e:xs[j]? with
  | none=>rw [e] at h;cases h
  | some x=>
   rw [e] at h
   obtain ⟨l,r,e1,e2⟩:=Hq e
   obtain ⟨l2,r2,f1,f2⟩:=OV.split (t:=x) h
   refine ⟨l++l2,r2++r,by rw [OV.Hf,e1,f1];simp [CD],fun n=>by rw [OV.R0 e,OV.Hf,e2,f2];simp [CD]⟩
 | j :: p,.fz q,h=>by rw [OV.at] at h;cases h
theorem Aq.get {F H:Hp}:∀ {vs:List V}{ts:List OV}{j:Nat}{t:OV},Aq F H vs ts->ts[j]?=some t->∃ v,vs[j]?=some v/\BE F H v t
 | _,_,_,_,.nil,e=>by simp at e
 | _,_,0,_,.cons r _,e=>by simp at e;subst e;exact ⟨_,rfl,r⟩
 | _,_,j+1,t,.cons _ q,e=>by
  obtain ⟨u,h1,h2⟩:=Aq.get (j:=j) (t:=t) q (by simpa using e)
  exact ⟨u,by simpa using h1,h2⟩
theorem Aq.append {F H:Hp}:∀ {vs ws:List V}{xs ys:List OV},Aq F H vs xs->Aq F H ws ys->Aq F H (vs++ws) (xs++ys)
 | _,_,_,_,.nil,s=>s
 | _,_,_,_,.cons r t,s=>.cons r (Aq.append t s)
theorem Aq.take {F H:Hp}:∀ {vs:List V}{xs:List OV}(n:Nat),Aq F H vs xs->Aq F H (vs.take n) (xs.take n)
 | _,_,0,_=>by simp only [ia];exact .nil
 | _,_,_+1,.nil=>.nil
 | _,_,n+1,.cons r t=>.cons r (Aq.take n t)
theorem Aq.drop {F H:Hp}:∀ {vs:List V}{xs:List OV}(n:Nat),Aq F H vs xs->Aq F H (vs.drop n) (xs.drop n)
 | _,_,0,r=>r
 | _,_,_+1,.nil=>.nil
 | _,_,n+1,.cons _ t=>Aq.drop n t
theorem Aq.one {F H:Hp}{v:V}{t:OV}(r:BE F H v t):Aq F H [v] [t]:=.cons r .nil
theorem d6 {F H:Hp}:∀ {vs:List V}{xs:List PV},AU F vs xs->Aq F H vs (xs.map .fz)
 | _,_,.nil=>.nil
 | _,_,.cons r t=>.cons (.fz r) (d6 t)
theorem Aq.Uh {F H:Hp}:∀ {vs:List V}{xs:List PV},Aq F H vs (xs.map .fz)->AU F vs xs
 | _,[],.nil=>.nil
 | _,_ :: _,.cons (.fz r) t=>.cons r (Aq.Uh t)
theorem UU:∀ (xs:List PV),OV.Ai (xs.map .fz)=[]
 | []=>by rw [Rq,OV.Ai]
 | x :: r=>by rw [Bq,OV.Cr,OV.HV,UU r];rfl
theorem Aq.set {F H:Hp}:∀ {vs:List V}{xs:List OV}(j:Nat){v:V}{t:OV},Aq F H vs xs->BE F H v t->Aq F H (vs.set j v) (xs.set j t)
 | _,_,_,_,_,.nil,_=>.nil
 | _,_,0,_,_,.cons _ t,r=>.cons r t
 | _,_,j+1,_,_,.cons q t,r=>.cons q (Aq.set j t r)
theorem Aq.swap {F H H':Hp}{y:OV}:∀ {vs:List V}{xs:List OV}{j:Nat}{x:OV}{v:V},Aq F H vs xs->xs[j]?=some x->vs[j]?=some v->(∀ l r,OV.Ai xs=l++x.addrs++r->(∀ z:OV,OV.Ai (xs.set j z)=l++z.addrs++r)->∀ b∈l++r,∀ o,H b=some o->H' b=some o)->BE F H' v y->Aq F H' vs (xs.set j y)
 | _,x :: xs,0,z,w,.cons r t,h,hv,hk,ry=>by
  simp at h hv;subst h;subst hv
  rw [Ru]
  have e:∀ z:OV,OV.Ai ((x :: xs).set 0 z)=[]++z.addrs++OV.Ai xs:=fun z=>by rw [Ru,OV.Cr];rfl
  exact .cons ry (t.mono (A8.refl _) fun b hb o=>hk [] (OV.Ai xs) (by rw [OV.Cr];rfl) e b (by simpa using hb) o)
 | _,x :: xs,j+1,z,w,.cons r t,h,hv,hk,ry=>by
  rw [Rt]
  have h':xs[j]?=some z:=by simpa using h
  obtain ⟨l,q,e1,e2⟩:=Hq h'
  refine .cons (r.mono (A8.refl _) fun b hb o=>hk (x.addrs++l) q (by rw [OV.Cr,e1];simp [CD]) (fun z=>by rw [Rt,OV.Cr,e2];simp [CD]) b (by simp [hb]) o) (Aq.swap (v:=w) t h' (by simpa using hv) (fun l' r' Dl Bu b hb o=>hk (x.addrs++l') r' (by rw [OV.Cr,Dl];simp [CD]) (fun z=>by rw [Rt,OV.Cr,Bu];simp [CD]) b (by rcases List.mem_append.mp hb with hz | hz <;> simp [hz]) o) ry)
theorem BE.at {F H:Hp}{u:OV}:∀ {p:List Nat}{t:OV}{v:V},BE F H v t->t.at p=some u->∃ w,BE F H w u/\∀ (H':Hp) (n:OV),BE F H' w n->(∀ l r,t.addrs=l++u.addrs++r->(∀ n:OV,(t.put p n).addrs=l++n.addrs++r)->∀ b∈l++r,∀ o,H b=some o->H' b=some o)->BE F H' v (t.put p n)
 | [],t,v,h,e=>by rw [OV.HP] at e;cases e;exact ⟨v,h,fun H' n r _=>by rw [OV.FG];exact r⟩
 | j :: p,.fz q,v,h,e=>by rw [OV.at] at e;cases e
 | j :: p,.nd k a xs,_,.nd h sd ft r,e=>by
  rw [OV.Jr] at e
  cases ex:xs[j]? with
  | none=>rw [ex] at e;cases e
  | some x=>
   rw [ex] at e
   obtain ⟨vj,Us,rj⟩:=r.get ex
   obtain ⟨w,rw_,go⟩:=BE.at (t:=x) rj e
   refine ⟨w,rw_,fun H' n rn hk=>?_⟩
   obtain ⟨l2,r2,f1,f2⟩:=OV.split e
   have key:∀ l r,OV.Ai xs=l++x.addrs++r->(∀ z:OV,OV.Ai (xs.set j z)=l++z.addrs++r)->∀ b,b∈(a :: (k.more++(l++l2)))++(r2++r)->∀ o,H b=some o->H' b=some o:=fun l r e1 e2 b hb o=>
    hk (a :: (k.more++(l++l2))) (r2++r) (by rw [OV.D6,e1,f1];simp [CD]) (fun n=>by rw [OV.J9 ex,OV.D6,e2,f2];simp [CD]) b hb o
   obtain ⟨l,q,e1,e2⟩:=Hq ex
   rw [OV.J9 ex]
   refine .nd (key l q e1 e2 a (by simp) _ h) (NK.Z2 sd fun b hb=>key l q e1 e2 b (by simp [hb])) ft ?_
   refine r.swap ex Us (fun l' r' Dl Bu b hb o=>key l' r' Dl Bu b (by rcases List.mem_append.mp hb with hz | hz <;> simp [hz]) o) ?_
   refine go H' n rn fun l' r' g1 g2 b hb o=>?_
   refine hk (a :: (k.more++(l++l'))) (r'++q) (by rw [OV.D6,e1,g1];simp [CD]) (fun n=>by rw [OV.J9 ex,OV.D6,e2,g2];simp [CD]) b (by rcases List.mem_append.mp hb with hz | hz <;> simp [hz]) o
 | j :: p,.tp xs,_,.tp h r,e=>by
  rw [OV.MY] at e
  cases ex:xs[j]? with
  | none=>rw [ex] at e;cases e
  | some x=>
   rw [ex] at e
   obtain ⟨vj,Us,rj⟩:=r.get ex
   obtain ⟨w,rw_,go⟩:=BE.at (t:=x) rj e
   refine ⟨w,rw_,fun H' n rn hk=>?_⟩
   obtain ⟨l2,r2,f1,f2⟩:=OV.split e
   obtain ⟨l,q,e1,e2⟩:=Hq ex
   rw [OV.R0 ex]
   refine .tp h (r.swap ex Us (fun l' r' Dl Bu b hb o=>?_) (go H' n rn fun l' r' g1 g2 b hb o=>?_))
   ·exact hk (l'++l2) (r2++r') (by rw [OV.Hf,Dl,f1];simp [CD]) (fun n=>by rw [OV.R0 ex,OV.Hf,Bu,f2];simp [CD]) b (by rcases List.mem_append.mp hb with hz | hz <;> simp [hz]) o
   ·exact hk (l++l') (r'++q) (by rw [OV.Hf,e1,g1];simp [CD]) (fun n=>by rw [OV.R0 ex,OV.Hf,e2,g2];simp [CD]) b (by rcases List.mem_append.mp hb with hz | hz <;> simp [hz]) o
theorem R7 {l u r n:List Addr}(h:(l++u++r).Nodup) (hn:n.Nodup) (hd:∀ b∈n,b∈u∨b∉l++u++r):(l++n++r).Nodup:=by
 rw [Cb] at h ⊢
 obtain ⟨h1,h2,h3⟩:=h
 rw [Cb] at h1 ⊢
 obtain ⟨a1,a2,a3⟩:=h1
 refine ⟨⟨a1,hn,fun a ha b hb e=>?_⟩,h2,fun a ha b hb e=>?_⟩
 ·subst e
  rcases hd a hb with z | z
  ·exact a3 a ha a z rfl
  ·exact z (by simp [ha])
 ·subst e
  rcases List.mem_append.mp ha with ha | ha
  ·exact h3 a (by simp [ha]) a hb rfl
  ·rcases hd a ha with z | z
   ·exact h3 a (by simp [z]) a hb rfl
   ·exact z (by simp [hb])
section
variable {E:Ent0}{ss:List Slot}{σ:L2.St} {F H F' H':Hp}
theorem Sg.Xa (S:Sg E ss σ F H){i:Nat}{t n:OV}{p:List Nat}{k:NK}{a:Addr}{xs:List OV}{ho:HO}{lt:Bool}(hi:ss[i]?=some (.ow lt t)) (B6:t.at p=some (.nd k a xs)) (hn:BE F (upd H a ho) (.ref a) n) (nd:n.addrs.Nodup)
  (dv:∀ b∈n.addrs,b∈(OV.nd k a xs).addrs∨(F b=none/\E.H0 b=none/\∀ (j:Nat) s,ss[j]?=some s->¬ BL s σ[j]? b)):Sg E (ss.set i (.ow lt (t.put p n))) σ F (upd H a ho):=by
 obtain ⟨v,e,r,Se,q⟩:=S.ok i _ hi
 obtain ⟨l,rr,e1,e2⟩:=OV.split B6
 have au:a∈(OV.nd k a xs).addrs:=by rw [OV.D6];simp
 have ut:∀ b∈(OV.nd k a xs).addrs,b∈t.addrs:=fun b hb=>by rw [e1];simp [hb]
 have Ks:∀ b∈n.addrs,b∈(OV.nd k a xs).addrs∨b∉t.addrs:=fun b hb=>(dv b hb).imp id fun z m=>z.2.2 i _ hi m
 obtain ⟨w,rw_,go⟩:=r.at B6
 have ew:w=.ref a:=by cases rw_;rfl
 subst ew
 have ne1:∀ (j:Nat) s,(ss.set i .any)[j]?=some s->∀ b,b∈t.addrs->¬ BL s σ[j]? b:=fun j s hj b hb m=>by
  by_cases z:j=i
  ·subst z
   rw [Ca (List.getElem?_eq_some_iff.mp hi).1] at hj
   cases hj;cases m
  ·rw [CJ (BS z)] at hj
   exact S.By j i s _ b z hj hi m hb
 have S2:=(S.drop i).Xs (o:=ho) (q a (ut a au)).1 ((q a (ut a au)).2.imp id fun z=>z.2) fun j s hj=>ne1 j s hj a (ut a au)
 have fH:=Se
 rw [e1,Cb,Cb] at fH
 obtain ⟨⟨_,_,d1⟩,_,d2⟩:=fH
 have ZCu:∀ b,b∈l++rr->b≠a:=fun b hb z=>by
  subst z
  rcases List.mem_append.mp hb with hb | hb
  ·exact d1 b hb b au rfl
  ·exact d2 b (by simp [au]) b hb rfl
 have r2:BE F (upd H a ho) v (t.put p n):=go _ n hn fun l' r' g1 g2 b hb o wu=>by
  rw [Aj ?_];exact wu
  rintro rfl
  have ah:=Se
  rw [g1,Cb,Cb] at ah
  obtain ⟨⟨_,_,c1⟩,_,c2⟩:=ah
  rcases List.mem_append.mp hb with hb | hb
  ·exact c1 b hb b au rfl
  ·exact c2 b (by simp [au]) b hb rfl
 have ad:∀ b∈(t.put p n).addrs,b∈t.addrs∨(F b=none/\E.H0 b=none/\∀ (j:Nat) s,ss[j]?=some s->¬ BL s σ[j]? b):=fun b hb=>by
  rw [e2] at hb
  rcases List.mem_append.mp hb with hb | hb
  ·rcases List.mem_append.mp hb with hb | hb
   ·exact .inl (by rw [e1];simp [hb])
   ·exact (dv b hb).imp (ut b) id
  ·exact .inl (by rw [e1];simp [hb])
 have S3:=S2.setG (j:=i) (s:=.ow lt (t.put p n)) (v:=v) ⟨v,rfl,r2,by rw [e2];exact R7 (e1▸Se) nd fun b hb=>(Ks b hb).imp id (by rw [e1];exact id),fun b hb=>(ad b hb).elim (q b) fun z=>⟨z.1,.inl z.2.1⟩⟩ fun b hb j s hj hs m=>by
  rcases ad b hb with z | z
  ·exact ne1 j s hs b z m
  ·rw [CJ (BS hj)] at hs
   exact z.2.2 j s hs m
 rw [N7 e,Rv] at S3
 exact S3
end
structure Wl [Xw] (ss:List Slot) (i:Nat) (t:OV) (te:TE) (k:List Nat->OV->Prop):Prop where
 hi:∃ lt,ss[i]?=some (.ow lt t)
 go:∀ (E:Ent) (σ:L2.St) (F H:Hp) (Q:VK),Sg E ss σ F H->(∀ v p u F' H',Mv E ss σ F H F' H'->BE F' H' v u->t.at p=some u->k p u->Q v H')->te σ H Q
def DR:List Nat->List Slot->List Slot
 | [],ss=>ss
 | i :: m,ss=>DR m (ss.set i .any)
structure Wx [Xw] (ss:List Slot) (te:TE) (k:List Nat->OV->Prop):Prop where
 go:∀ (E:Ent) (σ:L2.St) (F H:Hp) (Q:VK),Sg E ss σ F H->(∀ v m u F' H',Mv E ss σ F H F' H'->BE F' H' v u->u.addrs.Nodup->(∀ a∈u.addrs,F' a=none/\E.H0 a=none/\((∃ i∈m,∃ s,s≠Slot.AN/\ss[i]?=some s/\BL s σ[i]? a)∨H a=none))->k m u->Q v H')->te σ H Q
structure Ll [Xw] (ss:List Slot) (te:TA) (k:List Nat->List OV->Prop):Prop where
 go:∀ (E:Ent) (σ:L2.St) (F H:Hp) (Q:List V->Hp->Prop),Sg E ss σ F H->(∀ vs m us F' H',Mv E ss σ F H F' H'->Aq F' H' vs us->(OV.Ai us).Nodup->(∀ a∈OV.Ai us,F' a=none/\E.H0 a=none/\((∃ i∈m,∃ s,s≠Slot.AN/\ss[i]?=some s/\BL s σ[i]? a)∨H a=none))->k m us->Q vs H')->te σ H Q
section
variable [Xw]
variable {ss:List Slot}{K:ZCy}{ta tb tc te ti:TE}{nx:List Slot->Prop}{R:Ay}{k:PV->Prop}{xs:List PV}{i:Nat}{t:OV}
theorem OV.JF {u:OV}{p:List Nat}(h:t.at p=some u):∀ a∈u.addrs,a∈t.addrs:=fun a ha=>by
 obtain ⟨l,r,e,_⟩:=OV.split h
 rw [e];simp [ha]
theorem BE.mv {E:Ent0}{σ:L2.St} {F H F' H':Hp}{v:V}{u:OV}{p:List Nat}(r:BE F H v u) (S:Sg E ss σ F H) (hi:∃ lt,ss[i]?=some (.ow lt t)) (h:t.at p=some u) (m:Mv E ss σ F H F' H'):BE F' H' v u:=
 r.mono m.ff fun a ha o e=>m.hh a o (S.LL hi.choose_spec (OV.JF h a ha) (by simp)) e
theorem C2 {lt:Bool}{k:List Nat->OV->Prop}(hi:ss[i]?=some (.ow lt t)) (hk:k [] t):Wl ss i t (BG i) k:=⟨⟨lt,hi⟩,fun E σ F H Q S q=>by
 obtain ⟨v,e,r,_,_⟩:=S.ok i _ hi
 exact ⟨v,e,q v [] t F H (.refl S) r OV.HP hk⟩⟩
theorem KQ {k:List Nat->OV->Prop}(h:Wl ss i t ta fun p u=>∃ a xs,u=.nd .lst a xs/\Wp ss tb fun q=>∃ (j:Int) (n:Nat) (w:OV),q=.int j/\G6 xs.length j=some n/\xs[n]?=some w/\k (p++[n]) w):Wl ss i t (BQ (Mt K) ta tb) k:=⟨h.hi,fun E σ F H Q S q=>
 h.go E σ F H _ S fun v p u F1 H1 m1 r1 h1 ⟨a,xs,eu,h2⟩=>h2.go E σ F1 H1 _ m1.st fun v2 p2 F2 H2 m2 r2 ⟨j,n,w,e,hn,hw,kk⟩=>by
  subst e;cases r2
  have r3:=r1.mv m1.st h.hi h1 m2
  subst eu
  cases r3 with
  | nd ha sd ft rr=>
   obtain ⟨x,hx,rx⟩:=rr.get hw
   refine ⟨a,_,j,x,rfl,rfl,AE.of ha,?_,q x (p++[n]) w F2 H2 (m1.trans m2) rx (OV.Li h1 (by rw [OV.Jr,hw];exact OV.HP)) kk⟩
   unfold L2.BX
   rw [rr.length,hn]
   exact hx⟩
theorem M9 {k:List Nat->OV->Prop}(h:Wl ss i t ta fun p u=>∃ xs,u=.tp xs/\Wp ss tb fun q=>∃ (j:Int) (n:Nat) (w:OV),q=.int j/\G6 xs.length j=some n/\xs[n]?=some w/\k (p++[n]) w):Wl ss i t (BQ (Jf K) ta tb) k:=⟨h.hi,fun E σ F H Q S q=>
 h.go E σ F H _ S fun v p u F1 H1 m1 r1 h1 ⟨xs,eu,h2⟩=>h2.go E σ F1 H1 _ m1.st fun v2 p2 F2 H2 m2 r2 ⟨j,n,w,e,hn,hw,kk⟩=>by
  subst e;cases r2
  have r3:=r1.mv m1.st h.hi h1 m2
  subst eu
  cases r3 with
  | tp ha rr=>
   obtain ⟨x,hx,rx⟩:=rr.get hw
   refine ⟨_,_,j,x,rfl,rfl,A9.of (m2.st.fh _ _ ha),?_,q x (p++[n]) w F2 H2 (m1.trans m2) rx (OV.Li h1 (by rw [OV.MY,hw];exact OV.HP)) kk⟩
   unfold L2.BX
   rw [rr.length,hn]
   exact hx⟩
theorem Cp (h:Wl ss i t te fun _ u=>∃ p,u=.fz p/\k p):Wp ss te k:=⟨fun E σ F H Q S q=>
 h.go E σ F H _ S fun v p u F1 H1 m1 r1 h1 ⟨p,eu,kk⟩=>by subst eu;cases r1 with | fz r=>exact q v p F1 H1 m1 r kk⟩
theorem WT {k:Bool->List PV->Prop}(h:Wl ss i t te fun _ u=>∃ a ps,u=.nd .lst a (ps.map .fz)/\k false ps):Wq ss te k:=⟨fun E σ F H Q S q=>
 h.go E σ F H _ S fun v p u F1 H1 m1 r1 h1 ⟨a,ps,eu,kk⟩=>by
  subst eu
  have np:Cd ss σ a:=m1.st.LL h.hi.choose_spec (OV.JF h1 a (by rw [OV.D6];simp)) (by simp)
  cases r1 with
  | nd ha sd ft rr=>exact q _ false ps F1 H1 m1 ⟨a,_,rfl,np,ha,rr.Uh⟩ kk⟩
theorem Vh (h:Wl ss i t te fun _ u=>∃ a xs,u=.nd .lst a xs/\k (.int xs.length)):Wp ss (CB (QF K) (AS te Aw)) k:=⟨fun E σ F H Q S q=>
 h.go E σ F H _ S fun v p u F1 H1 m1 r1 h1 ⟨a,xs,eu,kk⟩=>by
  subst eu
  cases r1 with
  | nd ha sd ft rr=>
   refine ⟨a,_,rfl,.inl (AE.of ha),?_⟩
   rw [rr.length]
   exact q _ _ F1 H1 m1 (.int _) kk⟩
theorem DJ {k:List Nat->OV->Prop}(h:Wp ss te fun p=>k [] (.fz p)):Wx ss te k:=⟨fun E σ F H Q S q=>
 h.go E σ F H _ S fun v p F1 H1 m1 r kk=>q v [] (.fz p) F1 H1 m1 (.fz r) (by rw [OV.HV];exact Oa) (fun a ha=>by rw [OV.HV] at ha;cases ha) kk⟩
theorem cD {k:List Nat->List OV->Prop}(h:k [] []):Ll ss Aw k:=⟨fun E σ F H Q S q=>q _ [] [] F H (.refl S) .nil (by rw [OV.Hw];exact Oa) (fun a ha=>by rw [OV.Hw] at ha;cases ha) h⟩
theorem pO {k:List Nat->OV->Prop}(hi:ss[i]?=some (.ow false t)) (h:k [i] t):Wx ss (BG i) k:=⟨fun E σ F H Q S q=>by
 obtain ⟨v,e,r,nd,qa⟩:=S.ok i _ hi
 refine ⟨_,e,q v [i] t F H (.refl S) r nd (fun a ha=>⟨(qa a ha).1,?_,.inl ⟨i,by simp,_,by simp,hi,ha⟩⟩) h⟩
 exact (qa a ha).2.elim id fun z=>by cases z.1⟩
theorem Wx.yx {E:Ent0}{σ:L2.St} {F H:Hp}(S:Sg E ss σ F H){m:List Nat}{a:Addr}(h:(∃ i∈m,∃ s,s≠Slot.AN/\ss[i]?=some s/\BL s σ[i]? a)∨H a=none):Cd ss σ a:=by
 rcases h with ⟨j,_,s,hp,hs,o⟩ | z
 ·exact S.LL hs o hp
 ·exact S.NA z
theorem Mv.sk {E:Ent0}{σ:L2.St} {F H F' H':Hp}(m:Mv E ss σ F H F' H'){a:Addr}(h:F a=Option.none) (h2:H a≠Option.none):F' a=Option.none:=by
 cases e:F' a with
 | none=>rfl
 | some o=>
  rcases m.nn a o e with z | z
  ·rw [h] at z;cases z
  ·exact absurd z h2
theorem Ju {k:List Nat->List OV->Prop}{tr:TA}(h:Wx ss te fun m u=>Ll ss tr fun m2 us=>(∀ i∈m,i∉m2)/\k (m++m2) (u :: us)):Ll ss (AS te tr) k:=⟨fun E σ F H Q S q=>
 h.go E σ F H _ S fun v m u F1 H1 m1 r1 Gv a1 h2=>h2.go E σ F1 H1 _ m1.st fun vs rZ us F2 H2 m2 r2 Ki a2 ⟨dj,kk⟩=>by
  have np:∀ a∈u.addrs,Cd ss σ a:=fun a ha=>Wx.yx S (a1 a ha).2.2
  refine q (v :: vs) (m++rZ) (u :: us) F2 H2 (m1.trans m2) (.cons (r1.mono m2.ff fun a ha o e=>m2.hh a o (np a ha) e) r2) ?_ (fun a ha=>?_) kk
  ·rw [OV.Cr,Cb]
   refine ⟨Gv,Ki,fun a ha b hb e=>?_⟩
   subst e
   rcases (a2 a hb).2.2 with ⟨j2,nB,s2,EK,Ct,o2⟩ | z
   ·rcases (a1 a ha).2.2 with ⟨j,hj,s,hp,hs,o⟩ | z
    ·exact S.By j j2 s s2 a (by rintro rfl;exact dj j hj nB) hs Ct o o2
    ·exact S.EI Ct o2 z
   ·exact r1.there a ha z
  ·rw [OV.Cr] at ha
   rcases List.mem_append.mp ha with ha | ha
   ·obtain ⟨f,h0,w⟩:=a1 a ha
    exact ⟨m2.sk f (r1.there a ha),h0,w.imp (fun ⟨j,hj,z⟩=>⟨j,by simp [hj],z⟩) id⟩
   ·obtain ⟨f,h0,w⟩:=a2 a ha
    exact ⟨f,h0,w.imp (fun ⟨j,hj,z⟩=>⟨j,by simp [hj],z⟩) m1.none⟩⟩
theorem v5 {k:List Nat->OV->Prop}{tr:TA}(h:Ll ss tr fun m us=>us.length<=100000/\∀ l,k m (.nd .lst l us)):Wx ss (RP tr) k:=⟨fun E σ F H Q S q=>
 h.go E σ F H _ S fun vs m us F1 H1 m1 r1 Gv a1 ⟨hz,kk⟩=>⟨small (by rw [r1.length];exact hz),fun p hp=>by
  have m2:=m1.st.make hp (.lst vs)
  have JO:p∉OV.Ai us:=fun ha=>r1.there _ ha hp
  refine q _ m (.nd .lst p us) _ _ (m1.trans m2) (.nd (k:=.lst) AI trivial trivial (r1.mono m2.ff fun a ha o e=>by rw [Aj (by rintro rfl;exact JO ha)];exact e)) ?_ (fun a ha=>?_) (kk p)
  ·rw [OV.D6];exact List.nodup_cons.mpr ⟨JO,Gv⟩
  ·rw [OV.D6] at ha
   rcases List.mem_cons.mp ha with e | ha
   ·subst e;exact ⟨m1.st.Bb hp,m1.st.Dz hp,.inr (m1.none hp)⟩
   ·obtain ⟨f,h0,w⟩:=a1 a ha
    exact ⟨f,h0,w⟩⟩⟩
theorem Ml {j:Nat}{s:Slot}:∀ {m:List Nat}{ss:List Slot},(DR m ss)[j]?=some s->s=.any∨(ss[j]?=some s/\j∉m)
 | [],ss,h=>.inr ⟨h,by simp⟩
 | i :: m,ss,h=>by
  rcases Ml (m:=m) (ss:=ss.set i .any) h with e | ⟨e,hm⟩
  ·exact .inl e
  ·by_cases q:j=i
   ·subst q
    have Al:j < ss.length:=by have:=(List.getElem?_eq_some_iff.mp e).1;simpa using this
    rw [Ca Al] at e
    exact .inl (BU e).symm
   ·rw [CJ (BS q)] at e
    exact .inr ⟨e,by simp [q,hm]⟩
theorem Sg.DR {E:Ent0}{σ:L2.St} {F H:Hp}:∀ (m:List Nat){ss:List Slot},Sg E ss σ F H->Sg E (Fz.DR m ss) σ F H
 | [],_,S=>S
 | i :: m,_,S=>Sg.DR m (S.drop i)
theorem Sg.bB {E:Ent0}{σ:L2.St} {F0 F H0 H:Hp}{v:V}{m:List Nat}{u:OV}{j:Nat}(S0:Sg E ss σ F0 H0) (S:Sg E ss σ F H) (r:BE F H v u) (nd:u.addrs.Nodup) (hu:∀ a∈u.addrs,F a=none/\E.H0 a=none/\((∃ i∈m,∃ s,s≠Slot.AN/\ss[i]?=some s/\BL s σ[i]? a)∨H0 a=none)) :
  Sg E ((Fz.DR m ss).set j (.ow false u)) (σ.set j (some v)) F H:=by
 refine (S.DR m).setG ⟨v,rfl,r,nd,fun a ha=>⟨(hu a ha).1,.inl (hu a ha).2.1⟩⟩ fun a ha i s Fl hs o=>?_
 rcases Ml hs with e | ⟨EZ,hm⟩
 ·subst e;cases o
 ·rcases (hu a ha).2.2 with ⟨i2,GD,s2,_,Ct,o2⟩ | z
  ·exact S.By i i2 s s2 a (by rintro rfl;exact hm GD) EZ Ct o o2
  ·exact S0.EI EZ o z
theorem X9 {j:Nat}(h:Wx ss te fun m u=>nx ((Fz.DR m ss).set j (.ow false u))):Ws ss (FF te (Cn j)) nx R:=⟨fun E D σ F H S hn hr=>
 h.go E σ F H _ S fun v m u F1 H1 m1 r nd hu kk=>hn _ _ F1 H1 kk (Sg.bB S m1.st r nd hu) m1.ff⟩
theorem BE.rep {F H F1:Hp}(ff:A8 F F1):∀ {v:V}{t:OV},BE F H v t->(∀ a∈t.addrs,∀ o,H a=some o->F1 a=some o)->Rep F1 v t.pv:=by
 intro v t r h
 exact BE.rec (motive_1:=fun v t _=>(∀ a∈t.addrs,∀ o,H a=some o->F1 a=some o)->Rep F1 v t.pv) (motive_2:=fun vs ts _=>(∀ a∈OV.Ai ts,∀ o,H a=some o->F1 a=some o)->AU F1 vs (OV.C8 ts))
  (fun {v p} r _=>by rw [OV.pv];exact r.mono ff)
  (fun {a vs xs} e _ ih h=>by rw [OV.pv];exact .tup (ff _ _ e) (ih (by rw [OV.Hf] at h;exact h)))
  (fun {k a vs xs} e sd ft _ ih h=>by
   rw [OV.D6] at h
   have Ut:=ih fun a ha=>h a (by simp [ha])
   have e':=h a (by simp) _ e
   cases k with
   | lst=>rw [OV.pv];exact .lst e' Ut
   | Ao ks=>rw [OV.pv];exact .Ao e' ft Ut
   | obj C dx ns=>rw [OV.pv];exact .obj e' (h dx (by simp [NK.more]) _ sd) ft Ut)
  (fun _=>by rw [OV.C8];exact .nil)
  (fun _ _ Xe Sf h=>by
   rw [OV.Cr] at h
   rw [OV.C8]
   exact .cons (Xe fun a ha=>h a (by simp [ha])) (Sf fun a ha=>h a (by simp [ha])))
  r h
theorem y4 {t':TS}(i:Nat) (hi:ss[i]?=some (.ow false t)) (h:Ws (ss.set i (.is t.pv)) t' nx R):Ws ss t' nx R:=⟨fun E D σ F H S hn hr=>by
 obtain ⟨v,e,r,nd,qa⟩:=S.ok i _ hi
 obtain ⟨S1,nf⟩:=(S.drop i).lay t.addrs (fun a ha=>⟨(qa a ha).1,(qa a ha).2.elim id (fun z=>by cases z.1),r.there a ha⟩) fun a ha j s hj m=>by
  by_cases q:j=i
  ·subst q
   rw [Ca (List.getElem?_eq_some_iff.mp hi).1] at hj
   cases hj;cases m
  ·rw [CJ (BS q)] at hj
   exact S.By j i s _ a q hj hi m ha
 have S2:=S1.FD (j:=i) (v:=v) (p:=t.pv) (r.rep nf fun a ha o ho=>by unfold Bz;rw [if_pos ha];exact ho)
 rw [N7 e,Rv] at S2
 exact h.go E D σ _ H S2 (fun E5 σ2 F2 H2 n S2 s2=>hn E5 σ2 F2 H2 n S2 (nf.trans s2)) hr⟩
end
section
variable [Xw]
variable {ss:List Slot}{K:ZCy}{ta tb tc te ti:TE}{nx:List Slot->Prop}{R:Ay}{k:PV->Prop}{xs:List PV}{i:Nat}{t:OV}{lt:Bool}
theorem RT {a:Addr}{us:List OV}:(OV.nd .lst a us).addrs=a :: OV.Ai us:=by rw [OV.D6];rfl
theorem Mb:∀ (us ws:List OV),OV.Ai (us++ws)=OV.Ai us++OV.Ai ws
 | [],ws=>by rw [YR,OV.Hw,YR]
 | u :: us,ws=>by rw [YI,OV.Cr,OV.Cr,Mb us ws,CD]
theorem PM (u:OV):OV.Ai [u]=u.addrs:=by rw [OV.Cr,OV.Hw,Fx]
theorem Sg.tu {E:Ent0}{σ:L2.St} {F0 F H0 H:Hp}{p:List Nat}{a:Addr}{us us':List OV}{C6:List V}{m:List Nat}{u:OV}(S0:Sg E ss σ F0 H0) (S:Sg E ss σ F H) (hi:ss[i]?=some (.ow lt t)) (B6:t.at p=some (.nd .lst a us))
  (hu:∀ a∈u.addrs,F a=none/\E.H0 a=none/\((∃ i∈m,∃ s,s≠Slot.AN/\ss[i]?=some s/\BL s σ[i]? a)∨H0 a=none)) (Ep:i∉m)
  (hr:Aq F H C6 us') (Mo:(OV.Ai us').Nodup) (IU:∀ b∈OV.Ai us',b∈OV.Ai us∨b∈u.addrs):Sg E ((Fz.DR m ss).set i (.ow lt (t.put p (.nd .lst a us')))) σ F (upd H a (.lst C6)):=by
 have DM:(Fz.DR m ss)[i]?=some (.ow lt t):=by
  have aux:∀ (m:List Nat) (ss:List Slot),ss[i]?=some (.ow lt t)->i∉m->(Fz.DR m ss)[i]?=some (.ow lt t):=by
   intro m
   induction m with
   | nil=>intro ss h _;exact h
   | cons j m ih=>
    intro ss h hm
    refine ih _ ?_ fun z=>hm (by simp [z])
    rw [CJ (by rintro rfl;exact hm (by simp))];exact h
  exact aux m ss hi Ep
 obtain ⟨v,e,r,nd,q⟩:=S.ok i _ hi
 have ut:∀ b,b∈a :: OV.Ai us->b∈t.addrs:=fun b hb=>OV.JF B6 b (by rw [RT];exact hb)
 have LP:∀ b∈u.addrs,b∉t.addrs:=fun b hb z=>by
  rcases (hu b hb).2.2 with ⟨j,hj,s,_,hs,o⟩ | w
  ·exact S.By j i s _ b (by rintro rfl;exact Ep hj) hs hi o z
  ·exact S0.EI hi z w
 have D7:(OV.nd .lst a us).addrs.Nodup:=by
  obtain ⟨l,rr,e1,_⟩:=OV.split B6
  rw [e1,Cb,Cb] at nd
  exact nd.1.2.1
 rw [RT] at D7
 have na:∀ b∈OV.Ai us',b≠a:=fun b hb z=>by
  subst z
  rcases IU b hb with w | w
  ·exact (List.nodup_cons.mp D7).1 w
  ·exact LP b w (ut b (by simp))
 refine (S.DR m).Xa DM B6 (.nd (k:=.lst) AI trivial trivial (hr.mono (A8.refl _) fun b hb o ho=>by rw [Aj (na b hb)];exact ho)) (by rw [RT];exact List.nodup_cons.mpr ⟨fun z=>na a z rfl,Mo⟩) fun b hb=>?_
 rw [RT] at hb ⊢
 rcases List.mem_cons.mp hb with w | w
 ·exact .inl (by simp [w])
 ·rcases IU b w with z | z
  ·exact .inl (by simp [z])
  ·refine .inr ⟨(hu b z).1,(hu b z).2.1,fun j s hs o=>?_⟩
   rcases Ml hs with y | ⟨EZ,hm⟩
   ·subst y;cases o
   ·rcases (hu b z).2.2 with ⟨i2,GD,s2,_,Ct,o2⟩ | y
    ·exact S.By j i2 s s2 b (by rintro rfl;exact hm GD) EZ Ct o o2
    ·exact S0.EI EZ o y
theorem sL {k:OV->Prop}(h:Wx ss te fun _ u=>k u):Ws ss (Fn te) nx (.ow k):=⟨fun E D σ F H S hn hr=>
 h.go E σ F H _ S fun v m u F1 H1 m1 r nd hu kk=>hr v F1 H1 m1.st.toFin ⟨u,r,nd,fun a ha=>⟨(hu a ha).1,(hu a ha).2.1⟩,kk⟩⟩
theorem sO {pre:Pre}{ta:TA}{k:List Nat->OV->Prop}(h:Wa ss ta fun l=>∃ k',pre l (.ow k')/\∀ u,k' u->k [] u):Wx ss (CP (Bp pre) [] E0 ta) k:=⟨fun E σ F H Q S q=>
 h.go E σ F H _ S fun vs l F1 H1 m1 a ⟨k',hp,kk⟩=>by
  rw [Fx]
  refine ⟨l,.ow k',F1,[],hp,m1.st.U7 a,fun v F' H' f ⟨u,r,nd,hu,ku⟩=>?_⟩
  exact q v [] u F' H' (m1.trans (m1.st.back (fun _ h=>absurd h BH) f)) r nd (fun a ha=>⟨(hu a ha).1,S.Dz (m1.none (hu a ha).2),.inr (m1.none (hu a ha).2)⟩) (kk u ku)⟩
end
def ptr (a:Addr):Hp->V->Prop:=fun _ v=>v=.ref a
section
variable [Xw]
variable {ss:List Slot}{K:ZCy}{ta tb tc te ti:TE}{nx:List Slot->Prop}{R:Ay}{k:PV->Prop}{xs ps:List PV}{i j:Nat}{t:OV}{lt:Bool}{p:List Nat}{a:Addr}
theorem Sg.p9 {E:Ent0}{σ:L2.St} {F H:Hp}{eM:List PV}{C6:List V}(S:Sg E ss σ F H) (hi:ss[i]?=some (.ow lt t)) (B6:t.at p=some (.nd .lst a (ps.map .fz))) (hr:AU F C6 eM):Sg E (ss.set i (.ow lt (t.put p (.nd .lst a (eM.map .fz))))) σ F (upd H a (.lst C6)):=
 Sg.tu (m:=[]) (u:=.fz .AF) S S hi B6 (fun a ha=>by rw [OV.HV] at ha;cases ha) (by simp) (d6 hr) (by rw [UU];exact Oa) fun b hb=>by rw [UU] at hb;cases hb
theorem Sg.uX {E:Ent0}{σ:L2.St} {F H:Hp}(S:Sg E ss σ F H) (hi:ss[i]?=some (.ow lt t)) (B6:t.at p=some (.nd .lst a (ps.map .fz))):∃ vs,H a=some (.lst vs)/\AU F vs ps:=by
 obtain ⟨v,e,r,_,_⟩:=S.ok i _ hi
 obtain ⟨w,rw_,_⟩:=r.at B6
 cases rw_ with
 | nd ha _ _ rr=>exact ⟨_,ha,rr.Uh⟩
theorem HZ {k:List Nat->OV->Prop}{nk:NK}{us:List OV}(hj:ss[j]?=some (.raw (ptr a))) (hi:ss[i]?=some (.ow lt t)) (B6:t.at p=some (.nd nk a us)) (hk:k p (.nd nk a us)):Wl ss i t (BG j) k:=⟨⟨lt,hi⟩,fun E σ F H Q S q=>by
 obtain ⟨v,e,rv,_⟩:=S.ok j _ hj
 obtain ⟨v2,e2,r2,_,_⟩:=S.ok i _ hi
 obtain ⟨w,rw_,_⟩:=r2.at B6
 have ew:w=.ref a:=by cases rw_;rfl
 subst ew
 cases (show v=.ref a from rv)
 exact ⟨_,e,q _ p _ F H (.refl S) rw_ B6 hk⟩⟩
theorem sA (h:Wp ss te fun q=>Wl ss i t ta fun p u=>∃ (lt:Bool) (a:Addr) (ps:List PV),ss[i]?=some (.ow lt t)/\u=.nd .lst a (ps.map .fz)/\Wp ss ti fun q2=>∃ n:Nat,q2=.int n/\n < ps.length/\nx (ss.set i (.ow lt (t.put p (.nd .lst a ((ps.set n q).map .fz)))))):Ws ss (FF te (U3 ta ti c8)) nx R:=⟨fun E D σ F H S hn hr=>
 h.go E σ F H _ S fun v q F1 H1 m1 rv h2=>h2.go E σ F1 H1 _ m1.st fun v2 p u F2 H2 m2 r2 B6 ⟨lt,a,ps,hi,eu,h3⟩=>by
  subst eu
  have ev:v2=.ref a:=by cases r2;rfl
  subst ev
  refine h3.go E σ F2 H2 _ m2.st fun v3 q3 F3 H3 m3 r3 ⟨n,en,Sr,kk⟩=>?_
  subst en;cases r3
  obtain ⟨vs,hv,rr⟩:=m3.st.uX hi B6
  refine ⟨a,vs,_,n,rfl,rfl,hv,hV (by rw [rr.length];exact Sr),?_⟩
  exact hn _ σ F3 _ kk (m3.st.p9 hi B6 (rr.set n (rv.mono (m2.ff.trans m3.ff)))) (m1.ff.trans (m2.ff.trans m3.ff))⟩
end
def Bj:List Slot->L2.St->List Addr
 | .own _ :: ss,some (.ref l) :: σ=>l :: Bj ss σ
 | .ow _ t :: ss,_ :: σ=>t.addrs++Bj ss σ
 | _ :: ss,_ :: σ=>Bj ss σ
 | _,_=>[]
theorem da:∀ {ss:List Slot}{σ:L2.St} {a:Addr},a∈Bj ss σ->∃ (i:Nat) (s:Slot),ss[i]?=some s/\s≠.AN/\BL s σ[i]? a
 | [],σ,a,h=>by simp [Bj] at h
 | s :: ss,[],a,h=>by cases s <;> simp [Bj] at h
 | s :: ss,o :: σ,a,h=>by
  have up:a∈Bj ss σ->∃ (i:Nat) (s':Slot),(s :: ss)[i]?=some s'/\s'≠.AN/\BL s' (o :: σ)[i]? a:=fun h=>by
   obtain ⟨i,s',h1,h2,h3⟩:=da h
   exact ⟨i+1,s',by simpa using h1,h2,by simpa using h3⟩
  cases s with
  | own xs=>
   cases o with
   | none=>exact up (by simpa [Bj] using h)
   | some v=>
    cases v with
    | ref l=>
     rw [Bj] at h
     rcases List.mem_cons.mp h with e | h
     ·subst e;exact ⟨0,_,rfl,by simp,rfl⟩
     ·exact up h
    | _=>exact up (by simpa [Bj] using h)
  | ow lt t=>
   rw [Bj] at h
   rcases List.mem_append.mp h with h | h
   ·exact ⟨0,_,rfl,by simp,h⟩
   ·exact up h
  | _=>exact up (by simpa [Bj] using h)
theorem Zz:∀ {ss:List Slot}{σ:L2.St} {i:Nat}{s:Slot}{a:Addr},ss.length=σ.length->ss[i]?=some s->s≠.AN->BL s σ[i]? a->a∈Bj ss σ
 | [],σ,i,s,a,_,h,_,_=>by simp at h
 | s0 :: ss,[],i,s,a,hl,_,_,_=>by simp at hl
 | s0 :: ss,o :: σ,0,s,a,hl,h,hp,ho=>by
  simp at h;subst h
  cases s0 with
  | own xs=>
   have e:o=some (.ref a):=by have:some o=some (some (V.ref a)):=ho;exact BU this
   subst e
   rw [Bj];simp
  | ow lt t=>rw [Bj];exact Rr _ ho
  | AN=>exact absurd rfl hp
  | _=>cases ho
 | s0 :: ss,o :: σ,i+1,s,a,hl,h,hp,ho=>by
  have q:=Zz (ss:=ss) (σ:=σ) (i:=i) (a:=a) (by simpa using hl) (by simpa using h) hp (by simpa using ho)
  cases s0 with
  | own xs=>cases o with
   | none=>simpa [Bj] using q
   | some v=>cases v with
    | ref l=>rw [Bj];simp [q]
    | _=>simpa [Bj] using q
  | ow lt t=>rw [Bj];exact Hk _ q
  | _=>simpa [Bj] using q
mutual
theorem BE.K8 {F H:Hp}:∀ {v:V}{t:OV},BE F H v t->∀ a∈t.addrs,∀ vs,H a≠some (.tup vs)
 | _,_,.fz _,a,ha,_=>by rw [OV.HV] at ha;cases ha
 | _,_,.tp _ r,a,ha,vs=>by rw [OV.Hf] at ha;exact Aq.K8 r a ha vs
 | _,_,@BE.nd _ _ k b ws xs h sd ft r,a,ha,vs=>by
  rw [OV.D6,HE,Ie] at ha
  rcases ha with rfl | ha | ha
  ·rw [h];cases k <;> simp [NK.ho]
  ·cases k with
   | obj C dx ns=>
    have e:a=dx:=by simpa [NK.more] using ha
    subst e
    have UC:H a=some (.own b):=sd
    rw [UC];simp
   | _=>simp [NK.more] at ha
  ·exact Aq.K8 r a ha vs
theorem Aq.K8 {F H:Hp}:∀ {vs:List V}{ts:List OV},Aq F H vs ts->∀ a∈OV.Ai ts,∀ ws,H a≠some (.tup ws)
 | _,_,.nil,a,ha,_=>by rw [OV.Hw] at ha;cases ha
 | _,_,.cons r t,a,ha,ws=>by
  rw [OV.Cr,Ie] at ha
  rcases ha with ha | ha
  ·exact BE.K8 r a ha ws
  ·exact Aq.K8 t a ha ws
end
mutual
def Ew:PV->Bool
 | .lst _=>false
 | .Ao _ _=>false
 | .obj _ _ _=>false
 | .exc _ _ _=>false
 | .tup xs=>NJ xs
 | _=>true
def NJ:List PV->Bool
 | []=>true
 | x :: r=>Ew x && NJ r
end
def G9 (F:Hp) (as:List Addr):Hp:=fun a=>if a∈as then none else F a
theorem Rep.sub {F:Hp}{as:List Addr}(h:∀ a∈as,∀ vs,F a≠some (.tup vs)):∀ {v:V}{p:PV},Rep F v p->Ew p=true->Rep (G9 F as) v p:=by
 intro v p r hn
 exact Rep.rec (motive_1:=fun v p _=>Ew p=true->Rep (G9 F as) v p) (motive_2:=fun vs ps _=>NJ ps=true->AU (G9 F as) vs ps)
  (fun _=>.AF) (fun b _=>.bl b) (fun i _=>.int i) (fun x _=>.str x)
  (fun _ _ _ z=>by simp [Ew] at z)
  (fun {a vs xs} e _ ih z=>.tup (by unfold G9;rw [if_neg (fun q=>h a q vs e)];exact e) (ih (by simpa [Ew] using z)))
  (fun _ _ _ _ z=>by simp [Ew] at z)
  (fun _ _ _ _ _ z=>by simp [Ew] at z)
  (fun _=>.con)
  (fun _ z=>by simp [Ew] at z)
  (fun _ _ _ _ _ z=>by simp [Ew] at z)
  (fun _=>.nil)
  (fun _ _ Xe Sf z=>by
   rw [NJ,El] at z
   exact .cons (Xe z.1) (Sf z.2))
  r hn
structure Wb [Xw] (ss:List Slot) (ta:TA) (k:List PV->Prop):Prop where
 go:∀ (E:Ent) (σ:L2.St) (F H:Hp) (Q:List V->Hp->Prop),Sg E ss σ F H->(∀ vs ps F' H',Mv E ss σ F H F' H'->AU (Bz F' H' (Bj ss σ)) vs ps->k ps->Q vs H')->ta σ H Q
section
variable {E:Ent0}{ss:List Slot}{σ:L2.St} {F H F' H':Hp}
theorem Sg.as (S:Sg E ss σ F H){a:Addr}(h:a∈Bj ss σ):F a=none/\H a≠none/\(∀ vs,H a≠some (.tup vs))/\Cd ss σ a:=by
 obtain ⟨i,s,hs,hp,ho⟩:=da h
 refine ⟨S.ZAD hs ho,S.EI hs ho,?_,S.LL hs ho hp⟩
 have k:=S.ok i s hs
 cases s with
 | own xs=>obtain ⟨l,vs,e,_,_,e3,_⟩:=k;rw [show σ[i]?=some (some (.ref a)) from ho] at e;cases e;rw [e3];simp
 | ow lt t=>obtain ⟨v,_,r,_⟩:=k;exact r.K8 a ho
 | AN=>exact absurd rfl hp
 | _=>cases ho
theorem Sg.QM (S:Sg E ss σ F H):A8 F (Bz F H (Bj ss σ))/\A8 (Bz F H (Bj ss σ)) H:=by
 refine ⟨fun a o e=>?_,fun a o e=>?_⟩
 ·unfold Bz
  rw [if_neg (fun q=>by rw [(S.as q).1] at e;cases e)];exact e
 ·unfold Bz at e
  split at e
  ·exact e
  ·exact S.fh a o e
theorem Sg.lend (S:Sg E ss σ F H){vs:List V}{ps:List PV}(r:AU (Bz F H (Bj ss σ)) vs ps):Sg (E3 [] (Bz F H (Bj ss σ)) H) (ps.map .is) (vs.map some) (Bz F H (Bj ss σ)) H:=by
 have nn:∀ {p:Prop}(a:Addr),a∈([]:List Addr)->p:=fun a h=>absurd h BH
 refine ⟨⟨S.QM.2,A8.refl _,fun _ _ _ e=>e,fun _ _ e=>.inl e,fun a h=>nn a h,fun a h=>nn a h,fun a h=>nn a h,fun a h=>nn a h,fun a h=>nn a h,fun a h=>nn a h⟩,by rw [AV,AV,r.length],fun i s hi=>?_,fun i j s u l Fl hi hj ms mu=>?_⟩
 ·rw [BF] at hi
  cases e:ps[i]? with
  | none=>rw [e] at hi;cases hi
  | some p=>
   rw [e] at hi
   obtain ⟨v,hv,rv⟩:=r.get e
   have es:Slot.is p=s:=BU hi
   subst es
   rw [BF,hv]
   exact ⟨v,rfl,rv⟩
 ·rw [BF] at hi
  cases e:ps[i]? with
  | none=>rw [e] at hi;cases hi
  | some p=>rw [e] at hi;have es:Slot.is p=s:=BU hi;subst es;cases ms
theorem Sg.nE (S:Sg E ss σ F H) (f:Fin (E3 [] (Bz F H (Bj ss σ)) H) F' H'):Mv E ss σ F H (G9 F' (Bj ss σ)) H'/\∀ a∈Bj ss σ,∀ vs,F' a≠some (.tup vs):=by
 have kp:∀ a o,H a=some o->H' a=some o:=fun a o e=>f.keep a o ⟨BH,BH⟩ e
 refine ⟨S.step (fun a o e=>?_) (fun a o e=>?_) (fun a o _ e=>kp a o e) (fun a o e=>?_) (fun i l hi e=>Ba.keep (S.E7 hi e) fun o e=>kp l o e),fun a ha vs e=>?_⟩
 ·unfold G9
  rw [if_neg (fun q=>by rw [(S.as q).1] at e;cases e)]
  exact f.f0 a o (S.QM.1 a o e)
 ·unfold G9 at e
  split at e
  ·cases e
  ·exact f.fh a o e
 ·unfold G9 at e
  split at e
  ·cases e
  ·rename_i q
   rcases f.fresh a o e with z | z
   ·left
    have z':Bz F H (Bj ss σ) a=some o:=z
    unfold Bz at z'
    rw [if_neg q] at z';exact z'
   ·exact .inr z
 ·obtain ⟨o,ho⟩:=Option.ne_none_iff_exists'.mp (S.as ha).2.1
  have z:F' a=some o:=f.f0 a o (by show Bz F H (Bj ss σ) a=some o;unfold Bz;rw [if_pos ha];exact ho)
  rw [z] at e
  cases e
  exact (S.as ha).2.2.1 vs ho
end
section
variable [Xw]
variable {ss:List Slot}{K:ZCy}{ta tb tc te ti:TE}{tr:TA}{nx:List Slot->Prop}{R:Ay}{k:PV->Prop}{xs ps:List PV}{i j:Nat}{t:OV}{lt:Bool}{pre:Pre}
theorem ZA {k:List PV->Prop}(h:k []):Wb ss Aw k:=⟨fun E σ F H Q S q=>q _ _ F H (.refl S) .nil h⟩
theorem aR {k:List PV->Prop}(h:Wp ss te fun p=>Wb ss tr fun ps=>k (p :: ps)):Wb ss (AS te tr) k:=⟨fun E σ F H Q S q=>
 h.go E σ F H _ S fun v p F1 H1 m1 r1 h2=>h2.go E σ F1 H1 _ m1.st fun vs ps F2 H2 m2 r2 kk=>q _ _ F2 H2 (m1.trans m2) (.cons ((r1.mono m2.ff).mono m2.st.QM.1) r2) kk⟩
end
theorem RE:∀ (xs:List PV),OV.C8 (xs.map .fz)=xs
 | []=>by rw [Rq,OV.C8]
 | x :: r=>by rw [Bq,OV.C8,OV.pv,RE r]
theorem fK (a:Addr) (xs:List PV):(OV.nd .lst a (xs.map .fz)).pv=.lst xs:=by rw [OV.pv,RE]
theorem tR (a b:OV):(OV.tp [a,b]).pv=.tup [a.pv,b.pv]:=by rw [OV.pv,OV.C8,OV.C8,OV.C8]
theorem yt (p:PV):(OV.fz p).pv=p:=by rw [OV.pv]
end Fz
namespace L2
structure IE (h:Heap) (ea:Addr) (C:Value) (dx tb:Option Addr):Prop where
 obj:∃ oe vs,h.get? ea=some oe/\oe.cls=C/\oe.dict=dx/\oe.data=.fields vs/\1 < vs.size/\vs[1]?=some (tb.elim Value.none Value.ref)
 ent:∀ T,tb=some T->T≠ea/\∃ oT ts,h.get? T=some oT/\oT.data=.fields ts/\3 < ts.size/\ts[3]?=some Value.none
section
variable {M:Model}{A:Around}{E:Value->Shared->Prop}{s:Shared}{base:Heap}{env:Env}{outer:List Env}{L ea:Addr}{C:Value}{dx tb:Option Addr}{Q:Unit->Shared->Prop}
theorem jS (o:Obj) (g:Array Value->Array Value):(o.mapFields g).dict=o.dict:=by
 obtain ⟨c,d,dt,sl⟩:=o
 cases dt <;> rfl
structure Kp (l:List Env) (ea:Addr) (tb:Option Addr) (h h':Heap):Prop where
 keep:∀ b o,h.get? b=some o->b∉Cz l->b≠ea->tb≠some b->h'.get? b=some o
 slot:∀ b o,h.get? b=some o->b∈Cz l->∃ sl,h'.get? b=some { o with slots:=sl }
 size:h.objs.size<=h'.objs.size
theorem fA (hl:s.heap.FunFrames base (env :: outer)){b:Addr}{o:Obj}{vs:Array Value}(ho:s.heap.get? b=some o) (hd:o.data=.fields vs):b∉Cz (env :: outer):=fun hm=>by
 obtain ⟨_,u,hu,hn⟩:=hl.mem hm
 rw [ho] at hu
 cases hu
 exact hn vs hd
theorem de {head:Value}{more:Bool}{oe:Obj}{vs:Array Value}(Pl:A.frames=some (env :: outer)) (hl:s.heap.FunFrames base (env :: outer)) (hf:env.frame=some L)
  (he:s.heap.get? ea=some oe) (hc:oe.cls=C) (KL:oe.dict=dx) (hd:oe.data=.fields vs) (hz:1 < vs.size)
  (h:∀ h' T,Kp (env :: outer) ea none s.heap h'->s.heap.objs.size<=T->IE h' ea C dx (some T)->Q () { s with heap:=h' }) :
  wpAny M A (do
   let fr <- frameOf env
   let pl <- entryPlaceOf L more
   let b <- EntryCells.newEntry head fr Value.none (rawInt L) Value.none pl
   setField (.ref ea) 1 b) (fun _ s'=>wpAny M A (setFlight (.ref ea) none) Q E s') E s:=by
 have gG:=fA hl he hd
 refine wpAny_bind (wpAny_frameOf_fun Pl hl hf fun g so=>?_)
 refine wpAny_bind (wpAny_entryPlaceOf fun pl ip=>?_)
 unfold EntryCells.newEntry newFields
 refine wpAny_bind (wpAny_newObj_type ?_ (ip.sizeOk5 _ _ _ _ _))
 generalize hT:([head,Value.ref L,Value.none,rawInt L,Value.none]++(if pl.isEmpty then List.replicate 6 Value.none else pl)).toArray=ts
 have tz:3 < ts.size:=by
  rw [<- hT]
  simp only [Br,Bm,Bc,Rp]
  omega
 have eg:g.get? ea=some oe:=(so.2.1 ea gG).trans he
 have gT:(g.push { cls:=.type "traceback", dict:=none,data:=.fields ts }).get? g.objs.size=some { cls:=.type "traceback", dict:=none,data:=.fields ts }:=CI g rfl
 have ge:=Bl (h:=g) { cls:=.type "traceback", dict:=none,data:=.fields ts } eg
 refine wpAny_setField ge hd hz ?_
 have Ii:g.objs.size≠ea:=L6 (BA eg)
 have d3:=Od hd (·.setIfInBounds 1 (Value.ref g.objs.size))
 have e3:=HB (Obj.mapFields (·.setIfInBounds 1 (Value.ref g.objs.size))) ge (YY d3)
 have T3:=(Em (g.push { cls:=.type "traceback", dict:=none,data:=.fields ts }) (Obj.mapFields (·.setIfInBounds 1 (Value.ref g.objs.size))) (BS Ii)).trans gT
 unfold setFlight
 refine wpAny_bind (wpAny_field e3 d3 (x:=.ref g.objs.size) (by simp [hz]) ?_)
 rw [if_pos (show (Value.ref g.objs.size != Value.none)=true from by simp)]
 refine wpAny_setField T3 rfl tz (h _ g.objs.size ⟨fun b o hb VS GX _=>?_,fun b o hb M4=>?_,?_⟩ ?_ ⟨⟨_,_,?_,?_,?_,d3,?_,?_⟩,fun T eT=>?_⟩)
 ·have gb:g.get? b=some o:=(so.2.1 b VS).trans hb
  rw [Em _ _ (L6 (BA gb)),Em _ _ (BS GX)]
  exact Bl _ gb
 ·obtain ⟨sl,gb⟩:=so.2.2 b o hb
  refine ⟨sl,?_⟩
  rw [Em _ _ (L6 (BA gb)),Em _ _ (by rintro rfl;exact gG M4)]
  exact Bl _ gb
 ·rw [Ri,Ri,JY,so.1]
  exact Jb _
 ·rw [so.1];exact An _
 ·rw [Em _ _ Ii];exact e3
 ·rw [Obj.cls_mapFields];exact hc
 ·rw [jS];exact KL
 ·simpa using hz
 ·simp [hz]
 ·cases eT
  refine ⟨Ii,_,_,HB _ T3 (YY (Od rfl _)),Od rfl _,by simpa using tz,?_⟩
  simp [tz]
theorem mV (Pl:A.frames=some (env :: outer)) (hl:s.heap.FunFrames base (env :: outer)) (hf:env.frame=some L) (hx:IE s.heap ea C dx tb)
  (h:∀ h' T,Kp (env :: outer) ea tb s.heap h'->s.heap.objs.size<=T->IE h' ea C dx (some T)->Q () { s with heap:=h' }) :
  wpAny M A (noteFrame (.ref ea) env) (fun _ s'=>wpAny M A (setFlight (.ref ea) none) Q E s') E s:=by
 obtain ⟨oe,vs,he,hc,hd,Ka,hz,h1⟩:=hx.obj
 unfold noteFrame
 simp only [hf]
 refine wpAny_bind (wpAny_field he Ka h1 ?_)
 cases tb with
 | none=>
  rw [if_neg (by decide)]
  exact de Pl hl hf he hc hd Ka hz h
 | some T=>
  obtain ⟨Ii,oT,ts,hT,GH,tz,h3⟩:=hx.ent T rfl
  show wpAny M A (do if (Value.ref T != Value.none)=true then _ else _) _ _ _
  rw [if_pos (show (Value.ref T != Value.none)=true from by simp)]
  refine wpAny_bind (wpAny_field hT GH h3 ?_)
  rw [if_neg (show ¬ ((Value.none == rawInt L)=true) from by simp [rawInt])]
  refine wpAny_bind (wpAny_setField hT GH tz ?_)
  have E4:∀ b,b≠T->(s.heap.update T (Obj.mapFields (·.setIfInBounds 3 Value.none))).get? b=s.heap.get? b:=fun b hb=>Em _ _ (BS hb)
  have nT:=fA hl hT GH
  refine de (s:={ s with heap:=s.heap.update T (Obj.mapFields (·.setIfInBounds 3 Value.none)) }) Pl (hl.of_keeps fun b o hb hn=>⟨o,(E4 b (by rintro rfl;rw [hT] at hb;cases hb;exact hn ts GH)).trans hb,rfl⟩) hf ((E4 ea (BS Ii)).trans he) hc hd Ka hz fun h' T' k hn x=>?_
  have CM:=HB (Obj.mapFields (·.setIfInBounds 3 Value.none)) hT (YY (Od GH _))
  refine h h' T' ⟨fun b o hb VS GX Vy=>k.keep b o ((E4 b (by rintro rfl;exact Vy rfl)).trans hb) VS GX (by simp),fun b o hb M4=>k.slot b o ((E4 b (by rintro rfl;exact nT M4)).trans hb) M4,?_⟩ ?_ x
  ·have z:=k.size
   rw [show (s.heap.update T (Obj.mapFields (·.setIfInBounds 3 Value.none))).objs.size=s.heap.objs.size from Ri ..] at z
   exact z
  ·have z:=hn
   rw [show (s.heap.update T (Obj.mapFields (·.setIfInBounds 3 Value.none))).objs.size=s.heap.objs.size from Ri ..] at z
   exact z
end
def vg (P:Program) (w:World):Fg:=fun outer H s E e s'=>∃ (ea C:Addr) (dx tb:Option Addr) (H':Hp),e=.ref ea/\s'.os=s.os/\AllBare s'.gens/\Un (Cz outer) [] H H' s.heap s'.heap/\Bd P w H' s'.heap/\
 IE s'.heap ea (.ref C) dx tb/\(H' ea=none/\s.heap.get? ea=none)/\(∀ T,tb=some T->H' T=none/\s.heap.get? T=none)/\E (.ref C) dx H'
def c6 (X:Cx) (E:XK) (e:Value) (s':Shared):Prop:=∃ (pins:ZCz) (σ:St) (H':Hp) (ea C:Addr) (dx tb:Option Addr),e=.ref ea/\Inv X pins σ H' s'/\
 IE s'.heap ea (.ref C) dx tb/\(H' ea=none/\X.s₀.heap.get? ea=none)/\(∀ T,tb=some T->H' T=none/\X.s₀.heap.get? T=none)/\E (.ref C) dx H'
section
variable {P:Program}{w:World}{K:ZCy}{mg:ZD0}{base:Heap}{N:List Str}{qual:Str}{scope:Scope}{f:Addr}{cd:Value}{A:Around}{outer:List Env}{s:Shared}{H:Hp}{E:XK}
theorem Bd.ZBO {H':Hp}{h h':Heap}(ok:Bd P w H' h) (k:∀ b u,H' b≠none->h.get? b=some u->h'.get? b=some u):Bd P w H' h':=fun a o e=>
 (ok a o e).Il (fun b u hb hu=>k b u (by rcases hb with rfl | hb;(rw [e];simp);(rw [hb];simp)) hu) (fun _ z=>z) fun _ _ z=>z
end
section
variable {X:Cx}{P:Program}{w:World}
theorem c6.of {pins:ZCz}{σ:St} {H:Hp}{s s':Shared}{E:XK}{e:Value}(I:Inv X pins σ H s) (hex:X.ex=[]) (h:vg X.prog X.w X.stack H s E e s'):c6 X E e s':=by
 have Dz:∀ a,s.heap.get? a=none->X.s₀.heap.get? a=none:=fun a ha=>by
  cases q:X.s₀.heap.get? a with
  | none=>rfl
  | some o=>
   obtain ⟨o1,h1⟩:=I.base.there a o q (by rw [hex];simp)
   rw [ha] at h1;cases h1
 obtain ⟨ea,C,dx,tb,H',rfl,os,bare,un,AM,x,⟨u1,u2⟩,ut,hE⟩:=h
 obtain ⟨hh,g,d,t,NO⟩:=s'
 obtain rfl:NO=s.os:=os
 have I2:=I.call (h':=hh) (g':=g) (d':=d) (t':=t) (ch:=[]) un AM bare (fun b z=>absurd z (by simp))
 refine ⟨pins,σ,H',ea,C,dx,tb,rfl,I2,x,⟨u1,Dz _ u2⟩,fun T eT=>⟨(ut T eT).1,Dz _ (ut T eT).2⟩,hE⟩
end
section
variable {X:Cx}{x:Str}{C:Addr}{E':St->XK}{np Bk pos:Pos}{e0:Expr}{es:List Expr}{t:TA}{E:XK}
def Goes (X:Cx) (E:St->XK):Prop:=∀ (pins:ZCz) (σ:St) (H':Hp) (s':Shared) (ea C:Addr) (dx tb:Option Addr),Inv X pins σ H' s'->IE s'.heap ea (.ref C) dx tb->(H' ea=none/\X.s₀.heap.get? ea=none)->(∀ T,tb=some T->H' T=none/\X.s₀.heap.get? T=none)->
 (∀ p∈X.pn++pins,p.1≠ea/\tb≠some p.1)->E σ (.ref C) dx H'->X.xe (.ref ea) s'
end
section
variable {M:Model}{A:Around}{E:Value->Shared->Prop}{env:Env}
variable {nm qn:Str}{C N:Addr}{bs bm:List Value}{yi:Bool}{sn:List Str}{sub:List Value}{ab:Bool}{col:Option Bool}{dd:Option Addr}{k0 k1 k2 k3 k5:Option Value}{newId:String}
end
section
variable {prog:Program}{w:World}{A:Around}{E:Value->Shared->Prop}{h:Heap}{g:Array GenState}{d:Drawn}{t:Nat}{os:OsState}
variable {nm qn:Str}{C N:Addr}{bs bm bmB:List Value}{yi:Bool}{sn:List Str}{sub:List Value}{ab:Bool}{col:Option Bool}{dd:Option Addr}{k0 k1 k2 k3 k5:Option Value}{B newId ZCj:String}
end
section
variable {prog:Program}{w:World}{A:Around}{E:Value->Shared->Prop}{s:Shared}{K:ZCy}{x C t:Addr}{name:Str}{v:Value}
section
open PySem.Builtin PySem.Builtin.ObjectAttr
end
end
section
variable {X:Cx}{pins:ZCz}{σ:St} {H:Hp}{s:Shared}
end
section
variable {X:Cx}{e:Expr}{te:TE}{pos p1 p2 p3:Pos}{k1 k2:Nat}{c1 c2:Str}
end
section
variable {X:Cx}{S C fI:Addr}{fld:Str}{ini:Option Value}
end
section
variable {X:Cx}{pins:ZCz}{σ:St} {H:Hp}{s:Shared}
end
section
variable {X:Cx}{x:Str}{C fI:Addr}{fld par:Str}{E':St->XK}{np Bk pos:Pos}{e0:Expr}{t:TA}{kk:Nat}{fd:FuncData}
end
section
variable {X:Cx}{pins:ZCz}{σ:St} {H:Hp}{s:Shared}{ea:Addr}{C:Value}{dx tb:Option Addr}
theorem Inv.az (I:Inv X pins σ H s) (BY:X.stack=X.env :: X.outer) (x:IE s.heap ea C dx tb) (u1:H ea=none) (u2:X.s₀.heap.get? ea=none) (ut:∀ T,tb=some T->H T=none/\X.s₀.heap.get? T=none)
  (hp:∀ p∈X.pn++pins,p.1≠ea/\tb≠some p.1){h':Heap}(kp:Kp (X.env :: X.outer) ea tb s.heap h'):Inv X pins σ H { s with heap:=h' }:=by
 obtain ⟨oe,vs,he,_,_,vU,_⟩:=x.obj
 have mem:∀ b,b∈Cz (X.env :: X.outer)->b=X.env.locals∨b∈X.fs:=fun b hb=>by
  rw [<- BY] at hb
  exact List.mem_cons.mp (I.P1 b hb)
 have dE:∀ b,b=X.env.locals∨b∈X.fs->b∈Cz (X.env :: X.outer):=fun b hb=>by
  have hf:X.env.frame=some X.env.locals:=by
   rcases I.ok.Ho with e | ⟨_,hf⟩
   ·rw [e] at BY
    exact absurd (congrArg List.length BY) (by simp)
   ·exact hf
  unfold Cz
  rw [YL,hf]
  rcases hb with rfl | hb
  ·exact EA
  ·exact Fy _ hb
 have plain:∀ b o,s.heap.get? b=some o->(∀ vs,o.data≠.fields vs)->∃ sl,h'.get? b=some { o with slots:=sl }:=fun b o hb hd=>by
  by_cases hf:b∈Cz (X.env :: X.outer)
  ·exact kp.slot b o hb hf
  ·refine ⟨o.slots,kp.keep b o hb hf (by rintro rfl;rw [he] at hb;cases hb;exact hd _ vU) fun z=>?_⟩
   obtain ⟨_,oT,ts,hT,GH,_⟩:=x.ent b z
   rw [hT] at hb;cases hb;exact hd _ GH
 have old:∀ b o,s.heap.get? b=some o->H b≠none->h'.get? b=some o:=fun b o hb hn=>kp.keep b o hb (fun z=>hn (I.SJ b (by rw [BY];exact z))) (fun z=>hn (z▸u1)) fun z=>hn (ut b z).1
 have low:∀ b o,X.s₀.heap.get? b=some o->b≠X.env.locals:=fun b o hb z=>absurd (BA hb) (Nat.not_lt.mpr (z▸I.ok.above))
 have dX:∀ c v,s.heap.IsCell c v->h'.IsCell c v:=fun c v ⟨o,ho,hd⟩=>by
  obtain ⟨sl,h1⟩:=plain c o ho (by rw [hd];intro vs z;cases z)
  exact ⟨_,h1,hd⟩
 refine ⟨I.ok,I.os,I.bare,⟨fun b o hb hn hf hx=>?_,fun b o hb hn hf hx=>?_,I.base.free,fun b o hb hx=>?_,I.base.HF,I.base.Gp,I.base.Hd⟩,?_,fun y c q=>?_,I.free,I.Eh,fun p Jj=>?_,I.AM.ZBO fun b u hn hb=>old b u hb hn,I.len⟩
 ·exact kp.keep b o (I.base.keep b o hb hn hf hx) (fun z=>(mem b z).elim (low b o hb) hf) (by rintro rfl;rw [u2] at hb;cases hb) fun z=>by rw [(ut b z).2] at hb;cases hb
 ·obtain ⟨sl,h1⟩:=I.base.slot b o hb hn hf hx
  obtain ⟨KA,h2⟩:=kp.slot b _ h1 (dE b (.inr hf))
  exact ⟨KA,h2⟩
 ·obtain ⟨o1,h1⟩:=I.base.there b o hb hx
  by_cases hf:b∈Cz (X.env :: X.outer)
  ·obtain ⟨KA,h2⟩:=kp.slot b _ h1 hf
   exact ⟨_,h2⟩
  ·exact ⟨o1,kp.keep b o1 h1 hf (by rintro rfl;rw [u2] at hb;cases hb) fun z=>by rw [(ut b z).2] at hb;cases hb⟩
 ·obtain ⟨m,⟨o,es,ep,ho,r⟩,hl⟩:=I.loc
  obtain ⟨sl,h1⟩:=kp.slot _ _ ho (dE _ (.inl rfl))
  refine ⟨m,⟨_,es,ep,h1,r⟩,fun i y v hi hv hy=>?_⟩
  obtain ⟨u,ru,lk⟩:=hl i y v hi hv hy
  refine ⟨u,ru,?_⟩
  rcases lk with lk | ⟨k,c,hc,ic⟩
  ·exact .inl lk
  ·exact .inr ⟨k,c,hc,dX c _ ic⟩
 ·obtain ⟨v,hv⟩:=I.cell y c q
  exact ⟨v,dX c v hv⟩
 ·obtain ⟨h1,h2,h3,h4,h5⟩:=I.pin p Jj
  exact ⟨kp.keep _ _ h1 (fun z=>(mem _ z).elim h3 h4) (hp p Jj).1 (hp p Jj).2,h2,h3,h4,h5⟩
theorem tH {M:Model}{A:Around}{E:Value->Shared->Prop}{Q:Unit->Shared->Prop}{l:List Env}(x:IE s.heap ea C dx tb) (hl:∀ b∈Cz l,∃ o,s.heap.get? b=some o/\∀ vs,o.data≠.fields vs)
  (h:∀ h',Kp l ea tb s.heap h'->IE h' ea C dx tb->Q () { s with heap:=h' }):wpAny M A (setFlight (.ref ea) none) Q E s:=by
 obtain ⟨oe,vs,he,hc,hd,Ka,hz,h1⟩:=x.obj
 unfold setFlight
 refine wpAny_bind (wpAny_field he Ka h1 ?_)
 cases tb with
 | none=>
  rw [if_neg (by decide)]
  exact wpAny_pure (h s.heap ⟨fun b o hb _ _ _=>hb,fun b o hb _=>⟨o.slots,hb⟩,An _⟩ x)
 | some T=>
  obtain ⟨Ii,oT,ts,hT,GH,tz,h3⟩:=x.ent T rfl
  rw [if_pos (show ((some T).elim Value.none Value.ref != Value.none)=true from by simp)]
  have E4:∀ b,b≠T->(s.heap.update T (Obj.mapFields (·.setIfInBounds 3 Value.none))).get? b=s.heap.get? b:=fun b hb=>Em _ _ (BS hb)
  have CM:=HB (Obj.mapFields (·.setIfInBounds 3 Value.none)) hT (YY (Od GH _))
  refine wpAny_setField hT GH tz (h _ ⟨fun b o hb _ _ Vy=>(E4 b (by rintro rfl;exact Vy rfl)).trans hb,fun b o hb M4=>⟨o.slots,(E4 b ?_).trans hb⟩,by rw [Ri];exact An _⟩ ⟨⟨oe,vs,(E4 ea (BS Ii)).trans he,hc,hd,Ka,hz,h1⟩,fun T' eT=>?_⟩)
  ·rintro rfl
   obtain ⟨o',De,hn⟩:=hl b M4
   rw [hT] at De;cases De
   exact hn ts GH
  ·cases eT
   exact ⟨Ii,_,_,CM,Od GH _,by simpa using tz,by simp [tz]⟩
end
section
variable {X:Cx}{pins:ZCz}{σ:St} {H:Hp}{s:Shared}{ea C:Addr}{dx tb:Option Addr}
end
noncomputable abbrev Cx.G0 (X:Cx) (pn:ZCz) (xe:Value->Shared->Prop):Cx:={ X with pn:=pn,xe:=xe }
noncomputable abbrev Cx.Dq (X:Cx) (e:Value):Cx:={ X with A:=X.A.mark (some e),calm:=false,xe:=fun _ _=>False }
section
variable {X:Cx}{pins ee:ZCz}{σ:St} {H:Hp}{s:Shared}{ea C:Addr}{dx tb:Option Addr}{xe:Value->Shared->Prop}{e:Value}
theorem Cx.Ok.G0 (ok:X.Ok){pn:ZCz}:(X.G0 pn xe).Ok:=⟨ok.mod,ok.kind,ok.glob,ok.blt,ok.above,ok.inj,ok.has,ok.JT,ok.hd,ok.frames,ok.Ho,ok.Je,ok.bs,ok.G5,ok.Ik,ok.J0,ok.Ef,ok.Hj⟩
theorem Cx.Ok.Jx {pn:ZCz}(ok:(X.G0 pn xe).Ok):X.Ok:=⟨ok.mod,ok.kind,ok.glob,ok.blt,ok.above,ok.inj,ok.has,ok.JT,ok.hd,ok.frames,ok.Ho,ok.Je,ok.bs,ok.G5,ok.Ik,ok.J0,ok.Ef,ok.Hj⟩
theorem Cx.Ok.Dq (ok:X.Ok):(X.Dq e).Ok:=⟨ok.mod,ok.kind,ok.glob,ok.blt,ok.above,ok.inj,ok.has,ok.JT,fun z=>(by cases z),ok.frames,ok.Ho,ok.Je,ok.bs,ok.G5,ok.Ik,ok.J0,ok.Ef,ok.Hj⟩
theorem Inv.G0 (I:Inv X pins σ H s):Inv (X.G0 (X.pn++pins) xe) [] σ H s:=⟨I.ok.G0,I.os,I.bare,I.base,I.loc,I.cell,I.free,I.Eh,fun p hp=>I.pin p (by simpa using hp),I.AM,I.len⟩
theorem Inv.Jx (I:Inv (X.G0 (X.pn++pins) xe) ee σ H s):Inv X pins σ H s:=⟨I.ok.Jx,I.os,I.bare,I.base,I.loc,I.cell,I.free,I.Eh,fun p hp=>I.pin p (Rr _ hp),I.AM,I.len⟩
theorem Inv.Dq (I:Inv X pins σ H s):Inv (X.Dq e) pins σ H s:=⟨I.ok.Dq,I.os,I.bare,I.base,I.loc,I.cell,I.free,I.Eh,I.pin,I.AM,I.len⟩
theorem Inv.Ol (ok:X.Ok) (I:Inv (X.Dq e) pins σ H s):Inv X pins σ H s:=⟨ok,I.os,I.bare,I.base,I.loc,I.cell,I.free,I.Eh,I.pin,I.AM,I.len⟩
end
noncomputable def Ends.drop (D:Ends) (j:Nat):Ends:=⟨fun σ H=>D.nx (σ.set j none) H,D.rt,fun σ H=>D.bk (σ.set j none) H,fun σ H=>D.ct (σ.set j none) H⟩
section
variable {X:Cx}{x n:Str}{S:Addr}{j:Nat}{body Dq:List Stmt}{b0:Stmt}{np IT pos:Pos}{LV:(St->XK)->TS}{th:TS}
end
section
variable {P:Program}{w:World}{K:ZCy}{mg:ZD0}{base:Heap}{x qual:Str}{k:Nat}{ps:List Str}{sp:Sp}{st:Stmt}{f:Addr}{fd:FuncData}
end
section
variable {X:Cx}{x:Str}{j k:Nat}{ps:List Str}{sp:Sp}{p pos:Pos}{e:Expr}{es:List Expr}{t:TA}{E:St->XK}
end
section
variable {P:Program}{w:World}{K:ZCy}{mg:ZD0}{base:Heap}{N:List Str}{qual:Str}{scope:Scope}{f:Addr}{cd:Value}{A:Around}{outer:List Env}{s:Shared}{H:Hp}{E:XK}
end
section
variable {X:Cx}{x n:Str}{S C fI:Addr}{i j k kk:Nat}{ps:List Str}{sp:Sp}{p np Bk IT pos:Pos}{e e0:Expr}{es:List Expr}{t:TA}{E:St->XK}{body Dq:List Stmt}{b0:Stmt}{LV:(St->XK)->TS}{th:TS}{fd:FuncData}{fld par:Str}
end
section
variable {prog:Program}{w:World}{A:Around}{E:Value->Shared->Prop}{s:Shared}{K:ZCy}{x C:Addr}{ox:Obj}{od:Option Obj}{name:Str}{fill expr:Bool}{tk:Tok}
end
section
variable {X:Cx}
end
section
variable {X:Cx}{e:Expr}{ta:TE}{f:Str}{pos:Pos}
end
section
variable {prog:Program}{w:World}{A:Around}{E:Value->Shared->Prop}{s:Shared}
end
section
variable {X:Cx}
end
end L2
namespace Fz
open L2 Lw
structure ML (K:ZCy) (a:Addr) (xs:List PV):Prop where
 JV:xs.all flat=true
 sq:∀ H,A9 K H a (xs.map Fz.enc)
 ob:∃ o:Obj,K.lookup a=some o/\o.cls=.type "tuple"
theorem ML.of {K:ZCy}{a:Addr}{xs:List PV}{vs:List V}(h:∀ H,A9 K H a vs) (e:xs.map Fz.enc=vs) (f:xs.all flat=true):ML K a xs:=by
 subst e
 refine ⟨f,h,?_⟩
 rcases h (fun _=>none) with h | ⟨o,A6,n,h1,h2,_⟩
 ·rcases h with h | ⟨_,h⟩
  ·cases h
  ·cases h
 ·exact ⟨o,h1,h2⟩
section
variable [Xw]
variable {E:Ent0}{ss:List Slot}{σ:L2.St} {F H F' H':Hp}{K:ZCy}{ta tb tc te:TE}{k:PV->Prop}{v:V}{tp:Bool}{xs:List PV}{nx:List Slot->Prop}{R:Ay}
end
noncomputable def ZS (ns:List Str) (g:Nat) (ms:List Str):List Str:=(ns.take g).filter (fun x=>decide (x∈ms))++(ns.drop g).filter (fun x=>!decide (x∈ms))
theorem oz {α:Type} (ms:List α) (x:α) (j:Nat):(ms.take j++x :: ms.drop j).Perm (x :: ms):=by
 have h:=List.perm_middle (a:=x) (l₁:=ms.take j) (l₂:=ms.drop j)
 rwa [L3] at h
theorem Wh {ms:List Str}{x:Str}(j:Nat) (h:ms.Nodup) (hx:x∉ms):(ms.take j++x :: ms.drop j).Nodup:=(oz ms x j).nodup_iff.mpr (List.nodup_cons.mpr ⟨hx,h⟩)
structure Gr where
 n:Nat
 g:Nat
 u:List Str
 ps:List (Str×Str)
noncomputable def mZ (cs:List Str) (s:Gr) (x:Str):Gr:=
 if x∈cs then ⟨s.n+1,s.g,s.u++[x],s.ps⟩
 else if s.u=[] then ⟨s.n+1,s.n+1,s.u,s.ps⟩
 else ⟨s.n+1,s.g,s.u.dropLast,s.ps++[(s.u.getLastD "", x)]⟩
noncomputable def gr (cs ns:List Str):Gr:=ns.foldl (mZ cs) ⟨0,0,[],[]⟩
noncomputable def cC (cs ns:List Str):Nat:=(ns.filter fun x=>decide (x∈cs)).length
def uZ (ns cs:List Str) (p:PV):Prop:=∃ ts:List Str,ts.Perm (ZS ns (gr cs ns).g cs)/\sortedS ts=true/\p=.tup [.tup [.int ((gr cs ns).g:Nat),.tup (ts.map .str)],.lst ((gr cs ns).ps.map LH)]
def VM:Pre:=fun l R=>∃ i:Int,l=[.is (.int i)]/\R=.is fun p=>p=.bl true
section
variable [Xw]
variable {E:Ent0}{ss:List Slot}{σ:L2.St} {F H F' H':Hp}{K:ZCy}{ta tb tc te:TE}{k:PV->Prop}{v:V}{tp:Bool}{xs:List PV}{nx:List Slot->Prop}{R:Ay}
end
noncomputable def rv (n:Nat):Nat->Nat
 | 0=>0
 | i+1=>2 * rv n i+n / 2 ^ i % 2
section
variable [Xw]
variable {E:Ent0}{ss:List Slot}{σ:L2.St} {F H F1 F' H':Hp}{K:ZCy}{js:List Nat}{ta tb tc te ti:TE}{nx:List Slot->Prop}{R:Ay}{k:PV->Prop}{xs:List PV}
theorem kN {i:Nat}(hi:ss[i]?=some .AN) (h:Wq ss ta fun tp xs=>tp=false/\∃ ns:List Str,xs=ns.map PV.str/\(∀ x∈ns,Nm x)/\ns.length<=1000/\∀ x:Str,Nm x->x∉ns->k (.str x)) :
  Wp ss (CP (Na K) [] E0 (AS (BG i) (AS ta Aw))) k:=⟨fun E σ F H Q S q=>by
 obtain ⟨p,e,_⟩:=S.ok i _ hi
 refine ⟨_,e,h.go E σ F H _ S fun v tp xs F1 H1 m1 sv ⟨et,ns,ex,hN,hz,kk⟩=>?_⟩
 subst et;subst ex
 obtain ⟨l,vs,ev,hn,hl,r⟩:=sv
 subst ev
 rw [r.strs] at hl
 exact ⟨p,l,ns,rfl,m1.st.E7 hi e,AE.of hl,fun z=>hn i hi (z▸e),hN,hz,fun x H3 hx Jt s=>q _ _ F1 H3 (m1.trans (m1.st.Qa hi e s)) (.str x) (kk x hx Jt)⟩⟩
def Vc:Pre:=fun l R=>∃ (ns:List Str) (r:Str),l=[.sq false (ns.map .str),.is (.str r)]/\ns.length < 64/\R=.is fun p=>∃ ts:List Str,ts.Perm ns/\sortedS ts=true/\p=D8 r 0 ts
end
end Fz
namespace L2
section
variable {X:Cx}
end
end L2
namespace Fz
open L2 Lw
section
variable [Xw]
variable {E:Ent0}{ss:List Slot}{σ:L2.St} {F H F' H':Hp}{K:ZCy}{ta tb tc te:TE}{k:PV->Prop}{v:V}{tp:Bool}{xs:List PV}{nx:List Slot->Prop}{R:Ay}
end
@[reducible] noncomputable def ZCb (X:XK) (D:Ex->Prop):Xw:=⟨fun _=>X,fun _=>True,D⟩
@[reducible] noncomputable def Ld (E:Ent0) (J:List Slot->Prop) (D:Ex->Prop):Xw:=⟨fun σ C dx H=>∃ ss F x,J ss/\Sg E ss σ F H/\D x/\x.at F C dx,J,D⟩
section
variable [Xw]
variable {E:Ent0}{ss:List Slot}{σ:L2.St} {F H F' H':Hp}{pre:Qb}{t:TA}{te:TE}{k:PV->Prop}{nx:List Slot->Prop}{R:Ay}{K:ZCy}{C S:Addr}{fld:Str}
end
section
variable {pre:Qb}{H:Hp}
end
section
variable {E:Ent0}{ss:List Slot}{σ:L2.St} {F H F' H':Hp}
noncomputable abbrev Ent0.at (E:Ent0) (F:Hp):Ent0:=⟨E.A,F,E.H0,E.B⟩
theorem Fin.un (S:Fin E F H) (f:Fin (E.at F) F' H'):Fin E F' H':=⟨f.fh,S.f0.trans f.f0,f.keep,fun a o e=>(f.fresh a o e).elim (fun e=>S.fresh a o e) .inr,f.GI,f.K6,f.a0,f.bF,f.bH,f.b0⟩
theorem Ok.un {G:Hp}{s:Slot}{o:Option (Option V)}:Ok (E.at G) F H s o↔Ok E F H s o:=by
 cases s with
 | sq tp xs=>cases tp <;> exact Iff.rfl
 | _=>exact Iff.rfl
theorem Sg.un {AQ:List Slot}{σ':L2.St} (S:Sg E ss σ F H) (S':Sg (E.at F) AQ σ' F' H'):Sg E AQ σ' F' H':=⟨S.toFin.un S'.toFin,S'.len,fun i s hi=>Ok.un.mp (S'.ok i s hi),S'.By⟩
theorem Sg.kq (S:Sg E ss σ F H):Sg (E.at F) ss σ F H:=⟨⟨S.fh,A8.refl _,S.keep,fun _ _ e=>.inl e,S.GI,S.K6,S.a0,S.bF,S.bH,S.b0⟩,S.len,fun i s hi=>Ok.un.mpr (S.ok i s hi),S.By⟩
theorem Ay.un {R:Ay}{G:Hp}{v:V}(h:R.ok (E.at G) F H v):R.ok E F H v:=by
 cases R <;> exact h
end
section
variable [Xw]
variable {ss:List Slot}{nx:List Slot->Prop}{R:Ay}{K:ZCy}{S:Addr}{j:Nat}{tb:(L2.St->XK)->TS}{th:TS}
end
section
variable [Xw]
variable {E:Ent0}{ss:List Slot}{σ:L2.St} {F H F' H':Hp}{K:ZCy}{te:TE}{k:PV->Prop}{v:V}{fld:Str}
end
end Fz
namespace L2
section
variable {X:Cx}{x:Str}{C:Addr}{fld:Str}{E:St->XK}{np Bk pos:Pos}{e0:Expr}{t:TA}{j:Nat}
end
end L2
namespace Fz
open L2 Lw
theorem dw {α:Type} (f:α->PV) (L:List α) (i:Nat) (e:α):(L.map f).set i (f e)=(L.set i e).map f:=by rw [List.map_set]
theorem oo {b c n:Int}(hb:1<=b) (hc:b<=c) (hn:0<=n):∃ m:Nat,(if (if c < n then c else n) > b then (if c < n then c else n) else b)=(m:Int)/\(m:Int)<=c:=by
 have h:∀ z:Int,1<=z->z<=c->∃ m:Nat,z=(m:Int)/\(m:Int)<=c:=fun z h0 h1=>⟨z.toNat,by omega,by omega⟩
 apply h
 ·split
  ·omega
  ·omega
 ·split
  ·split <;> omega
  ·omega
section
variable [Xw]
variable {ss:List Slot}{K:ZCy}{ta:TE}{k:PV->Prop}{a:Addr}{ns:List Str}
theorem rE {neg:Bool}(c:ML K a (ns.map .str)) (h:Wp ss ta fun p=>∃ x,p=.str x/\k (.bl (if neg then !decide (x∈ns) else decide (x∈ns)))):Wp ss (BQ (Kr K neg) ta (tC (.ref a))) k:=⟨fun E σ F H Q S q=>
 h.go E σ F H _ S fun v p F1 H1 m1 r1 ⟨x,e,kk⟩=>by
  subst e;cases r1
  have sq:=c.sq H1
  rw [VZ] at sq
  refine ⟨a,ns.map V.str,rfl,.inr sq,rfl,Fo ns,?_⟩
  rw [KD]
  exact q _ _ F1 H1 m1 (.bl _) kk⟩
end
noncomputable def NB (r:Str):Bool:=decide (r∈([("none" : Str), "ahead", "all"]))
theorem Yr {x:Str}(h:x.length<=100) (hx:∀ c∈x.cps.toList,c < 16 ^ 8):(reprText x).length<=100000:=by
 have:=PySem.StrLaws.reprText_len x hx
 omega
theorem mG {x:Str}(h:Nm x):(reprText x).length<=100000:=Yr (Cs h.2.1 (by decide)) fun c hc=>L5 (h.2.2 c hc).2 (by decide)
section
variable [Xw]
variable {ss:List Slot}{ta tb:TE}{k:PV->Prop}
end
section
variable [Xw]
variable {ss:List Slot}{K:ZCy}{ta tb te t u:TE}{k:PV->Prop}{pre:Qb}{tA:TA}
theorem VQ (h:Wp ss te fun p=>∃ x,p=.str x/\x.length<=1000/\k (.bl (isNm x))):Wp ss (CP Ke [] E0 (AS te Aw)) k:=⟨fun E σ F H Q S q=>
 h.go E σ F H _ S fun v p F1 H1 m1 r ⟨x,e,hx,kk⟩=>by
  subst e;cases r
  exact ⟨x,rfl,hx,fun H3 s=>q _ _ F1 H3 (m1.trans (m1.st.grow s)) (.bl _) kk⟩⟩
end
inductive BM where
 | put (x:Str) (i:Int) | take (x:Str) | move (x:Str) (i:Int) | turn (lo hi:Int)
noncomputable def aP:BM->PV
 | .put x i=>.tup [.str "put", .str x,.int i]
 | .take x=>.tup [.str "take", .str x]
 | .move x i=>.tup [.str "move", .str x,.int i]
 | .turn lo hi=>.tup [.str "turn", .int lo,.int hi]
structure LJ where
 noName:Addr
 there:Addr
 gone:Addr
 Og:Addr
 full:Addr
noncomputable def Pj (C:Addr) (nm:Str):Ex:=⟨C,["name"],[.str nm]⟩
noncomputable def Qv (C:Addr) (i:Int):Ex:=⟨C,["at"],[.int i]⟩
noncomputable def uD (C:Addr):Ex:=⟨C,[],[]⟩
def inR (i:Int) (lo hi:Int):Prop:=lo<=i/\i<=hi
instance {i lo hi:Int}:Decidable (inR i lo hi):=by unfold inR;infer_instance
noncomputable def BM.Cm (c:LJ) (ns:List Str):BM->Option Ex
 | .put x i=>if isNm x=false then some (Pj c.noName x) else if x∈ns then some (Pj c.there x) else if ¬ inR i 0 ns.length then some (Qv c.Og i) else if 40<=ns.length then some (uD c.full) else none
 | .take x=>if x∉ns then some (Pj c.gone x) else none
 | .move x i=>if x∉ns then some (Pj c.gone x) else if ¬ inR i 0 (ns.length - 1) then some (Qv c.Og i) else none
 | .turn lo hi=>if ¬ inR lo 0 ns.length then some (Qv c.Og lo) else if ¬ inR hi lo ns.length then some (Qv c.Og hi) else none
def DN (x:Str):Prop:=(reprText x).length<=100000/\x.length<=1000
def K7 (i:Int):Prop:=i.natAbs.log2 < 1920
def BM.say:BM->Prop
 | .put x i=>DN x/\K7 i
 | .take x=>DN x
 | .move x i=>DN x/\K7 i
 | .turn lo hi=>K7 lo/\K7 hi
def BM.Is (d:BM) (ns:List Str) (d':AJ):Prop:=aP d=dP d'/\d'.Ok 40 ns
theorem yJ {c:Nat}(h:Kf c=true):97<=c/\c<=122:=by
 refine Ic fun hn=>?_
 have e:∀ i,i < 26->HK.cps.extract i (i+1)=#[97+i]:=by decide +kernel
 have no:∀ i,i+(Str.length ⟨#[c]⟩)<=HK.length->Builtin.Str.subAt HK ⟨#[c]⟩ i=false:=fun i hi=>by
  have DM:i+1<=26:=hi
  show (HK.cps.extract i (i+1) == #[c])=false
  rw [e i (by omega)]
  cases hc:(#[97+i] == #[c]) with
  | false=>rfl
  | true=>
   have q:=eq_of_beq hc
   simp at q
   exact absurd ⟨by omega,by omega⟩ hn
 unfold Kf at h
 rw [PySem.W.occ_nil_of_no _ _ 1 no] at h
 exact absurd h (by decide)
theorem Zw {x:Str}(h:isNm x=true):Nm x:=by
 unfold isNm at h
 simp only [El,decide_eq_true_eq,HC] at h
 obtain ⟨h1,h2,h3⟩:=h
 exact ⟨by omega,by omega,fun c hc=>yJ (h3 c hc)⟩
theorem BM.good {c:LJ}{ns:List Str}{d:BM}(h:d.Cm c ns=none):∃ d':AJ,d.Is ns d':=by
 cases d with
 | put x i=>
  simp only [BM.Cm] at h
  split at h
  ·cases h
  ·next h1=>
   split at h
   ·cases h
   ·next h2=>
    split at h
    ·cases h
    ·next h3=>
     split at h
     ·cases h
     ·next h4=>
      have OC:inR i 0 ns.length:=Decidable.not_not.mp h3
      obtain ⟨a,b⟩:=OC
      obtain ⟨n,rfl⟩:=EO a
      refine ⟨.put x n,rfl,Zw (by cases e:isNm x <;> simp_all),h2,by omega,by omega⟩
 | take x=>
  simp only [BM.Cm] at h
  split at h
  ·cases h
  ·next h1=>exact ⟨.take x,rfl,(Decidable.not_not.mp h1:x∈ns)⟩
 | move x i=>
  simp only [BM.Cm] at h
  split at h
  ·cases h
  ·next h1=>
   split at h
   ·cases h
   ·next h3=>
    have OC:inR i 0 (ns.length - 1):=Decidable.not_not.mp h3
    obtain ⟨a,b⟩:=OC
    obtain ⟨n,rfl⟩:=EO a
    exact ⟨.move x n,rfl,Decidable.not_not.mp h1,by omega⟩
 | turn lo hi=>
  simp only [BM.Cm] at h
  split at h
  ·cases h
  ·next h1=>
   split at h
   ·cases h
   ·next h3=>
    have K2:inR lo 0 ns.length:=Decidable.not_not.mp h1
    have OC:inR hi lo ns.length:=Decidable.not_not.mp h3
    obtain ⟨a,b⟩:=K2
    obtain ⟨a',b'⟩:=OC
    obtain ⟨n,rfl⟩:=EO a
    obtain ⟨m,rfl⟩:=EO (Int.le_trans a a')
    exact ⟨.turn n m,rfl,by omega,by omega⟩
noncomputable def Gy:AJ->BM
 | .put x i=>.put x i
 | .take x=>.take x
 | .move x i=>.move x i
 | .turn lo hi=>.turn lo hi
theorem Wf (d:AJ):aP (Gy d)=dP d:=by cases d <;> rfl
theorem ve {c:LJ}{ns:List Str}{d:AJ}(h:d.Ok 40 ns):(Gy d).Cm c ns=none:=by
 cases d with
 | put x i=>
  obtain ⟨h1,h2,h3,h4⟩:=h
  simp only [Gy,BM.Cm]
  rw [if_neg (by rw [Tv h1];decide),if_neg h2,if_neg (Decidable.not_not.mpr ⟨by omega,by omega⟩),if_neg (by omega)]
 | take x=>simp only [Gy,BM.Cm];rw [if_neg (Decidable.not_not.mpr (show x∈ns from h))]
 | move x i=>
  obtain ⟨h1,h2⟩:=h
  simp only [Gy,BM.Cm];rw [if_neg (Decidable.not_not.mpr h1),if_neg (Decidable.not_not.mpr ⟨by omega,by omega⟩)]
 | turn lo hi=>
  obtain ⟨h1,h2⟩:=h
  simp only [Gy,BM.Cm];rw [if_neg (Decidable.not_not.mpr ⟨by omega,by omega⟩),if_neg (Decidable.not_not.mpr ⟨by omega,by omega⟩)]
theorem rP {ns:List Str}{d:AJ}(h:d.Ok 40 ns):(Gy d).Is ns d:=⟨Wf d,h⟩
theorem QU:¬ Str.ofString "put" = Str.ofString "move" := by decide +kernel
theorem la {d e:AJ}(h:dP d=dP e):d=e:=by
 cases d <;> cases e <;> simp [dP] at h <;> first | (exact absurd h.1 QU) | (exact absurd h.1.symm QU) | (obtain ⟨a,b⟩:=h;subst a;congr;omega) | (obtain ⟨a,b⟩:=h;congr <;> omega) | (subst h;rfl)
theorem vX {i:Int}(h:i.natAbs < 2 ^ 1000):K7 i:=by
 unfold K7
 by_cases z:i.natAbs=0
 ·rw [z];decide
 ·have:=(Nat.log2_lt z).mpr h;omega
theorem P4 {i:Nat}(h:i<=1000000):K7 i:=vX (by
 have:(1000000:Nat) < 2 ^ 1000:=by decide +kernel
 show Int.natAbs (i:Int) < _
 rw [Int.natAbs_natCast];omega)
theorem Iv {x:Str}(h:Nm x):DN x:=⟨mG h,by have:=h.2.1;omega⟩
theorem ZB8 {d:AJ}{ns:List Str}(h:d.Ok 40 ns) (hN:∀ x∈ns,Nm x) (hz:ns.length<=40):(Gy d).say:=by
 cases d with
 | put x i=>exact ⟨Iv h.1,P4 (by have:=h.2.2.1;omega)⟩
 | take x=>exact Iv (hN x h)
 | move x i=>exact ⟨Iv (hN x h.1),P4 (by have:=h.2;omega)⟩
 | turn lo hi=>exact ⟨P4 (by have:=h.1;have:=h.2;omega),P4 (by have:=h.2;omega)⟩
theorem Vv {x:Str}(h:x.length<=100) (hx:∀ c∈x.cps.toList,c < 16 ^ 8):DN x:=⟨Yr h hx,by omega⟩
section
variable [Xw]
variable {ss:List Slot}{te:TE}
end
section
variable [Xw]
variable {ss:List Slot}{K:ZCy}{ta tb tc te:TE}{k:PV->Prop}{F:Hp}
end
section
variable [Xw]
variable {E:Ent0}{ss:List Slot}{σ:L2.St} {F H F1 F' H':Hp}{K:ZCy}{js:List Nat}{ta tb tc te ti:TE}{nx:List Slot->Prop}{R:Ay}{k:PV->Prop}{xs:List PV}
end
theorem CN.step {ns:List Str}{r:Str}{g:Nat}{cs:List Str}(h:CN ns r g cs):CN ns r (X1 ns g cs:Nat) (W6 ns g cs):=by
 unfold X1 W6
 cases e:Md ns g cs with
 | none=>exact h
 | some x=>
  have hm:x∈Ez ns g cs:=by
   unfold Md at e
   exact List.mem_of_mem_head? (by rw [e];rfl)
  obtain ⟨m1,m2⟩:=QC.mp hm
  have:=List.idxOf_lt_length_iff.mpr m1
  exact ⟨h.rule,by show (0:Int)<=((ns.idxOf x+1:Nat):Int);omega,by show ((ns.idxOf x+1:Nat):Int)<=_;omega,Xg x h.up,fun y hy=>h.sub y (JQ.mp hy).1⟩
structure Tw (ns:List Str) (r:Str) (g1 g2:Nat) (cs:List Str):Prop where
 one:CN ns r g1 cs
 two:CN ns r g2 cs
 tw:g1=g2∨(r = "none" /\ cs.length<=1)
theorem gJ (g i:Nat):CZ "none" g i=false:=by
 unfold CZ
 rw [if_neg (by decide +kernel),if_neg (by decide +kernel)]
theorem Tw.Du {ns:List Str}{r:Str}{g1 g2:Nat}{cs:List Str}(h:Tw ns r g1 g2 cs) (d:AJ):d.Du r g1 cs=d.Du r g2 cs:=by
 rcases h.tw with rfl | ⟨rfl,_⟩
 ·rfl
 ·cases d with
  | put x i=>rw [ND (gJ g1 i),ND (gJ g2 i)]
  | _=>rfl
def cT (ns cs:List Str) (u:OV):Prop:=∃ (ts:List Str) (l:Addr),ts.Perm (ZS ns (gr cs ns).g cs)/\sortedS ts=true/\u=.tp [.fz (.tup [.int ((gr cs ns).g:Nat),.tup (ts.map .str)]),.nd .lst l (((gr cs ns).ps.map LH).map .fz)]
theorem cT.pv {ns cs:List Str}{u:OV}(h:cT ns cs u):uZ ns cs u.pv:=by
 obtain ⟨ts,l,pm,st,rfl⟩:=h
 exact ⟨ts,pm,st,by rw [tR,yt,fK]⟩
section
variable [Xw]
theorem km {ss:List Slot}{t:TT}{k k':Bool->Prop}(h:Wt ss t k') (hk:∀ b,k' b->k b):Wt ss t k:=⟨fun E σ F H Q S q=>h.go E σ F H Q S fun b F' H' m kb=>q b F' H' m (hk b kb)⟩
end
structure HY (m:Nat) (ns:List Str):Prop where
 len:ns.length<=m
 nm:∀ x∈ns,Nm x
 nd:ns.Nodup
theorem HY.done {m:Nat}{ns:List Str}{d:AJ}(h:HY m ns) (ok:d.Ok m ns):HY m (d.done ns):=by
 obtain ⟨a,b,c⟩:=AJ.step ok h.nd h.nm h.len
 exact ⟨c,b,a⟩
structure Lp where
 r:Str
 g:Nat
 cs:List Str
noncomputable def Lp.P (l:Lp):PV:=D8 l.r l.g l.cs
noncomputable def DA (ns:List Str):List Str:=ns.foldr (fun x r=>DS r x) []
theorem Qc {x:Str}:∀ {ns:List Str},x∈DA ns↔x∈ns
 | []=>Iff.rfl
 | y :: r=>by
  show x∈DS (DA r) y↔_
  rw [Ny,Qc (ns:=r),HE]
theorem UD:∀ {ns:List Str},ns.Nodup->Up (DA ns)
 | [],_=>List.Pairwise.nil
 | y :: r,h=>by
  obtain ⟨h1,h2⟩:=List.nodup_cons.mp h
  exact PX (UD h2) fun z=>h1 (Qc.mp z)
theorem ZZ {ns ts:List Str}(nd:ns.Nodup) (pm:ts.Perm ns) (st:sortedS ts=true):ts=DA ns:=
 Ve (Z9 st (pm.nodup_iff.mpr nd)) (UD nd) fun k=>by rw [pm.mem_iff,Qc]
noncomputable def Lp.led (ns:List Str) (d:AJ) (l:Lp):Lp:=⟨l.r,d.gap ns l.g,d.Du l.r l.g l.cs⟩
def Lp.Good (ns:List Str) (l:Lp):Prop:=CN ns l.r l.g l.cs
theorem ZF {k:Nat}(h:k < 3):∃ r:Str,r∈EX/\L2.BX [PV.str "none", .str "ahead", .str "all"] (k:Int)=some (.str r):=by
 have:k=0∨k=1∨k=2:=by omega
 rcases this with rfl | rfl | rfl
 ·exact ⟨_,by decide,rfl⟩
 ·exact ⟨_,by decide,rfl⟩
 ·exact ⟨_,by decide,rfl⟩
end Fz
namespace L2
section
variable {κ:Type} [DecidableEq κ]
noncomputable def D3 (A5:List (κ×V)) (k:κ):Option V:=(A5.find? fun kv=>decide (kv.1=k)).map (·.2)
noncomputable def putK (A5:List (κ×V)) (k:κ) (v:V):List (κ×V):=
 if (A5.any fun kv=>decide (kv.1=k))=true then A5.map (fun kv=>if kv.1=k then (kv.1,v) else kv) else A5++[(k,v)]
noncomputable def Iw (A5:List (κ×V)) (k:κ):List (κ×V):=A5.filter fun kv=>decide (kv.1≠k)
theorem NQ {p:κ×V}{r:List (κ×V)}{k:κ}(e:p.1=k):D3 (p :: r) k=some p.2:=by simp [D3,OS,e]
theorem Nw {p:κ×V}{r:List (κ×V)}{k:κ}(e:¬ p.1=k):D3 (p :: r) k=D3 r k:=by simp [D3,OS,e]
theorem Ql (k:κ):∀ A5:List (κ×V),(A5.any fun kv=>decide (kv.1=k))=(D3 A5 k).isSome
 | []=>rfl
 | p :: r=>by
  rw [MN]
  by_cases e:p.1=k
  ·simp only [NQ e,decide_eq_true e,Bool.true_or,Option.isSome_some]
  ·rw [Nw e,decide_eq_false e,Bool.false_or];exact Ql k r
theorem VY (A5:List (κ×V)) (k:κ) (v:V):(putK A5 k v).length<=A5.length+1:=by
 unfold putK
 split
 ·rw [AV];omega
 ·rw [Bm,Bc,Rp];omega
theorem MS {A5:List (κ×V)}{k:κ}(v:V) (h:D3 A5 k=none):putK A5 k v=A5++[(k,v)]:=by
 unfold putK
 rw [Ql,h]
 exact if_neg (by decide)
theorem Dw.MW {o:Option V}{u:Option Value}(r:Dw o u):o.isSome=u.isSome:=by
 cases o with
 | none=>cases u with
  | none=>rfl
  | some _=>exact (show False from r).elim
 | some _=>cases u with
  | none=>exact (show False from r).elim
  | some _=>rfl
theorem KV.val {A5:List (κ×V)}{vs:List (κ×Value)}(r:KV A5 vs) (k:κ):Dw (D3 A5 k) (valueAt vs k):=by
 unfold KV at r
 induction r with
 | nil=>exact True.intro
 | @cons p q ps qs h t ih=>
  obtain ⟨h1,h2⟩:=h
  by_cases e:p.1=k
  ·have e':q.1=k:=h1.symm.trans e
   have b:valueAt (q :: qs) k=some q.2:=by simp [valueAt,OS,e']
   rw [NQ e,b];exact h2
  ·have e':¬ q.1=k:=fun z=>e (h1.trans z)
   have b:valueAt (q :: qs) k=valueAt qs k:=by simp [valueAt,OS,e']
   rw [Nw e,b];exact ih
theorem KV.any {A5:List (κ×V)}{vs:List (κ×Value)}(r:KV A5 vs) (k:κ):(A5.any fun kv=>decide (kv.1=k))=vs.any fun kv=>decide (kv.1=k):=by
 unfold KV at r
 induction r with
 | nil=>rfl
 | cons h t ih=>rw [MN,MN,ih,h.1]
theorem KV.Xc {A5:List (κ×V)}{vs:List (κ×Value)}(r:KV A5 vs) (k:κ){y:V}{u:Value}(ry:RelV y u) :
  KV (A5.map fun kv=>if kv.1=k then (kv.1,y) else kv) (vs.map fun kv=>if kv.1=k then (kv.1,u) else kv):=by
 unfold KV at r ⊢
 induction r with
 | nil=>exact .nil
 | @cons p q ps qs h t ih=>
  rw [Bq,Bq]
  refine .cons ?_ ih
  obtain ⟨h1,h2⟩:=h
  by_cases e:p.1=k
  ·rw [if_pos e,if_pos (h1.symm.trans e)];exact ⟨h1,ry⟩
  ·rw [if_neg e,if_neg (fun z=>e (h1.trans z))];exact ⟨h1,h2⟩
theorem KV.put {A5:List (κ×V)}{vs:List (κ×Value)}(r:KV A5 vs) (k:κ){y:V}{u:Value}(ry:RelV y u):KV (putK A5 k y) (stored vs k u):=by
 unfold putK stored
 rw [r.any k]
 by_cases e:(vs.any fun kv=>decide (kv.1=k))=true
 ·rw [if_pos e,if_pos e];exact r.Xc k ry
 ·rw [if_neg e,if_neg e];exact Paired.snoc r ⟨rfl,ry⟩
theorem KV.drop {A5:List (κ×V)}{vs:List (κ×Value)}(r:KV A5 vs) (k:κ):KV (Iw A5 k) (without vs k):=by
 unfold KV at r ⊢
 unfold Iw without
 induction r with
 | nil=>exact .nil
 | @cons p q ps qs h t ih=>
  obtain ⟨h1,h2⟩:=h
  rw [YN,YN]
  by_cases e:p.1=k
  ·have a:¬ decide (p.1≠k)=true:=by simp [e]
   have b:¬ decide (q.1≠k)=true:=by simp [h1.symm.trans e]
   rw [if_neg a,if_neg b];exact ih
  ·have e':¬ q.1=k:=fun z=>e (h1.trans z)
   have a:decide (p.1≠k)=true:=by simp [e]
   have b:decide (q.1≠k)=true:=by simp [e']
   rw [if_pos a,if_pos b];exact .cons ⟨h1,h2⟩ ih
theorem KV.keys {A5:List (κ×V)}{vs:List (κ×Value)}(r:KV A5 vs):A5.map (·.1)=vs.map (·.1):=by
 unfold KV at r
 induction r with
 | nil=>rfl
 | cons h t ih=>rw [Bq,Bq,ih,h.1]
theorem KV.length {A5:List (κ×V)}{vs:List (κ×Value)}(r:KV A5 vs):A5.length=vs.length:=il r
theorem z4 (A5:List (κ×V)) (k:κ):(Iw A5 k).length<=A5.length:=Ro _ _
end
theorem Jg {P:Program}{w:World}{k:Key}{u:Value}(r:RelV (kV k) u):(C7 P w).is k u=true:=by
 cases k with
 | inl i=>obtain ⟨t,e⟩:=(show ∃ t,u=Value.int i t from r);subst e;exact kl P w i t
 | inr x=>obtain ⟨t,e⟩:=(show ∃ t,u=Value.str x t from r);subst e;exact mO P w x t
theorem aQ {P:Program}{w:World}:∀ {ks:List Key}{us:List Value},Vals (ks.map kV) us->ItemsAre (C7 P w) ks us
 | [],_,r=>by rw [Rq] at r;cases r;exact .nil
 | k :: ks,_,r=>by
  rw [Bq] at r
  cases r with
  | cons h t=>exact .cons (Jg h) (aQ t)
abbrev KT (H:Hp):List (List Key×V)->List (List Key×Addr×Value)->Prop:=Paired fun p q=>p.1=q.1/\H q.2.1=some (.tup (p.1.map kV))/\RelV p.2 q.2.2
theorem KT.val {H:Hp}{A5:List (List Key×V)}{xs:List (List Key×Addr×Value)}(r:KT H A5 xs) (k:List Key):Dw (D3 A5 k) ((atKey xs k).map (·.2)):=by
 induction r with
 | nil=>exact True.intro
 | @cons p q ps qs h t ih=>
  obtain ⟨h1,_,h2⟩:=h
  by_cases e:p.1=k
  ·have e':q.1=k:=h1.symm.trans e
   have b:atKey (q :: qs) k=some q.2:=by simp [atKey,OS,e']
   rw [NQ e,b];exact h2
  ·have e':¬ q.1=k:=fun z=>e (h1.trans z)
   have b:atKey (q :: qs) k=atKey qs k:=by simp [atKey,OS,e']
   rw [Nw e,b];exact ih
theorem KT.Xc {H:Hp}{A5:List (List Key×V)}{xs:List (List Key×Addr×Value)}(r:KT H A5 xs) (k:List Key){y:V}{u:Value}(ry:RelV y u) :
  KT H (A5.map fun kv=>if kv.1=k then (kv.1,y) else kv) (xs.map (putAt k u)):=by
 induction r with
 | nil=>exact .nil
 | @cons p q ps qs h t ih=>
  rw [Bq,Bq]
  refine .cons ?_ ih
  obtain ⟨h1,h2,h3⟩:=h
  unfold putAt
  by_cases e:p.1=k
  ·rw [if_pos e,if_pos (h1.symm.trans e)];exact ⟨h1,h2,ry⟩
  ·rw [if_neg e,if_neg (fun z=>e (h1.trans z))];exact ⟨h1,h2,h3⟩
theorem KT.put {H:Hp}{A5:List (List Key×V)}{xs:List (List Key×Addr×Value)}(r:KT H A5 xs) (k:List Key){b:Addr}{y:V}{u:Value}(hb:H b=some (.tup (k.map kV))) (ry:RelV y u) :
  KT H (putK A5 k y) (storedH xs k b u):=by
 have e:(A5.any fun kv=>decide (kv.1=k))=(atKey xs k).isSome:=by
  rw [Ql,(r.val k).MW,YZ]
 unfold putK storedH
 rw [e]
 by_cases q:(atKey xs k).isSome=true
 ·rw [if_pos q,if_pos q];exact r.Xc k ry
 ·rw [if_neg q,if_neg q];exact Paired.snoc r ⟨rfl,hb,ry⟩
theorem KT.keeps {H H':Hp}{A5:List (List Key×V)}{xs:List (List Key×Addr×Value)}(r:KT H A5 xs) (ht:∀ b ys,H b=some (.tup ys)->H' b=some (.tup ys)):KT H' A5 xs:=
 Paired.WH r fun _ _ z=>⟨z.1,ht _ _ z.2.1,z.2.2⟩
section
variable {P:Program}{w:World}{H:Hp}{h:Heap}{a:Addr}
theorem Z7 {u:HO}(ok:Bd P w H h) (e:Rd H a u):C5 P w H h a u:=e.ok ok
theorem JM {A5:List (Key×V)}(ok:Bd P w H h) (e:Rd H a (.dK A5)):A5.length<=sizeLine/\(a == sysModules)=false/\∃ vs,KV A5 vs/\h.DictOf (C7 P w) a vs:=
 show C5 P w H h a (.dK A5) from Z7 ok e
theorem VL {A5:List (Key×V)}(ok:Bd P w H h) (e:H a=some (.dK A5)):A5.length<=sizeLine/\(a == sysModules)=false/\∃ vs,KV A5 vs/\h.DictOf (C7 P w) a vs:=JM ok (.inl e)
theorem MZ {ks:List Key}(ok:Bd P w H h) (e:H a=some (.tup (ks.map kV))):(tupleKind (C7 P w)).is h ks a:=by
 obtain ⟨_,A6,r,⟨o,h1,h2,n,h3⟩,_⟩:=(show C5 P w H h a (.tup (ks.map kV)) from ok a _ e)
 exact ⟨o,A6.toArray,n,h1,h2,h3,by simpa using aQ r⟩
theorem LI {A5:List (List Key×V)}(ok:Bd P w H h) (e:Rd H a (.dT A5)):A5.length<=sizeLine/\(a == sysModules)=false/\
  ∃ xs,KT H A5 xs/\h.DictOfH (tupleKind (C7 P w)) a xs:=by
 obtain ⟨z,y,xs,r,o,es,ep,h1,h2,h3,h4,h5⟩:=(show C5 P w H h a (.dT A5) from Z7 ok e)
 refine ⟨z,y,xs,r,o,es,ep,h1,h2,h3,h4,fun x hx=>?_,h5⟩
 have all:∀ {l:List (List Key×V)}{m:List (List Key×Addr×Value)},KT H l m->∀ x∈m,(tupleKind (C7 P w)).is h x.1 x.2.1:=by
  intro l m q
  induction q with
  | nil=>intro x hx;exact nomatch hx
  | @cons p q ps qs hq t ih=>
   intro x hx
   rcases List.mem_cons.mp hx with e | hx
   ·subst e
    exact MZ ok (by rw [<- hq.1];exact hq.2.1)
   ·exact ih x hx
 exact all r x hx
theorem rh {A5:List (List Key×V)}(ok:Bd P w H h) (e:H a=some (.dT A5)):A5.length<=sizeLine/\(a == sysModules)=false/\
  ∃ xs,KT H A5 xs/\h.DictOfH (tupleKind (C7 P w)) a xs:=LI ok (.inl e)
end
def Ej (H:Hp) (a:Addr) (y:V) (r:Option V):Prop:=
 (∃ A5 k,Rd H a (.dK A5)/\y=kV k/\r=D3 A5 k)∨∃ A5 k b,Rd H a (.dT A5)/\y=.ref b/\H b=some (.tup (k.map kV))/\r=D3 A5 k
def Nt (H:Hp) (a:Addr) (y v:V) (H':Hp):Prop:=
 (∃ A5 k,H a=some (.dK A5)/\y=kV k/\A5.length < sizeLine/\H'=upd H a (.dK (putK A5 k v)))∨
 ∃ A5 k b,H a=some (.dT A5)/\y=.ref b/\H b=some (.tup (k.map kV))/\A5.length < sizeLine/\H'=upd H a (.dT (putK A5 k v))
theorem Ej.k {H:Hp}{a:Addr}{A5:List (Key×V)}{k:Key}(e:H a=some (.dK A5)):Ej H a (kV k) (D3 A5 k):=.inl ⟨A5,k,.inl e,rfl,rfl⟩
theorem Nt.k {H:Hp}{a:Addr}{A5:List (Key×V)}{k:Key}{v:V}(e:H a=some (.dK A5)) (hl:A5.length < sizeLine):Nt H a (kV k) v (upd H a (.dK (putK A5 k v))):=.inl ⟨A5,k,e,rfl,hl,rfl⟩
section
variable {X:Cx}{pins:ZCz}{σ:St} {H:Hp}{s:Shared}{a:Addr}{y v:V}{u r:Value}{o:Option V}{A:Around}{E:Value->Shared->Prop}
theorem Inv.big (I:Inv X pins σ H s):sysModules < s.heap.objs.size:=by
 have h:mainGlobals < s.heap.objs.size:=(I.mod.glob.keeps I.bk).lt
 exact ig (by decide) h
theorem j9 {Q:Value->Shared->Prop}(hu:A.units+1 < cLine) (I:Inv X pins σ H s) (g:Ej H a y (some v)) (ry:RelV y u) (h:∀ w' s',Inv X pins σ H s'->RelV v w'->Q w' s') :
  wpAny (model X.prog X.w) A (getItem (.ref a) u) Q E s:=by
 rcases g with ⟨A5,k,e,ey,l⟩ | ⟨A5,k,b,e,ey,eb,l⟩
 ·subst ey
  obtain ⟨z,hd,vs,rel,dd⟩:=JM I.AM e
  obtain ⟨w',hw,Fe⟩:=Dw.some_of (v:=v) (o:=valueAt vs k) (by rw [l];exact rel.val k)
  exact wpAny_getItem_of (Jg ry) dd.mapOf hw (h w' _ (I.tok _) Fe)
 ·subst ey
  cases (show u=Value.ref b from ry)
  obtain ⟨z,hd,xs,rel,dd⟩:=LI I.AM e
  obtain ⟨w',hw,Fe⟩:=Dw.some_of (v:=v) (o:=(atKey xs k).map (·.2)) (by rw [l];exact rel.val k)
  obtain ⟨p,hp,EK⟩:=Option.map_eq_some_iff.mp hw
  refine wpAny_getItem_heap (tupleKind_room_in1 hu) (MZ I.AM eb) dd hp ?_
  rw [EK]
  exact h w' _ (I.tok _) Fe
theorem wg {Q:Value->Shared->Prop}(hu:A.units+1 < cLine) (I:Inv X pins σ H s) (g:Ej H a y o) (ry:RelV y u) (h:∀ s',Inv X pins σ H s'->Q (.bool o.isSome) s') :
  wpAny (model X.prog X.w) A (compareOp .In u (.ref a)) Q E s:=by
 rcases g with ⟨A5,k,e,ey,l⟩ | ⟨A5,k,b,e,ey,eb,l⟩
 ·subst ey
  obtain ⟨z,hd,vs,rel,dd⟩:=JM I.AM e
  refine wpAny_in_of (Jg ry) hd dd.mapOf ?_
  rw [<- (rel.val k).MW,<- l]
  exact h _ (I.tok _)
 ·subst ey
  cases (show u=Value.ref b from ry)
  obtain ⟨z,hd,xs,rel,dd⟩:=LI I.AM e
  refine wpAny_in_heap (tupleKind_room_in1 hu) (MZ I.AM eb) hd dd ?_
  have q:=(rel.val k).MW
  rw [YZ] at q
  rw [<- q,<- l]
  exact h _ (I.tok _)
theorem jC {Q:Value->Shared->Prop}(hu:A.units+1 < cLine) (I:Inv X pins σ H s) (g:Ej H a y o) (ry:RelV y u) (h:∀ s',Inv X pins σ H s'->Q (.bool (!o.isSome)) s') :
  wpAny (model X.prog X.w) A (compareOp .NotIn u (.ref a)) Q E s:=by
 rcases g with ⟨A5,k,e,ey,l⟩ | ⟨A5,k,b,e,ey,eb,l⟩
 ·subst ey
  obtain ⟨z,hd,vs,rel,dd⟩:=JM I.AM e
  refine wpAny_notIn_of (Jg ry) hd dd.mapOf ?_
  rw [<- (rel.val k).MW,<- l]
  exact h _ (I.tok _)
 ·subst ey
  cases (show u=Value.ref b from ry)
  obtain ⟨z,hd,xs,rel,dd⟩:=LI I.AM e
  refine wpAny_notIn_heap (tupleKind_room_in1 hu) (MZ I.AM eb) hd dd ?_
  have q:=(rel.val k).MW
  rw [YZ] at q
  rw [<- q,<- l]
  exact h _ (I.tok _)
theorem P7 {h':Heap}{t':Nat}{ob:HO}(I:Inv X pins σ H s) (mu:NP (H a)) (hs:Heap.SameBut a s.heap h') (he:∃ q,h'.get? a=some q) (new:C5 X.prog X.w (upd H a ob) h' a ob) :
  Inv X pins σ (upd H a ob) { s with heap:=h',toks:=t' }:=
 I.write (x:=a) (e:=a) mu (.inl rfl) (fun b q hb z=>(hs.2 b hb).trans z) he new
theorem Xq {P:Program}{w:World}{H':Hp}{h':Heap}{A5:List (Key×V)}{vs:List (Key×Value)}(z:A5.length<=sizeLine) (hd:(a == sysModules)=false) (rel:KV A5 vs) (dd:h'.DictOf (C7 P w) a vs) :
  C5 P w H' h' a (.dK A5):=⟨z,hd,vs,rel,dd⟩
theorem kr {H':Hp}{Q:Unit->Shared->Prop}(hu:A.units+1 < cLine) (I:Inv X pins σ H s) (g:Nt H a y v H') (ry:RelV y u) (rv:RelV v r) (h:∀ s',Inv X pins σ H' s'->Q () s') :
  wpAny (model X.prog X.w) A (setItem (.ref a) u r) Q E s:=by
 rcases g with ⟨A5,k,e,ey,l,eH⟩ | ⟨A5,k,b,e,ey,eb,l,eH⟩
 ·subst ey eH
  obtain ⟨z,hd,vs,rel,dd⟩:=VL I.AM e
  have hz:vs.length<=sizeLine:=by rw [<- rel.length];exact z
  have hl:(putK A5 k v).length<=sizeLine:=by have:=VY A5 k v;omega
  refine wpAny_setItem_pairs (hsz:=hz) (Jg ry) dd fun h' HS hs=>h _ ?_
  have he:∃ q,h'.get? a=some q:=let ⟨q,_,_,hq,_⟩:=HS;⟨q,hq⟩
  exact P7 I (by rw [e];exact True.intro) hs he (Xq hl hd (rel.put k rv) HS)
 ·subst ey eH
  cases (show u=Value.ref b from ry)
  obtain ⟨z,hd,xs,rel,dd⟩:=rh I.AM e
  have hz:xs.length<=sizeLine:=by rw [<- il rel];exact z
  have hl:(putK A5 k v).length<=sizeLine:=by have:=VY A5 k v;omega
  refine wpAny_setItem_heap (hsz:=hz) (tupleKind_room_in1 hu) (MZ I.AM eb) dd fun h' HS hs=>h _ ?_
  obtain ⟨q,es,ep,hq,h2,h3,h4,_,h5⟩:=HS
  refine P7 I (by rw [e];exact True.intro) hs ⟨q,hq⟩ ⟨hl,hd,_,(rel.put k eb rv).keeps fun c ys ec=>?_,q,es,ep,hq,h2,h3,h4,h5⟩
  rw [Aj (ZA2 ec e (fun z=>nomatch z))]
  exact ec
end
section
variable {X:Cx}{pins:ZCz}{σ:St} {H:Hp}{s:Shared}{a:Addr}{A5:List (Key×V)}{k:Key}{u:Value}{A:Around}{E:Value->Shared->Prop}
theorem mM {v:V}{more:List Value}{Q:Value->Shared->Prop}(I:Inv X pins σ H s) (e:H a=some (.dK A5)) (ry:RelV (kV k) u) (l:D3 A5 k=some v) (hm:more=[]∨∃ x,more=[x])
  (h:∀ w' s',Inv X pins σ (upd H a (.dK (Iw A5 k))) s'->RelV v w'->Q w' s'):wpAny (model X.prog X.w) A (call (.builtin "dict.pop") (.ref a :: u :: more)) Q E s:=by
 obtain ⟨z,hd,vs,rel,dd⟩:=VL I.AM e
 obtain ⟨w',hw,Fe⟩:=Dw.some_of (v:=v) (o:=valueAt vs k) (by rw [<- l];exact rel.val k)
 have hp:(keyPart u).isSome=true:=by
  cases k with
  | inl i=>obtain ⟨t,q⟩:=(show ∃ t,u=Value.int i t from ry);subst q;rfl
  | inr x=>obtain ⟨t,q⟩:=(show ∃ t,u=Value.str x t from ry);subst q;rfl
 have ha:argsOk "dict.pop" ⟨.ref a :: u :: more,[]⟩:=by
  rcases hm with q | ⟨x,q⟩
  ·subst q;exact PySem.F.args_dict_pop_2 _ _
  ·subst q;exact PySem.F.args_dict_pop_3 _ _ _
 refine call_meetsIn ZCF dd.typeIs PySem.F.entry_dict_pop ha (meets_dict_pop_there (C7 X.prog X.w) a (Jg ry) more hm hp)
  ⟨vs,w',dd,by rw [<- rel.length];exact z,hw,fun h' HS hs=>h w' _ ?_ Fe⟩
 have he:∃ q,h'.get? a=some q:=let ⟨q,_,_,hq,_⟩:=HS;⟨q,hq⟩
 exact P7 I (by rw [e];exact True.intro) hs he (Xq (Cs (z4 A5 k) z) hd (rel.drop k) HS)
end
def Xi (i:Expr):Prop:=∀ ov iv,subscripted i false ov iv=operate [ov,iv] (getItem ov iv)
theorem o8 {prog:Program}{w:World}{A:Around}{E:Value->Shared->Prop}{s:Shared}{env:Env}{value slice:Expr}{pos:Pos}{T id:String}{Q:Value->Shared->Prop}
  (hl:typeLookup (.type T) "__getitem__" = pure (some (.builtin id))) (hs:Xi slice)
  (h:wpAny (model prog w) A (eval value env) (fun o s₁=>wpAny (model prog w) A (eval slice env) (fun i s₂=>s₂.TypeIs o T/\wpAny (model prog w) A (getItem o i) Q E s₂) E s₁) E s) :
  wpAny (model prog w) A (eval (.Subscript value slice pos) env) Q E s:=by
 refine Subscript_ (wpAny_mono h (fun o s₁ h₁=>wpAny_mono h₁ (fun i s₂ h₂=>?_) fun _ _ x=>x) fun _ _ x=>x)
 obtain ⟨hT,h₂⟩:=h₂
 unfold subscriptTail
 refine wpAny_bind ?_
 rw [getitemInPython_of_ne hT.not_modules]
 refine wpAny_bind (wpAny_specialOf hT hl ?_)
 have fin:wpAny (model prog w) A (subscripted slice false o i) (fun r s₃=>wpAny (model prog w) A (letTemporaryGo value o r >>= fun _=>pure r) Q E s₃) E s₂:=by
  rw [hs o i]
  exact wpAny_operating (wpAny_mono h₂ (fun r s₃ h₃=>wpAny_bind (wpAny_letTemporaryGo (wpAny_pure h₃))) fun _ _ x=>x)
 first
  | exact wpAny_pure (wpAny_bind fin)
  | exact wpAny_bind (wpAny_pure (wpAny_bind fin))
  | exact wpAny_bind fin
theorem me {X:Cx}{pins:ZCz}{σ:St} {H:Hp}{s:Shared}{a:Addr}{y:V}{o:Option V}(I:Inv X pins σ H s) (g:Ej H a y o):s.TypeIs (.ref a) "dict" := by
 rcases g with ⟨A5,k,e,_,_⟩ | ⟨A5,k,b,e,_,_,_⟩
 ·obtain ⟨_,_,vs,_,dd⟩:=JM I.AM e
  exact dd.typeIs
 ·obtain ⟨_,_,xs,_,dd⟩:=LI I.AM e
  exact dd.typeIs
def IB (td ty:TE):TE:=fun σ H Q=>td σ H fun x H1=>ty σ H1 fun y H2=>∃ a v,x=.ref a/\Ej H2 a y (some v)/\Q v H2
def Px (ty td:TE):TE:=fun σ H Q=>ty σ H fun y H1=>td σ H1 fun x H2=>∃ a o,x=.ref a/\Ej H2 a y o/\Q (.bl o.isSome) H2
def Qf (ty td:TE):TE:=fun σ H Q=>ty σ H fun y H1=>td σ H1 fun x H2=>∃ a o,x=.ref a/\Ej H2 a y o/\Q (.bl (!o.isSome)) H2
def Rg (td ty tv:TE):TS:=fun D σ H=>tv σ H fun v H1=>td σ H1 fun x H2=>ty σ H2 fun y H3=>∃ a H4,x=.ref a/\Nt H3 a y v H4/\D.nx σ H4
section
variable {X:Cx}{o i e value:Expr}{pos pos' Pr:Pos}{td ty tv:TE}
theorem kI (hu:X.A.units+1 < cLine) (ho:PE X o td) (hi:PE X i ty) (hs:Xi i):PE X (.Subscript o i pos) (IB td ty):=by
 intro pins s σ H Q I h
 refine o8 PySem.F.slot_dict_getitem.lookup hs (AR (ho pins s σ H _ I h) fun u s1 ⟨x,H1,I1,rx,q1⟩=>AR (hi pins s1 σ H1 _ I1 q1) fun iv s2 ⟨y,H2,I2,ry,a,v,ex,g,q2⟩=>?_)
 subst ex
 obtain rfl:u=Value.ref a:=rx
 exact ⟨me I2 g,j9 hu I2 g ry fun w' s3 I3 Fe=>⟨v,H2,I3,Fe,q2⟩⟩
theorem lV (hu:X.A.units+1 < cLine) (hi:PE X i ty) (ho:PE X o td):PC X .In i o (Px ty td):=by
 intro pins s σ H Q I h
 refine AR (hi pins s σ H _ I h) fun iv s1 ⟨y,H1,I1,ry,q1⟩=>AR (ho pins s1 σ H1 _ I1 q1) fun u s2 ⟨x,H2,I2,rx,a,ov,ex,g,q2⟩=>?_
 subst ex
 obtain rfl:u=Value.ref a:=rx
 exact wg hu I2 g ry fun s3 I3=>⟨.bl ov.isSome,H2,I3,rfl,q2⟩
theorem uI (hu:X.A.units+1 < cLine) (hi:PE X i ty) (ho:PE X o td):PC X .NotIn i o (Qf ty td):=by
 intro pins s σ H Q I h
 refine AR (hi pins s σ H _ I h) fun iv s1 ⟨y,H1,I1,ry,q1⟩=>AR (ho pins s1 σ H1 _ I1 q1) fun u s2 ⟨x,H2,I2,rx,a,ov,ex,g,q2⟩=>?_
 subst ex
 obtain rfl:u=Value.ref a:=rx
 exact jC hu I2 g ry fun s3 I3=>⟨.bl (!ov.isSome),H2,I3,rfl,q2⟩
theorem mI (hu:X.A.units+1 < cLine) (ho:PE X o td) (hi:PE X i ty) (hv:PE X value tv) (hs:swapsWith value (some (.Subscript o i pos')) pos.line X.env=pure false) :
  PS X (.Assign [.Subscript o i pos'] value pos) (Rg td ty tv):=by
 intro pins s σ H D I h
 refine wpAny_Assign_Subscript (AR (hv pins s σ H _ I h) fun r s1 ⟨v,H1,I1,rv,q1⟩=>AR (ho pins s1 σ H1 _ I1 q1) fun u s2 ⟨x,H2,I2,rx,q2⟩=>AR (hi pins s2 σ H2 _ I2 q2) fun iv s3 ⟨y,H3,I3,ry,a,H4,ex,g,q3⟩=>?_) hs
 subst ex
 obtain rfl:u=Value.ref a:=rx
 exact kr hu I3 g ry rv fun s4 I4=>⟨σ,H4,I4,q3⟩
end
theorem aq {P:Program}{w:World}{H:Hp}(h:Heap) (hb:sysModules < h.objs.size):C5 P w H (h.push { cls:=.type "dict", data:=.dict #[] }) h.objs.size (.dK []):=
 ⟨Cc _,beq_eq_false_iff_ne.mpr (BS (Bx hb)),[],.nil,Heap.DictOf.new h⟩
def TC:TE:=fun _ H Q=>∀ p,H p=none->Q (.ref p) (upd H p (.dK []))
section
variable {X:Cx}{pos:Pos}
theorem lL:PE X (.Dict [] [] pos) TC:=fun pins s σ H Q I h=>
 wpAny_Dict_empty ⟨.ref s.heap.objs.size,_,I.laid (a:=s.heap.objs.size) (o:=.dK []) (t':=s.toks) (fun _ _ q=>Bl _ q) (An _) (aq s.heap I.big),rfl,h _ (I.AM.fresh (An _))⟩
end
def Ub:List (TE×TE)->St->Hp->(List (V×V)->Hp->Prop)->Prop
 | [],_,H,Q=>Q [] H
 | (tk,tv) :: r,σ,H,Q=>tk σ H fun x H1=>tv σ H1 fun y H2=>Ub r σ H2 fun ps H3=>Q ((x,y) :: ps) H3
abbrev VV:List (V×V)->List (Value×Value)->Prop:=Paired fun p q=>RelV p.1 q.1/\RelV p.2 q.2
def J3 (X:Cx) (pos:Pos) (keys:List (Option Expr)) (values:List Expr) (Ek:List (TE×TE)):Prop:=
 ∀ (pins:ZCz) (s:Shared) (σ:St) (H:Hp) (Q:List (V×V)->Hp->Prop),Inv X pins σ H s->Ub Ek σ H Q->
  wpAny (model X.prog X.w) X.A (evalPairs (pairTrees keys values X.env pos)) (fun vs s'=>∃ ps H',Inv X pins σ H' s'/\VV ps vs/\Q ps H') X.xe s
theorem zw {X:Cx}{pos:Pos}:J3 X pos [] [] []:=fun pins s σ H Q I h=>pairTrees_nil_walk ⟨[],H,I,.nil,h⟩
theorem zJ {X:Cx}{pos:Pos}{k v:Expr}{ks:List (Option Expr)}{vs:List Expr}{tk tv:TE}{Ek:List (TE×TE)}(hk:PE X k tk) (hv:PE X v tv) (hr:J3 X pos ks vs Ek) :
  J3 X pos (some k :: ks) (v :: vs) ((tk,tv) :: Ek):=fun pins s σ H Q I h=>
 pairTrees_cons_walk (AR (hk pins s σ H _ I h) fun u s1 ⟨x,H1,I1,rx,q1⟩=>AR (hv pins s1 σ H1 _ I1 q1) fun w2 s2 ⟨y,H2,I2,ry,q2⟩=>
  AR (hr pins s2 σ H2 _ I2 q2) fun ws s3 ⟨ps,H3,I3,rel,q3⟩=>⟨(x,y) :: ps,H3,I3,.cons ⟨rx,ry⟩ rel,q3⟩)
noncomputable def Ip (A5 more:List (Key×V)):List (Key×V):=more.foldl (fun acc kv=>putK acc kv.1 kv.2) A5
theorem KV.merge:∀ {more:List (Key×V)}{rs:List (Key×Value)}{A5:List (Key×V)}{vs:List (Key×Value)},KV more rs->KV A5 vs->KV (Ip A5 more) (merged vs rs):=by
 intro more rs A5 vs r
 unfold KV at r
 induction r generalizing A5 vs with
 | nil=>intro q;exact q
 | @cons p q ps qs h t ih=>
  intro r0
  have e:KV (putK A5 p.1 p.2) (stored vs q.1 q.2):=by
   have:=r0.put p.1 h.2
   rw [<- h.1];exact this
  exact ih e
theorem bW:∀ (more A5:List (Key×V)),(Ip A5 more).length<=A5.length+more.length
 | [],A5=>by show A5.length<=A5.length+0;omega
 | p :: r,A5=>by
  have h1:=bW r (putK A5 p.1 p.2)
  have h2:=VY A5 p.1 p.2
  show (Ip (putK A5 p.1 p.2) r).length<=_
  rw [Bc];omega
theorem Zy {P:Program}{w:World}:∀ {A5:List (Key×V)}{ws:List (Value×Value)},VV (A5.map fun kv=>(kV kv.1,kv.2)) ws->∃ rs,Carries (C7 P w) ws rs/\KV A5 rs
 | [],_,r=>by rw [Rq] at r;cases r;exact ⟨[],True.intro,.nil⟩
 | p :: A5,_,r=>by
  rw [Bq] at r
  cases r with
  | @cons a b as bs h t=>
   obtain ⟨rs,c,q⟩:=Zy (P:=P) (w:=w) t
   obtain ⟨b1,b2⟩:=b
   exact ⟨(p.1,b2) :: rs,⟨Jg h.1,rfl,c⟩,.cons ⟨rfl,h.2⟩ q⟩
def VE (Ek:List (TE×TE)):TE:=fun σ H Q=>∀ p,H p=none->Ub Ek σ (upd H p (.dK [])) fun ps H2=>H2 p=some (.dK [])/\∃ A5:List (Key×V),ps=A5.map (fun kv=>(kV kv.1,kv.2))/\A5.length<=15/\Q (.ref p) (upd H2 p (.dK (Ip [] A5)))
theorem nW {X:Cx}{pos:Pos}{keys:List (Option Expr)}{values:List Expr}{Ek:List (TE×TE)}(h:J3 X pos keys values Ek) (Io:keys.all (·.isSome)=true) (hl:keys.length=values.length) (h0:keys≠[])
  (R8:keys.length<=15):PE X (.Dict keys values pos) (VE Ek):=by
 intro pins s σ H Q I q
 have hn:=I.AM.fresh (An s.heap.objs.size)
 have I1:=I.laid (a:=s.heap.objs.size) (o:=.dK []) (h':=s.heap.push { cls:=.type "dict", data:=.dict #[] }) (t':=s.toks) (fun _ _ q=>Bl _ q) (An _) (aq s.heap I.big)
 refine wpAny_Dict_walk (knd:=C7 X.prog X.w) Io hl h0 R8 (AR (h pins _ σ _ _ I1 (q _ hn)) fun ws s2 ⟨ps,H2,I2,rel,e,A5,ep,lk,q2⟩=>?_)
 subst ep
 obtain ⟨rs,c,rk⟩:=Zy (P:=X.prog) (w:=X.w) rel
 obtain ⟨z,hd,Gf,r0,dd⟩:=VL I2.AM e
 cases r0
 refine ⟨rs,c,dd,fun h' HS hs=>⟨.ref s.heap.objs.size,_,?_,rfl,q2⟩⟩
 have hz:(Ip [] A5).length<=sizeLine:=by
  have h1:=bW A5 []
  rw [Rp] at h1
  rw [sizeLine_eq];omega
 have he:∃ q,h'.get? s.heap.objs.size=some q:=let ⟨q,_,_,hq,_⟩:=HS;⟨q,hq⟩
 exact P7 I2 (by rw [e];exact True.intro) hs he (Xq hz hd (rk.merge .nil) HS)
structure M1 (X:Cx) (o:Expr) (m:Str) (apos:Pos) (e:Expr) (Bk:Pos):Prop where
 base:attributeBase o m X.env (eval o X.env)=eval o X.env
 cg:((backTo Bk (starEach [e] X.env)).all (fun x=>!x.1) && (backToKw Bk (keywordEach [] X.env)).all (fun x=>x.1.isSome)
  && decide (([e]:List Expr).length+([]:List Keyword).length+(if ([]:List Keyword).isEmpty then 0 else 1) < 30))=true
 line:(apos.endLine == Bk.line)=true
 trees:backTo Bk (starEach [e] X.env)=[(false,eval e X.env)]
structure M2 (X:Cx) (o:Expr) (m:Str) (apos:Pos) (e f:Expr) (Bk:Pos):Prop where
 base:attributeBase o m X.env (eval o X.env)=eval o X.env
 cg:((backTo Bk (starEach [e,f] X.env)).all (fun x=>!x.1) && (backToKw Bk (keywordEach [] X.env)).all (fun x=>x.1.isSome)
  && decide (([e,f]:List Expr).length+([]:List Keyword).length+(if ([]:List Keyword).isEmpty then 0 else 1) < 30))=true
 line:(apos.endLine == Bk.line)=true
 trees:backTo Bk (starEach [e,f] X.env)=[(false,eval e X.env),(false,eval f X.env)]
def dy (H:Hp) (a:Addr):Prop:=(∃ A5,Rd H a (.dK A5))∨∃ A5,Rd H a (.dT A5)
theorem wc {X:Cx}{pins:ZCz}{σ:St} {H:Hp}{s:Shared}{a:Addr}(I:Inv X pins σ H s) (d:dy H a) :
  s.TypeIs (.ref a) "dict" /\ (∀ b,Value.ref a=.ref b->∃ ob,s.heap.get? b=some ob/\ob.dict=none)/\(a == sysModules)=false:=by
 rcases d with ⟨A5,e⟩ | ⟨A5,e⟩
 ·obtain ⟨_,hd,vs,_,dd⟩:=JM I.AM e
  refine ⟨dd.typeIs,fun b q=>?_,hd⟩
  cases q
  obtain ⟨ob,_,_,h1,h2,_⟩:=dd
  exact ⟨ob,h1,h2.2.1⟩
 ·obtain ⟨_,hd,xs,_,dd⟩:=LI I.AM e
  refine ⟨dd.typeIs,fun b q=>?_,hd⟩
  cases q
  obtain ⟨ob,_,_,h1,h2,_⟩:=dd
  exact ⟨ob,h1,h2.2.1⟩
section
variable {X:Cx}{pins:ZCz}{σ:St} {H:Hp}{s:Shared}{a:Addr}{y d:V}{u r:Value}{o:Option V}{A:Around}{E:Value->Shared->Prop}
end
def TZ (td ty:TE):TE:=fun σ H Q=>td σ H fun x H1=>∃ a,x=.ref a/\dy H1 a/\ty σ H1 fun y H2=>∃ A5 k v,H2 a=some (.dK A5)/\y=kV k/\D3 A5 k=some v/\Q v (upd H2 a (.dK (Iw A5 k)))
section
variable {X:Cx}{o e f:Expr}{apos Bk:Pos}{td ty tx:TE}
theorem ZAs (ho:PE X o td) (he:PE X e ty) (m:M1 X o "pop" apos e Bk):PE X (.Call (.Attribute o "pop" apos) [e] [] Bk) (TZ td ty):=by
 intro pins s σ H Q I h
 refine wpAny_Call_method m.base m.cg m.line PySem.F.plainAttrs_dict ZCF PySem.F.type_dict_pop (AR (ho pins s σ H _ I h) fun u s1 ⟨x,H1,I1,rx,a,ex,d,q1⟩=>?_)
 subst ex
 obtain rfl:u=Value.ref a:=rx
 obtain ⟨t1,t2,_⟩:=wc I1 d
 refine ⟨t1,t2,?_⟩
 rw [m.trees]
 refine ZBn rfl (Calls.evalArgs_plain (iL (AR (he pins s1 σ H1 _ I1 q1) fun iv s2 ⟨y,H2,I2,ry,A5,k,v,ea,ey,l,q2⟩=>iM ?_)))
 subst ey
 exact mM I2 ea ry l (.inl rfl) fun w' s3 I3 Fe=>⟨v,_,I3,Fe,q2⟩
end
section
variable {X:Cx}{pins:ZCz}{σ:St} {H:Hp}{s:Shared}{a:Addr}{A5:List (Key×V)}{A:Around}{E:Value->Shared->Prop}
end
section
variable {X:Cx}{pins:ZCz}{σ:St} {H:Hp}{s:Shared}{a:Addr}{y:V}{u:Value}{A:Around}{E:Value->Shared->Prop}
end
section
variable {X:Cx}
end
end L2
namespace Fz
open L2 Lw
section
variable [Xw]
variable {ss:List Slot}{K:ZCy}{ta tb:TE}
end
def Be (pre:Pre):Sp:=fun vs H Q _=>∃ (ss:List Slot) (R:Ay) (F:Hp) (A B:List Addr),pre ss R/\Sg ⟨A,F,H,B⟩ ss (vs.map some) F H/\∀ v F' H',Fin ⟨A,F,H,B⟩ F' H'->R.ok ⟨A,F,H,B⟩ F' H' v->Q v H'
inductive G3 (F:Hp):List V->List Slot->Prop where
 | nil:G3 F [] []
 | cons {v:V}{p:PV}{vs:List V}{l:List Slot}:Rep F v p->G3 F vs l->G3 F (v :: vs) (.is p :: l)
inductive GR (σ:L2.St) (F:Hp) (i:Nat) (t:OV):List V->List Slot->Prop where
 | here {v:V}{vs:List V}{l:List Slot}:σ[i]?=some (some v)->G3 F vs l->GR σ F i t (v :: vs) (.ow true t :: l)
 | there {v:V}{p:PV}{vs:List V}{l:List Slot}:Rep F v p->GR σ F i t vs l->GR σ F i t (v :: vs) (.is p :: l)
theorem G3.mono {F F':Hp}(s:A8 F F'):∀ {vs:List V}{l:List Slot},G3 F vs l->G3 F' vs l
 | _,_,.nil=>.nil
 | _,_,.cons r t=>.cons (r.mono s) (t.mono s)
theorem GR.mono {σ:L2.St} {i:Nat}{t:OV}{F F':Hp}(s:A8 F F'):∀ {vs:List V}{l:List Slot},GR σ F i t vs l->GR σ F' i t vs l
 | _,_,.here e r=>.here e (r.mono s)
 | _,_,.there r h=>.there (r.mono s) (h.mono s)
theorem G3.len {F:Hp}:∀ {vs:List V}{l:List Slot},G3 F vs l->l.length=vs.length
 | _,_,.nil=>rfl
 | _,_,.cons _ t=>by rw [Bc,Bc,t.len]
theorem GR.len {σ:L2.St} {i:Nat}{t:OV}{F:Hp}:∀ {vs:List V}{l:List Slot},GR σ F i t vs l->l.length=vs.length
 | _,_,.here _ r=>by rw [Bc,Bc,r.len]
 | _,_,.there _ h=>by rw [Bc,Bc,h.len]
theorem G3.at {F:Hp}:∀ {vs:List V}{l:List Slot},G3 F vs l->∀ {n:Nat}{s:Slot},l[n]?=some s->∃ v p,vs[n]?=some v/\s=.is p/\Rep F v p
 | _,_,.nil,_,_,e=>by simp at e
 | _,_,.cons r _,0,_,e=>by simp at e;subst e;exact ⟨_,_,rfl,rfl,r⟩
 | _,_,.cons _ t,n+1,s,e=>by
  obtain ⟨v,p,h⟩:=t.at (n:=n) (s:=s) (by simpa using e)
  exact ⟨v,p,by simpa using h⟩
theorem GR.at {σ:L2.St} {i:Nat}{t:OV}{F:Hp}:∀ {vs:List V}{l:List Slot},GR σ F i t vs l->∃ m:Nat,∀ {n:Nat}{s:Slot},l[n]?=some s->(n=m/\s=.ow true t/\∃ v,vs[n]?=some v/\σ[i]?=some (some v))∨∃ v p,vs[n]?=some v/\s=.is p/\Rep F v p
 | _,_,.here e r=>⟨0,fun {n s} h=>by
  cases n with
  | zero=>simp at h;subst h;exact .inl ⟨rfl,rfl,_,rfl,e⟩
  | succ n=>
   obtain ⟨v,p,q⟩:=r.at (n:=n) (s:=s) (by simpa using h)
   exact .inr ⟨v,p,by simpa using q⟩⟩
 | _,_,.there r h=>by
  obtain ⟨m,hm⟩:=h.at
  refine ⟨m+1,fun {n s} q=>?_⟩
  cases n with
  | zero=>simp at q;subst q;exact .inr ⟨_,_,rfl,rfl,r⟩
  | succ n=>
   rcases hm (n:=n) (s:=s) (by simpa using q) with ⟨e,es,v,hv⟩ | ⟨v,p,hv⟩
   ·exact .inl ⟨by rw [e],es,v,by simpa using hv⟩
   ·exact .inr ⟨v,p,by simpa using hv⟩
structure K0 (E:Ent0) (ss:List Slot) (σ:L2.St) (i:Nat) (lt:Bool) (t t':OV) (F H F' H':Hp):Prop where
 st:Sg E (ss.set i (.ow lt t')) σ F' H'
 ff:A8 F F'
 hh:∀ a o,Cd ss σ a->a∉t.addrs->H a=some o->H' a=some o
 nn:∀ a o,F' a=some o->F a=some o∨H a=none
structure Lr [Xw] (ss:List Slot) (ta:TA) (k:List Slot->Prop):Prop where
 go:∀ (E:Ent) (σ:L2.St) (F H:Hp) (Q:List V->Hp->Prop),Sg E ss σ F H->(∀ vs l F' H',Mv E ss σ F H F' H'->G3 F' vs l->k l->Q vs H')->ta σ H Q
structure gh [Xw] (ss:List Slot) (i:Nat) (t:OV) (ta:TA) (k:List Slot->Prop):Prop where
 go:∀ (E:Ent) (σ:L2.St) (F H:Hp) (Q:List V->Hp->Prop),Sg E ss σ F H->(∀ vs l F' H',Mv E ss σ F H F' H'->GR σ F' i t vs l->k l->Q vs H')->ta σ H Q
structure Wm [Xw] (ss:List Slot) (i:Nat) (lt:Bool) (t:OV) (te:TE) (k:PV->OV->Prop):Prop where
 go:∀ (E:Ent) (σ:L2.St) (F H:Hp) (Q:VK),Sg E ss σ F H->(∀ v p t' F' H',K0 E ss σ i lt t t' F H F' H'->Rep F' v p->k p t'->Q v H')->te σ H Q
structure Lq [Xw] (ss:List Slot) (i:Nat) (lt:Bool) (t:OV) (c:TT) (k:Bool->OV->Prop):Prop where
 go:∀ (E:Ent) (σ:L2.St) (F H:Hp) (Q:Bool->Hp->Prop),Sg E ss σ F H->(∀ b t' F' H',K0 E ss σ i lt t t' F H F' H'->k b t'->Q b H')->c σ H Q
section
variable {E:Ent0}{ss:List Slot}{σ:L2.St} {F H F' H':Hp}
theorem K0.of {i:Nat}{lt:Bool}{t:OV}(hi:ss[i]?=some (.ow lt t)) (m:Mv E ss σ F H F' H'):K0 E ss σ i lt t t F H F' H':=⟨by
 rw [show ss.set i (.ow lt t)=ss from by
  apply Rj
  intro n
  by_cases q:i=n
  ·subst q;rw [Ca (List.getElem?_eq_some_iff.mp hi).1,hi]
  ·rw [CJ q]]
 exact m.st,m.ff,fun a o n _ e=>m.hh a o n e,m.nn⟩
theorem Sg.X8 {i:Nat}{lt:Bool}{t:OV}(S:Sg E ss σ F H) (hi:ss[i]?=some (.ow lt t)){vs:List V}{l:List Slot}(a:GR σ F i t vs l):Sg ⟨[],F,H,t.addrs⟩ l (vs.map some) F H:=by
 obtain ⟨v0,e0,r0,Cy,q0⟩:=S.ok i _ hi
 have nn:∀ {p:Prop}(a:Addr),a∈([]:List Addr)->p:=fun a h=>absurd h BH
 obtain ⟨m,hm⟩:=a.at
 refine ⟨⟨S.fh,A8.refl _,fun _ _ _ e=>e,fun _ _ e=>.inl e,fun a h=>nn a h,fun a h=>nn a h,fun a h=>nn a h,fun a h=>(q0 a h).1,fun a h=>r0.there a h,fun a h=>⟨r0.there a h,BH⟩⟩,by rw [AV];exact a.len,fun n s hn=>?_,fun n j s u b hnj hn hj ms mu=>?_⟩
 ·rcases hm hn with ⟨_,rfl,v,hv,ev⟩ | ⟨v,p,hv,rfl,r⟩
  ·rw [BF,hv]
   rw [e0] at ev;cases ev
   exact ⟨v0,rfl,r0,Cy,fun a ha=>⟨(q0 a ha).1,.inr ⟨rfl,ha⟩⟩⟩
  ·rw [BF,hv]
   exact ⟨v,rfl,r⟩
 ·rcases hm hn with ⟨e1,rfl,_⟩ | ⟨_,_,_,rfl,_⟩
  ·rcases hm hj with ⟨e2,rfl,_⟩ | ⟨_,_,_,rfl,_⟩
   ·exact hnj (e1.trans e2.symm)
   ·cases mu
  ·cases ms
theorem Sg.Xz {i:Nat}{lt:Bool}{nk DO:NK}{a0:Addr}{us us':List OV}(S:Sg E ss σ F H) (hi:ss[i]?=some (.ow lt (.nd nk a0 us))) (f:Fin ⟨[],F,H,(OV.nd nk a0 us).addrs⟩ F' H') (r:BE F' H' (.ref a0) (.nd DO a0 us')) (nd:(OV.nd DO a0 us').addrs.Nodup) (q:∀ a∈(OV.nd DO a0 us').addrs,F' a=none/\(H a=none∨a∈(OV.nd nk a0 us).addrs)) :
  K0 E ss σ i lt (.nd nk a0 us) (.nd DO a0 us') F H F' H':=by
 obtain ⟨v0,e0,r0,Cy,q0⟩:=S.ok i _ hi
 have ev:v0=.ref a0:=by cases r0;rfl
 subst ev
 have Al:i < ss.length:=(List.getElem?_eq_some_iff.mp hi).1
 have kp:∀ a o,a∉(OV.nd nk a0 us).addrs->H a=some o->H' a=some o:=fun a o n e=>f.keep a o ⟨BH,n⟩ e
 have Bb:∀ a,H a≠none->F a=none->F' a=none:=fun a h1 h2=>by
  cases e:F' a with
  | none=>rfl
  | some o=>
   rcases f.fresh a o e with z | z
   ·rw [show F a=some o from z] at h2;cases h2
   ·exact absurd z h1
 have lK:∀ a,a∈E.A->a∉(OV.nd nk a0 us).addrs:=fun a hA hm=>by
  rcases (q0 a hm).2 with z | ⟨_,z⟩
  ·exact S.a0 a hA z
  ·exact (S.b0 a z).2 hA
 have other:∀ (j:Nat) s,j≠i->ss[j]?=some s->∀ a,BL s σ[j]? a->a∉(OV.nd nk a0 us).addrs:=fun j s hj hs a ho hm=>S.By j i s _ a hj hs hi ho hm
 refine ⟨⟨⟨f.fh,S.f0.trans f.f0,fun a o hA e=>?_,fun a o e=>?_,fun a hA=>?_,fun a hA=>?_,S.a0,fun a hB=>?_,fun a hB=>?_,S.b0⟩,by rw [MO];exact S.len,fun j s hj=>?_,fun j k s u b QY hj hk ms mu=>?_⟩,f.f0,fun a o _ n e=>kp a o n e,fun a o e=>f.fresh a o e⟩
 ·refine kp a o (fun hm=>?_) (S.keep a o hA e)
  rcases (q0 a hm).2 with z | ⟨_,z⟩
  ·rw [e] at z;cases z
  ·exact hA.2 z
 ·rcases f.fresh a o e with z | z
  ·exact S.fresh a o z
  ·exact .inr (S.Dz z)
 ·exact Ba.keep (S.GI a hA) fun o e=>kp a o (lK a hA) e
 ·obtain ⟨_,_,e1,_⟩:=S.GI a hA
  exact Bb a (by rw [e1];simp) (S.K6 a hA)
 ·exact Bb a (S.bH a hB) (S.bF a hB)
 ·by_cases hm:a∈(OV.nd nk a0 us).addrs
  ·exact f.bH a hm
  ·intro z
   cases e:H a with
   | none=>exact S.bH a hB e
   | some o=>rw [kp a o hm e] at z;cases z
 ·by_cases c:j=i
  ·subst c
   rw [Ca Al] at hj
   cases hj
   refine ⟨.ref a0,e0,r,nd,fun a ha=>⟨(q a ha).1,?_⟩⟩
   rcases (q a ha).2 with z | z
   ·exact .inl (S.Dz z)
   ·exact (q0 a z).2
  ·rw [CJ (BS c)] at hj
   by_cases np:s=.AN
   ·subst np
    obtain ⟨l,e,fl,hl,pt⟩:=S.ok j _ hj
    obtain ⟨_,_,e1,_⟩:=id pt
    exact ⟨l,e,Bb l (by rw [e1];simp) fl,hl,Ba.keep pt fun o z=>kp l o (other j _ c hj l e) z⟩
   ·exact Ok.go S hj f.f0 (fun a o ho e=>kp a o (other j s c hj a ho) e) Bb np
 ·have at_:∀ (n:Nat) s,(ss.set i (.ow lt (.nd DO a0 us')))[n]?=some s->(n=i/\s=.ow lt (.nd DO a0 us'))∨(n≠i/\ss[n]?=some s):=fun n s hn=>by
   by_cases c:n=i
   ·subst c;rw [Ca Al] at hn;exact .inl ⟨rfl,(BU hn).symm⟩
   ·rw [CJ (BS c)] at hn;exact .inr ⟨c,hn⟩
  have dq:∀ (n:Nat) s,n≠i->ss[n]?=some s->BL s σ[n]? b->b∉(OV.nd DO a0 us').addrs:=fun n s hn hs ho hm=>by
   rcases (q b hm).2 with z | z
   ·exact S.EI hs ho z
   ·exact other n s hn hs b ho z
  rcases at_ j s hj with ⟨e1,rfl⟩ | ⟨n1,h1⟩
  ·rcases at_ k u hk with ⟨e2,rfl⟩ | ⟨n2,h2⟩
   ·exact QY (e1.trans e2.symm)
   ·exact dq k u n2 h2 mu ms
  ·rcases at_ k u hk with ⟨e2,rfl⟩ | ⟨n2,h2⟩
   ·exact dq j s n1 h1 ms mu
   ·exact S.By j k s u b QY h1 h2 ms mu
end
section
variable [Xw]
variable {ss:List Slot}{te:TE}{ta:TA}{i:Nat}{lt:Bool}{t:OV}{nx:List Slot->Prop}{R:Ay}
theorem FU {k:List Slot->Prop}(h:k []):Lr ss Aw k:=⟨fun E σ F H Q S q=>q [] [] F H (Mv.refl S) .nil h⟩
theorem DU {k:List Slot->Prop}(h:Wp ss te fun p=>Lr ss ta fun l=>k (.is p :: l)):Lr ss (AS te ta) k:=⟨fun E σ F H Q S q=>
 h.go E σ F H _ S fun v p F1 H1 m1 r h2=>h2.go E σ F1 H1 _ m1.st fun vs l F2 H2 m2 a kk=>q _ _ F2 H2 (m1.trans m2) (.cons (r.mono m2.ff) a) kk⟩
theorem N9 {k:List Slot->Prop}(hi:ss[i]?=some (.ow lt t)) (h:Lr ss ta fun l=>k (.ow true t :: l)):gh ss i t (AS (BG i) ta) k:=⟨fun E σ F H Q S q=>by
 obtain ⟨v0,e0,_⟩:=S.ok i _ hi
 exact ⟨_,e0,h.go E σ F H _ S fun vs l F2 H2 m2 a kk=>q _ _ F2 H2 m2 (.here e0 a) kk⟩⟩
theorem Mv.aw {E:Ent0}{σ:L2.St} {F H F1 H1 F2 H2:Hp}{t':OV}(hi:ss[i]?=some (.ow lt t)) (a:Mv E ss σ F H F1 H1) (b:K0 E ss σ i lt t t' F1 H1 F2 H2):K0 E ss σ i lt t t' F H F2 H2:=
 ⟨b.st,a.ff.trans b.ff,fun c o n z e=>b.hh c o n z (a.hh c o n e),fun c o e=>(b.nn c o e).elim (fun e=>a.nn c o e) fun e=>.inr (a.none e)⟩
theorem MV {pre:Pre}{nk:NK}{a0:Addr}{us:List OV}{k:PV->OV->Prop}(hi:ss[i]?=some (.ow lt (.nd nk a0 us))) (h:gh ss i (.nd nk a0 us) ta fun l=>∃ k',pre l (.mt k')/\∀ p t',k' p t'->∃ DO us',t'=.nd DO a0 us'/\k p t'):Wm ss i lt (.nd nk a0 us) (CP (Be pre) [] E0 ta) k:=⟨fun E σ F H Q S q=>
 h.go E σ F H _ S fun vs l F1 H1 m1 a ⟨k',hp,kk⟩=>by
  rw [Fx]
  refine ⟨l,.mt k',F1,[],(OV.nd nk a0 us).addrs,hp,m1.st.X8 hi a,fun v F' H' f ⟨p,t',r,ro,nd,qa,kp⟩=>?_⟩
  obtain ⟨DO,us',rfl,k2⟩:=kk p t' kp
  exact q v p _ F' H' (m1.aw hi (m1.st.Xz hi f ro nd qa)) r k2⟩
theorem gU {k:Bool->OV->Prop}(h:Wm ss i lt t te fun p t'=>∃ c,p=.bl c/\k c t'):Lq ss i lt t (tB te) k:=⟨fun E σ F H Q S q=>
 h.go E σ F H _ S fun v p t' F1 H1 m1 r ⟨c,e,kk⟩=>by
  subst e;cases r
  exact ⟨c,rfl,q c t' F1 H1 m1 kk⟩⟩
theorem Yh {c:TT}{k:Bool->OV->Prop}(h:Lq ss i lt t c fun b t'=>k (!b) t'):Lq ss i lt t (RG c) k:=⟨fun E σ F H Q S q=>
 h.go E σ F H _ S fun b t' F1 H1 m1 kk=>q (!b) t' F1 H1 m1 kk⟩
theorem cU {c:TT}{u v:TS}(h:Lq ss i lt t c fun b t'=>if b=true then Ws (ss.set i (.ow lt t')) u nx R else Ws (ss.set i (.ow lt t')) v nx R):Ws ss (Pk c u v) nx R:=⟨fun E D σ F H S hn hr=>
 h.go E σ F H _ S fun b t' F1 H1 m1 kk=>by
  cases b with
  | true=>rw [if_pos rfl] at kk;exact kk.go E D σ F1 H1 m1.st (fun AQ σ' F' H' n S' s=>hn AQ σ' F' H' n S' (m1.ff.trans s)) hr
  | false=>rw [if_neg (by decide)] at kk;exact kk.go E D σ F1 H1 m1.st (fun AQ σ' F' H' n S' s=>hn AQ σ' F' H' n S' (m1.ff.trans s)) hr⟩
theorem Uj (h:Wm ss i lt t te fun _ t'=>nx (ss.set i (.ow lt t'))):Ws ss (J1 te) nx R:=⟨fun E D σ F H S hn hr=>
 h.go E σ F H _ S fun v p t' F1 H1 m1 r kk=>hn _ σ F1 H1 kk m1.st m1.ff⟩
theorem Dh {nk:NK}{a0:Addr}{us:List OV}{k:PV->OV->Prop}(hi:ss[i]?=some (.ow lt (.nd nk a0 us))) (h:Wp ss te fun p=>k p (.nd nk a0 us)):Ws ss (Fn te) nx (.mt k):=⟨fun E D σ F H S hn hr=>
 h.go E σ F H _ S fun v p F1 H1 m1 r kk=>by
  obtain ⟨v0,e0,r0,Cy,q0⟩:=m1.st.ok i _ hi
  have ev:v0=.ref a0:=by cases r0;rfl
  subst ev
  exact hr v F1 H1 m1.st.toFin ⟨p,.nd nk a0 us,r,r0,Cy,fun a ha=>⟨(q0 a ha).1,(q0 a ha).2.imp id fun z=>z.2⟩,kk⟩⟩
end
section
variable {pre:Pre}{H:Hp}
theorem JG {N:List Str}{n:Nat}{vs:List V}{Q:VK}{X:XK}{t:TS}(h:Be pre vs H Q X) (hl:∀ ss R,pre ss R->ss.length=n)
  (hw:∀ ss R,pre ss R->Ws (ss++List.replicate (N.length - n) .any) t (fun _=>False) R):t { nx:=fun _ H'=>Q .AF H',rt:=Q } (L2.start N vs) H:=by
 obtain ⟨ss,R,F,A,B,hp,S,q⟩:=h
 have e:vs.length=n:=by have:=S.len;rw [AV] at this;rw [<- this];exact hl ss R hp
 unfold L2.start
 rw [e]
 exact (hw ss R hp).go (Rh ⟨A,F,H,B⟩) _ _ F H (S.grown _) (fun AQ σ' F' H' z S' _=>z.elim) fun v F' H' f ok=>q v F' H' f ok
theorem G7 {n:Nat}{vs:List V}{Q:VK}{X:XK}(hl:∀ ss R,pre ss R->ss.length=n) (h:Be pre vs H Q X):vs.length=n:=by
 obtain ⟨ss,R,F,A,B,hp,S,q⟩:=h
 have:=S.len
 rw [AV] at this
 rw [<- this];exact hl ss R hp
end
section
variable {E:Ent0}{ss:List Slot}{σ:L2.St} {F H F' H':Hp}{j:Nat}{u:OV}
theorem Sg.eS (S:Sg E ss σ F H) (hj:ss[j]?=some (.ow false u)):Sg E (ss.set j (.is u.pv)) σ (Bz F H u.addrs) H/\A8 F (Bz F H u.addrs):=by
 obtain ⟨v,e,r,nd,qa⟩:=S.ok j _ hj
 obtain ⟨S1,nf⟩:=(S.drop j).lay u.addrs (fun a ha=>⟨(qa a ha).1,(qa a ha).2.elim id (fun z=>by cases z.1),r.there a ha⟩) fun a ha n s hn m=>by
  by_cases q:n=j
  ·subst q
   rw [Ca (List.getElem?_eq_some_iff.mp hj).1] at hn
   cases hn;cases m
  ·rw [CJ (BS q)] at hn
   exact S.By n j s _ a q hn hj m ha
 have S2:=S1.FD (j:=j) (v:=v) (p:=u.pv) (r.rep nf fun a ha o ho=>by unfold Bz;rw [if_pos ha];exact ho)
 rw [N7 e,Rv] at S2
 exact ⟨S2,nf⟩
theorem vd {p:Slot}(hj:ss[j]?=some (.ow false u)) (hp:p≠.AN) (a:Addr):Cd ss σ a->Cd (ss.set j p) σ a:=fun n k hk=>by
 by_cases q:k=j
 ·subst q
  rw [Ca (List.getElem?_eq_some_iff.mp hj).1] at hk;cases hk;exact absurd rfl hp
 ·rw [CJ (BS q)] at hk;exact n k hk
theorem Sg.m8 (S:Sg E ss σ F H) (hj:ss[j]?=some (.ow false u)) (ff:A8 (Bz F H u.addrs) F') (fh:A8 F' H'):(∀ a∈u.addrs,F' a=H a/\H' a=H a/\H a≠none)/\∀ a∈u.addrs,∀ ws,F' a≠some (.tup ws):=by
 obtain ⟨v,e,r,nd,qa⟩:=S.ok j _ hj
 have at_:∀ a∈u.addrs,F' a=H a/\H' a=H a/\H a≠none:=fun a ha=>by
  cases q:H a with
  | none=>exact absurd q (r.there a ha)
  | some o=>
   have f1:F' a=some o:=ff a o (by unfold Bz;rw [if_pos ha];exact q)
   exact ⟨f1,fh a o f1,by simp⟩
 exact ⟨at_,fun a ha ws q=>by rw [(at_ a ha).1] at q;exact r.K8 a ha ws q⟩
theorem Sg.ZBi (S:Sg E ss σ F H) (hj:ss[j]?=some (.ow false u)) (m:Mv E (ss.set j (.is u.pv)) σ (Bz F H u.addrs) H F' H'):Mv E ss σ F H (G9 F' u.addrs) H'/\∀ a∈u.addrs,∀ ws,F' a≠some (.tup ws):=by
 obtain ⟨v,e,r,nd,qa⟩:=S.ok j _ hj
 obtain ⟨S2,nf⟩:=S.eS hj
 obtain ⟨at_,nt⟩:=S.m8 hj m.ff m.st.fh
 refine ⟨S.step (fun a o ea=>?_) (fun a o ea=>?_) (fun a o n ea=>m.hh a o (vd hj (fun z=>by cases z) a n) ea) (fun a o ea=>?_) (fun k l hk ek=>?_),nt⟩
 ·unfold G9
  rw [if_neg (fun q=>by rw [(qa a q).1] at ea;cases ea)]
  exact m.ff a o (nf a o ea)
 ·unfold G9 at ea
  split at ea
  ·cases ea
  ·exact m.st.fh a o ea
 ·unfold G9 at ea
  split at ea
  ·cases ea
  ·rename_i q
   rcases m.nn a o ea with z | z
   ·unfold Bz at z
    rw [if_neg q] at z;exact .inl z
   ·exact .inr z
 ·refine m.st.E7 (i:=k) ?_ ek
  rw [CJ (fun q=>by subst q;rw [hj] at hk;cases hk)];exact hk
end
section
variable [Xw]
variable {ss:List Slot}{te:TE}{i j:Nat}{lt:Bool}{t u:OV}
theorem uj {k:PV->Prop}(j:Nat) (hj:ss[j]?=some (.ow false u)) (h:Wp (ss.set j (.is u.pv)) te fun p=>Ew p=true/\k p):Wp ss te k:=⟨fun E σ F H Q S q=>by
 obtain ⟨S2,nf⟩:=S.eS hj
 refine h.go E σ _ H Q S2 fun v p F' H' m rp ⟨hn,kk⟩=>?_
 obtain ⟨M,ht⟩:=S.ZBi hj m
 exact q v p _ H' M (rp.sub ht hn) kk⟩
end
end Fz
namespace L2
section
variable {X:Cx}{o i value:Expr}{td ty tv:TE}{pos pos':Pos}
theorem BO (hu:X.A.units+1 < cLine) (ho:QE X o td) (hi:QE X i ty) (hs:Xi i):QE X (.Subscript o i pos) (IB td ty):=⟨kI hu ho.h hi.h hs⟩
theorem IZ (hu:X.A.units+1 < cLine) (ho:QE X o td) (hi:QE X i ty) (hv:QE X value tv) (hs:swapsWith value (some (.Subscript o i pos')) pos.line X.env=pure false:=by rfl) :
  QS X (.Assign [.Subscript o i pos'] value pos) (Rg td ty tv):=⟨mI hu ho.h hi.h hv.h hs⟩
theorem P9:QE X (.Dict [] [] pos) TC:=⟨lL⟩
end
end L2
namespace Fz
open L2 Lw
noncomputable def Fw:Key->PV
 | .inl i=>.int i
 | .inr x=>.str x
noncomputable def JN:List Key->List PV->Key->Option PV
 | k' :: ks,x :: xs,k=>if k'=k then some x else JN ks xs k
 | _,_,_=>none
noncomputable def Fs (ks:List Key) (k:Key):Bool:=ks.any fun k'=>decide (k'=k)
noncomputable def Gs (ks:List Key) (k:Key):List Key:=if Fs ks k=true then ks else ks++[k]
theorem JD {F:Hp}{v:V}{k:Key}(r:Rep F v (Fw k)):v=kV k:=by
 cases k with
 | inl i=>cases r;rfl
 | inr x=>cases r;rfl
theorem Zi {F:Hp}{k:Key}{y:PV}:∀ {ks:List Key}{vs:List V}{xs:List PV},AU F vs xs->ks.length=vs.length->JN ks xs k=some y->∃ v,D3 (ks.zip vs) k=some v/\Rep F v y
 | [],_,_,_,_,h=>by rw [JN] at h;cases h;all_goals simp
 | k' :: ks,v :: vs,x :: xs,.cons r t,hl,h=>by
  rw [JN] at h
  rw [Ig]
  by_cases c:k'=k
  ·rw [if_pos c] at h
   cases h
   exact ⟨v,NQ c,r⟩
  ·rw [if_neg c] at h
   obtain ⟨w,h1,h2⟩:=Zi t (by simpa using hl) h
   exact ⟨w,by rw [Nw c];exact h1,h2⟩
 | k' :: ks,[],xs,_,hl,_=>by simp at hl
section
variable [Xw]
variable {ss:List Slot}{td ty tv:TE}{k:PV->Prop}{nx:List Slot->Prop}{R:Ay}{i:Nat}{lt:Bool}
theorem FO (h:Wp ss td fun p=>∃ ks xs,p=.Ao ks xs/\Wp ss ty fun q=>∃ key y,q=Fw key/\JN ks xs key=some y/\k y):Wp ss (IB td ty) k:=⟨fun E σ F H Q S q=>
 h.go E σ F H _ S fun v p F1 H1 m1 r1 ⟨ks,xs,e,h2⟩=>h2.go E σ F1 H1 _ m1.st fun v2 p2 F2 H2 m2 r2 ⟨key,y,e2,hy,kk⟩=>by
  subst e;subst e2
  have FY:=r1.mono m2.ff
  cases FY with
  | Ao ef hl rr=>
   obtain ⟨w,hw,rw_⟩:=Zi rr hl hy
   refine ⟨_,w,rfl,?_,q w y F2 H2 (m1.trans m2) rw_ kk⟩
   rw [<- hw,JD r2]
   exact Ej.k (m2.st.fh _ _ ef)⟩
theorem RO {k:List Nat->OV->Prop}(h:∀ a,k [] (.nd (.Ao []) a (([]:List PV).map .fz))):Wx ss TC k:=⟨fun E σ F H Q S q p hp=>by
 have m:=S.make hp (.dK [])
 refine q _ [] (.nd (.Ao []) p (([]:List PV).map .fz)) F _ m (.nd (k:=.Ao []) (vs:=[]) AI trivial rfl .nil) (by rw [OV.D6];simp [NK.more,OV.Hw]) (fun a ha=>?_) (h p)
 rw [OV.D6] at ha
 have e:a=p:=by simpa [NK.more,OV.Hw] using ha
 subst e
 exact ⟨S.Bb hp,S.Dz hp,.inr hp⟩⟩
theorem Wd:∀ {ks:List Key}{vs:List V}{key:Key},ks.length=vs.length->(ks.zip vs).any (fun kv=>decide (kv.1=key))=Fs ks key
 | [],vs,key,h=>rfl
 | k' :: ks,w :: vs,key,h=>by
  rw [Ig,MN,Wd (by simpa using h)]
  rfl
 | _ :: _,[],_,h=>by simp at h
noncomputable def Ga:List Key->List V->Key->V->List V
 | k' :: ks,x :: xs,k,p=>(if k'=k then p else x) :: Ga ks xs k p
 | _,xs,_,_=>xs
theorem d9:∀ {ks:List Key}{vs:List V}{key:Key}{v:V},(ks.zip vs).map (fun kv=>if kv.1=key then (kv.1,v) else kv)=ks.zip (Ga ks vs key v)
 | [],vs,key,v=>by simp
 | k' :: ks,w :: vs,key,v=>by
  rw [Ig,Bq,d9,Ga,Ig]
  by_cases c:k'=key
  ·rw [if_pos c,if_pos c]
  ·rw [if_neg c,if_neg c]
 | _ :: _,[],_,_=>by simp [Ga]
end
noncomputable def C9:List Key->Key->Option Nat
 | [],_=>none
 | k' :: ks,k=>if k'=k then some 0 else (C9 ks k).map (· + 1)
theorem YE:∀ {ks:List Key}{key:Key}{n:Nat},C9 ks key=some n->ks[n]?=some key
 | [],_,_,h=>by cases h
 | k' :: ks,key,n,h=>by
  rw [C9] at h
  by_cases c:k'=key
  ·rw [if_pos c] at h;cases h;subst c;rfl
  ·rw [if_neg c] at h
   cases e:C9 ks key with
   | none=>rw [e] at h;cases h
   | some m=>rw [e] at h;cases h;exact YE (ks:=ks) e
theorem V5:∀ {ks:List Key}{key:Key},(C9 ks key).isSome=Fs ks key
 | [],_=>rfl
 | k' :: ks,key=>by
  rw [C9]
  unfold Fs
  rw [MN]
  by_cases c:k'=key
  ·rw [if_pos c,decide_eq_true c];rfl
  ·rw [if_neg c,decide_eq_false c,Bool.false_or,YZ,V5];rfl
theorem Si:∀ {ks:List Key}{vs:List V}{key:Key}{n:Nat}{v:V},C9 ks key=some n->vs[n]?=some v->D3 (ks.zip vs) key=some v
 | [],_,_,_,_,h,_=>by cases h
 | k' :: ks,[],key,n,v,h,hv=>by simp at hv
 | k' :: ks,w :: vs,key,n,v,h,hv=>by
  rw [C9] at h
  rw [Ig]
  by_cases c:k'=key
  ·rw [if_pos c] at h;cases h
   simp at hv
   rw [NQ c,hv]
  ·rw [if_neg c] at h
   cases e:C9 ks key with
   | none=>rw [e] at h;cases h
   | some m=>
    rw [e] at h;cases h
    rw [Nw c]
    exact Si e (by simpa using hv)
theorem Pq {ks:List Key}{vs:List V}{key:Key}(hl:ks.length=vs.length):(D3 (ks.zip vs) key).isSome=Fs ks key:=by
 rw [<- Ql,Wd hl]
theorem fY:∀ {ks:List Key}{vs:List V}{key:Key}{n:Nat}{v:V},ks.Nodup->C9 ks key=some n->Ga ks vs key v=vs.set n v
 | [],_,_,_,_,_,h=>by cases h
 | k' :: ks,[],key,n,v,_,h=>by rw [Ga];simp;simp
 | k' :: ks,w :: vs,key,n,v,nd,h=>by
  rw [C9] at h
  obtain ⟨n1,n2⟩:=List.nodup_cons.mp nd
  rw [Ga]
  by_cases c:k'=key
  ·rw [if_pos c] at h;cases h
   rw [if_pos c,Ru]
   congr 1
   subst c
   have aux:∀ {ks:List Key}{vs:List V},k'∉ks->Ga ks vs k' v=vs:=by
    intro ks
    induction ks with
    | nil=>intro vs _;rw [Ga];simp
    | cons k2 ks ih=>
     intro vs hn
     cases vs with
     | nil=>rw [Ga];simp
     | cons u vs=>
      rw [Ga,if_neg (fun z=>hn (by rw [z];simp)),ih (fun z=>hn (by simp [z]))]
   exact aux n1
  ·rw [if_neg c] at h
   cases e:C9 ks key with
   | none=>rw [e] at h;cases h
   | some m=>
    rw [e] at h;cases h
    rw [if_neg c,Rt,fY n2 e]
section
variable [Xw]
variable {ss:List Slot}{ta td ty tv:TE}{k:PV->Prop}{nx:List Slot->Prop}{R:Ay}{i:Nat}{t:OV}
theorem Fc {k:List Nat->OV->Prop}(h:Wl ss i t td fun p u=>∃ ks a us,u=.nd (.Ao ks) a us/\Wp ss ty fun q=>∃ key n w,q=Fw key/\C9 ks key=some n/\us[n]?=some w/\k (p++[n]) w):Wl ss i t (IB td ty) k:=⟨h.hi,fun E σ F H Q S q=>
 h.go E σ F H _ S fun v p u F1 H1 m1 r1 h1 ⟨ks,a,us,eu,h2⟩=>h2.go E σ F1 H1 _ m1.st fun v2 p2 F2 H2 m2 r2 ⟨key,n,w,e,hn,hw,kk⟩=>by
  subst e
  have r3:=r1.mv m1.st h.hi h1 m2
  subst eu
  cases r3 with
  | @nd _ _ vs _ ha sd ft rr=>
   obtain ⟨x,hx,rx⟩:=rr.get hw
   refine ⟨a,x,rfl,?_,q x (p++[n]) w F2 H2 (m1.trans m2) rx (OV.Li h1 (by rw [OV.Jr,hw];exact OV.HP)) kk⟩
   rw [<- Si hn hx,JD r2]
   exact Ej.k ha⟩
theorem dI (h:Wp ss ty fun q=>Wl ss i t td fun _ u=>∃ ks a us key,u=.nd (.Ao ks) a us/\q=Fw key/\k (.bl (Fs ks key))):Wp ss (Px ty td) k:=⟨fun E σ F H Q S q=>
 h.go E σ F H _ S fun v p F1 H1 m1 r1 h2=>h2.go E σ F1 H1 _ m1.st fun v2 p2 u F2 H2 m2 r2 B6 ⟨ks,a,us,key,eu,eq,kk⟩=>by
  subst eu;subst eq
  cases r2 with
  | @nd _ _ vs _ ha sd ft rr=>
   refine ⟨a,D3 (ks.zip vs) key,rfl,by rw [JD r1];exact Ej.k ha,?_⟩
   rw [Pq ft]
   exact q _ _ F2 H2 (m1.trans m2) (.bl _) kk⟩
theorem QL (h:Wp ss ty fun q=>Wl ss i t td fun _ u=>∃ ks a us key,u=.nd (.Ao ks) a us/\q=Fw key/\k (.bl (!Fs ks key))):Wp ss (Qf ty td) k:=⟨fun E σ F H Q S q=>
 h.go E σ F H _ S fun v p F1 H1 m1 r1 h2=>h2.go E σ F1 H1 _ m1.st fun v2 p2 u F2 H2 m2 r2 B6 ⟨ks,a,us,key,eu,eq,kk⟩=>by
  subst eu;subst eq
  cases r2 with
  | @nd _ _ vs _ ha sd ft rr=>
   refine ⟨a,D3 (ks.zip vs) key,rfl,by rw [JD r1];exact Ej.k ha,?_⟩
   rw [Pq ft]
   exact q _ _ F2 H2 (m1.trans m2) (.bl _) kk⟩
theorem yG (h:Wp ss ty fun q=>Wp ss td fun u=>∃ ks xs key,u=.Ao ks xs/\q=Fw key/\k (.bl (Fs ks key))):Wp ss (Px ty td) k:=⟨fun E σ F H Q S q=>
 h.go E σ F H _ S fun v p F1 H1 m1 r1 h2=>h2.go E σ F1 H1 _ m1.st fun v2 u F2 H2 m2 r2 ⟨ks,xs,key,eu,eq,kk⟩=>by
  subst eu;subst eq
  cases r2 with
  | @Ao a _ vs _ ef hl rr=>
   refine ⟨a,D3 (ks.zip vs) key,rfl,by rw [JD r1];exact Ej.k (m2.st.fh _ _ ef),?_⟩
   rw [Pq hl]
   exact q _ _ F2 H2 (m1.trans m2) (.bl _) kk⟩
theorem jY (h:Wp ss ty fun q=>Wp ss td fun u=>∃ ks xs key,u=.Ao ks xs/\q=Fw key/\k (.bl (!Fs ks key))):Wp ss (Qf ty td) k:=⟨fun E σ F H Q S q=>
 h.go E σ F H _ S fun v p F1 H1 m1 r1 h2=>h2.go E σ F1 H1 _ m1.st fun v2 u F2 H2 m2 r2 ⟨ks,xs,key,eu,eq,kk⟩=>by
  subst eu;subst eq
  cases r2 with
  | @Ao a _ vs _ ef hl rr=>
   refine ⟨a,D3 (ks.zip vs) key,rfl,by rw [JD r1];exact Ej.k (m2.st.fh _ _ ef),?_⟩
   rw [Pq hl]
   exact q _ _ F2 H2 (m1.trans m2) (.bl _) kk⟩
theorem Jl {ks:List Key}{a:Addr}{us:List OV}:(OV.nd (.Ao ks) a us).addrs=a :: OV.Ai us:=by rw [OV.D6];rfl
theorem bO {lt:Bool}:∀ (m:List Nat) (ss:List Slot),ss[i]?=some (.ow lt t)->i∉m->(Fz.DR m ss)[i]?=some (.ow lt t):=by
 intro m
 induction m with
 | nil=>intro ss h _;exact h
 | cons j m ih=>
  intro ss h hm
  refine ih _ ?_ fun z=>hm (by simp [z])
  rw [CJ (by rintro rfl;exact hm (by simp))];exact h
theorem Sg.du {lt:Bool}{E:Ent0}{σ:L2.St} {F0 F H0 H:Hp}{p:List Nat}{a:Addr}{ks ks':List Key}{us us':List OV}{C6:List V}{m:List Nat}{u:OV}(S0:Sg E ss σ F0 H0) (S:Sg E ss σ F H) (hi:ss[i]?=some (.ow lt t)) (B6:t.at p=some (.nd (.Ao ks) a us))
  (hu:∀ a∈u.addrs,F a=none/\E.H0 a=none/\((∃ i∈m,∃ s,s≠Slot.AN/\ss[i]?=some s/\BL s σ[i]? a)∨H0 a=none)) (Ep:i∉m)
  (hr:Aq F H C6 us') (hl:ks'.length=C6.length) (Mo:(OV.Ai us').Nodup) (IU:∀ b∈OV.Ai us',b∈OV.Ai us∨b∈u.addrs):Sg E ((Fz.DR m ss).set i (.ow lt (t.put p (.nd (.Ao ks') a us')))) σ F (upd H a (.dK (ks'.zip C6))):=by
 have DM:=bO m ss hi Ep
 obtain ⟨v,e,r,nd,q⟩:=S.ok i _ hi
 have ut:∀ b,b∈a :: OV.Ai us->b∈t.addrs:=fun b hb=>OV.JF B6 b (by rw [Jl];exact hb)
 have LP:∀ b∈u.addrs,b∉t.addrs:=fun b hb z=>by
  rcases (hu b hb).2.2 with ⟨j,hj,s,_,hs,o⟩ | w
  ·exact S.By j i s _ b (by rintro rfl;exact Ep hj) hs hi o z
  ·exact S0.EI hi z w
 have D7:(OV.nd (.Ao ks) a us).addrs.Nodup:=by
  obtain ⟨l,rr,e1,_⟩:=OV.split B6
  rw [e1,Cb,Cb] at nd
  exact nd.1.2.1
 rw [Jl] at D7
 have na:∀ b∈OV.Ai us',b≠a:=fun b hb z=>by
  subst z
  rcases IU b hb with w | w
  ·exact (List.nodup_cons.mp D7).1 w
  ·exact LP b w (ut b (by simp))
 refine (S.DR m).Xa DM B6 (.nd (k:=.Ao ks') AI trivial hl (hr.mono (A8.refl _) fun b hb o ho=>by rw [Aj (na b hb)];exact ho)) (by rw [Jl];exact List.nodup_cons.mpr ⟨fun z=>na a z rfl,Mo⟩) fun b hb=>?_
 rw [Jl] at hb ⊢
 rcases List.mem_cons.mp hb with w | w
 ·exact .inl (by simp [w])
 ·rcases IU b w with z | z
  ·exact .inl (by simp [z])
  ·refine .inr ⟨(hu b z).1,(hu b z).2.1,fun j s hs o=>?_⟩
   rcases Ml hs with y | ⟨EZ,hm⟩
   ·subst y;cases o
   ·rcases (hu b z).2.2 with ⟨i2,GD,s2,_,Ct,o2⟩ | y
    ·exact S.By j i2 s s2 b (by rintro rfl;exact hm GD) EZ Ct o o2
    ·exact S0.EI EZ o y
noncomputable def FW (ks:List Key) (us:List OV) (key:Key) (w:OV):List OV:=match C9 ks key with
 | some n=>us.set n w
 | none=>us++[w]
theorem IJ (h:Wx ss tv fun m w=>Wl ss i t td fun p u=>∃ lt a ks us,ss[i]?=some (.ow lt t)/\u=.nd (.Ao ks) a us/\us.length<=99999/\ks.Nodup/\i∉m/\Wp ss ty fun q=>∃ key,q=Fw key/\nx ((Fz.DR m ss).set i (.ow lt (t.put p (.nd (.Ao (Gs ks key)) a (FW ks us key w)))))):Ws ss (Rg td ty tv) nx R:=⟨fun E D σ F H S hn hr=>
 h.go E σ F H _ S fun v m w F1 H1 m1 r1 Gv a1 h2=>h2.go E σ F1 H1 _ m1.st fun v2 p u F2 H2 m2 r2 B6 ⟨lt,a,ks,us,hi,eu,hz,hk,Ep,h3⟩=>h3.go E σ F2 H2 _ m2.st fun v3 q F3 H3 m3 r3 ⟨key,eq,kk⟩=>by
  subst eu;subst eq
  have ev:v2=.ref a:=by cases r2;rfl
  subst ev
  have JH:=m2.trans m3
  have np:∀ b∈w.addrs,Cd ss σ b:=fun b hb k hk ek=>by
   rcases (a1 b hb).2.2 with ⟨j,hj,s,hs,II,o⟩ | z
   ·exact S.By j k s _ b (fun e=>by subst e;rw [II] at hk;exact hs (BU hk)) II hk o ek
   ·exact S.EI hk ek z
  have FY:BE F3 H3 v w:=r1.mono JH.ff fun b hb o e=>JH.hh b o (np b hb) e
  have So:∀ b∈w.addrs,F3 b=none/\E.H0 b=none/\((∃ i∈m,∃ s,s≠Slot.AN/\ss[i]?=some s/\BL s σ[i]? b)∨H b=none):=fun b hb=>by
   refine ⟨?_,(a1 b hb).2⟩
   cases e:F3 b with
   | none=>rfl
   | some o=>
    rcases JH.nn b o e with z | z
    ·rw [(a1 b hb).1] at z;cases z
    ·exact absurd z (r1.there b hb)
  have r4:=r2.mv m2.st ⟨lt,hi⟩ B6 m3
  cases r4 with
  | @nd _ _ vs _ ha sd ft rr=>
   have HG:ks.length=vs.length:=ft
   have vl:=rr.length
   have nY:(ks.zip vs).length<=99999:=by rw [OX];omega
   refine ⟨a,_,rfl,by rw [JD r3];exact Nt.k ha (Qs nY),?_⟩
   obtain ⟨v0,e0,r0,Cy,q0⟩:=m3.st.ok i _ hi
   have D7:(OV.nd (.Ao ks) a us).addrs.Nodup:=by
    obtain ⟨l,rr,e1,_⟩:=OV.split B6
    rw [e1,Cb,Cb] at Cy
    exact Cy.1.2.1
   rw [Jl] at D7
   have apart:∀ b∈w.addrs,b∉OV.Ai us:=fun b hb z=>by
    have bt:b∈t.addrs:=OV.JF B6 b (by rw [Jl];simp [z])
    rcases (a1 b hb).2.2 with ⟨j,hj,s,_,hs,o⟩ | y
    ·exact S.By j i s _ b (by rintro rfl;exact Ep hj) hs hi o bt
    ·exact S.EI hi bt y
   obtain ⟨C6,ep,Ms,Iz,Ki,sb⟩:∃ C6:List V,putK (ks.zip vs) key v=(Gs ks key).zip C6/\(Gs ks key).length=C6.length/\Aq F3 H3 C6 (FW ks us key w)/\(OV.Ai (FW ks us key w)).Nodup/\∀ b∈OV.Ai (FW ks us key w),b∈OV.Ai us∨b∈w.addrs:=by
    unfold putK Gs FW
    rw [Wd HG]
    cases e:C9 ks key with
    | some n=>
     have c:Fs ks key=true:=by rw [<- V5,e];rfl
     have Kc:n < us.length:=by
      have:=(List.getElem?_eq_some_iff.mp (YE e)).1
      omega
     obtain ⟨l,r,e1,e2⟩:=Hq (B1 Kc)
     rw [if_pos c,if_pos c,d9,fY hk e]
     refine ⟨vs.set n v,rfl,by rw [MO];exact HG,rr.set n FY,?_,fun b hb=>?_⟩
     ·show (OV.Ai (us.set n w)).Nodup
      rw [e2]
      have n1:=(List.nodup_cons.mp D7).2
      rw [e1] at n1
      exact R7 n1 Gv fun b hb=>.inr (by rw [<- e1];exact apart b hb)
     ·have E2:b∈OV.Ai (us.set n w):=hb
      rw [e2] at E2
      rcases List.mem_append.mp E2 with z | z
      ·rcases List.mem_append.mp z with z | z
       ·exact .inl (by rw [e1];simp [z])
       ·exact .inr z
      ·exact .inl (by rw [e1];simp [z])
    | none=>
     have c:¬ Fs ks key=true:=by rw [<- V5,e];decide
     rw [if_neg c,if_neg c]
     refine ⟨vs++[v],by rw [List.zip_append HG];rfl,by rw [Bm,Bm,HG];rfl,rr.append (.one FY),?_,fun b hb=>?_⟩
     ·show (OV.Ai (us++[w])).Nodup
      rw [Mb,PM,Cb]
      exact ⟨(List.nodup_cons.mp D7).2,Gv,fun x hx y hy e=>apart y hy (e▸hx)⟩
     ·have E2:b∈OV.Ai (us++[w]):=hb
      rw [Mb,PM] at E2
      exact List.mem_append.mp E2
   rw [ep]
   exact hn _ σ F3 _ kk (Sg.du (u:=w) S m3.st hi B6 So Ep Iz Ms Ki sb) (m1.ff.trans JH.ff)⟩
end
noncomputable def Co:List Str->Str->Option Nat
 | [],_=>none
 | g :: ns,f=>if g=f then some 0 else (Co ns f).map (· + 1)
noncomputable def Kh (ns:List Str) (f:Str):List Str:=match Co ns f with
 | some _=>ns
 | none=>ns++[f]
noncomputable def OF (ns:List Str) (us:List OV) (f:Str) (w:OV):List OV:=match Co ns f with
 | some n=>us.set n w
 | none=>us++[w]
noncomputable def Iu (ns:List Str) (vs:List V) (f:Str) (w:V):List V:=match Co ns f with
 | some n=>vs.set n w
 | none=>vs++[w]
theorem XI:∀ {ns:List Str}{f:Str}{n:Nat},Co ns f=some n->n < ns.length
 | [],_,_,h=>by cases h
 | g :: ns,f,n,h=>by
  rw [Co] at h
  by_cases c:g=f
  ·rw [if_pos c] at h;cases h;exact Nat.succ_pos _
  ·rw [if_neg c] at h
   cases e:Co ns f with
   | none=>rw [e] at h;cases h
   | some m=>rw [e] at h;cases h;exact Nat.succ_lt_succ (XI e)
theorem Qt:∀ {ns:List Str}{vs:List V}{f:Str}{n:Nat}{v:V},Co ns f=some n->vs[n]?=some v->(ns.zip vs).lookup f=some v
 | [],_,_,_,_,h,_=>by cases h
 | g :: ns,[],f,n,v,h,hv=>by simp at hv
 | g :: ns,w :: vs,f,n,v,h,hv=>by
  rw [Co] at h
  rw [Ig]
  by_cases c:g=f
  ·rw [if_pos c] at h;cases h
   simp at hv
   subst c
   rw [List.lookup_cons_self,hv]
  ·rw [if_neg c] at h
   cases e:Co ns f with
   | none=>rw [e] at h;cases h
   | some m=>
    rw [e] at h;cases h
    rw [Ja]
    have:(f == g)=false:=by simpa using fun z=>c z.symm
    rw [this]
    exact Qt e (by simpa using hv)
theorem Xk:∀ {ns:List Str}{vs:List V}{f:Str}{v:V},ns.length=vs.length->D4 f v (ns.zip vs)=(Kh ns f).zip (Iu ns vs f v)/\(Kh ns f).length=(Iu ns vs f v).length
 | [],[],f,v,_=>by simp [D4,Kh,Iu,Co]
 | [],_ :: _,_,_,h=>by simp at h
 | _ :: _,[],_,_,h=>by simp at h
 | g :: ns,w :: vs,f,v,h=>by
  obtain ⟨i1,i2⟩:=Xk (ns:=ns) (vs:=vs) (f:=f) (v:=v) (by simpa using h)
  rw [Ig]
  rw [show D4 f v ((g,w) :: ns.zip vs)=(if g=f then (g,v) :: ns.zip vs else (g,w) :: D4 f v (ns.zip vs)) from rfl]
  unfold Kh Iu at i1 i2 ⊢
  rw [Co]
  by_cases c:g=f
  ·rw [if_pos c,if_pos c]
   exact ⟨by simp,by simpa using h⟩
  ·rw [if_neg c,if_neg c,i1]
   cases e:Co ns f with
   | none=>rw [e] at i2;exact ⟨by simp,by simpa using i2⟩
   | some m=>rw [e] at i2;exact ⟨by simp,by simpa using i2⟩
section
variable [Xw]
variable {ss:List Slot}{ta tv:TE}{k:PV->Prop}{nx:List Slot->Prop}{R:Ay}{i:Nat}{t:OV}{K:ZCy}{f:Str}
theorem Ti {k:List Nat->OV->Prop}(h:Wl ss i t ta fun p u=>∃ C dx ns a us n w,u=.nd (.obj C dx ns) a us/\Bf K C/\BK K C f/\Co ns f=some n/\us[n]?=some w/\k (p++[n]) w):Wl ss i t (JJ K ta f) k:=⟨h.hi,fun E σ F H Q S q=>
 h.go E σ F H _ S fun v p u F1 H1 m1 r1 h1 ⟨C,dx,ns,a,us,n,w,eu,hc,hn,hx,hw,kk⟩=>by
  subst eu
  cases r1 with
  | @nd _ _ vs _ ha sd ft rr=>
   obtain ⟨x,sC,rx⟩:=rr.get hw
   exact ⟨a,C,dx,ns.zip vs,x,rfl,ha,hc,hn,Qt hx sC,q x (p++[n]) w F1 H1 m1 rx (OV.Li h1 (by rw [OV.Jr,hw];exact OV.HP)) kk⟩⟩
theorem Ij {C dx:Addr}{ns:List Str}{a:Addr}{us:List OV}:(OV.nd (.obj C dx ns) a us).addrs=a :: dx :: OV.Ai us:=by rw [OV.D6];rfl
theorem Sg.Zj {lt:Bool}{E:Ent0}{σ:L2.St} {F0 F H0 H:Hp}{p:List Nat}{a C dx:Addr}{ns Bw:List Str}{us us':List OV}{C6:List V}{m:List Nat}{u:OV}(S0:Sg E ss σ F0 H0) (S:Sg E ss σ F H) (hi:ss[i]?=some (.ow lt t)) (B6:t.at p=some (.nd (.obj C dx ns) a us)) (KL:H dx=some (.own a))
  (hu:∀ a∈u.addrs,F a=none/\E.H0 a=none/\((∃ i∈m,∃ s,s≠Slot.AN/\ss[i]?=some s/\BL s σ[i]? a)∨H0 a=none)) (Ep:i∉m)
  (hr:Aq F H C6 us') (hl:Bw.length=C6.length) (Mo:(OV.Ai us').Nodup) (IU:∀ b∈OV.Ai us',b∈OV.Ai us∨b∈u.addrs):Sg E ((Fz.DR m ss).set i (.ow lt (t.put p (.nd (.obj C dx Bw) a us')))) σ F (upd H a (.ins C dx (Bw.zip C6))):=by
 have DM:=bO m ss hi Ep
 obtain ⟨v,e,r,nd,q⟩:=S.ok i _ hi
 have ut:∀ b,b∈a :: dx :: OV.Ai us->b∈t.addrs:=fun b hb=>OV.JF B6 b (by rw [Ij];exact hb)
 have LP:∀ b∈u.addrs,b∉t.addrs:=fun b hb z=>by
  rcases (hu b hb).2.2 with ⟨j,hj,s,_,hs,o⟩ | w
  ·exact S.By j i s _ b (by rintro rfl;exact Ep hj) hs hi o z
  ·exact S0.EI hi z w
 have D7:(OV.nd (.obj C dx ns) a us).addrs.Nodup:=by
  obtain ⟨l,rr,e1,_⟩:=OV.split B6
  rw [e1,Cb,Cb] at nd
  exact nd.1.2.1
 rw [Ij] at D7
 obtain ⟨n1,n2⟩:=List.nodup_cons.mp D7
 obtain ⟨n3,n4⟩:=List.nodup_cons.mp n2
 have na:∀ b∈OV.Ai us',b≠a:=fun b hb z=>by
  subst z
  rcases IU b hb with w | w
  ·exact n1 (by simp [w])
  ·exact LP b w (ut b (by simp))
 have Q7:∀ b∈OV.Ai us',b≠dx:=fun b hb z=>by
  subst z
  rcases IU b hb with w | w
  ·exact n3 w
  ·exact LP b w (ut b (by simp))
 have bJ:dx≠a:=fun z=>n1 (by simp [z])
 refine (S.DR m).Xa DM B6 (.nd (k:=.obj C dx Bw) AI (show upd H a _ dx=some (.own a) by rw [Aj bJ];exact KL) hl (hr.mono (A8.refl _) fun b hb o ho=>by rw [Aj (na b hb)];exact ho)) (by
  rw [Ij]
  exact List.nodup_cons.mpr ⟨fun z=>by
   rcases List.mem_cons.mp z with z | z
   ·exact bJ z.symm
   ·exact na a z rfl,List.nodup_cons.mpr ⟨fun z=>Q7 dx z rfl,Mo⟩⟩) fun b hb=>?_
 rw [Ij] at hb ⊢
 rcases List.mem_cons.mp hb with w | w
 ·exact .inl (by simp [w])
 ·rcases List.mem_cons.mp w with w | w
  ·exact .inl (by simp [w])
  ·rcases IU b w with z | z
   ·exact .inl (by simp [z])
   ·refine .inr ⟨(hu b z).1,(hu b z).2.1,fun j s hs o=>?_⟩
    rcases Ml hs with y | ⟨EZ,hm⟩
    ·subst y;cases o
    ·rcases (hu b z).2.2 with ⟨i2,GD,s2,_,Ct,o2⟩ | y
     ·exact S.By j i2 s s2 b (by rintro rfl;exact hm GD) EZ Ct o o2
     ·exact S0.EI EZ o y
theorem wA {E:Ent0}{σ:L2.St} {F H F1 H1 F3 H3:Hp}{m:List Nat}{w:OV}{v:V}(S:Sg E ss σ F H) (JH:Mv E ss σ F1 H1 F3 H3) (r1:BE F1 H1 v w) (a1:∀ a∈w.addrs,F1 a=none/\E.H0 a=none/\((∃ i∈m,∃ s,s≠Slot.AN/\ss[i]?=some s/\BL s σ[i]? a)∨H a=none)) :
  BE F3 H3 v w/\∀ b∈w.addrs,F3 b=none/\E.H0 b=none/\((∃ i∈m,∃ s,s≠Slot.AN/\ss[i]?=some s/\BL s σ[i]? b)∨H b=none):=by
 have np:∀ b∈w.addrs,Cd ss σ b:=fun b hb k hk ek=>by
  rcases (a1 b hb).2.2 with ⟨j,hj,s,hs,II,o⟩ | z
  ·exact S.By j k s _ b (fun e=>by subst e;rw [II] at hk;exact hs (BU hk)) II hk o ek
  ·exact S.EI hk ek z
 refine ⟨r1.mono JH.ff fun b hb o e=>JH.hh b o (np b hb) e,fun b hb=>⟨?_,(a1 b hb).2⟩⟩
 cases e:F3 b with
 | none=>rfl
 | some o=>
  rcases JH.nn b o e with z | z
  ·rw [(a1 b hb).1] at z;cases z
  ·exact absurd z (r1.there b hb)
theorem Hv (h:Wx ss tv fun m w=>Wl ss i t ta fun p u=>∃ lt C dx ns a us,ss[i]?=some (.ow lt t)/\u=.nd (.obj C dx ns) a us/\Bf K C/\BK K C f/\ns.length < 1000/\i∉m/\nx ((Fz.DR m ss).set i (.ow lt (t.put p (.nd (.obj C dx (Kh ns f)) a (OF ns us f w)))))):Ws ss (Xh K ta tv f) nx R:=⟨fun E D σ F H S hn hr=>
 h.go E σ F H _ S fun v m w F1 H1 m1 r1 Gv a1 h2=>h2.go E σ F1 H1 _ m1.st fun v2 p u F2 H2 m2 r2 B6 ⟨lt,C,dx,ns,a,us,hi,eu,hc,Wc,hz,Ep,kk⟩=>by
  subst eu
  have ev:v2=.ref a:=by cases r2;rfl
  subst ev
  obtain ⟨FY,So⟩:=wA S m2 r1 a1
  cases r2 with
  | @nd _ _ vs _ ha sd ft rr=>
   have HG:ns.length=vs.length:=ft
   have vl:=rr.length
   obtain ⟨ep,Ms⟩:=Xk (f:=f) (v:=v) HG
   refine ⟨a,C,dx,ns.zip vs,rfl,ha,hc,Wc,by rw [OX];omega,?_⟩
   obtain ⟨v0,e0,r0,Cy,q0⟩:=m2.st.ok i _ hi
   have D7:(OV.nd (.obj C dx ns) a us).addrs.Nodup:=by
    obtain ⟨l,rr,e1,_⟩:=OV.split B6
    rw [e1,Cb,Cb] at Cy
    exact Cy.1.2.1
   rw [Ij] at D7
   have LK:=(List.nodup_cons.mp (List.nodup_cons.mp D7).2).2
   have apart:∀ b∈w.addrs,b∉OV.Ai us:=fun b hb z=>by
    have bt:b∈t.addrs:=OV.JF B6 b (by rw [Ij];simp [z])
    rcases (a1 b hb).2.2 with ⟨j,hj,s,_,hs,o⟩ | y
    ·exact S.By j i s _ b (by rintro rfl;exact Ep hj) hs hi o bt
    ·exact S.EI hi bt y
   obtain ⟨Iz,Ki,sb⟩:Aq F2 H2 (Iu ns vs f v) (OF ns us f w)/\(OV.Ai (OF ns us f w)).Nodup/\∀ b∈OV.Ai (OF ns us f w),b∈OV.Ai us∨b∈w.addrs:=by
    unfold Iu OF
    cases e:Co ns f with
    | some n=>
     have Kc:n < us.length:=by have:=XI e;omega
     obtain ⟨l,r,e1,e2⟩:=Hq (B1 Kc)
     refine ⟨rr.set n FY,?_,fun b hb=>?_⟩
     ·show (OV.Ai (us.set n w)).Nodup
      rw [e2]
      rw [e1] at LK
      exact R7 LK Gv fun b hb=>.inr (by rw [<- e1];exact apart b hb)
     ·have E2:b∈OV.Ai (us.set n w):=hb
      rw [e2] at E2
      rcases List.mem_append.mp E2 with z | z
      ·rcases List.mem_append.mp z with z | z
       ·exact .inl (by rw [e1];simp [z])
       ·exact .inr z
      ·exact .inl (by rw [e1];simp [z])
    | none=>
     refine ⟨rr.append (.one FY),?_,fun b hb=>?_⟩
     ·show (OV.Ai (us++[w])).Nodup
      rw [Mb,PM,Cb]
      exact ⟨LK,Gv,fun x hx y hy e=>apart y hy (e▸hx)⟩
     ·have E2:b∈OV.Ai (us++[w]):=hb
      rw [Mb,PM] at E2
      exact List.mem_append.mp E2
   rw [ep]
   exact hn _ σ F2 _ kk (Sg.Zj (u:=w) S m2.st hi B6 sd So Ep Iz Ms Ki sb) (m1.ff.trans m2.ff)⟩
end
theorem QQ:∀ {ns:List Str}{vs:List V}{f:Str},Co ns f=none->(ns.zip vs).lookup f=none
 | [],_,_,_=>by simp
 | g :: ns,[],f,h=>by simp
 | g :: ns,w :: vs,f,h=>by
  rw [Co] at h
  by_cases c:g=f
  ·rw [if_pos c] at h;cases h
  ·rw [if_neg c] at h
   rw [Ig,Ja]
   have:(f == g)=false:=by simpa using fun z=>c z.symm
   rw [this]
   refine QQ ?_
   cases e:Co ns f with
   | none=>rfl
   | some m=>rw [e] at h;cases h
section
variable [Xw]
variable {ss:List Slot}{te tv:TE}{ta:TA}{i:Nat}{lt:Bool}{t:OV}{nx:List Slot->Prop}{R:Ay}{K:ZCy}{f:Str}
theorem LM {pre:Pre}{C dx a0:Addr}{ns:List Str}{us:List OV}{m:Str}{k:PV->OV->Prop}(hi:ss[i]?=some (.ow lt (.nd (.obj C dx ns) a0 us))) (hm:Co ns m=none) (h:Lr ss ta fun l=>∃ k',pre (.ow true (.nd (.obj C dx ns) a0 us) :: l) (.mt k')/\∀ p t',k' p t'->∃ DO us',t'=.nd DO a0 us'/\k p t') :
  Wm ss i lt (.nd (.obj C dx ns) a0 us) (Jo C m (Be pre) [] E0 (BG i) ta) k:=⟨fun E σ F H Q S q=>by
 obtain ⟨v0,e0,r0,_,_⟩:=S.ok i _ hi
 have ev:v0=.ref a0:=by cases r0;rfl
 subst ev
 cases r0 with
 | @nd _ _ Gf _ ha sd ft rr=>
  refine ⟨_,e0,a0,dx,ns.zip Gf,rfl,ha,QQ hm,h.go E σ F H _ S fun vs l F1 H1 m1 a ⟨k',hp,kk⟩=>?_⟩
  rw [Fx]
  refine ⟨.ow true (.nd (.obj C dx ns) a0 us) :: l,.mt k',F1,[],(OV.nd (.obj C dx ns) a0 us).addrs,hp,m1.st.X8 hi (.here e0 a),fun v F' H' f ⟨p,t',r,ro,nd,qa,kp⟩=>?_⟩
  obtain ⟨DO,us',rfl,k2⟩:=kk p t' kp
  exact q v p _ F' H' (m1.aw hi (m1.st.Xz hi f ro nd qa)) r k2⟩
theorem sW {pre:Pre}{C:Addr}{ns:List Str}{xs:List PV}{m:Str}{k:PV->Prop}(h:Wp ss te fun o=>∃ ns xs,o=.obj C ns xs/\Co ns m=none/\Wa ss ta fun l=>∃ k',pre (.is o :: l) (.is k')/\∀ p,k' p->k p):Wp ss (Jo C m (Bp pre) [] E0 te ta) k:=⟨fun E σ F H Q S q=>
 h.go E σ F H _ S fun v o F1 H1 m1 ro ⟨ns,xs,eo,hm,h2⟩=>by
  subst eo
  cases ro with
  | @obj a _ dx _ Gf _ e1 e2 hl rr=>
   refine ⟨a,dx,ns.zip Gf,rfl,m1.st.fh _ _ e1,QQ hm,h2.go E σ F1 H1 _ m1.st fun vs l F2 H2 m2 al ⟨k',hp,kk⟩=>?_⟩
   rw [Fx]
   refine ⟨.is (.obj C ns xs) :: l,.is k',F2,[],hp,m2.st.U7 (.cons (s:=.is _) (Rep.obj (m2.ff _ _ e1) (m2.ff _ _ e2) hl (rr.mono m2.ff)) al),fun v F' H' f ⟨p,r,kp⟩=>?_⟩
   exact q v p F' H' (m1.trans (m2.trans (m2.st.back (fun _ h=>absurd h BH) f))) r (kk p kp)⟩
theorem Jz {k:PV->Prop}(h:Wp ss te fun o=>∃ C ns xs n y,o=.obj C ns xs/\Bf K C/\BK K C f/\Co ns f=some n/\xs[n]?=some y/\k y):Wp ss (JJ K te f) k:=⟨fun E σ F H Q S q=>
 h.go E σ F H _ S fun v o F1 H1 m1 ro ⟨C,ns,xs,n,y,eo,hc,hn,hx,hy,kk⟩=>by
  subst eo
  cases ro with
  | @obj a _ dx _ Gf _ e1 e2 hl rr=>
   obtain ⟨u,hu,ru⟩:=rr.get hy
   exact ⟨a,C,dx,ns.zip Gf,u,rfl,m1.st.fh _ _ e1,hc,hn,Qt hx hu,q u y F1 H1 m1 ru kk⟩⟩
theorem fN {pre:Pre}{C:Addr}{k:List Nat->OV->Prop}(h:Lr ss ta fun l=>∀ x dx:Addr,∃ k',pre (.ow true (.nd (.obj C dx []) x []) :: l) (.mt k')/\∀ p t',k' p t'->p=.AF/\∃ Bw us',t'=.nd (.obj C dx Bw) x us'/\k [] t'):Wx ss (TN C (Be pre) [] E0 ta) k:=⟨fun E σ F H Q S q=>
 h.go E σ F H _ S fun vs l F1 H1 m1 al LN x dx hx KL As=>by
  rw [Fx]
  have M1:=m1.st.make KL (.own x)
  have Jt:upd H1 dx (.own x) x=none:=by rw [Aj (BS As)];exact hx
  have M2:=M1.st.make Jt (.ins C dx [])
  have m2:=M1.trans M2
  have up:∀ a o,H1 a=some o->upd (upd H1 dx (.own x)) x (.ins C dx []) a=some o:=fun a o e=>by
   rw [Aj (EN e hx),Aj (EN e KL)];exact e
  have dn:∀ a,upd (upd H1 dx (.own x)) x (.ins C dx []) a=none->H1 a=none:=fun a e=>by
   cases z:H1 a with
   | none=>rfl
   | some o=>rw [up a o z] at e;cases e
  have a0:(OV.nd (.obj C dx []) x []).addrs=[x,dx]:=by rw [Ij,OV.Hw]
  have r0:BE F1 (upd (upd H1 dx (.own x)) x (.ins C dx [])) (.ref x) (.nd (.obj C dx []) x []):=.nd (k:=.obj C dx []) (vs:=[]) AI (show upd _ x _ dx=some (.own x) by rw [Aj As];exact AI) rfl .nil
  have f0:∀ a∈(OV.nd (.obj C dx []) x []).addrs,H1 a=none:=fun a ha=>by
   rw [a0] at ha
   simp only [HE,BH,or_false] at ha
   rcases ha with rfl | rfl
   ·exact hx
   ·exact KL
  have Cy:(OV.nd (.obj C dx []) x []).addrs.Nodup:=by
   rw [a0]
   simp [BS As]
  have Sx:=Sg.bB (j:=ss.length) (m:=[]) (v:=.ref x) (u:=.nd (.obj C dx []) x []) (m1.st.grown 1) (m2.st.grown 1) r0 Cy fun a ha=>⟨m1.st.Bb (f0 a ha),m1.st.Dz (f0 a ha),.inr (f0 a ha)⟩
  have hl:=m1.st.len
  have hi:((ss++List.replicate 1 Slot.any).set ss.length (.ow false (.nd (.obj C dx []) x [])))[ss.length]?=some (.ow false (.nd (.obj C dx []) x [])):=Ca (by simp)
  have e0:((σ++List.replicate 1 none).set ss.length (some (V.ref x)))[ss.length]?=some (some (.ref x)):=Ca (by simp;omega)
  obtain ⟨k',hp,kk⟩:=LN x dx
  refine ⟨.ow true (.nd (.obj C dx []) x []) :: l,.mt k',F1,[],(OV.nd (.obj C dx []) x []).addrs,hp,Sx.X8 hi (.here e0 al),fun v F' H' f ⟨p,t',r,ro,nd,qa,kp⟩=>?_⟩
  obtain ⟨rfl,Bw,us',rfl,k2⟩:=kk p t' kp
  have B:=Sx.Xz hi f ro nd qa
  have at':∀ n,n < ss.length->((ss++List.replicate 1 Slot.any).set ss.length (.ow false (.nd (.obj C dx []) x [])))[n]?=ss[n]?:=fun n hn=>by rw [CJ (by omega),En hn]
  have DE:∀ n,n < ss.length->((σ++List.replicate 1 none).set ss.length (some (V.ref x)))[n]?=σ[n]?:=fun n hn=>by rw [CJ (by omega),En (by omega)]
  have np:∀ a,H1 a≠none->Cd ss σ a->Cd ((ss++List.replicate 1 Slot.any).set ss.length (.ow false (.nd (.obj C dx []) x []))) ((σ++List.replicate 1 none).set ss.length (some (V.ref x))) a:=fun a _ hn n hk=>by
   by_cases c:n < ss.length
   ·rw [at' n c] at hk
    rw [DE n c]
    exact hn n hk
   ·by_cases c2:n=ss.length
    ·subst c2;rw [hi] at hk;cases hk
    ·rw [JZ (by simp;omega)] at hk;cases hk
  have M3:Mv E ss σ F1 H1 F' H':=m1.st.step B.ff B.st.fh (fun a o hn e=>B.hh a o (np a (by rw [e];simp) hn) (fun z=>by rw [f0 a z] at e;cases e) (up a o e)) (fun a o e=>(B.nn a o e).imp id (dn a)) fun n l' hn en=>by
   have c:n < ss.length:=(List.getElem?_eq_some_iff.mp hn).1
   refine B.st.E7 (i:=n) ?_ (by rw [DE n c];exact en)
   rw [CJ (by omega)]
   exact (at' n c).trans hn
  cases r
  refine ⟨rfl,q (.ref x) [] _ F' H' (m1.trans M3) ro nd (fun a ha=>?_) k2⟩
  have h1:H1 a=none:=(qa a ha).2.elim (dn a) (f0 a)
  exact ⟨(qa a ha).1,m1.st.Dz h1,.inr (m1.none h1)⟩⟩
end
end Fz
namespace L2
section
variable {X:Cx}{o e value:Expr}{f:Str}{pos pos' Pr:Pos}{ta tv:TE}
theorem CT (he:QE X e ta) (hb:attributeBase e f X.env (eval e X.env)=eval e X.env:=by rfl):QE X (.Attribute e f pos) (JJ X.K ta f):=⟨nV he.h hb⟩
theorem JC (ha:QE X o ta) (hv:QE X value tv) (hs:swapsWith value (some (.Attribute o f pos')) pos.line X.env=pure false:=by rfl):QS X (.Assign [.Attribute o f pos'] value pos) (Xh X.K ta tv f):=⟨lZ ha.h hv.h hs⟩
theorem UZ {op:Operator}{rd:V->V->Hp->VK->Prop}(ha:QE X o ta) (hv:QE X value tv) (Ss:fu X op rd):QS X (.AugAssign (.Attribute o f Pr) op value pos) (SR X.K ta tv rd f):=⟨jn ha.h hv.h Ss⟩
end
end L2
namespace Fz
open L2 Lw
section
variable [Xw]
variable {ss:List Slot}{ta tv:TE}{nx:List Slot->Prop}{R:Ay}{i:Nat}{t:OV}{K:ZCy}{f:Str}
theorem Vg {g:Int->Int->Int}(h:Wl ss i t ta fun p u=>∃ lt C dx ns a us n x,ss[i]?=some (.ow lt t)/\u=.nd (.obj C dx ns) a us/\Bf K C/\BK K C f/\ns.length < 1000/\Co ns f=some n/\us[n]?=some (.fz (.int x))/\Wp ss tv fun q=>∃ y,q=.int y/\nx (ss.set i (.ow lt (t.put p (.nd (.obj C dx ns) a (us.set n (.fz (.int (g x y))))))))):Ws ss (SR K ta tv (aK g) f) nx R:=⟨fun E D σ F H S hn hr=>
 h.go E σ F H _ S fun v p u F1 H1 m1 r1 B6 ⟨lt,C,dx,ns,a,us,n,x,hi,eu,hc,Wc,hz,hx,hu,h2⟩=>by
  subst eu
  have ev:v=.ref a:=by cases r1;rfl
  subst ev
  have FY:=r1
  cases r1 with
  | @nd _ _ vs _ ha sd ft rr=>
   obtain ⟨w,hw,rw_⟩:=rr.get hu
   have ew:w=.int x:=by cases rw_ with | fz r=>cases r;rfl
   subst ew
   refine ⟨a,C,dx,ns.zip vs,.int x,rfl,ha,hc,Wc,Qt hx hw,h2.go E σ F1 H1 _ m1.st fun v2 q F2 H2 m2 r2 ⟨y,ey,kk⟩=>?_⟩
   subst ey;cases r2
   refine ⟨x,y,rfl,rfl,?_⟩
   have r3:=FY.mv m1.st ⟨lt,hi⟩ B6 m2
   cases r3 with
   | @nd _ _ GS _ zh y0 Ms Iz=>
    have HG:ns.length=GS.length:=Ms
    have vl:=Iz.length
    obtain ⟨ep,fl⟩:=Xk (f:=f) (v:=.int (g x y)) HG
    refine ⟨dx,ns.zip GS,zh,by rw [OX];omega,?_⟩
    have Kc:n < us.length:=by have:=XI hx;omega
    obtain ⟨v0,e0,r0,Cy,q0⟩:=m2.st.ok i _ hi
    have D7:(OV.nd (.obj C dx ns) a us).addrs.Nodup:=by
     obtain ⟨l,rr,e1,_⟩:=OV.split B6
     rw [e1,Cb,Cb] at Cy
     exact Cy.1.2.1
    rw [Ij] at D7
    have LK:=(List.nodup_cons.mp (List.nodup_cons.mp D7).2).2
    have e3:Kh ns f=ns:=by unfold Kh;rw [hx]
    have e4:Iu ns GS f (.int (g x y))=GS.set n (.int (g x y)):=by unfold Iu;rw [hx]
    rw [ep,e3,e4]
    rw [e3,e4] at fl
    obtain ⟨l,r,e1,e2⟩:=Hq (B1 Kc)
    have M:=Sg.Zj (m:=[]) (u:=.fz (.int (g x y))) (us':=us.set n (.fz (.int (g x y)))) m1.st m2.st hi B6 y0 (fun b hb=>by rw [OV.HV] at hb;cases hb) (by simp) (Iz.set n (.fz (.int _))) fl (by
     rw [e2]
     rw [e1] at LK
     exact R7 LK (by rw [OV.HV];exact Oa) fun b hb=>by rw [OV.HV] at hb;cases hb) fun b hb=>by
      rw [e2,OV.HV] at hb
      rcases List.mem_append.mp hb with z | z
      ·rcases List.mem_append.mp z with z | z
       ·exact .inl (by rw [e1];simp [z])
       ·cases z
      ·exact .inl (by rw [e1];simp [z])
    exact hn _ σ F2 _ kk M (m1.ff.trans m2.ff)⟩
end
end Fz
namespace L2
section
variable {X:Cx}{o e:Expr}{td ty:TE}{apos Bk:Pos}
theorem cu (ho:QE X o td) (he:QE X e ty) (m:M1 X o "pop" apos e Bk):QE X (.Call (.Attribute o "pop" apos) [e] [] Bk) (TZ td ty):=⟨ZAs ho.h he.h m⟩
end
end L2
namespace Fz
open L2 Lw
theorem Zu:∀ {ks:List Key}{vs:List V}{key:Key}{n:Nat},ks.Nodup->C9 ks key=some n->ks.length=vs.length->Iw (ks.zip vs) key=(ks.eraseIdx n).zip (vs.eraseIdx n)
 | [],_,_,_,_,h,_=>by cases h
 | _ :: _,[],_,_,_,_,hl=>by simp at hl
 | k' :: ks,w :: vs,key,n,nd,h,hl=>by
  obtain ⟨n1,n2⟩:=List.nodup_cons.mp nd
  rw [C9] at h
  unfold Iw
  rw [Ig,YN]
  by_cases c:k'=key
  ·rw [if_pos c] at h;cases h
   rw [if_neg (by simp [c])]
   show List.filter _ _=ks.zip vs
   refine List.filter_eq_self.mpr fun kv jf=>?_
   have:kv.1∈ks:=(YS (a:=kv.1) (b:=kv.2) jf).1
   exact decide_eq_true fun z=>n1 (by rw [c,<- z];exact this)
  ·rw [if_neg c] at h
   cases e:C9 ks key with
   | none=>rw [e] at h;cases h
   | some m=>
    rw [e] at h;cases h
    rw [if_pos (decide_eq_true c)]
    have ih:=Zu (vs:=vs) n2 e (by simpa using hl)
    unfold Iw at ih
    rw [ih]
    rfl
theorem VG {α:Type}:∀ (l:List α) (n:Nat),n < l.length->(l.eraseIdx n).length=l.length - 1
 | [],_,h=>by simp at h
 | _ :: _,0,_=>rfl
 | x :: t,n+1,h=>by
  have h':n < t.length:=by simpa using h
  rw [OR,Bc,VG t n h',Bc]
  omega
theorem Aq.eA {F H:Hp}:∀ {vs:List V}{us:List OV}(n:Nat),Aq F H vs us->Aq F H (vs.eraseIdx n) (us.eraseIdx n)
 | _,_,_,.nil=>.nil
 | _,_,0,.cons _ t=>t
 | _,_,n+1,.cons r t=>.cons r (Aq.eA n t)
theorem WS:∀ (us:List OV) (n:Nat),(OV.Ai (us.eraseIdx n)).Sublist (OV.Ai us)
 | [],_=>ZBs _
 | u :: us,0=>by rw [List.eraseIdx_cons_zero,OV.Cr];exact List.sublist_append_right _ _
 | u :: us,n+1=>by rw [OR,OV.Cr,OV.Cr];exact List.Sublist.append (ZBs _) (WS us n)
section
variable [Xw]
variable {ss:List Slot}{td ty:TE}{nx:List Slot->Prop}{R:Ay}{i:Nat}{t:OV}
theorem fQ (h:Wl ss i t td fun p u=>∃ lt a ks us,ss[i]?=some (.ow lt t)/\u=.nd (.Ao ks) a us/\ks.Nodup/\Wp ss ty fun q=>∃ key n,q=Fw key/\C9 ks key=some n/\nx (ss.set i (.ow lt (t.put p (.nd (.Ao (ks.eraseIdx n)) a (us.eraseIdx n)))))):Ws ss (J1 (TZ td ty)) nx R:=⟨fun E D σ F H S hn hr=>
 h.go E σ F H _ S fun v p u F1 H1 m1 r1 B6 ⟨lt,a,ks,us,hi,eu,hk,h2⟩=>by
  subst eu
  have ev:v=.ref a:=by cases r1;rfl
  subst ev
  have FY:=r1
  cases r1 with
  | @nd _ _ Gf _ yS sd0 ft0 rr0=>
   refine ⟨a,rfl,.inl ⟨_,.inl yS⟩,h2.go E σ F1 H1 _ m1.st fun v2 q F2 H2 m2 r2 ⟨key,n,eq,hx,kk⟩=>?_⟩
   subst eq
   have r3:=FY.mv m1.st ⟨lt,hi⟩ B6 m2
   cases r3 with
   | @nd _ _ vs _ ha sd ft rr=>
    have HG:ks.length=vs.length:=ft
    have vl:=rr.length
    have Kc:n < ks.length:=(List.getElem?_eq_some_iff.mp (YE hx)).1
    have hv:=B1 (show n < vs.length by omega)
    refine ⟨_,key,_,ha,JD r2,Si hx hv,?_⟩
    obtain ⟨v0,e0,r0,Cy,q0⟩:=m2.st.ok i _ hi
    have D7:(OV.nd (.Ao ks) a us).addrs.Nodup:=by
     obtain ⟨l,rr,e1,_⟩:=OV.split B6
     rw [e1,Cb,Cb] at Cy
     exact Cy.1.2.1
    rw [Jl] at D7
    rw [Zu hk hx HG]
    have M:=Sg.du (m:=[]) (u:=.fz .AF) (ks':=ks.eraseIdx n) (us':=us.eraseIdx n) m1.st m2.st hi B6 (fun b hb=>by rw [OV.HV] at hb;cases hb) (by simp) (rr.eA n) (by rw [VG _ _ Kc,VG _ _ (by omega)];omega) ((List.nodup_cons.mp D7).2.sublist (WS us n)) fun b hb=>.inl ((WS us n).subset hb)
    exact hn _ σ F2 _ kk M (m1.ff.trans m2.ff)⟩
end
end Fz
namespace L2
def DB (P:Program) (w:World) (K:ZCy) (mg:ZD0) (base:Heap) (C:Addr) (m:Str) (k:Nat) (ps:List Str) (sp:Sp):Prop:=
 ∃ f fd,DD P w K mg base Ft k f fd ps sp/\Binds K fd ps []/\Meth K C m f/\Bf K C
def Mz (P:Program) (w:World) (K:ZCy) (mg:ZD0) (base:Heap) (C:Addr) (k:Nat) (ps:List Str) (sp:Sp):Prop:=
 ∃ f fd,DD P w K mg base Ft k f fd ps sp/\Binds K fd ps []/\Mk K C f
section
variable {X:Cx}{o e:Expr}{es:List Expr}{m x:Str}{C:Addr}{k j:Nat}{ps:List Str}{sp:Sp}{ta:TE}{t:TA}{apos pos p:Pos}
theorem FR {pl:Sem Bool}(h:DB X.prog X.w X.K X.mg X.base C m k ps sp) (hr:Bn j X.A) (hk:k<=j) (he:QE X o ta) (ha:QA X (e :: es) t)
  (BY:starEach (e :: es) X.env=(false,eval e X.env) :: starEach es X.env:=by rfl) (Bh:(backTo pos (starEach es X.env)).any (·.1)=false:=by rfl)
  (ht:eval (.Call (.Attribute o m apos) (e :: es) [] pos) X.env=(do
   let ov <- eval o X.env
   standAt apos.atName
   let (f,first) <- holding [ov] (getMethod ov m pl)
   callWith pos f first (backTo pos (starEach (e :: es) X.env)) (backToKw pos (keywordEach [] X.env))):=by rfl) :
  QE X (.Call (.Attribute o m apos) (e :: es) [] pos) (Jo C m sp [] E0 ta t):=by
 obtain ⟨f,fd,F,b,hm,c⟩:=h
 exact ⟨rY he.h c hm (F.mono hk) hr b .nil Y8 ha.h BY Bh ht⟩
theorem gk (h:Mz X.prog X.w X.K X.mg X.base C k ps sp) (hr:Bn (j+1) X.A) (hk:k<=j) (hm:X.mg x=some (.ref C)) (ha:QA X (e :: es) t) (hg:Gl X x:=by rfl) (CC:(x == ("__debug__" : Str))=false:=by decide)
  (he:starEach (e :: es) X.env=(false,eval e X.env) :: starEach es X.env:=by rfl) (Bh:(backTo pos (starEach es X.env)).any (·.1)=false:=by rfl):QE X (.Call (.Name x p) (e :: es) [] pos) (TN C sp [] E0 t):=by
 obtain ⟨f,fd,F,b,M⟩:=h
 exact ⟨ZAv M (F.mono hk) hr hg hm b .nil Y8 ha.h CC he Bh⟩
end
def D0 (xs:Array Nat):Prop:=xs.toList.Pairwise (· < ·)
theorem D0.get {xs:Array Nat}(hr:D0 xs){i j:Nat}(Fl:i < j) (h:j < xs.size):xs[i]'(by omega) < xs[j]:=by
 have q:=List.pairwise_iff_getElem.mp hr i j (by rw [Cj];omega) (by rw [Cj];omega) Fl
 simpa using q
theorem wK (xs:Array Nat) (hr:D0 xs) (j:Nat):∀ (f lo hi:Nat),lo<=hi->hi<=xs.size->hi - lo<=f->(∀ i,i < lo->(h:i < xs.size)->xs[i] < j)->(∀ i,hi<=i->(h:i < xs.size)->j<=xs[i])->
  SetTable.below.go xs j f lo hi<=xs.size/\(∀ i,i < SetTable.below.go xs j f lo hi->(h:i < xs.size)->xs[i] < j)/\∀ i,SetTable.below.go xs j f lo hi<=i->(h:i < xs.size)->j<=xs[i]:=by
 intro f
 induction f with
 | zero=>
  intro lo hi h1 h2 h3 h4 h5
  have e:lo=hi:=by omega
  subst e
  exact ⟨h2,h4,h5⟩
 | succ f ih=>
  intro lo hi h1 h2 h3 h4 h5
  unfold SetTable.below.go
  by_cases hl:lo < hi
  ·rw [if_pos hl]
   have hm:(lo+hi) / 2 < xs.size:=by omega
   have eg:xs.getD ((lo+hi) / 2) j=xs[(lo+hi) / 2]:=by simp [Array.getD,hm]
   dsimp only
   rw [eg]
   by_cases hc:xs[(lo+hi) / 2] < j
   ·rw [if_pos hc]
    refine ih _ _ (by omega) h2 (by omega) (fun i DM h=>?_) h5
    by_cases e:i=(lo+hi) / 2
    ·subst e;exact hc
    ·exact ig (hr.get (by omega) hm) hc
   ·rw [if_neg hc]
    refine ih _ _ (by omega) (by omega) (by omega) h4 (fun i DM h=>?_)
    by_cases e:i=(lo+hi) / 2
    ·subst e;omega
    ·exact Ob (L5 (ZCA hc) (hr.get (by omega) h))
  ·rw [if_neg hl]
   have e:lo=hi:=by omega
   subst e
   exact ⟨h2,h4,h5⟩
theorem dM {xs:Array Nat}(hr:D0 xs) (j:Nat):SetTable.below xs j<=xs.size/\(∀ i,i < SetTable.below xs j->(h:i < xs.size)->xs[i] < j)/\∀ i,SetTable.below xs j<=i->(h:i < xs.size)->j<=xs[i]:=
 wK xs hr j _ _ _ (Cc _) (An _) (by omega) (fun i h=>by omega) (fun i h h'=>by omega)
theorem y2 {α:Type} (xs:Array α) (p:Nat) (x:α) (hp:p<=xs.size):(SetTable.insertAt xs p x).toList=xs.toList.take p++x :: xs.toList.drop p:=by
 unfold SetTable.insertAt
 simp [Rw]
theorem D0.insert {xs:Array Nat}(hr:D0 xs){j:Nat}(hj:j∉xs.toList):D0 (SetTable.insertAt xs (SetTable.below xs j) j):=by
 obtain ⟨h1,h2,h3⟩:=dM hr j
 unfold D0
 rw [y2 _ _ _ h1,List.pairwise_append]
 refine ⟨ZBr (ZC8 _ _) hr,List.pairwise_cons.mpr ⟨fun a ha=>?_,ZBr (List.drop_sublist _ _) hr⟩,fun a ha b hb=>?_⟩
 ·obtain ⟨i,hi,e⟩:=List.mem_iff_getElem.mp ha
  rw [ZC0] at e
  have DM:SetTable.below xs j+i < xs.size:=by rw [E8,Cj] at hi;omega
  have q:=h3 _ (ZC9 _ _) DM
  have e':xs[SetTable.below xs j+i]=a:=by simpa using e
  rw [e'] at q
  have:a≠j:=fun z=>hj (z▸iY ha)
  omega
 ·have Q4:a < j:=by
   obtain ⟨i,hi,e⟩:=List.mem_iff_getElem.mp ha
   rw [ZC1] at e
   rw [CF,Cj] at hi
   have q:=h2 i (by omega) (by omega)
   have e':xs[i]=a:=by simpa using e
   rw [e'] at q;exact q
  rcases List.mem_cons.mp hb with rfl | hb
  ·exact Q4
  ·obtain ⟨i,hi,e⟩:=List.mem_iff_getElem.mp hb
   rw [ZC0] at e
   have DM:SetTable.below xs j+i < xs.size:=by rw [E8,Cj] at hi;omega
   have q:=h3 _ (ZC9 _ _) DM
   have e':xs[SetTable.below xs j+i]=b:=by simpa using e
   rw [e'] at q;omega
theorem Zc {t:SetTable}(hr:D0 t.place){j:Nat}(h:∀ i,t.slot j≠.live i):j∉t.place.toList:=by
 intro hm
 obtain ⟨i,hi,e⟩:=List.mem_iff_getElem.mp hm
 rw [Cj] at hi
 have e':t.place[i]=j:=by simpa using e
 obtain ⟨h1,h2,h3⟩:=dM hr j
 have hb:SetTable.below t.place j=i:=by
  rcases Rx i (SetTable.below t.place j) with z | z | z
  ·have:=h2 i z hi;omega
  ·exact z.symm
  ·have q:=h3 _ (An _) (by omega)
   have r:=hr.get z hi
   omega
 refine h (SetTable.below t.place j) ?_
 unfold SetTable.slot
 dsimp only
 rw [if_pos (by rw [hb,Array.getElem?_eq_getElem hi,e'];simp)]
theorem vH (t:SetTable) (hs:Nat->Int) (h:Int):∀ (f:Nat) (p:SetTable.Probe) (j:Nat) (d:Option Nat),(∀ d',p.dummy=some d'->∀ i,t.slot d'≠.live i)->SetTable.probe.go t hs h f p=some (.empty j d)->
  (∀ i,t.slot j≠.live i)/\∀ d',d=some d'->∀ i,t.slot d'≠.live i:=by
 intro f
 induction f with
 | zero=>intro p j d _ e;simp [SetTable.probe.go] at e
 | succ f ih=>
  intro p j d hd e
  have iJ:∀ q:SetTable.Probe,(t.advance q).dummy=q.dummy:=by
   intro q;unfold SetTable.advance;split <;> rfl
  unfold SetTable.probe.go at e
  split at e
  ·next EZ=>
   simp only [S7,SetTable.Met.empty.injEq] at e
   obtain ⟨e1,e2⟩:=e
   subst e1;subst e2
   exact ⟨fun i z=>(by rw [EZ] at z;cases z),hd⟩
  ·next EZ=>
   refine ih _ j d (fun d' ed i=>?_) e
   rw [iJ] at ed
   cases ed
   rw [EZ];intro z;cases z
  ·split at e
   ·simp at e
   ·refine ih _ j d (fun d' ed i=>?_) e
    rw [iJ] at ed
    exact hd d' ed i
theorem w6 {t:SetTable}(hr:D0 t.place){h:Int}{j:Nat}{b:Bool}(e:t.freeSlot h=some (j,b)):j∉t.place.toList:=by
 unfold SetTable.freeSlot at e
 split at e
 ·next j0 d hp=>
  unfold SetTable.probe at hp
  obtain ⟨h1,h2⟩:=vH t _ h _ _ j0 d (fun d' z=>by simp [SetTable.probeStart] at z) hp
  simp only [S7,Prod.mk.injEq] at e
  obtain ⟨e1,_⟩:=e
  subst e1
  cases d with
  | none=>exact Zc hr h1
  | some d=>exact Zc hr (h2 d rfl)
 ·simp at e
theorem PD (n:Nat):D0 (Array.range n):=by
 unfold D0
 rw [Array.toList_range]
 exact ZC7
theorem mE {t:SetTable}{n:Nat}(h:D0 t.place):D0 (t.orStandIn n).place:=by
 unfold SetTable.orStandIn
 split
 ·exact h
 ·exact PD n
theorem jR {t:SetTable}(hr:D0 t.place) (es:Array (Int×Value)) (h:Int) (x:Value):D0 (layNew t es h x).2.1.place:=by
 unfold layNew
 split
 ·next j b e=>
  refine mE ?_
  exact hr.insert (w6 hr e)
 ·exact PD _
theorem tq {t:SetTable}(es:Array (Int×Value)) (n:Nat):D0 (relayAll t es n).2.1.place:=by
 unfold relayAll
 split
 ·next t' order hr=>
  dsimp only
  split
  ·unfold SetTable.relaid SetTable.laid at hr
   generalize SetTable.layClean _ _=lc at hr
   cases lc with
   | none=>simp at hr
   | some ow=>
    simp only [Option.bind_eq_bind,Option.bind_some,Option.pure_def,S7,Prod.mk.injEq] at hr
    obtain ⟨rfl,_⟩:=hr
    unfold D0
    simp only
    rw [List.pairwise_map,List.pairwise_filterMap]
    refine ZBp ?_ (ZC7 (n:=SetTable.sizeAbove n - 1+1))
    intro a b Ds u hu v hv
    cases ha:ow.getD a none with
    | none=>rw [ha] at hu;simp at hu
    | some a'=>
     rw [ha] at hu
     cases hb:ow.getD b none with
     | none=>rw [hb] at hv;simp at hv
     | some b'=>
      rw [hb] at hv
      simp only [S6,S7] at hu hv
      subst hu;subst hv
      exact Ds
  ·exact PD _
 ·exact PD _
theorem su (t:SetTable) (es:Array (Int×Value)) (n:Nat):(relayAll t es n).2.1.led=t.led:=by
 unfold relayAll
 split
 ·next t' order hr=>
  have q:=Yx (p:=(t',order)) hr
  dsimp only at q ⊢
  split
  ·exact q.1
  ·rfl
 ·rfl
def Tg (prog:Program) (w:World) (h:Heap) (a:Addr) (S:Int->Bool) (n:Nat):Prop:=
 ∃ o es ep t,h.get? a=some o/\o.ExactSet/\o.data=.set es ep t/\ElemsOf (PySem.intKind prog w) es.toList/\(∀ k,S k=true↔∃ e∈es.toList,(PySem.intKind prog w).is k e.2=true)/\
  es.size < scanBound/\t.fits es.size=true/\es.size=n/\(t.led=!cS w)/\D0 t.place
section
variable {prog:Program}{w:World}{A:Around}{E:Value->Shared->Prop}{s:Shared}
theorem Tg.put {a:Addr}{S:Int->Bool}{n:Nat}{k:Int}{tk:Tok}{Q:Bool->Shared->Prop}(hS:Tg prog w s.heap a S n) (Jm:n+1 < scanBound)
  (h:∀ h',Heap.SameBut a s.heap h'->Tg prog w h' a (fun k'=>S k' || decide (k'=k)) (if S k then n else n+1)->Q (!S k) { s with heap:=h' }) :
  wpAny (model prog w) A (setAddHashed a (.int k tk) ((PySem.intKind prog w).hash k)) Q E s:=by
 obtain ⟨o,es,ep,t,ho,hex,hd,IA,Eg,hb,hf,hn,NX,Bh⟩:=hS
 have IG:(PySem.intKind prog w).is k (.int k tk)=true:=by simp [PySem.intKind,Value.isInt]
 have KU:(Value.int k tk).scannable=true:=rfl
 have rm:es.size+1 < scanBound:=by rw [hn];exact Jm
 have gw:∀ (b:Bool) (s1:Shared) (Q1:Unit->Shared->Prop),Q1 () s1->wpAny (model prog w) A (match b with | true=>rule "set.scan.the-table-gave-way" | false=>pure ()) Q1 E s1:=by
  intro b s1 Q1 q;cases b
  ·exact wpAny_pure q
  ·exact wpAny_rule q
 unfold setAddHashed setAddHashedIn
 refine wpAny_holding ?_
 refine wpAny_bind (wpAny_setState_of ho hd hf ?_)
 dsimp only
 rw [byScan_of KU hb IA]
 simp only [↓reduceIte]
 unfold setAddByScan
 refine wpAny_bind ?_
 refine wpAny_bind (wpAny_rule ?_)
 refine wpAny_bind (wpAny_setScan_of IG ho hd hf IA ?_)
 cases hr:List.findIdx? (fun e=>(PySem.intKind prog w).is k e.2) es.toList with
 | some j=>
  dsimp only
  obtain ⟨hj,U8,_⟩:=List.findIdx?_eq_some_iff_getElem.mp hr
  have hk:S k=true:=(Eg k).mpr ⟨es.toList[j],OT hj,U8⟩
  refine wpAny_pure ?_
  refine wpAny_pure ?_
  have q:=h s.heap (Heap.SameBut.refl a s.heap) ⟨o,es,ep,t,ho,hex,hd,IA,fun k'=>by
   rw [<- Eg k',Bool.or_eq_true,decide_eq_true_eq]
   exact ⟨fun z=>z.elim id fun e=>e▸hk,Or.inl⟩,hb,hf,by rw [if_pos hk];exact hn,NX,Bh⟩
  rw [hk] at q
  exact q
 | none=>
  dsimp only
  have hk:S k=false:=by
   cases e:S k with
   | false=>rfl
   | true=>
    obtain ⟨x,hx,hp⟩:=(Eg k).mp e
    have q:=List.findIdx?_eq_none_iff.mp hr x hx
    rw [hp] at q;exact Bool.noConfusion q
  have p1:=layNew_perm t es ((PySem.intKind prog w).hash k) (.int k tk)
  have f1:=layNew_fits t es ((PySem.intKind prog w).hash k) (.int k tk)
  have r1:=jR Bh es ((PySem.intKind prog w).hash k) (.int k tk)
  have l1:=Yj t es ((PySem.intKind prog w).hash k) (.int k tk)
  generalize layNew t es ((PySem.intKind prog w).hash k) (.int k tk)=L at p1 f1 r1 l1 ⊢
  obtain ⟨B3,t1,wd,gv⟩:=L
  dsimp only at p1 f1 r1 l1 ⊢
  rw [ZBl] at p1
  have S9:ElemsOf (PySem.intKind prog w) B3.toList:=(IA.push IG KU).perm p1
  have m1:∀ k',(S k' || decide (k'=k))=true↔∃ e∈B3.toList,(PySem.intKind prog w).is k' e.2=true:=mem_push_iff IG Eg p1
  have z1:B3.size=n+1:=by rw [<- Cj,p1.length_eq,Bm,Cj,hn];rfl
  have b1:B3.size < scanBound:=by rw [z1];exact Jm
  have fin:∀ (h':Heap) (o':Obj) (CQ:Array (Int×Value)) (GZ:Nat) (t':SetTable),Heap.SameBut a s.heap h'->h'.get? a=some o'->o'.ExactSet->o'.data=.set CQ GZ t'->CQ.toList.Perm B3.toList->t'.fits CQ.size=true->t'.led=t.led->D0 t'.place->
    Q true { s with heap:=h' }:=by
   intro h' o' CQ GZ t' sb go xo d' pp ff ll pf
   have zz:CQ.size=n+1:=by rw [<- z1,<- Cj,pp.length_eq,Cj]
   have q:=h h' sb ⟨o',CQ,GZ,t',go,xo,d',S9.perm pp,fun k'=>(m1 k').trans ⟨fun ⟨e,he,q⟩=>⟨e,pp.mem_iff.mpr he,q⟩,fun ⟨e,he,q⟩=>⟨e,pp.mem_iff.mp he,q⟩⟩,by rw [zz];exact Jm,ff,by rw [hk];exact zz,ll.trans NX,pf⟩
   rw [hk] at q
   exact q
  have tail:∀ (t2:SetTable),t2.fits B3.size=true->t2.led=t.led->D0 t2.place->wpAny (model prog w) A (do
    storeSet a B3 t2
    if (
      !wd && t2.tooFull)=true then do
      (match (relayAll t2 B3 (SetTable.grown B3.size)).2.2 with | true=>rule "set.scan.the-table-gave-way" | false=>pure ())
      storeSet a (relayAll t2 B3 (SetTable.grown B3.size)).1 (relayAll t2 B3 (SetTable.grown B3.size)).2.1
      pure (some true)
     else pure (some true)) (fun r s'=>match r with | some b=>Q b s' | none=>False) E s:=by
   intro t2 f2 l2 Ow
   refine wpAny_bind (wpAny_storeSet_of ho hd ?_ (fits_of_scanBound b1))
   have o1:=Pg ho hd B3 t2
   have O7:=YF s.heap a (Obj.putSet B3 t2)
   split
   ·have p3:=relayAll_perm t2 B3 (SetTable.grown B3.size)
    have f3:=relayAll_fits t2 B3 (SetTable.grown B3.size)
    have r3:=tq (t:=t2) B3 (SetTable.grown B3.size)
    have l3:=su t2 B3 (SetTable.grown B3.size)
    generalize relayAll t2 B3 (SetTable.grown B3.size)=Rl at p3 f3 r3 l3 ⊢
    obtain ⟨KZ,t3,g3⟩:=Rl
    dsimp only at p3 f3 r3 l3 ⊢
    have z3:KZ.size=B3.size:=by rw [<- Cj,p3.length_eq,Cj]
    refine wpAny_bind (gw _ _ _ ?_)
    refine wpAny_bind (wpAny_storeSet_of o1 rfl ?_ (fits_of_scanBound (by rw [z3];exact b1)))
    refine wpAny_pure ?_
    exact fin _ _ KZ _ t3 (O7.trans (YF _ a _)) (Pg o1 rfl KZ t3) hex rfl p3 f3 (l3.trans l2) r3
   ·exact wpAny_pure (fin _ _ B3 _ t2 O7 o1 hex rfl (List.Perm.refl _) f2 l2 Ow)
  refine wpAny_bind (gw _ _ _ ?_)
  split
  ·next Ec=>
   refine wpAny_bind ?_
   rw [hashByValue_scannable 8 KU]
   refine wpAny_pure ?_
   refine wpAny_mono (tail t1 f1 l1 r1) (fun r s' q=>?_) fun _ _ e=>e
   cases r with
   | none=>exact q.elim
   | some b=>exact wpAny_pure q
  ·next Ec=>
   refine wpAny_bind (wpAny_pure ?_)
   simp only [↓reduceIte]
   refine wpAny_mono (tail t1 f1 l1 r1) (fun r s' q=>?_) fun _ _ e=>e
   cases r with
   | none=>exact q.elim
   | some b=>exact wpAny_pure q
end
section
variable {prog:Program}{w:World}{A:Around}
end
theorem IntsAre.len:∀ {vs:List Value}{ss:List Int},IntsAre vs ss->vs.length=ss.length
 | _,_,.nil=>rfl
 | _,_,.cons _ _ h=>by rw [Bc,Bc,IntsAre.len h]
section
variable {prog:Program}{w:World}{A:Around}{E:Value->Shared->Prop}{s:Shared}
end
end L2
set_option maxHeartbeats 200000
namespace L2
section
variable {prog:Program}{w:World}{A:Around}{E:Value->Shared->Prop}{s:Shared}
end
end L2
set_option maxHeartbeats 4000000
namespace L2
section
variable {prog:Program}{w:World}{A:Around}{R:Result->Shared->Prop}{I:Addr}{fp wr:List Addr}{G:Array GenState->Array GenState->Prop}{n:Nat}{P:Nat->Value->Prop}{St:Nat->Shared->Prop}{ss:List Int}
end
section
variable {prog:Program}{w:World}{A:Around}{E:Value->Shared->Prop}{s:Shared}{ss:List Int}
end
section
variable {X:Cx}
end
end L2
namespace Fz
open L2 Lw
section
variable [Xw]
variable {E:Ent0}{ss:List Slot}{σ:L2.St} {F H F' H':Hp}{K:ZCy}{js:List Nat}{ta tb tc te:TE}{nx:List Slot->Prop}{R:Ay}{xs ys:List PV}{P:Program}{w:World}
end
section
variable [Xw]
variable {E:Ent0}{ss:List Slot}{σ:L2.St} {F H F' H':Hp}{K:ZCy}{ta tb tc te:TE}{k:PV->Prop}{xs:List PV}{nx:List Slot->Prop}{R:Ay}
end
end Fz
namespace L2
def T5 (K:ZCy) (S:Addr) (tb:(St->XK)->TS) (th:TS):TS:=fun D σ H=>∃ E1:St->XK,tb E1 D σ H/\
 ∀ σ1 C dx ea H1,E1 σ1 (.ref C) dx H1->H1 ea=none->PySem.W.exmOne K (.ref C) (.ref S)=some true/\th D σ1 H1
section
variable {X:Cx}{x:Str}{S:Addr}{body Dq:List Stmt}{b0:Stmt}{np IT pos:Pos}{LV:(St->XK)->TS}{th:TS}
theorem ZAE (BY:X.stack=X.env :: X.outer) (hex:X.ex=[]) (hg:Gl X x) (hm:X.mg x=some (.ref S))
  (hb:∀ (pn:ZCz) (xe:Value->Shared->Prop) (E1:St->XK),Goes (X.G0 pn xe) E1->DX (X.G0 pn xe) body (LV E1))
  (hh:∀ e,DX (X.Dq e) (b0 :: Dq) th) (CC:(x == ("__debug__" : Str))=false:=by decide) :
  PS X (.Try body [.ExceptHandler (some (.Name x np)) none (b0 :: Dq) IT] [] [] pos) (T5 X.K S LV th):=by
 intro pins s σ H D I h
 obtain ⟨E1,h1,h2⟩:=h
 have hf:X.env.frame=some X.env.locals:=by
  rcases I.ok.Ho with e | ⟨_,hf⟩
  ·rw [e] at BY
   exact absurd (congrArg List.length BY) (by simp)
  ·exact hf
 refine wpAny_Try_except ?_
 refine wpAny_mono (hb (X.pn++pins) _ E1 ?_ [] s σ H D I.G0 h1) (fun f s1 q=>?_) (fun e s1 q=>q)
 ·intro ee σ1 H1 s1 ea C dx tb I1 x1 ⟨u1,u2⟩ ut hp hE
  have M0:Inv X pins σ1 H1 s1:=I1.Jx
  have u2:X.s₀.heap.get? ea=none:=u2
  have ut:∀ T,tb=some T->H1 T=none/\X.s₀.heap.get? T=none:=ut
  have hp:∀ p∈X.pn++pins,p.1≠ea/\tb≠some p.1:=fun p q=>hp p (Rr _ q)
  refine mV (outer:=X.outer) (L:=X.env.locals) (by rw [<- BY];exact M0.ok.frames) (base:=X.base) (by rw [<- BY];exact M0.stack) hf x1 fun h' T kp hT x'=>?_
  have I2:=M0.az BY x1 u1 u2 ut hp kp
  obtain ⟨sQ,qQ⟩:=h2 σ1 C dx ea H1 hE u1
  refine wpAny_handleBy_cons ?_ (fun z=>by cases z)
  refine codeAny_handlers_test ?_
  refine Qo (X:=X.Dq (.ref ea)) I2.Dq hg hm ?_ CC
  obtain ⟨oe,vs,he,hc,hd,Ka,hz,h3⟩:=x'.obj
  have LT:PySem.W.Looks (model X.prog X.w) h' (typeOf (.ref ea)) (.ref C):=by
   rw [<- hc]
   exact (PySem.W.Looks.ld he).andThen .now
  refine (PySem.W.exm_one (K:=X.K) I2.CW LT sQ).here ?_
  refine codeAny_handlers_suite ?_
  have fl:∀ b∈Cz (X.env :: X.outer),∃ o,h'.get? b=some o/\∀ vs,o.data≠.fields vs:=fun b hb=>by
   have st:=I2.stack
   rw [BY] at st
   obtain ⟨_,o,ho,hn⟩:=st.mem hb
   exact ⟨o,ho,hn⟩
  refine tH (s:={ s1 with heap:=h' }) (l:=X.env :: X.outer) x' fl fun h4 qq x4=>?_
  have utT:∀ T',some T=some T'->H1 T'=none/\X.s₀.heap.get? T'=none:=fun T' eT=>by
   cases eT
   exact ⟨M0.AM.fresh hT,Heap.get?_none_of_le (Cs M0.sz hT)⟩
  have jd:∀ p∈X.pn++pins,p.1≠ea/\some T≠some p.1:=fun p q=>⟨(hp p q).1,fun z=>by
   have e1:=BA (M0.pin p q).1
   rw [<- BU z] at e1
   exact absurd e1 (Nat.not_lt.mpr hT)⟩
  have I4:=I2.az BY x' u1 u2 utT jd qq
  refine wpAny_mono (hh (.ref ea) pins _ _ _ D I4.Dq qQ) (fun f s7 q=>?_) (fun _ _ z=>z.elim)
  cases f with
  | next=>
   obtain ⟨σ7,H7,I7,d⟩:=q
   exact ⟨_,_,I7.Ol I.ok,d⟩
  | brk=>
   obtain ⟨σ7,H7,I7,d⟩:=q
   exact ⟨_,_,I7.Ol I.ok,d⟩
  | cont=>
   obtain ⟨σ7,H7,I7,d⟩:=q
   exact ⟨_,_,I7.Ol I.ok,d⟩
  | ret u=>
   obtain ⟨v,σ7,H7,I7,r,d⟩:=q
   exact ⟨v,_,_,I7.Ol I.ok,r,d⟩
 ·cases f with
  | next=>
   obtain ⟨σ7,H7,I7,d⟩:=q
   exact wpAny_execs_nil ⟨_,_,I7.Jx,d⟩
  | brk=>
   obtain ⟨σ7,H7,I7,d⟩:=q
   exact ⟨_,_,I7.Jx,d⟩
  | cont=>
   obtain ⟨σ7,H7,I7,d⟩:=q
   exact ⟨_,_,I7.Jx,d⟩
  | ret u=>
   obtain ⟨v,σ7,H7,I7,r,d⟩:=q
   exact ⟨v,_,_,I7.Jx,r,d⟩
theorem mN (BY:X.stack=X.env :: X.outer) (hex:X.ex=[]) (hg:Gl X x) (hm:X.mg x=some (.ref S))
  (hb:∀ (pn:ZCz) (xe:Value->Shared->Prop) (E1:St->XK),Goes (X.G0 pn xe) E1->Gz (X.G0 pn xe) body (LV E1))
  (hh:∀ e,Gz (X.Dq e) (b0 :: Dq) th) (CC:(x == ("__debug__" : Str))=false:=by decide) :
  QS X (.Try body [.ExceptHandler (some (.Name x np)) none (b0 :: Dq) IT] [] [] pos) (T5 X.K S LV th):=⟨ZAE BY hex hg hm (fun pn xe E1 g=>(hb pn xe E1 g).h) (fun e=>(hh e).h) CC⟩
end
end L2
namespace Fz
open L2 Lw
section
variable [Xw]
variable {ss:List Slot}{nx:List Slot->Prop}{R:Ay}{K:ZCy}{S:Addr}{tb:(L2.St->XK)->TS}{th:TS}{ta te ti:TE}{xs:List PV}{F:Hp}
theorem mn (J:List Slot->Prop) (Dx:Ex->Prop) (hb:∀ E:Ent0,@Ws (Ld E J Dx) ss (tb (Ld E J Dx).e) nx R)
  (hh:∀ Nk x,J Nk->Dx x->PySem.W.exmOne K (.ref x.C) (.ref S)=some true/\Ws Nk th nx R):Ws ss (T5 K S tb th) nx R:=⟨fun E D σ F H S0 hn hr=>by
 refine ⟨(Ld (E.toEnt0.at F) J Dx).e,@Ws.go (Ld (E.toEnt0.at F) J Dx) _ _ _ _ (hb (E.toEnt0.at F)) (@Ent.mk (Ld (E.toEnt0.at F) J Dx) (E.toEnt0.at F) fun ss σ F H x C dx hJ S d B6=>⟨ss,F,x,hJ,S,d,B6⟩) D σ F H S0.kq (fun AQ σ' F' H' n S' ff=>hn AQ σ' F' H' n (S0.un S') ff) (fun v F' H' f ok=>hr v F' H' (S0.toFin.un f) (Ay.un ok)),fun σ1 C dx ea H1 he hea=>?_⟩
 obtain ⟨Nk,F1,x,hJ,S1,hD,eC,B6⟩:=he
 obtain ⟨MR,hw⟩:=hh Nk x hJ hD
 cases eC
 have S1':=S0.un S1
 exact ⟨MR,hw.go E D _ _ _ S1' (fun E5 σ2 F3 H3 n2 S2 ff=>hn _ _ F3 H3 n2 S2 (S1.f0.trans ff)) fun v F' H' f ok=>hr v F' H' f ok⟩⟩
theorem AU.rep {vs:List V}(h:AU F vs xs):∀ n:Nat,AU F (List.replicate n vs).flatten (List.replicate n xs).flatten
 | 0=>.nil
 | n+1=>by rw [YT,YT,YO,YO];exact h.append (AU.rep h n)
end
end Fz
namespace L2
section
variable {X:Cx}
end
end L2
namespace Fz
open L2 Lw
section
variable [Xw]
variable {E:Ent0}{ss:List Slot}{σ:L2.St} {F H F' H':Hp}{K:ZCy}{ta tb tc te:TE}{k:PV->Prop}{xs:List PV}{nx:List Slot->Prop}{R:Ay}
end
section
variable [Xw]
variable {ss:List Slot}{pre:Qb}{t:TA}
end
section
variable {X:Cx}
end
section
variable [Xw]
variable {ss:List Slot}{K:ZCy}{ta tb:TE}{k:PV->Prop}
end
end Fz
namespace L2
open Lw
section
variable {X:Cx}
end
end L2
namespace Fz
open L2 Lw
section
variable [Xw]
variable {E:Ent0}{ss:List Slot}{σ:L2.St} {F H F' H':Hp}{K:ZCy}{ta tb tc te:TE}{k:PV->Prop}{v:V}{tp:Bool}{xs:List PV}{nx:List Slot->Prop}{R:Ay}
end
section
variable [Xw]
variable {E:Ent0}{ss:List Slot}{σ:L2.St} {F H F' H':Hp}{K:ZCy}{js:List Nat}{ta tb te:TE}{nx:List Slot->Prop}{R:Ay}
end
section
variable [Xw]
variable {E:Ent0}{ss:List Slot}{σ:L2.St} {F H F' H':Hp}{K:ZCy}{js:List Nat}{i:Nat}{t:OV}{ta tb te:TE}{nx:List Slot->Prop}{R:Ay}
end
end Fz
namespace L2
noncomputable def HR (s:Stmt) (n:Nat):Stmt:=match s with
 | .ClassDef _ _ _ b ..=>b.getD n (.Pass ⟨0,0,0,0⟩)
 | s=>s
section
variable {X:Cx}{o e:Expr}{es:List Expr}{m x:Str}{C:Addr}{k j:Nat}{ps:List Str}{sp:Sp}{ta:TE}{t:TA}{apos pos p:Pos}{E:St->XK}
end
end L2
namespace Fz
open L2 Lw
@[reducible] noncomputable def xwM (X:XK) (t:OV) (D:Ex->Prop):Xw:=⟨fun _=>X,fun ss=>ss[0]?=some (.ow true t),D⟩
section
variable {pre:Qb}{H:Hp}
def RU (R:Ay) (AQ:List Slot):Prop:=∃ (k:PV->OV->Prop) (nk:NK) (a:Addr) (us:List OV),R=.mt k/\AQ[0]?=some (.ow true (.nd nk a us))/\k .AF (.nd nk a us)
theorem RU.ok {E:Ent0}{R:Ay}{AQ:List Slot}{σ:L2.St} {F H:Hp}(h:RU R AQ) (S:Sg E AQ σ F H):R.ok E F H .AF:=by
 obtain ⟨k,nk,a,us,rfl,h0,hk⟩:=h
 obtain ⟨v0,e0,r0,Cy,q0⟩:=S.ok 0 _ h0
 have ev:v0=.ref a:=by cases r0;rfl
 subst ev
 exact ⟨.AF,.nd nk a us,.AF,r0,Cy,fun b hb=>⟨(q0 b hb).1,(q0 b hb).2.imp id fun z=>z.2⟩,hk⟩
end
section
variable [Xw]
variable {ss:List Slot}{te tv:TE}{ta:TA}{i:Nat}{lt:Bool}{t:OV}{nx:List Slot->Prop}{R:Ay}{K:ZCy}{f:Str}
end
end Fz
namespace L2
section
variable {prog:Program}{w:World}{A:Around}{E:Value->Shared->Prop}{s:Shared}
theorem aj:typeLookup (.type "dict") "__len__" = pure (some (.builtin "dict.__len__")):=by rw [typeLookup_type,builtinLookup_eq_fast];kernel_rfl
theorem oX {S:Addr}{A5:List (Key×Value)}{n:Nat}{Q:List Value->Shared->Prop}(hh:A.handled=none) (HW:(S == sysModules)=false) (hS:s.heap.DictOf (C7 prog w) S A5) (en:A5.length=n) (hn:n<=sizeLine)
  (h:∀ (s':Shared) (vs:List Value),(∀ b o,s.heap.get? b=some o->s'.heap.get? b=some o)->s.heap.objs.size<=s'.heap.objs.size->s'.gens=s.gens->s'.os=s.os->vs.length=n->(∀ (i:Nat) v,vs[i]?=some v->∃ k x,A5[i]?=some (k,x)/\(C7 prog w).is k v=true)->Q vs s') :
  wpAny (model prog w) A (collect (.ref S)) Q E s:=by
 obtain ⟨ep,hS⟩:=hS.dictAt
 have Al:S < s.heap.objs.size:=hS.lt_size
 have NI:s.heap.objs.size≠S:=L6 Al
 unfold collect
 refine wpAny_bind (wpAny_runValue (codeAny_builtin F.entry_proto_collect ?_))
 rw [Around.under_plainId F.plain_proto_collect _]
 show wpAny _ A.in1 (newList [] >>= fun l=>again (.builtin "list.__iadd__" ⟨[l,.ref S],[]⟩)) _ _ s
 refine wpAny_bind (wpAny_newObj_type ?_)
 refine wpAny_pure ⟨plainId_quiet F.plain_list_iadd _,codeAny_builtin F.entry_list_iadd ?_⟩
 rw [Around.under_plainId F.plain_list_iadd _]
 generalize cV:({ cls:=.type "list", data:=.seq ([]:List Value).toArray }:Obj)=so
 have Ff:(s.heap.push so).DictAt (C7 prog w) S A5 ep:=hS.push _
 have Lk:(s.heap.push so).get? s.heap.objs.size=some so:=CI _ (by rw [<- cV];rfl)
 have sz:(s.heap.push so).objs.size=s.heap.objs.size+1:=JY ..
 have Bt:Shared.TypeIs { s with heap:=s.heap.push so } (.ref S) "dict" := Ff.dictOf.typeIs
 have h1:Builtin.List.listSameRef (.ref s.heap.objs.size) (.ref S)=false:=by simp [Builtin.List.listSameRef,NI]
 show wpAny _ A.in1 (Builtin.List.listExtendWith (.ref s.heap.objs.size) (.ref S) (.ref s.heap.objs.size)) _ _ { s with heap:=s.heap.push so }
 unfold Builtin.List.listExtendWith
 refine wpAny_bind (wpAny_typeOf Bt ?_)
 rw [if_neg (by rw [h1];decide)]
 refine wpAny_bind (wpAny_pyIter_dict (s:={ s with heap:=s.heap.push so }) HW Ff ?_)
 dsimp only
 generalize Kj:({ cls:=.type "dict_keyiterator", data:=.fields #[.ref S,.int 0 0,.int A5.length 0,.int ep 0] }:Obj)=io
 have kp:∀ b o,(s.heap.push so).get? b=some o->((s.heap.push so).push io).get? b=some o:=fun b o e=>Bl _ e
 have As:S≠(s.heap.push so).objs.size:=by rw [sz];exact Bx (Oc Al)
 have W:∀ A2:Around,A2.handled=none->Walks prog w A2 (s.heap.push so).objs.size [(s.heap.push so).objs.size,S] [(s.heap.push so).objs.size] A5.length _ _:=fun A2 h2=>Walks.dictKeys (knd:=C7 prog w) h2 (s.heap.push so).objs.size S As A5 ep
 have CK:((s.heap.push so).push io).IsKeyIter (s.heap.push so).objs.size S 0 A5.length ep/\((s.heap.push so).push io).DictAt (C7 prog w) S A5 ep:=⟨⟨io,CI _ (by rw [<- Kj];rfl),by rw [<- Kj],by rw [<- Kj];rfl⟩,Ff.push _⟩
 have Fi:s.heap.objs.size∉[(s.heap.push so).objs.size,S]:=fun hm=>by
  simp only [HE,BH,or_false] at hm
  rcases hm with z | z
  ·rw [sz] at z;omega
  ·exact NI z
 generalize kE:(s.heap.push so).push io=h2 at kp CK ⊢
 have CM:Shared.TypeIs { s with heap:=h2 } (.ref S) "dict" := by obtain ⟨o,ho,hc⟩:=Bt;exact ⟨o,kp _ _ ho,hc⟩
 refine wpAny_bind (wpAny_holding ?_)
 unfold Builtin.List.listLengthHint
 refine wpAny_bind (wpAny_specialOf CM aj ?_)
 generalize JB:("dict.__len__" : String)=Ni
 wp_delta
 rw [show splitId Ni=some ("dict", "__len__") from by subst JB;decide +kernel]
 subst JB
 refine wpAny_bind (wpAny_isInstance (b:=true) CM (by rw [isSubtype_type];kernel_rfl) ?_)
 rw [if_neg (by decide)]
 refine wpAny_ite_split (fun _=>?_) (fun Ds=>absurd (by decide +kernel) Ds)
 refine wpAny_bind (wpAny_typeOf CM ?_)
 refine wpAny_pure ?_
 refine wpAny_ite_split (fun _=>?_) (fun Ds=>absurd (by decide +kernel) Ds)
 refine wpAny_bind (wpAny_rule ?_)
 refine wpAny_bind ?_
 show wpAny _ _ (updateSeq s.heap.objs.size (·.push .none) >>= fun _=>updateSeq s.heap.objs.size (·.pop)) _ _ _
 have z0:(#[]:Array Value).size<=sizeLine:=Cc _
 have z1:((#[]:Array Value).push Value.none).size<=sizeLine:=by show 1<=sizeLine;decide
 have z2:((#[]:Array Value).push Value.none).size<=sizeLine+1:=ZCB z1
 have z3:(((#[]:Array Value).push Value.none).pop).size<=sizeLine+1:=Cc _
 have OM:=kp _ _ Lk
 subst cV
 refine wpAny_bind (wpAny_updateSeq (s:={ s with heap:=h2 }) OM rfl ?_ z0 z2)
 have q2:=HB (Obj.mapSeq (·.push Value.none)) OM rfl
 refine wpAny_updateSeq q2 rfl ?_ z1 z3
 have q3:=HB (Obj.mapSeq (·.pop)) q2 rfl
 have E4:∀ b o,b≠s.heap.objs.size->h2.get? b=some o->((h2.update s.heap.objs.size (Obj.mapSeq (·.push Value.none))).update s.heap.objs.size (Obj.mapSeq (·.pop))).get? b=some o:=
  fun b o hb e=>(Em _ _ (BS hb)).trans ((Em _ _ (BS hb)).trans e)
 refine wpAny_pure ⟨plainId_quiet ZCE _,codeAny_extend_loopS (W A.in1 hh).toS (en▸hn) _ Fi _ A5.length 0 _ #[] _ rfl (Cc _) ?_ q3 (ItemsOf.nil _) fun s' Dp c' hm EF B9=>?_⟩
 ·exact (W A.in1 hh).frame 0 h2 _ CK fun b hb o e=>E4 b o (fun z=>Fi (z▸hb)) e
 ·show wpAny _ A (load s.heap.objs.size >>= _) _ _ s'
  refine wpAny_bind (wpAny_load EF ?_)
  refine wpAny_pure ?_
  refine h s' Dp.toList (fun b o e=>?_) (Ob (BA EF)) hm.gens hm.os (by rw [Cj,B9.1];exact en) fun i v hv=>B9.2 i v (by rw [<- iK];exact hv)
  have hb:b < s.heap.objs.size:=BA e
  refine hm.heap b o ?_ (E4 b o (Bx hb) (kp b o (Bl _ e)))
  simp only [HE,BH,or_false,not_or]
  refine ⟨Bx hb,?_⟩
  rw [sz]
  exact Bx (Oc hb)
end
theorem gp {prog:Program}{w:World}:∀ {ns:List Str}{A5:List (Key×Value)}{vs:List Value},A5.map (·.1)=ns.map Sum.inr->vs.length=A5.length->(∀ (i:Nat) v,vs[i]?=some v->∃ k x,A5[i]?=some (k,x)/\(C7 prog w).is k v=true)->StrsAre vs ns
 | [],[],[],_,_,_=>.nil
 | [],[],_ :: _,_,h,_=>by simp at h
 | [],_ :: _,_,h,_,_=>by simp at h
 | _ :: _,[],_,h,_,_=>by simp at h
 | _ :: _,_ :: _,[],_,h,_=>by simp at h
 | n :: ns,kv :: A5,v :: vs,e,hl,h=>by
  rw [Bq,Bq] at e
  injection e with e1 e2
  obtain ⟨k,x,ek,hk⟩:=h 0 v rfl
  have W9:kv=(k,x):=by simpa using ek
  subst W9
  have Dl:k=Sum.inr n:=e1
  subst Dl
  rcases HA (show JI (Sum.inr n) v=true from hk) with ⟨i,t,z,_⟩ | ⟨y,t,z,rfl⟩
  ·cases z
  ·cases z
   exact .cons n t (gp e2 (by simpa using hl) fun i v hv=>h (i+1) v hv)
theorem StrsAre.qA {vs:List Value}{ns:List Str}(h:StrsAre vs ns):vs.length=ns.length:=by induction h with | nil=>rfl | cons y t h ih=>simp [ih]
section
variable {X:Cx}
def Yv:List V->Hp->VK->Prop:=fun xs H Q=>∃ (p:Addr) (A5:List (Key×V)) (ns:List Str),xs=[.ref p]/\Rd H p (.dK A5)/\A5.map (·.1)=ns.map Sum.inr/\ns.length < 64/\∀ (l:Addr) (AQ:List Str),H l=none->AQ.Perm ns->sortedS AQ=true->Q (.ref l) (upd H l (.lst (AQ.map V.str)))
theorem pZ (hc:X.calm=true):Ci X (.builtin "sorted") Yv:=by
 intro pins s σ H xs us Q I r h
 obtain ⟨p,A5,ns,rfl,hH,hk,GC,q⟩:=h
 obtain ⟨u,rfl,rx⟩:=vals1 r
 cases rx
 obtain ⟨hz,HW,Gf,rel,hS⟩:=JM I.AM hH
 have hh:X.A.handled=none:=I.ok.hd hc
 have ek:Gf.map (·.1)=ns.map Sum.inr:=rel.keys.symm.trans hk
 refine Zl (Pc:=fun vs s1=>(∀ b o,s.heap.get? b=some o->s1.heap.get? b=some o)/\s.heap.objs.size<=s1.heap.objs.size/\s1.gens=s.gens/\s1.os=s.os/\StrsAre vs ns) (fun A1 E1 Q1 hA k=>?_) ?_
 ·exact oX (hA.trans hh) HW hS rfl (by rw [<- rel.length];exact hz) fun s' vs a1 a2 a3 a4 a5 a6=>k vs s' ⟨a1,a2,a3,a4,gp ek a5 a6⟩
 ·rintro vs s1 ⟨a1,a2,a3,a4,a5⟩
  refine ⟨by rw [StrsAre.qA a5];exact GC,ns,a5,fun out AQ e h' kp he EF hp hs=>?_⟩
  exact bD I a3 a4 a1 a2 kp he EF (by rw [hp.length_eq];exact GC) fun l hl=>q l AQ hl hp hs
end
end L2
namespace Fz
open L2 Lw
theorem Qq:∀ {ks:List Key}{vs:List V},ks.length=vs.length->(ks.zip vs).map (·.1)=ks
 | [],[],_=>rfl
 | [],_ :: _,h=>by simp at h
 | _ :: _,[],h=>by simp at h
 | k :: ks,v :: vs,h=>by
  rw [Ig,Bq,Qq (by simpa using h)]
section
variable [Xw]
variable {E:Ent0}{ss:List Slot}{σ:L2.St} {F H F' H':Hp}{K:ZCy}{i:Nat}{t:OV}{ta tb te:TE}{nx:List Slot->Prop}{R:Ay}
theorem jU {k:List PV->Prop}(h:Wp ss te fun p=>∃ (xs:List PV) (ns:List Str),p=.Ao (ns.map Sum.inr) xs/\ns.length < 64/\∀ Bw:List Str,Bw.Perm ns->sortedS Bw=true->k (Bw.map PV.str)):Wn ss (CB Yv (AS te Aw)) k:=⟨fun E σ F H Q S q=>
 h.go E σ F H _ S fun v p F1 H1 m1 rp ⟨xs,ns,e,hz,kk⟩=>by
  subst e
  cases rp with
  | @Ao a _ vs _ ef hl rr=>
   refine ⟨a,_,ns,rfl,.inl (m1.st.fh _ _ ef),Qq hl,hz,fun l Bw DC hp hs=>?_⟩
   have m2:=m1.st.make DC (.lst (Bw.map V.str))
   exact q l _ _ F1 _ (m1.trans m2) (m1.st.Bb DC) (m1.none DC) AI (Kb Bw) (kk Bw hp hs)⟩
end
end Fz
namespace L2
section
variable {X:Cx}
end
end L2
namespace Fz
open L2 Lw
section
variable [Xw]
variable {E:Ent0}{ss:List Slot}{σ:L2.St} {F H F' H':Hp}{K:ZCy}{i:Nat}{t:OV}{ta tb tc te:TE}{nx:List Slot->Prop}{R:Ay}
end
end Fz
namespace L2
section
variable {prog:Program}{w:World}{A:Around}{s:Shared}{R:Result->Shared->Prop}
theorem zN {L S:Addr}{c0:Nat}{res:Value}{A5:List (Key×Value)}{n:Nat}(hh:A.handled=none) (HW:(S == sysModules)=false) (hL:s.heap.get? L=some { cls:=.type "list", data:=.seq #[] c0 }) (ra:s.heap.DictOf (C7 prog w) S A5) (en:A5.length=n) (hn:n<=sizeLine)
  (h:∀ (s':Shared) (vs:List Value) (c':Nat),(∀ b o,b≠L->s.heap.get? b=some o->s'.heap.get? b=some o)->L < s'.heap.objs.size->s'.gens=s.gens->s'.os=s.os->s'.heap.get? L=some { cls:=.type "list", data:=.seq vs.toArray c' }->vs.length=n->(∀ (i:Nat) v,vs[i]?=some v->∃ k x,A5[i]?=some (k,x)/\(C7 prog w).is k v=true)->R (.ok (.ret res)) s') :
  wpAny (model prog w) A.in1 (Builtin.List.listExtendWith (.ref L) (.ref S) res)
   (fun fin s'=>match fin with | .done f=>R (.ok f) s' | .again c'=>c'.quiet=true/\codeAny (model prog w) A c' R s') (fun e s'=>R (.error e) s') s:=by
 obtain ⟨ep,hS⟩:=ra.dictAt
 have Al:S < s.heap.objs.size:=hS.lt_size
 have NI:L≠S:=fun z=>by
  subst z
  obtain ⟨o,ho,hc⟩:=hS.dictOf.typeIs
  rw [hL] at ho
  cases ho
  exact absurd hc (by show ¬ Value.type "list" = Value.type "dict"; decide)
 have Bt:Shared.TypeIs s (.ref S) "dict" := hS.dictOf.typeIs
 have h1:Builtin.List.listSameRef (.ref L) (.ref S)=false:=by simp [Builtin.List.listSameRef,NI]
 unfold Builtin.List.listExtendWith
 refine wpAny_bind (wpAny_typeOf Bt ?_)
 rw [if_neg (by rw [h1];decide)]
 refine wpAny_bind (wpAny_pyIter_dict (s:=s) HW hS ?_)
 dsimp only
 generalize Kj:({ cls:=.type "dict_keyiterator", data:=.fields #[.ref S,.int 0 0,.int A5.length 0,.int ep 0] }:Obj)=io
 have kp:∀ b o,s.heap.get? b=some o->(s.heap.push io).get? b=some o:=fun b o e=>Bl _ e
 have As:S≠s.heap.objs.size:=Bx Al
 have W:∀ A2:Around,A2.handled=none->Walks prog w A2 s.heap.objs.size [s.heap.objs.size,S] [s.heap.objs.size] A5.length _ _:=fun A2 h2=>Walks.dictKeys (knd:=C7 prog w) h2 s.heap.objs.size S As A5 ep
 have CK:(s.heap.push io).IsKeyIter s.heap.objs.size S 0 A5.length ep/\(s.heap.push io).DictAt (C7 prog w) S A5 ep:=⟨⟨io,CI _ (by rw [<- Kj];rfl),by rw [<- Kj],by rw [<- Kj];rfl⟩,hS.push _⟩
 have Fi:L∉[s.heap.objs.size,S]:=fun hm=>by
  simp only [HE,BH,or_false] at hm
  rcases hm with z | z
  ·have q:L < s.heap.objs.size:=BA hL
   rw [z] at q;exact L4 _ q
  ·exact NI z
 generalize kE:s.heap.push io=h2 at kp CK ⊢
 have CM:Shared.TypeIs { s with heap:=h2 } (.ref S) "dict" := by obtain ⟨o,ho,hc⟩:=Bt;exact ⟨o,kp _ _ ho,hc⟩
 refine wpAny_bind (wpAny_holding ?_)
 unfold Builtin.List.listLengthHint
 refine wpAny_bind (wpAny_specialOf CM aj ?_)
 generalize JB:("dict.__len__" : String)=Ni
 wp_delta
 rw [show splitId Ni=some ("dict", "__len__") from by subst JB;decide +kernel]
 subst JB
 refine wpAny_bind (wpAny_isInstance (b:=true) CM (by rw [isSubtype_type];kernel_rfl) ?_)
 rw [if_neg (by decide)]
 refine wpAny_ite_split (fun _=>?_) (fun Ds=>absurd (by decide +kernel) Ds)
 refine wpAny_bind (wpAny_typeOf CM ?_)
 refine wpAny_pure ?_
 refine wpAny_ite_split (fun _=>?_) (fun Ds=>absurd (by decide +kernel) Ds)
 refine wpAny_bind (wpAny_rule ?_)
 refine wpAny_bind ?_
 show wpAny _ _ (updateSeq L (·.push .none) >>= fun _=>updateSeq L (·.pop)) _ _ _
 have z0:(#[]:Array Value).size<=sizeLine:=Cc _
 have z1:((#[]:Array Value).push Value.none).size<=sizeLine:=by show 1<=sizeLine;decide
 have z2:((#[]:Array Value).push Value.none).size<=sizeLine+1:=ZCB z1
 have z3:(((#[]:Array Value).push Value.none).pop).size<=sizeLine+1:=Cc _
 have OM:=kp _ _ hL
 refine wpAny_bind (wpAny_updateSeq (s:={ s with heap:=h2 }) OM rfl ?_ z0 z2)
 have q2:=HB (Obj.mapSeq (·.push Value.none)) OM rfl
 refine wpAny_updateSeq q2 rfl ?_ z1 z3
 have q3:=HB (Obj.mapSeq (·.pop)) q2 rfl
 have E4:∀ b o,b≠L->h2.get? b=some o->((h2.update L (Obj.mapSeq (·.push Value.none))).update L (Obj.mapSeq (·.pop))).get? b=some o:=
  fun b o hb e=>(Em _ _ (BS hb)).trans ((Em _ _ (BS hb)).trans e)
 refine wpAny_pure ⟨plainId_quiet ZCE _,codeAny_extend_loopS (W A.in1 hh).toS (en▸hn) _ Fi _ A5.length 0 _ #[] _ rfl (Cc _) ?_ q3 (ItemsOf.nil _) fun s' Dp c' hm EF B9=>?_⟩
 ·exact (W A.in1 hh).frame 0 h2 _ CK fun b hb o e=>E4 b o (fun z=>Fi (z▸hb)) e
 ·have hsz:L < s'.heap.objs.size:=BA EF
  refine h s' Dp.toList c' (fun b o hb e=>?_) hsz hm.gens hm.os EF (by rw [Cj,B9.1];exact en) fun i v hv=>B9.2 i v (by rw [<- iK];exact hv)
  have E2:b < s.heap.objs.size:=BA e
  refine hm.heap b o ?_ (E4 b o hb (kp b o e))
  simp only [HE,BH,or_false,not_or]
  exact ⟨hb,Bx E2⟩
end
theorem fW {prog:Program}{w:World}:∀ {ks:List Key}{A5:List (Key×Value)}{vs:List Value},A5.map (·.1)=ks->vs.length=A5.length->(∀ (i:Nat) v,vs[i]?=some v->∃ k x,A5[i]?=some (k,x)/\(C7 prog w).is k v=true)->Vals (ks.map kV) vs
 | [],[],[],_,_,_=>.nil
 | [],[],_ :: _,_,h,_=>by simp at h
 | [],_ :: _,_,h,_,_=>by simp at h
 | _ :: _,[],_,h,_,_=>by simp at h
 | _ :: _,_ :: _,[],_,h,_=>by simp at h
 | n :: ns,kv :: A5,v :: vs,e,hl,h=>by
  rw [Bq] at e
  injection e with e1 e2
  obtain ⟨k,x,ek,hk⟩:=h 0 v rfl
  have W9:kv=(k,x):=by simpa using ek
  subst W9
  have Dl:k=n:=e1
  subst Dl
  refine .cons ?_ (fW e2 (by simpa using hl) fun i v hv=>h (i+1) v hv)
  rcases HA (show JI k v=true from hk) with ⟨i,t,rfl,rfl⟩ | ⟨y,t,rfl,rfl⟩
  ·exact ⟨t,rfl⟩
  ·exact ⟨t,rfl⟩
section
variable {X:Cx}
def U4:List V->Hp->VK->Prop:=fun xs H Q=>∃ (p:Addr) (A5:List (Key×V)),xs=[.ref p]/\Rd H p (.dK A5)/\A5.length<=1000/\∀ l:Addr,H l=none->Q (.ref l) (upd H l (.lst ((A5.map (·.1)).map kV)))
theorem RS (hc:X.calm=true):Ci X (.type "list") U4:=by
 intro pins s σ H xs us Q I r h
 obtain ⟨p,A5,rfl,hH,oY,q⟩:=h
 obtain ⟨u,rfl,rx⟩:=vals1 r
 cases rx
 obtain ⟨hz,HW,Gf,rel,hS⟩:=JM I.AM hH
 have hh:X.A.handled=none:=I.ok.hd hc
 have Al:p < s.heap.objs.size:=by obtain ⟨ep,h2⟩:=hS.dictAt;exact h2.lt_size
 have As:p≠s.heap.objs.size:=Bx Al
 refine callType_codes (Q₁:=fun obj s₁=>obj=.ref s.heap.objs.size/\s₁={ s with heap:=s.heap.push { cls:=.type "list", data:=.seq #[] } }) F.called_list (F.typeCall_list_1 _) F.entry_list_init
  (code_list_new _ ⟨rfl,rfl⟩) fun obj s₁ h₁=>?_
 obtain ⟨rfl,rfl⟩:=h₁
 have Ff:(s.heap.push { cls:=.type "list", data:=.seq #[] }).get? s.heap.objs.size=some { cls:=.type "list", data:=.seq #[] }:=CI _ rfl
 refine ⟨⟨_,Ff,rfl⟩,F.args_list_init_2 _ _,?_⟩
 show wpAny _ X.A.in1.in1 (do let old <- Builtin.List.listItems (.ref s.heap.objs.size);Builtin.List.listUpdate (.ref s.heap.objs.size) (fun _=>#[]);letGo old.toList.reverse;Builtin.List.listExtendWith (.ref s.heap.objs.size) (.ref p) .none) _ _ _
 refine wpAny_bind ?_
 unfold Builtin.List.listItems
 refine wpAny_bind (wpAny_seqItems Ff rfl (wpAny_pure ?_))
 show wpAny _ X.A.in1.in1 (updateSeq s.heap.objs.size (fun _=>#[]) >>= fun _=>letGo (#[]:Array Value).toList.reverse >>= fun _=>Builtin.List.listExtendWith (.ref s.heap.objs.size) (.ref p) .none) _ _ _
 refine wpAny_bind (wpAny_updateSeq Ff rfl ?_)
 have qT:=HB (Obj.mapSeq (fun _=>(#[]:Array Value))) Ff rfl
 have old:∀ b o,s.heap.get? b=some o->((s.heap.push { cls:=.type "list", data:=.seq #[] }).update s.heap.objs.size (Obj.mapSeq (fun _=>(#[]:Array Value)))).get? b=some o:=fun b o e=>
  (Em _ _ (L6 (BA e))).trans (Bl _ e)
 have pH:((s.heap.push { cls:=.type "list", data:=.seq #[] }).update s.heap.objs.size (Obj.mapSeq (fun _=>(#[]:Array Value)))).DictOf (C7 X.prog X.w) p Gf:=by
  obtain ⟨o,es,ep,ho,rest⟩:=hS
  exact ⟨o,es,ep,old _ _ ho,rest⟩
 refine wpAny_bind (wpAny_letGo ?_)
 refine zN (A:=X.A.in1) hh HW qT pH rfl (by rw [<- rel.length];exact hz) fun s' vs c' a1 a2 a3 a4 a5 a6 a7=>?_
 have vv:Vals ((A5.map (·.1)).map kV) vs:=by
  rw [rel.keys]
  exact fW rfl a6 a7
 refine ⟨rfl,?_⟩
 obtain ⟨h1,g1,d1,t1,o1⟩:=s'
 simp only at a1 a2 a3 a4 a5
 subst a3;subst a4
 refine ⟨.ref _,_,(I.drew d1).laid (a:=s.heap.objs.size) (h':=h1) (t':=t1) (o:=.lst ((A5.map (·.1)).map kV)) (fun b o e=>a1 b o (Bx (BA e)) (old b o e)) (An _) ?_,rfl,q _ (I.AM.fresh (An _))⟩
 exact ⟨by rw [AV,AV];exact hz,vs,c',vv,a5⟩
end
section
variable {X:Cx}{i o:Expr}{ty td:TE}{pos:Pos}
theorem XY (hu:X.A.units+1 < cLine) (hi:QE X i ty) (ho:QE X o td) (hm:behindInMarks .In o=false:=by with_unfolding_all rfl):QT X (.Compare i [.In] [o] pos) (tB (Px ty td)):=⟨ZL (lV hu hi.h ho.h) hm⟩
theorem Mn (hu:X.A.units+1 < cLine) (hi:QE X i ty) (ho:QE X o td) (hm:behindInMarks .NotIn o=false:=by with_unfolding_all rfl):QT X (.Compare i [.NotIn] [o] pos) (tB (Qf ty td)):=⟨ZL (uI hu hi.h ho.h) hm⟩
end
end L2
namespace Fz
open L2 Lw
theorem Oi {F:Hp}:∀ ks:List Key,AU F (ks.map kV) (ks.map Fw)
 | []=>.nil
 | .inl i :: ks=>.cons (.int i) (Oi ks)
 | .inr x :: ks=>.cons (.str x) (Oi ks)
section
variable [Xw]
variable {E:Ent0}{ss:List Slot}{σ:L2.St} {F H F' H':Hp}{K:ZCy}{i:Nat}{t:OV}{ta tb tc te:TE}{nx:List Slot->Prop}{R:Ay}
theorem i4 {k:List PV->Prop}(h:Wp ss te fun p=>∃ (ks:List Key) (xs:List PV),p=.Ao ks xs/\ks.length<=1000/\k (ks.map Fw)):Wn ss (CB U4 (AS te Aw)) k:=⟨fun E σ F H Q S q=>
 h.go E σ F H _ S fun v p F1 H1 m1 rp ⟨ks,xs,e,hz,kk⟩=>by
  subst e
  cases rp with
  | @Ao a _ vs _ ef hl rr=>
   refine ⟨a,_,rfl,.inl (m1.st.fh _ _ ef),by rw [OX];omega,fun l DC=>?_⟩
   rw [Qq hl]
   have m2:=m1.st.make DC (.lst (ks.map kV))
   exact q l _ _ F1 _ (m1.trans m2) (m1.st.Bb DC) (m1.none DC) AI (Oi ks) kk⟩
theorem gu {k:List PV->Prop}(h:Wl ss i t te fun _ u=>∃ (ks:List Key) (a:Addr) (us:List OV),u=.nd (.Ao ks) a us/\ks.length<=1000/\k (ks.map Fw)):Wn ss (CB U4 (AS te Aw)) k:=⟨fun E σ F H Q S q=>
 h.go E σ F H _ S fun v p u F1 H1 m1 r B6 ⟨ks,a,us,eu,hz,kk⟩=>by
  subst eu
  cases r with
  | @nd _ _ vs _ ha sd ft rr=>
   refine ⟨a,_,rfl,.inl ha,by rw [OX];omega,fun l DC=>?_⟩
   rw [Qq ft]
   have m2:=m1.st.make DC (.lst (ks.map kV))
   exact q l _ _ F1 _ (m1.trans m2) (m1.st.Bb DC) (m1.none DC) AI (Oi ks) kk⟩
end
end Fz
namespace L2
section
variable {X:Cx}{pins:ZCz}{σ:St} {H:Hp}{s:Shared}
end
section
variable {X:Cx}{tg:Expr}
end
section
variable {X:Cx}
end
section
variable {X:Cx}{tg l e:Expr}{tl t:TE}{st:Stmt}{ts:TS}
end
end L2
namespace Fz
open L2 Lw
section
variable [Xw]
variable {ss:List Slot}{i j:Nat}{lt:Bool}{ks:List Key}{a:Addr}{xs:List PV}{nx:List Slot->Prop}{R:Ay}{tt:TT}{te:TE}
end
section
variable [Xw]
variable {ss:List Slot}{te:TE}{ta:TA}{i j0:Nat}{lt:Bool}{K:ZCy}
end
end Fz
namespace L2
section
variable {X:Cx}{pos:Pos}
theorem ZBC:J3 X pos [] [] []:=zw
theorem Va {k v:Expr}{ks:List (Option Expr)}{vs:List Expr}{tk tv:TE}{Ek:List (TE×TE)}(hk:QE X k tk) (hv:QE X v tv) (hr:J3 X pos ks vs Ek):J3 X pos (some k :: ks) (v :: vs) ((tk,tv) :: Ek):=zJ hk.h hv.h hr
theorem ZBP {keys:List (Option Expr)}{values:List Expr}{Ek:List (TE×TE)}(h:J3 X pos keys values Ek) (Io:keys.all (·.isSome)=true) (hl:keys.length=values.length) (h0:keys≠[]) (R8:keys.length<=15):QE X (.Dict keys values pos) (VE Ek):=⟨nW h Io hl h0 R8⟩
end
theorem Yq:∀ (more acc:List (Key×V)),((acc++more).map (·.1)).Nodup->Ip acc more=acc++more
 | [],acc,_=>by rw [Fx];rfl
 | p :: r,acc,h=>by
  show Ip (putK acc p.1 p.2) r=_
  have hp:acc.any (fun kv=>decide (kv.1=p.1))=false:=by
   rw [ZBt]
   intro q hq e
   have e':=of_decide_eq_true e
   rw [E9,Bq,Cb] at h
   exact h.2.2 q.1 (List.mem_map.mpr ⟨q,hq,rfl⟩) p.1 EA e'
  have e:putK acc p.1 p.2=acc++[p]:=by
   unfold putK
   rw [hp];rfl
  rw [e,Yq r (acc++[p]) (by rw [CD];exact h),CD]
  rfl
end L2
namespace Fz
open L2 Lw
section
variable [Xw]
variable {ss:List Slot}
theorem ki {E:Ent0}{σ:L2.St} {F H F1 H1:Hp}{p:Addr}{o:HO}(S:Sg E ss σ F H) (m:Mv E ss σ F H F1 H1) (hp:H p=none) (hf:F1 p=none):Mv E ss σ F H F1 (upd H1 p o):=
 S.step m.ff (fun a u e=>by rw [Aj (by rintro rfl;rw [hf] at e;cases e)];exact m.st.fh a u e)
  (fun a u n e=>by rw [Aj (by rintro rfl;rw [hp] at e;cases e)];exact m.hh a u n e) m.nn
  fun i l hi e=>Ba.keep (m.st.E7 hi e) fun u e2=>by
   rw [Aj (by
    rintro rfl
    obtain ⟨_,_,e3,_⟩:=S.E7 hi e
    rw [hp] at e3;cases e3)]
   exact e2
theorem nM {k:List Nat->OV->Prop}{ta:TA}{E:Ent}{σ:L2.St} {F H:Hp}{Q:VK}(ks:List Str) (hk:ks.Nodup) (R8:ks.length<=15) (S:Sg E ss σ F H){p:Addr}(hp:H p=none)
  (h:Ll ss ta fun m us=>us.length=ks.length/\∀ l,k m (.nd (.Ao (ks.map Sum.inr)) l us))
  (q:∀ v m u F' H',Mv E ss σ F H F' H'->BE F' H' v u->u.addrs.Nodup->(∀ a∈u.addrs,F' a=none/\E.H0 a=none/\((∃ i∈m,∃ s,s≠Slot.AN/\ss[i]?=some s/\BL s σ[i]? a)∨H a=none))->k m u->Q v H') :
  ta σ (upd H p (.dK [])) fun vs H2=>H2 p=some (.dK [])/\∃ A5:List (Key×V),List.zipWith (fun s v=>(V.str s,v)) ks vs=A5.map (fun kv=>(kV kv.1,kv.2))/\A5.length<=15/\Q (.ref p) (upd H2 p (.dK (Ip [] A5))):=by
 have m0:=S.make hp (.dK [])
 have kg:F p=none:=S.Bb hp
 refine h.go E σ F _ _ m0.st fun vs m us F1 H1 m1 r1 Gv a1 ⟨hl,kk⟩=>?_
 have Ec:H1 p=some (.dK []):=m1.hh p _ (S.NA hp) AI
 have cG:F1 p=none:=by
  cases e:F1 p with
  | none=>rfl
  | some o=>
   rcases m1.nn p o e with z | z
   ·rw [kg] at z;cases z
   ·rw [AI] at z;cases z
 have lv:vs.length=ks.length:=by rw [r1.length,hl]
 have ez:List.zipWith (fun s v=>(V.str s,v)) ks vs=((ks.map Sum.inr).zip vs:List (Key×V)).map (fun kv=>(kV kv.1,kv.2)):=by
  rw [List.zip_eq_zipWith,List.zipWith_map_left,List.map_zipWith]
  rfl
 refine ⟨Ec,(ks.map Sum.inr).zip vs,ez,by rw [OX,AV];omega,?_⟩
 have nk:((ks.map Sum.inr:List Key)).Nodup:=ZBq _ (fun a b (h:a≠b)=>fun z=>h (by injection z)) hk
 rw [Yq _ [] (by rw [YR,List.map_fst_zip (by rw [AV];omega)];exact nk),YR]
 have mv:=ki (o:=.dK ((ks.map Sum.inr).zip vs)) S (m0.trans m1) hp cG
 have JO:p∉OV.Ai us:=fun ha=>by
  rcases (a1 p ha).2.2 with ⟨i,_,s,_,hs,ow⟩ | z
  ·exact S.EI hs ow hp
  ·rw [AI] at z;cases z
 refine q _ m (.nd (.Ao (ks.map Sum.inr)) p us) F1 _ mv (.nd (k:=.Ao (ks.map Sum.inr)) (vs:=vs) AI trivial (show (List.map Sum.inr ks:List Key).length=vs.length by rw [AV];exact lv.symm) (r1.mono (A8.refl _) fun a ha o e=>by rw [Aj (by rintro rfl;exact JO ha)];exact e)) ?_ (fun a ha=>?_) (kk p)
 ·rw [OV.D6];exact List.nodup_cons.mpr ⟨JO,Gv⟩
 ·rw [OV.D6] at ha
  rcases List.mem_cons.mp ha with e | ha
  ·subst e;exact ⟨cG,S.Dz hp,.inr hp⟩
  ·obtain ⟨f,h0,w⟩:=a1 a ha
   exact ⟨f,h0,w.imp id fun z=>by
    by_cases c:a=p
    ·subst c;exact hp
    ·rw [Aj c] at z;exact z⟩
theorem pE {k:List Nat->OV->Prop}{k1 k2 k3:Str}{t1 t2 t3:TE}(hk:[k1,k2,k3].Nodup) (h:Ll ss (AS t1 (AS t2 (AS t3 Aw))) fun m us=>us.length=3/\∀ l,k m (.nd (.Ao [.inr k1,.inr k2,.inr k3]) l us)):Wx ss (VE [(tC (.str k1),t1),(tC (.str k2),t2),(tC (.str k3),t3)]) k:=⟨fun E σ F H Q S q p hp=>
 nM (ta:=AS t1 (AS t2 (AS t3 Aw))) [k1,k2,k3] hk (by show (_:Nat)+1<=15;simp) S hp h q⟩
end
section
variable [Xw]
variable {ss:List Slot}{te:TE}{ta:TA}{i:Nat}{t:OV}{pre:Pre}
theorem dO {C:Addr}{m:Str}{k:PV->Prop}(h:Wl ss i t te fun _ u=>∃ dx ns a us,u=.nd (.obj C dx ns) a us/\Co ns m=none/\Wb ss ta fun ps=>∃ k',pre ((u.pv :: ps).map .is) (.is k')/\∀ p,k' p->Ew p=true/\k p):Wp ss (Jo C m (Bp pre) [] E0 te ta) k:=⟨fun E σ F H Q S q=>
 h.go E σ F H _ S fun v p u F1 H1 m1 r1 B6 ⟨dx,ns,a,us,eu,hm,h2⟩=>by
  subst eu
  have FY:=r1
  cases FY with
  | @nd _ _ vs _ ha sd ft rr=>
   refine ⟨a,dx,ns.zip vs,rfl,ha,QQ hm,h2.go E σ F1 H1 _ m1.st fun vs ps F2 H2 m2 r2 ⟨k',hp,kk⟩=>?_⟩
   rw [Fx]
   have r3:=r1.mv m1.st h.hi B6 m2
   have Iz:AU (Bz F2 H2 (Bj ss σ)) (V.ref a :: vs) (_ :: ps):=.cons (r3.rep m2.st.QM.1 fun a ha o ho=>by
    unfold Bz
    obtain ⟨lt,hi⟩:=h.hi
    rw [if_pos (Zz m2.st.len hi (by simp) (OV.JF B6 a ha))]
    exact ho) r2
   refine ⟨_,.is k',_,[],hp,m2.st.lend Iz,fun v F' H' f ⟨p,r,kp⟩=>?_⟩
   obtain ⟨mv,nt⟩:=m2.st.nE f
   exact q v p _ H' (m1.trans (m2.trans mv)) (r.sub nt (kk p kp).1) (kk p kp).2⟩
end
section
variable [Xw]
variable {ss:List Slot}{te:TE}{i:Nat}{t:OV}
theorem SV {j:Nat}{nx:List Slot->Prop}{R:Ay}(h:Wl ss i t te fun _ u=>∃ nk a us,u=.nd nk a us/\nx (ss.set j (.raw (ptr a)))):Ws ss (FF te (Cn j)) nx R:=⟨fun E D σ F H S hn hr=>
 h.go E σ F H _ S fun v p u F1 H1 m1 r B6 ⟨nk,a,us,eu,kk⟩=>by
  subst eu
  cases r
  exact hn _ _ F1 H1 kk (m1.st.setG ⟨_,rfl,rfl,fun _ _ _ h=>h⟩ fun _ z=>by cases z) m1.ff⟩
end
theorem JP {k:NK}{a:Addr}{x y z w:OV}:(OV.nd k a [x,y,z]).put [1] w=.nd k a [x,w,z]:=by rw [OV.J9 (x:=y) rfl,OV.FG];rfl
theorem put2 {k:NK}{a:Addr}{x y z w:OV}:(OV.nd k a [x,y,z]).put [2] w=.nd k a [x,y,w]:=by rw [OV.J9 (x:=z) rfl,OV.FG];rfl
theorem Pt {k k':NK}{a b:Addr}{x y u w:OV}{us:List OV}{n:Nat}(h:us[n]?=some u):(OV.nd k a [x,y,.nd k' b us]).put [2,n] w=.nd k a [x,y,.nd k' b (us.set n w)]:=by rw [OV.J9 (x:=.nd k' b us) rfl,OV.J9 h,OV.FG];rfl
theorem Sa {k k':NK}{a b:Addr}{x y u:OV}{us:List OV}{n:Nat}(h:us[n]?=some u):(OV.nd k a [x,y,.nd k' b us]).at [2,n]=some u:=by
 rw [OV.at]
 show OV.at (.nd k' b us) [n]=some u
 rw [OV.at,h]
 exact OV.HP
theorem DG {k:NK}{a:Addr}{x y z:OV}:(OV.nd k a [x,y,z]).at [1]=some y:=by
 rw [OV.at]
 exact OV.HP
theorem kK [Xw] {ss:List Slot}{K:ZCy}{i j l m:Nat}{p:PV}{k:List Slot->Prop}(h:∃ a b c d,p=.tup [a,b,c,d]/\k ((((ss.set i (.is a)).set j (.is b)).set l (.is c)).set m (.is d))):Wg ss (OD K 4 (Gb (Cn i) (Gb (Cn j) (Gb (Cn l) (Gb (Cn m) Mh))))) p k:=⟨fun E σ F H v Q S r q=>by
 obtain ⟨a,b,c,d,rfl,kk⟩:=h
 cases r with
 | tup e r=>
  cases r with
  | cons r1 r=>cases r with
   | cons r2 r=>cases r with
    | cons r3 r=>cases r with
     | cons r4 r=>cases r with
      | nil=>exact ⟨_,_,rfl,A9.of (S.fh _ _ e),rfl,_,_,rfl,_,_,rfl,_,_,rfl,_,_,rfl,rfl,q _ _ kk ((((S.FD r1).FD r2).FD r3).FD r4)⟩⟩
theorem Oj {pre:Pre}{H:Hp}{N:List Str}{n:Nat}{vs:List V}{Q:VK}{X:XK}{t:TS}(h:Be pre vs H Q X) (hl:∀ ss R,pre ss R->ss.length=n)
  (hw:∀ ss R,pre ss R->Ws (ss++List.replicate (N.length - n) .any) t (RU R) R):t { nx:=fun _ H'=>Q .AF H',rt:=Q } (L2.start N vs) H:=by
 obtain ⟨ss,R,F,A,B,hp,S,q⟩:=h
 have e:vs.length=n:=by have:=S.len;rw [AV] at this;rw [<- this];exact hl ss R hp
 unfold L2.start
 rw [e]
 exact (hw ss R hp).go (Rh ⟨A,F,H,B⟩) _ _ F H (S.grown _) (fun AQ σ' F' H' z S' _=>q .AF F' H' S'.toFin (z.ok S')) fun v F' H' f ok=>q v F' H' f ok
structure Sm where
 stood:Nat
 joined:Nat
 told:Nat
 taken:Nat
structure Ls where
 row:List Str
 ln:List Str
 ll:List Lp
 sn:List Str
 sq:List Sm
inductive LE where
 | Hu (x r:Str) | tell (x y:Str) | over (x:Str) | GG (d:BM)
noncomputable def LE.P:LE->PV
 | .Hu x r=>.tup [.str "begin", .str x,.str r]
 | .tell x y=>.tup [.str "tell", .str x,.str y]
 | .over x=>.tup [.str "over", .str x]
 | .GG d=>aP d
def LE.say:LE->Prop
 | .Hu x r=>DN x/\DN r
 | .tell x y=>DN x/\DN y
 | .over x=>DN x
 | .GG d=>d.say
noncomputable def dd (ns:List Str) (d:BM):Option AJ:=open Classical in if h:∃ d',d.Is ns d' then some h.choose else none
theorem W5 {ns:List Str}{d:BM}{d':AJ}(h:d.Is ns d'):dd ns d=some d':=by
 have e:∃ d',d.Is ns d':=⟨d',h⟩
 unfold dd
 rw [dif_pos e]
 exact congrArg some (la (e.choose_spec.1.symm.trans h.1))
theorem Nn {ns:List Str}{d:BM}{d':AJ}(h:dd ns d=some d'):d.Is ns d':=by
 unfold dd at h
 split at h
 ·next e=>cases h;exact e.choose_spec
 ·cases h
theorem xr {d e:BM}(h:aP d=aP e):d=e:=by
 cases d <;> cases e <;> simp [aP] at h <;> first | (exact absurd h.1 QU) | (exact absurd h.1.symm QU) | (obtain ⟨a,b⟩:=h;subst a;subst b;rfl) | (subst h;rfl)
theorem tf {c:LJ}{ns:List Str}{d:BM}{d':AJ}(h:d.Is ns d'):d.Cm c ns=none:=by
 have:d=Gy d':=xr (h.1.trans (Wf d').symm)
 rw [this];exact ve h.2
theorem jj {c:LJ}{ns:List Str}{d:BM}{e:Ex}(h:d.Cm c ns=some e):dd ns d=none:=by
 cases q:dd ns d with
 | none=>rfl
 | some d'=>rw [tf (Nn q)] at h;cases h
noncomputable def c0:LJ:=⟨0,0,0,0,0⟩
theorem I0 (ns:List Str) (d:BM):(dd ns d).isSome=(d.Cm c0 ns).isNone:=by
 cases h:d.Cm c0 ns with
 | none=>
  obtain ⟨d',h'⟩:=BM.good h
  rw [W5 h'];rfl
 | some e=>rw [jj h];rfl
theorem tM {ns:List Str}{x:Str}{i:Int}(h1:isNm x=true) (h2:x∉ns) (h3:ns.length < 40):(dd ns (.put x i)).isSome=decide (inR i 0 ns.length):=by
 rw [I0]
 simp only [BM.Cm]
 rw [if_neg (by rw [h1];decide),if_neg h2]
 by_cases c:inR i 0 ns.length
 ·rw [if_neg (Decidable.not_not.mpr c),if_neg (by omega),decide_eq_true c];rfl
 ·rw [if_pos c,decide_eq_false c];rfl
theorem qU {ns:List Str}{x:Str}{i:Int}(h1:isNm x=true) (h2:x∉ns) (h3:40<=ns.length):(dd ns (.put x i)).isSome=false:=by
 rw [I0]
 simp only [BM.Cm]
 rw [if_neg (by rw [h1];decide),if_neg h2]
 by_cases c:inR i 0 ns.length
 ·rw [if_neg (Decidable.not_not.mpr c),if_pos h3];rfl
 ·rw [if_pos c];rfl
theorem oQ {ns:List Str}{x:Str}{i:Int}(h2:x∈ns):(dd ns (.move x i)).isSome=decide (inR i 0 (ns.length - 1)):=by
 rw [I0]
 simp only [BM.Cm]
 rw [if_neg (Decidable.not_not.mpr h2)]
 by_cases c:inR i 0 (ns.length - 1)
 ·rw [if_neg (Decidable.not_not.mpr c),decide_eq_true c];rfl
 ·rw [if_pos c,decide_eq_false c];rfl
theorem xl {ns:List Str}{lo hi:Int}:(dd ns (.turn lo hi)).isSome=(decide (inR lo 0 ns.length) && decide (inR hi lo ns.length)):=by
 rw [I0]
 simp only [BM.Cm]
 by_cases c:inR lo 0 ns.length
 ·rw [if_neg (Decidable.not_not.mpr c),decide_eq_true c]
  by_cases e:inR hi lo ns.length
  ·rw [if_neg (Decidable.not_not.mpr e),decide_eq_true e];rfl
  ·rw [if_pos e,decide_eq_false e];rfl
 ·rw [if_pos c,decide_eq_false c];rfl
theorem Q6 {i lo hi:Int}:decide (inR i lo hi)=(decide (lo<=i) && decide (i<=hi)):=by
 by_cases h1:lo<=i
 ·by_cases h2:i<=hi
  ·rw [decide_eq_true (show inR i lo hi from ⟨h1,h2⟩),decide_eq_true h1,decide_eq_true h2];rfl
  ·rw [decide_eq_false (fun z:inR i lo hi=>h2 z.2),decide_eq_true h1,decide_eq_false h2];rfl
 ·rw [decide_eq_false (fun z:inR i lo hi=>h1 z.1),decide_eq_false h1];rfl
noncomputable def Sm.join (q:Sm):Sm:=⟨q.stood,q.joined+1,q.told,q.taken⟩
noncomputable def Sm.tell (q:Sm):Sm:=⟨q.stood,q.joined,q.told+1,q.taken⟩
noncomputable def Sm.take (q:Sm):Sm:=⟨q.stood,q.joined,q.told,q.taken+1⟩
noncomputable def Sm.by (n m:Nat):Sm->Sm:=if n < m then Sm.join else if m < n then Sm.take else id
noncomputable def C0 (s:Ls) (d:AJ):Nat->List Sm
 | 0=>s.sq
 | i+1=>match s.ln[i]?,s.ll[i]? with
  | some x,some l=>(C0 s d i).modify (s.sn.idxOf x) (Sm.by l.cs.length (l.led s.row d).cs.length)
  | _,_=>C0 s d i
noncomputable def C1 (s:Ls) (d:AJ) (i:Nat):List Lp:=(s.ll.take i).map (Lp.led s.row d)++s.ll.drop i
noncomputable def E6 (s:Ls) (x r:Str):Option Ls:=if isNm x=true/\x∉s.sn/\NB r=true then some ⟨s.row,s.ln++[x],s.ll++[⟨r,0,DA s.row⟩],s.sn++[x],s.sq++[⟨s.row.length,0,0,0⟩]⟩ else none
noncomputable def DV (s:Ls) (x y:Str):Option Ls:=match s.ll[s.ln.idxOf x]? with
 | some l=>if y∈l.cs then some ⟨s.row,s.ln,s.ll.set (s.ln.idxOf x) ⟨l.r,s.row.idxOf y+1,wo l.cs y⟩,s.sn,s.sq.modify (s.sn.idxOf x) Sm.tell⟩ else none
 | none=>none
noncomputable def DL (s:Ls) (x:Str):Option Ls:=match s.ll[s.ln.idxOf x]? with
 | some l=>if l.cs=[] then some ⟨s.row,s.ln.eraseIdx (s.ln.idxOf x),s.ll.eraseIdx (s.ln.idxOf x),s.sn,s.sq⟩ else none
 | none=>none
noncomputable def EE (s:Ls) (d:BM):Option Ls:=match dd s.row d with
 | some d'=>some ⟨d'.done s.row,s.ln,s.ll.map (Lp.led s.row d'),s.sn,C0 s d' s.ln.length⟩
 | none=>none
noncomputable def Dr (s:Ls):LE->Option Ls
 | .Hu x r=>E6 s x r
 | .tell x y=>DV s x y
 | .over x=>DL s x
 | .GG d=>EE s d
structure Ls.Ok (s:Ls):Prop where
 row:HY 40 s.row
 l1:s.ln.length=s.ll.length
 l2:s.sn.length=s.sq.length
 n1:s.ln.Nodup
 n2:s.sn.Nodup
 sub:∀ x∈s.ln,x∈s.sn
 good:∀ l∈s.ll,l.Good s.row
 nm:∀ x∈s.sn,Nm x
theorem N6 (s:Ls) (d:AJ):∀ i,(C0 s d i).length=s.sq.length
 | 0=>rfl
 | i+1=>by
  unfold C0
  split
  ·rw [List.length_modify,N6]
  ·exact N6 s d i
theorem Yc (s:Ls) (d:AJ):C1 s d s.ll.length=s.ll.map (Lp.led s.row d):=by
 unfold C1
 rw [MP,List.drop_length,Fx]
theorem ID (s:Ls) (d:AJ) (i:Nat):(C1 s d i).length=s.ll.length:=by
 unfold C1
 rw [Bm,AV,CF,E8];omega
theorem Tq {s:Ls}{d:AJ}{i:Nat}{l:Lp}(h:s.ll[i]?=some l):(C1 s d i)[i]?=some l:=by
 have hi:=(List.getElem?_eq_some_iff.mp h).1
 unfold C1
 rw [GU (by rw [AV,CF];omega),AV,CF,List.getElem?_drop]
 rw [show i+(i - min i s.ll.length)=i by omega];exact h
theorem XM {s:Ls}{d:AJ}{i:Nat}{l:Lp}(h:s.ll[i]?=some l):(C1 s d i).set i (l.led s.row d)=C1 s d (i+1):=by
 obtain ⟨hi,e⟩:=List.getElem?_eq_some_iff.mp h
 unfold C1
 rw [List.set_append_right _ _ (by rw [AV,CF];omega),AV,CF,show i - min i s.ll.length=0 by omega,iO hi,Ru,YV hi,E9,CD,e]
 rfl
theorem Ei {l:List Str}{x:Str}(h:x∈l):l[l.idxOf x]?=some x:=by
 rw [B1 (List.idxOf_lt_length_iff.mpr h),YQ]
theorem TB {l:List Str}{m:List Lp}{x:Str}{a:Lp}(hl:l.length=m.length) (h:m[l.idxOf x]?=some a):x∈l:=by
 have:=(List.getElem?_eq_some_iff.mp h).1
 exact List.idxOf_lt_length_iff.mp (by omega)
theorem Ls.Ok.step {s s':Ls}{e:LE}(h:s.Ok) (g:Dr s e=some s'):s'.Ok:=by
 cases e with
 | Hu x r=>
  have g:E6 s x r=some s':=g
  unfold E6 at g
  split at g
  ·next c=>
   cases g
   obtain ⟨c1,c2,c3⟩:=c
   refine ⟨h.row,by simp [h.l1],by simp [h.l2],?_,?_,?_,?_,?_⟩
   ·exact P0 h.n1 fun z=>c2 (h.sub x z)
   ·exact P0 h.n2 c2
   ·intro y hy
    rcases List.mem_append.mp hy with z | z
    ·exact List.mem_append.mpr (.inl (h.sub y z))
    ·exact List.mem_append.mpr (.inr z)
   ·intro l hl
    rcases List.mem_append.mp hl with z | z
    ·exact h.good l z
    ·rw [List.mem_singleton.mp z]
     exact ⟨of_decide_eq_true c3,Int.le_refl _,Int.natCast_nonneg _,UD h.row.nd,fun y hy=>Qc.mp hy⟩
   ·intro y hy
    rcases List.mem_append.mp hy with z | z
    ·exact h.nm y z
    ·rw [List.mem_singleton.mp z];exact Zw c1
  ·cases g
 | tell x y=>
  have g:DV s x y=some s':=g
  unfold DV at g
  split at g
  ·next l e=>
   split at g
   ·next c=>
    cases g
    have gl:=h.good l (CG e)
    refine ⟨h.row,by simp [h.l1],by simp [h.l2],h.n1,h.n2,h.sub,?_,h.nm⟩
    intro l' DC
    rcases List.mem_or_eq_of_mem_set DC with z | z
    ·exact h.good l' z
    ·rw [z];exact Lw.CN.step gl (gl.sub y c)
   ·cases g
  ·cases g
 | over x=>
  have g:DL s x=some s':=g
  unfold DL at g
  split at g
  ·next l e=>
   split at g
   ·next c=>
    cases g
    have hi:=(List.getElem?_eq_some_iff.mp e).1
    refine ⟨h.row,?_,h.l2,List.Nodup.sublist (YK _ _) h.n1,h.n2,fun y hy=>h.sub y ((YK _ _).subset hy),fun l' DC=>h.good l' ((YK _ _).subset DC),h.nm⟩
    have h1:=h.l1
    show (s.ln.eraseIdx _).length=(s.ll.eraseIdx _).length
    rw [ZC2 (by omega),ZC2 hi,h1]
   ·cases g
  ·cases g
 | GG d=>
  have g:EE s d=some s':=g
  unfold EE at g
  split at g
  ·next d' e=>
   cases g
   have ok:=(Nn e).2
   refine ⟨h.row.done ok,by simp [h.l1],by rw [N6];exact h.l2,h.n1,h.n2,h.sub,?_,h.nm⟩
   intro l hl
   obtain ⟨l0,h0,rfl⟩:=List.mem_map.mp hl
   exact Lw.CN.led (h.good l0 h0) ok h.row.nd
  ·cases g
def R2 (P:OV->Sm->Prop) (us:List OV) (qs:List Sm):Prop:=us.length=qs.length/\∀ (n:Nat) u q,us[n]?=some u->qs[n]?=some q->P u q
theorem R2.nil {P:OV->Sm->Prop}:R2 P [] []:=⟨rfl,fun n u q h=>by cases h⟩
theorem R2.snoc {P:OV->Sm->Prop}{us:List OV}{qs:List Sm}{u:OV}{q:Sm}(h:R2 P us qs) (hu:P u q):R2 P (us++[u]) (qs++[q]):=by
 refine ⟨by simp [h.1],fun n v p hv hp=>?_⟩
 have hl:=h.1
 by_cases c:n < us.length
 ·rw [En c] at hv
  rw [En (by omega)] at hp
  exact h.2 n v p hv hp
 ·have h1:=(List.getElem?_eq_some_iff.mp hv).1
  simp at h1
  have:n=us.length:=by omega
  subst this
  rw [GU (An _),YX] at hv
  rw [GU (by omega),show us.length - qs.length=0 by omega] at hp
  cases hv;cases hp;exact hu
theorem R2.set {P:OV->Sm->Prop}{us:List OV}{qs:List Sm}{n:Nat}{u:OV}{f:Sm->Sm}(h:R2 P us qs) (hu:∀ q,qs[n]?=some q->P u (f q)):R2 P (us.set n u) (qs.modify n f):=by
 refine ⟨by simp [h.1],fun m v p hv hp=>?_⟩
 by_cases c:n=m
 ·subst c
  have h1:=(List.getElem?_eq_some_iff.mp hv).1
  rw [MO] at h1
  rw [Ca h1] at hv
  rw [iS] at hp
  cases e:qs[n]? with
  | none=>rw [e] at hp;cases hp
  | some q=>rw [e] at hp;cases hp;cases hv;exact hu q e
 ·rw [CJ c] at hv
  rw [iT _ _ c] at hp
  exact h.2 m v p hv hp
theorem R2.get {P:OV->Sm->Prop}{us:List OV}{qs:List Sm}{n:Nat}{q:Sm}(h:R2 P us qs) (hq:qs[n]?=some q):∃ u,us[n]?=some u/\P u q:=by
 have h1:=(List.getElem?_eq_some_iff.mp hq).1
 have hl:=h.1
 exact ⟨us[n],B1 (by omega),h.2 n _ q (B1 (by omega)) hq⟩
noncomputable def Dc (q:Sm):List PV:=[.int q.stood,.int q.joined,.int q.told,.int q.taken]
noncomputable def Ab (ns:List Str):List Key:=ns.map Sum.inr
noncomputable def Bv (ll:List Lp):List OV:=ll.map fun l=>.fz l.P
def ZI (u:OV) (q:Sm):Prop:=∃ b,u=.nd .lst b ((Dc q).map .fz)
def NG (T:Addr) (u:OV) (q:Sm):Prop:=∃ e b,u=.nd (.obj T e ["stood", "joined", "told", "taken"]) b ((Dc q).map .fz)
noncomputable def k3:List Key:=[.inr "row", .inr "live", .inr "sums"]
noncomputable def BN (s:Ls) (a aL aS:Addr) (us:List OV):OV:=.nd (.Ao k3) a [.fz (.lst (s.row.map .str)),.nd (.Ao (Ab s.ln)) aL (Bv s.ll),.nd (.Ao (Ab s.sn)) aS us]
def D1 (s:Ls) (a:Addr) (t:OV):Prop:=∃ aL aS us,R2 ZI us s.sq/\t=BN s a aL aS us
noncomputable def Fp:List Str:=["standing", "running", "tallies"]
noncomputable def BV (s:Ls) (C a dx aL aS:Addr) (us:List OV):OV:=.nd (.obj C dx Fp) a [.fz (.lst (s.row.map .str)),.nd (.Ao (Ab s.ln)) aL (Bv s.ll),.nd (.Ao (Ab s.sn)) aS us]
def Cf (s:Ls) (C T a:Addr) (t:OV):Prop:=∃ dx aL aS us,R2 (NG T) us s.sq/\t=BV s C a dx aL aS us
theorem HM (ns:List Str) (x:Str):Fs (Ab ns) (.inr x)=decide (x∈ns):=by
 unfold Fs Ab
 rw [List.any_map]
 by_cases h:x∈ns
 ·rw [decide_eq_true h]
  exact List.any_eq_true.mpr ⟨x,h,decide_eq_true rfl⟩
 ·rw [decide_eq_false h]
  rw [Bool.eq_false_iff]
  intro z
  obtain ⟨y,hy,e⟩:=List.any_eq_true.mp z
  have e2:(Sum.inr y:Key)=Sum.inr x:=of_decide_eq_true e
  injection e2 with e2
  exact h (e2▸hy)
theorem FI:∀ {ns:List Str}{x:Str},x∈ns->C9 (Ab ns) (.inr x)=some (ns.idxOf x)
 | [],_,h=>absurd h BH
 | y :: ns,x,h=>by
  unfold Ab
  rw [Bq,C9,iV]
  by_cases c:y=x
  ·subst c;rw [if_pos rfl,show (y == y)=true from beq_self_eq_true y];rfl
  ·rw [if_neg (fun e=>c (by injection e)),show (y == x)=false from beq_eq_false_iff_ne.mpr c]
   have h1:C9 (ns.map fun n:Str=>(Sum.inr n:Key)) (.inr x)=some (ns.idxOf x):=FI ((List.mem_cons.mp h).resolve_left fun z=>c z.symm)
   have K2:C9 (ns.map (Sum.inr:Str->Key)) (.inr x)=some (ns.idxOf x):=h1
   rw [K2];rfl
theorem Zh:∀ {ns:List Str}{x:Str},x∉ns->C9 (Ab ns) (.inr x)=none
 | [],_,_=>rfl
 | y :: ns,x,h=>by
  unfold Ab
  rw [Bq,C9,if_neg (fun e=>h (by injection e with e;subst e;exact EA))]
  have h1:C9 (ns.map (Sum.inr:Str->Key)) (.inr x)=none:=Zh (ns:=ns) fun z=>h (Fy _ z)
  rw [h1];rfl
theorem HX {ns:List Str}(h:ns.Nodup):(Ab ns).Nodup:=ZBq _ (fun a b (h:a≠b)=>fun z=>h (by injection z)) h
theorem cf {ns:List Str}{us:List OV}{x:Str}{u:OV}(h:x∉ns):Gs (Ab ns) (.inr x)=Ab (ns++[x])/\FW (Ab ns) us (.inr x) u=us++[u]:=by
 unfold FW Gs
 rw [Zh h,HM,decide_eq_false h]
 exact ⟨by unfold Ab;rw [E9];rfl,rfl⟩
theorem gi {ns:List Str}{us:List OV}{x:Str}{u:OV}(h:x∈ns):Gs (Ab ns) (.inr x)=Ab ns/\FW (Ab ns) us (.inr x) u=us.set (ns.idxOf x) u:=by
 unfold FW Gs
 rw [FI h,HM,decide_eq_true h]
 exact ⟨rfl,rfl⟩
theorem RB {ns:List Str}{x:Str}(h:x∈ns):Gs (Ab ns) (.inr x)=Ab ns:=(gi (us:=[]) (u:=.fz .AF) h).1
theorem RK {ns:List Str}{us:List OV}{x:Str}{u:OV}(h:x∈ns):FW (Ab ns) us (.inr x) u=us.set (ns.idxOf x) u:=(gi h).2
theorem MS {ns:List Str}{x:Str}(h:x∉ns):Gs (Ab ns) (.inr x)=Ab (ns++[x]):=(cf (us:=[]) (u:=.fz .AF) h).1
theorem Pu {ns:List Str}{us:List OV}{x:Str}{u:OV}(h:x∉ns):FW (Ab ns) us (.inr x) u=us++[u]:=(cf h).2
theorem iI (ns:List Str) (i:Nat):(Ab ns).eraseIdx i=Ab (ns.eraseIdx i):=by
 unfold Ab
 induction ns generalizing i with
 | nil=>rfl
 | cons x ns ih=>cases i with
  | zero=>rfl
  | succ i=>rw [Bq,OR,OR,Bq,ih]
theorem bR (ls:List Lp) (i:Nat):(Bv ls).eraseIdx i=Bv (ls.eraseIdx i):=by
 unfold Bv
 induction ls generalizing i with
 | nil=>rfl
 | cons x ns ih=>cases i with
  | zero=>rfl
  | succ i=>rw [Bq,OR,OR,Bq,ih]
theorem Q8 (ls:List Lp) (i:Nat) (l:Lp):(Bv ls).set i (.fz l.P)=Bv (ls.set i l):=by unfold Bv;rw [List.map_set]
theorem LU {ls:List Lp}{i:Nat}{l:Lp}(h:ls[i]?=some l):(Bv ls)[i]?=some (.fz l.P):=by unfold Bv;rw [BF,h];rfl
theorem LF {y:PV}:∀ {ns:List Str}{xs:List PV}{x:Str},x∈ns->xs[ns.idxOf x]?=some y->JN (Ab ns) xs (.inr x)=some y
 | [],_,_,h,_=>absurd h BH
 | z :: ns,xs,x,h,e=>by
  rw [iV] at e
  unfold Ab
  by_cases c:z=x
  ·subst c
   rw [show (z == z)=true from beq_self_eq_true z] at e
   cases xs with
   | nil=>cases e
   | cons w ws=>rw [Bq,JN,if_pos rfl];exact e
  ·rw [show (z == x)=false from beq_eq_false_iff_ne.mpr c] at e
   cases xs with
   | nil=>cases e
   | cons w ws=>
    rw [Bq,JN,if_neg (fun q=>c (by injection q))]
    exact LF ((List.mem_cons.mp h).resolve_left fun q=>c q.symm) e
theorem WK:∀ us:List OV,OV.C8 us=us.map OV.pv
 | []=>by rw [OV.C8];rfl
 | u :: us=>by rw [OV.C8,WK us];rfl
theorem d8 (ll:List Lp):OV.C8 (Bv ll)=ll.map Lp.P:=by
 have:=RE (ll.map Lp.P)
 rw [HD] at this
 exact this
theorem Y2 {s:Ls}{d:AJ}{i:Nat}{x:Str}{l:Lp}(hx:s.ln[i]?=some x) (hl:s.ll[i]?=some l):C0 s d (i+1)=(C0 s d i).modify (s.sn.idxOf x) (Sm.by l.cs.length (l.led s.row d).cs.length):=by
 rw [C0,hx,hl]
theorem ud {s:Ls}{d:AJ}{i:Nat}{x:Str}(ok:s.Ok) (hx:x∈s.sn):∃ q,(C0 s d i)[s.sn.idxOf x]?=some q:=by
 have h1:=List.idxOf_lt_length_iff.mpr hx
 have h2:=ok.l2
 exact ⟨_,B1 (by rw [N6];omega)⟩
theorem i7 {α:Type} (l:List α) (n:Nat):l.modify n id=l:=by
 apply Rj
 intro k
 rw [List.getElem?_modify]
 cases l[k]? with
 | none=>rfl
 | some x=>by_cases c:n=k <;> simp [c]
theorem ZAO (ns:List Str):Ew (.tup (ns.map .str))=true:=by
 rw [Ew]
 induction ns with
 | nil=>rfl
 | cons x ns ih=>rw [Bq,NJ,ih];rfl
theorem nq:Gs k3 (.inr "row")=k3:=by decide +kernel
theorem m6 {x y z w:OV}:FW k3 [x,y,z] (.inr "row") w=[w,y,z]:=by
 unfold FW
 rw [show C9 k3 (.inr "row")=some 0 by decide +kernel]
 rfl
noncomputable def JX (tp:Bool) (xs:List PV):PV:=if tp=true then .tup xs else .lst xs
def ET (T:Ls->OV->Prop) (s:Ls) (o:Option Ls) (p:PV) (t':OV):Prop:=(∃ s',o=some s'/\p=.bl true/\T s' t')∨(o=none/\p=.bl false/\T s t')
noncomputable def BR (s:Ls) (x:Str):List Str:=match s.ll[s.ln.idxOf x]? with
 | some l=>l.cs
 | none=>[]
noncomputable def QK (C:Addr) (s:Ls) (xs:List PV):PV:=.obj C Fp [.lst (s.row.map .str),.Ao (Ab s.ln) (s.ll.map Lp.P),.Ao (Ab s.sn) xs]
theorem aB {s:Ls}{C a dx aL aS:Addr}{us:List OV}:(BV s C a dx aL aS us).pv=QK C s (us.map OV.pv):=by
 unfold BV QK
 rw [OV.pv,OV.C8,OV.C8,OV.C8,OV.C8,OV.pv,OV.pv,OV.pv,d8,WK]
theorem Fj {s:Ls}{x:Str}{i:Nat}{l:Lp}(nd:s.ln.Nodup) (hx:s.ln[i]?=some x) (hl:s.ll[i]?=some l):BR s x=l.cs:=by
 unfold BR
 rw [GY nd hx,hl]
def Vn (T:Addr):Pre:=fun l R=>∃ (a dx:Addr) (n:Nat),l=[.ow true (.nd (.obj T dx []) a []),.is (.int n)]/\R=.mt fun p t'=>p=.AF/\t'=.nd (.obj T dx ["stood", "joined", "told", "taken"]) a ((Dc ⟨n,0,0,0⟩).map .fz)
def Sz (C T:Addr):Pre:=fun l R=>∃ (a dx:Addr) (tp:Bool) (ns:List Str),l=[.ow true (.nd (.obj C dx []) a []),.is (JX tp (ns.map .str))]/\R=.mt fun p t'=>p=.AF/\∃ aL aS,t'=BV ⟨ns,[],[],[],[]⟩ C a dx aL aS []
def Kl (C:Addr):Pre:=fun l R=>∃ (s:Ls) (xs:List PV) (x:Str),l=[.is (QK C s xs),.is (.str x)]/\s.ln.length=s.ll.length/\R=.is fun p=>p=.tup ((BR s x).map .str)
def VF (C T:Addr):Pre:=fun l R=>∃ (s:Ls) (a:Addr) (t:OV) (x r:Str),l=[.ow true t,.is (.str x),.is (.str r)]/\Cf s C T a t/\s.Ok/\DN x/\DN r/\s.sn.length<=1000/\R=.mt (ET (fun s t=>Cf s C T a t) s (E6 s x r))
def Sw (C T:Addr):Pre:=fun l R=>∃ (s:Ls) (a:Addr) (t:OV) (x y:Str),l=[.ow true t,.is (.str x),.is (.str y)]/\Cf s C T a t/\s.Ok/\s.sn.length<=1000/\R=.mt (ET (fun s t=>Cf s C T a t) s (DV s x y))
def UX (C T:Addr):Pre:=fun l R=>∃ (s:Ls) (a:Addr) (t:OV) (x:Str),l=[.ow true t,.is (.str x)]/\Cf s C T a t/\s.Ok/\R=.mt (ET (fun s t=>Cf s C T a t) s (DL s x))
noncomputable def Dy (s:Ls) (d:AJ) (i:Nat):Ls:=⟨s.row,s.ln,C1 s d i,s.sn,C0 s d i⟩
def T7 (C T:Addr):Pre:=fun l R=>∃ (s:Ls) (a:Addr) (t:OV) (d:AJ) (i:Nat) (x:Str),l=[.ow true t,.is (.str x),.is (dP d)]/\Cf (Dy s d i) C T a t/\s.Ok/\s.ln[i]?=some x/\d.Ok 40 s.row/\(∀ x,d=.take x∨(∃ i,d=.move x i)->DN x)/\s.sn.length<=1000/\R=.mt fun p t'=>p=.AF/\Cf (Dy s d (i+1)) C T a t'
def X0 (C T:Addr):Pre:=fun l R=>∃ (s:Ls) (xs:List PV) (x:Str) (q:Sm),l=[.is (QK C s xs),.is (.str x)]/\s.ln.length=s.ll.length/\x∈s.sn/\xs[s.sn.idxOf x]?=some (.obj T ["stood", "joined", "told", "taken"] (Dc q))/\R=.is fun p=>p=.tup (Dc q++[.int (BR s x).length])
noncomputable def runs (s:Ls):List LE->Option Ls
 | []=>some s
 | e :: r=>match Dr s e with
  | some s'=>runs s' r
  | none=>none
noncomputable def CK (ns:List Str):Ls:=⟨ns,[],[],[],[]⟩
def kF (ns:List Str) (es:List LE) (i:Nat):Prop:=∃ s e,runs (CK ns) (es.take i)=some s/\es[i]?=some e/\Dr s e=none
theorem NW {ns:List Str}(h:HY 40 ns):(CK ns).Ok:=⟨h,rfl,rfl,Oa,Oa,fun x hx=>absurd hx BH,fun x hx=>absurd hx BH,fun x hx=>absurd hx BH⟩
theorem Qx {es:List LE}:∀ {s s':Ls},s.Ok->runs s es=some s'->s'.Ok:=by
 induction es with
 | nil=>intro s s' h e;rw [runs] at e;cases e;exact h
 | cons x es ih=>
  intro s s' h e
  rw [runs] at e
  split at e
  ·next s1 e1=>exact ih (h.step e1) e
  ·cases e
theorem eV {es fs:List LE}:∀ {s:Ls},runs s (es++fs)=(runs s es).bind fun s'=>runs s' fs:=by
 induction es with
 | nil=>intro s;rfl
 | cons x es ih=>
  intro s
  rw [YI,runs,runs]
  split
  ·exact ih
  ·rfl
theorem V6 {es:List LE}{s s':Ls}{e:LE}(h:runs s es=some s'):runs s (es++[e])=Dr s' e:=by
 rw [eV,h]
 show runs s' [e]=_
 rw [runs]
 cases Dr s' e <;> rfl
theorem yW {ns:List Str}{es:List LE}{i:Nat}{s:Ls}(h:kF ns es i):runs (CK ns) es≠some s:=fun z=>by
 obtain ⟨s1,e,h1,h2,h3⟩:=h
 obtain ⟨hi,e2⟩:=List.getElem?_eq_some_iff.mp h2
 have CQ:es=es.take i++[e]++es.drop (i+1):=by
  rw [CD]
  conv=>lhs;rw [<- L3 i es,iO hi,e2]
  rfl
 rw [CQ,eV,V6 h1,h3] at z
 cases z
theorem wQ {s s':Ls}{e:LE}(h:Dr s e=some s'):s'.sn.length<=s.sn.length+1:=by
 cases e with
 | Hu x r=>
  have h:E6 s x r=some s':=h
  unfold E6 at h
  split at h
  ·cases h;show (s.sn++[x]).length<=_;rw [Bm];exact An _
  ·cases h
 | tell x y=>
  have h:DV s x y=some s':=h
  unfold DV at h
  split at h
  ·split at h
   ·cases h;exact Jb _
   ·cases h
  ·cases h
 | over x=>
  have h:DL s x=some s':=h
  unfold DL at h
  split at h
  ·split at h
   ·cases h;exact Jb _
   ·cases h
  ·cases h
 | GG d=>
  have h:EE s d=some s':=h
  unfold EE at h
  split at h
  ·cases h;exact Jb _
  ·cases h
theorem SG {es:List LE}:∀ {s s':Ls},runs s es=some s'->s'.sn.length<=s.sn.length+es.length:=by
 induction es with
 | nil=>intro s s' e;rw [runs] at e;cases e;exact An _
 | cons x es ih=>
  intro s s' e
  rw [runs] at e
  split at e
  ·next s1 e1=>have:=ih e;have:=wQ e1;rw [Bc];omega
  ·cases e
def TY:Pre:=fun l R=>∃ (tp:Bool) (ns:List Str) (es:List LE) (s:Ls) (x:Str) (q:Sm),l=[.is (JX tp (ns.map .str)),.is (.lst (es.map LE.P)),.is (.str x)]/\HY 40 ns/\(∀ e∈es,e.say)/\es.length<=200/\runs (CK ns) es=some s/\x∈s.sn/\s.sq[s.sn.idxOf x]?=some q/\R=.is fun p=>p=.tup (Dc q++[.int (BR s x).length])
def VR:Pre:=fun l R=>∃ (ns:List Str) (d:BM),l=[.is (.lst (ns.map .str)),.is (aP d)]/\d.say/\ns.length<=40/\R=.is fun p=>p=.bl (dd ns d).isSome
noncomputable def Tu (k:Nat) (q:Sm):Sm:=if k=1 then q.join else if k=2 then q.tell else q.take
def NF:Pre:=fun l R=>∃ (s:Ls) (a:Addr) (t:OV) (x:Str) (k:Nat),l=[.ow true t,.is (.str x),.is (.int k)]/\D1 s a t/\x∈s.sn/\s.sn.length=s.sq.length/\(k=1∨k=2∨k=3)/\R=.mt fun p t'=>p=.AF/\D1 ⟨s.row,s.ln,s.ll,s.sn,s.sq.modify (s.sn.idxOf x) (Tu k)⟩ a t'
def PJ:Pre:=fun l R=>∃ (s:Ls) (a:Addr) (t:OV) (d:BM),l=[.ow true t,.is (aP d)]/\D1 s a t/\s.Ok/\d.say/\s.sn.length<=1000/\R=.mt (ET (fun s t=>D1 s a t) s (EE s d))
def V2:Pre:=fun l R=>∃ (s:Ls) (a:Addr) (t:OV) (x r:Str),l=[.ow true t,.is (.str x),.is (.str r)]/\D1 s a t/\s.Ok/\DN x/\DN r/\s.sn.length<=1000/\R=.mt (ET (fun s t=>D1 s a t) s (E6 s x r))
def UI:Pre:=fun l R=>∃ (s:Ls) (a:Addr) (t:OV) (e:LE),l=[.ow true t,.is e.P]/\D1 s a t/\s.Ok/\e.say/\s.sn.length<=1000/\R=.mt (ET (fun s t=>D1 s a t) s (Dr s e))
def WN:Pre:=fun l R=>l=[.AN]/\R=.is fun p=>∃ r,p=.str r/\r∈EX
noncomputable def FC (s:Ls):PV:=.Ao k3 [.lst (s.row.map .str),.Ao (Ab s.ln) (s.ll.map Lp.P),.Ao (Ab s.sn) (s.sq.map fun q=>.lst (Dc q))]
theorem aW {s:Ls}{a aL aS:Addr}{us:List OV}(h:R2 ZI us s.sq):(BN s a aL aS us).pv=FC s:=by
 have e:OV.C8 us=s.sq.map fun q=>.lst (Dc q):=by
  rw [WK]
  apply Rj
  intro n
  rw [BF,BF]
  have hl:=h.1
  cases eu:us[n]? with
  | none=>rw [JZ (by have:=List.getElem?_eq_none_iff.mp eu;omega)];rfl
  | some u=>
   have hn:=(List.getElem?_eq_some_iff.mp eu).1
   have eq:=B1 (l:=s.sq) (i:=n) (by omega)
   obtain ⟨b,rfl⟩:=h.2 n u _ eu eq
   rw [eq]
   show some _=some _
   rw [fK]
 unfold BN FC
 rw [OV.pv,OV.C8,OV.C8,OV.C8,OV.C8,OV.pv,OV.pv,OV.pv,d8,e]
theorem wy (e:LE):Ew e.P=true:=by
 cases e with
 | GG d=>cases d <;> rfl
 | _=>rfl
def Tp:Pre:=fun l R=>∃ (s:Ls) (m:Nat),l=[.AN,.is (FC s),.is (.int m)]/\s.Ok/\s.ln.length<=5/\s.sn.length<=1000/\s.row.length<=m/\(m=9∨m=40)/\R=.is fun p=>∃ e s',p=LE.P e/\Dr s e=some s'/\e.say/\s'.ln.length<=5/\s'.row.length<=m
def Xt (K:ZCy):Pre:=fun l R=>∃ (sc:List Int),l=[.raw (DW K sc),.is (.int 0)]/\sc.length<=63/\R=.is fun p=>∃ (ns:List Str) (es:List LE) (s:Ls),p=.tup [.lst (ns.map .str),.lst (es.map LE.P),.AF,FC s]/\HY 40 ns/\(∀ e∈es,e.say)/\es.length<=200/\runs (CK ns) es=some s
theorem Cf.nd {s:Ls}{C T a:Addr}{t:OV}(h:Cf s C T a t):∃ nk us,t=.nd nk a us:=by
 obtain ⟨dx,aL,aS,us,_,rfl⟩:=h
 exact ⟨_,_,rfl⟩
theorem D1.nd {s:Ls}{a:Addr}{t:OV}(h:D1 s a t):∃ nk us,t=.nd nk a us:=by
 obtain ⟨aL,aS,us,_,rfl⟩:=h
 exact ⟨_,_,rfl⟩
theorem ET.nd {T:Ls->OV->Prop}{a:Addr}{s:Ls}{o:Option Ls}{p:PV}{t:OV}(h:ET T s o p t) (hT:∀ s t,T s t->∃ nk us,t=.nd nk a us):∃ nk us,t=.nd nk a us:=by
 rcases h with ⟨s',_,_,h⟩ | ⟨_,_,h⟩
 ·exact hT _ _ h
 ·exact hT _ _ h
theorem Rf (ns:List Str):(Ab ns).map Fw=ns.map PV.str:=by
 unfold Ab
 rw [HD];rfl
section
variable [Xw]
variable {ss:List Slot}{te:TE}{nx:List Slot->Prop}{i:Nat}{t:OV}
theorem Lv {lt:Bool}{k:PV->OV->Prop}(hi:ss[i]?=some (.ow lt t)) (h:Wm ss i lt t te fun p t'=>(∃ nk a us,t'=.nd nk a us)/\k p t'):Ws ss (Fn te) nx (.mt k):=⟨fun E D σ F H S hn hr=>
 h.go E σ F H _ S fun v p t' F1 H1 m1 r ⟨⟨nk,a0,us,e⟩,kk⟩=>by
  subst e
  have hl:i < ss.length:=(List.getElem?_eq_some_iff.mp hi).1
  obtain ⟨v0,e0,r0,Cy,q0⟩:=m1.st.ok i (.ow lt (.nd nk a0 us)) (by rw [Ca hl])
  have ev:v0=.ref a0:=by cases r0;rfl
  subst ev
  exact hr v F1 H1 m1.st.toFin ⟨p,.nd nk a0 us,r,r0,Cy,fun a ha=>⟨(q0 a ha).1,(q0 a ha).2.imp id fun z=>z.2⟩,kk⟩⟩
theorem oG {lt:Bool}{c d:TT}{k:Bool->OV->Prop}(h:Lq ss i lt t c fun b t'=>b=false/\k false t'):Lq ss i lt t (Oy c d) k:=⟨fun E σ F H Q S q=>
 h.go E σ F H _ S fun b t' F1 H1 m1 ⟨e,kk⟩=>by
  subst e
  rw [if_neg (by decide)]
  exact q false t' F1 H1 m1 kk⟩
theorem Nl {lt:Bool}{K:ZCy}{s:Ls}{C a dx aL aS:Addr}{us:List OV}{k:List Nat->OV->Prop}(hi:ss[i]?=some (.ow lt (BV s C a dx aL aS us))) (oc:Bf K C) (na:BK K C "standing") (h:k ([]++[0]) (.fz (.lst (s.row.map .str)))):Wl ss i (BV s C a dx aL aS us) (JJ K (BG i) "standing") k:=Ti (C2 hi ⟨C,dx,Fp,a,_,0,_,rfl,oc,na,by decide +kernel,rfl,h⟩)
theorem JU {lt:Bool}{K:ZCy}{s:Ls}{C a dx aL aS:Addr}{us:List OV}{k:List Nat->OV->Prop}(hi:ss[i]?=some (.ow lt (BV s C a dx aL aS us))) (oc:Bf K C) (na:BK K C "running") (h:k ([]++[1]) (.nd (.Ao (Ab s.ln)) aL (Bv s.ll))):Wl ss i (BV s C a dx aL aS us) (JJ K (BG i) "running") k:=Ti (C2 hi ⟨C,dx,Fp,a,_,1,_,rfl,oc,na,by decide +kernel,rfl,h⟩)
theorem O3 {lt:Bool}{K:ZCy}{s:Ls}{C a dx aL aS:Addr}{us:List OV}{k:List Nat->OV->Prop}(hi:ss[i]?=some (.ow lt (BV s C a dx aL aS us))) (oc:Bf K C) (na:BK K C "tallies") (h:k ([]++[2]) (.nd (.Ao (Ab s.sn)) aS us)):Wl ss i (BV s C a dx aL aS us) (JJ K (BG i) "tallies") k:=Ti (C2 hi ⟨C,dx,Fp,a,_,2,_,rfl,oc,na,by decide +kernel,rfl,h⟩)
theorem M6 {lt:Bool}{s:Ls}{a aL aS:Addr}{us:List OV}{k:List Nat->OV->Prop}(hi:ss[i]?=some (.ow lt (BN s a aL aS us))) (h:k ([]++[0]) (.fz (.lst (s.row.map .str)))):Wl ss i (BN s a aL aS us) (IB (BG i) (tC (V.str "row"))) k:=Fc (C2 hi ⟨k3,a,_,rfl,EW ⟨.inr "row", 0,_,rfl,by decide +kernel,rfl,h⟩⟩)
theorem OG {lt:Bool}{s:Ls}{a aL aS:Addr}{us:List OV}{k:List Nat->OV->Prop}(hi:ss[i]?=some (.ow lt (BN s a aL aS us))) (h:k ([]++[1]) (.nd (.Ao (Ab s.ln)) aL (Bv s.ll))):Wl ss i (BN s a aL aS us) (IB (BG i) (tC (V.str "live"))) k:=Fc (C2 hi ⟨k3,a,_,rfl,EW ⟨.inr "live", 1,_,rfl,by decide +kernel,rfl,h⟩⟩)
theorem PK {lt:Bool}{s:Ls}{a aL aS:Addr}{us:List OV}{k:List Nat->OV->Prop}(hi:ss[i]?=some (.ow lt (BN s a aL aS us))) (h:k ([]++[2]) (.nd (.Ao (Ab s.sn)) aS us)):Wl ss i (BN s a aL aS us) (IB (BG i) (tC (V.str "sums"))) k:=Fc (C2 hi ⟨k3,a,_,rfl,EW ⟨.inr "sums", 2,_,rfl,by decide +kernel,rfl,h⟩⟩)
theorem Ht {lt:Bool}{s:Ls}{C a dx aL aS:Addr}{us:List OV}{x:Str}{k:Bool->List PV->Prop}(h0:ss[0]?=some (.ow lt (BV s C a dx aL aS us))) (h1:ss[1]?=some (.is (.str x))) (hl:s.ln.length=s.ll.length) (hk:k true ((BR s x).map .str)):Wq ss (Jo C "coming" (Bp (Kl C)) [] E0 (BG 0) (AS (BG 1) Aw)) k:=
 BD (dO (i:=0) (C2 h0 ⟨dx,Fp,a,_,rfl,by decide +kernel,aR (AO h1 (ZA ⟨_,⟨s,_,x,congrArg (fun p=>[Slot.is p,.is (.str x)]) aB,hl,rfl⟩,fun _ hp=>hp▸⟨ZAO _,_,.inr ⟨rfl,hk⟩⟩⟩))⟩))
end
theorem ZP {α:Type} {xs:List α}{lo hi:Option Int}{x:α}(h:x∈G8 xs lo hi):x∈xs:=iY (iZ h)
def MM (s:Ls):Prop:=∀ (j:Nat) x q,s.sn[j]?=some x->s.sq[j]?=some q->q.stood+q.joined=q.told+q.taken+(BR s x).length
theorem Hg {s:Ls}{x:Str}(hl:s.ln.length=s.ll.length) (h:x∉s.ln):BR s x=[]:=by
 unfold BR
 rw [Rn h,hl,JZ (An _)]
theorem Qn {s:Ls}{x:Str}(ok:s.Ok) (h:x∈s.ln):∃ (i:Nat) (l:Lp),s.ln[i]?=some x/\s.ll[i]?=some l/\BR s x=l.cs:=by
 have hi:=List.idxOf_lt_length_iff.mpr h
 have l1:=ok.l1
 refine ⟨s.ln.idxOf x,s.ll[s.ln.idxOf x],Ei h,B1 (by omega),?_⟩
 exact Fj ok.n1 (Ei h) (B1 (by omega))
theorem tQ {ns:List Str}{l:Lp}{d:AJ}(g:l.Good ns) (ok:d.Ok 40 ns):(l.led ns d).cs.length=l.cs.length∨(l.led ns d).cs.length=l.cs.length+1∨(l.led ns d).cs.length+1=l.cs.length:=by
 have nd:l.cs.Nodup:=PR g.up
 cases d with
 | put x i=>
  show (if CZ l.r l.g i=true then DS l.cs x else l.cs).length=_∨(if CZ l.r l.g i=true then DS l.cs x else l.cs).length=_∨(if CZ l.r l.g i=true then DS l.cs x else l.cs).length+1=_
  split
  ·exact .inr (.inl (Y1))
  ·exact .inl rfl
 | take x=>
  show (wo l.cs x).length=_∨(wo l.cs x).length=_∨(wo l.cs x).length+1=_
  by_cases h:x∈l.cs
  ·exact .inr (.inr (ZH nd h))
  ·exact .inl (by rw [show wo l.cs x=l.cs from List.filter_eq_self.mpr fun y hy=>by rw [decide_eq_false (fun (z:y=x)=>h (z▸hy))];rfl])
 | move x i=>exact .inl rfl
 | turn lo hi=>exact .inl rfl
theorem Yp:∀ ns:List Str,(DA ns).length=ns.length
 | []=>rfl
 | x :: r=>by
  show (DS (DA r) x).length=_
  rw [Y1,Yp r];rfl
theorem XN {s:Ls}{d:AJ}(ok:s.Ok){j:Nat}{z:Str}(hz:s.sn[j]?=some z):∀ (n:Nat) (q:Sm),n<=s.ln.length->(C0 s d n)[j]?=some q->
  (∃ i l q0,i < n/\s.ln[i]?=some z/\s.ll[i]?=some l/\s.sq[j]?=some q0/\q=Sm.by l.cs.length (l.led s.row d).cs.length q0)∨((∀ i,i < n->s.ln[i]?≠some z)/\s.sq[j]?=some q)
 | 0,q,_,h=>.inr ⟨fun i hi=>by omega,h⟩
 | n+1,q,hn,h=>by
  have l1:=ok.l1
  have ex:=B1 (l:=s.ln) (i:=n) (by omega)
  have el:=B1 (l:=s.ll) (i:=n) (by omega)
  generalize s.ln[n]=x at ex
  generalize s.ll[n]=l at el
  rw [Y2 ex el] at h
  by_cases c:s.sn.idxOf x=j
  ·have zx:x=z:=by
    have:=Ei (ok.sub x (CG ex))
    rw [c,hz] at this
    exact (BU this).symm
   subst zx
   rw [c,iS] at h
   obtain ⟨q',h',e'⟩:=Option.map_eq_some_iff.mp h
   rcases XN ok hz n q' (by omega) h' with ⟨i,_,_,hi,hx,_⟩ | ⟨_,h2⟩
   ·obtain ⟨a1,e1⟩:=List.getElem?_eq_some_iff.mp hx
    obtain ⟨a2,e2⟩:=List.getElem?_eq_some_iff.mp ex
    have:=(iU ok.n1).mp (e1.trans e2.symm)
    omega
   ·exact .inl ⟨n,l,q',by omega,ex,el,h2,e'.symm⟩
  ·rw [iT _ _ c] at h
   rcases XN ok hz n q (by omega) h with ⟨i,l',q0,hi,r⟩ | ⟨h1,h2⟩
   ·exact .inl ⟨i,l',q0,by omega,r⟩
   ·refine .inr ⟨fun i hi e=>?_,h2⟩
    by_cases ci:i=n
    ·subst ci
     rw [ex] at e
     cases e
     exact c (GY ok.n2 hz)
    ·exact h1 i (by omega) e
theorem MM.step {s s':Ls}{e:LE}(ok:s.Ok) (B:MM s) (g:Dr s e=some s'):MM s':=by
 have Hs:=ok.step g
 have l1:=ok.l1
 have l2:=ok.l2
 cases e with
 | Hu x r=>
  have g:E6 s x r=some s':=g
  unfold E6 at g
  split at g
  ·next c=>
   cases g
   obtain ⟨c1,c2,c3⟩:=c
   intro j z q hz hq
   have hz:(s.sn++[x])[j]?=some z:=hz
   have hq:(s.sq++[⟨s.row.length,0,0,0⟩])[j]?=some q:=hq
   by_cases cj:j < s.sn.length
   ·rw [En cj] at hz
    rw [En (by omega)] at hq
    have zx:z≠x:=fun e=>c2 (e▸CG hz)
    have b:=B j z q hz hq
    have e:BR ⟨s.row,s.ln++[x],s.ll++[⟨r,0,DA s.row⟩],s.sn++[x],s.sq++[⟨s.row.length,0,0,0⟩]⟩ z=BR s z:=by
     by_cases hl:z∈s.ln
     ·obtain ⟨i,l,h1,h2,h3⟩:=Qn ok hl
      have hi:=(List.getElem?_eq_some_iff.mp h1).1
      rw [h3]
      exact Fj Hs.n1 (by show (s.ln++[x])[i]?=_;rw [En hi];exact h1) (by show (s.ll++[_])[i]?=_;rw [En (by omega)];exact h2)
     ·rw [Hg l1 hl]
      exact Hg Hs.l1 fun h=>(List.mem_append.mp h).elim hl fun h=>zx (List.mem_singleton.mp h)
    rw [e];exact b
   ·have hj:=(List.getElem?_eq_some_iff.mp hz).1
    rw [Bm,OW] at hj
    have:j=s.sn.length:=by omega
    subst this
    rw [GU (An _),YX] at hz
    rw [GU (by omega),show s.sn.length - s.sq.length=0 by omega] at hq
    cases hz;cases hq
    have e:BR ⟨s.row,s.ln++[x],s.ll++[⟨r,0,DA s.row⟩],s.sn++[x],s.sq++[⟨s.row.length,0,0,0⟩]⟩ x=DA s.row:=
     Fj (i:=s.ln.length) (l:=⟨r,0,DA s.row⟩) Hs.n1 (by show (s.ln++[x])[s.ln.length]?=_;rw [GU (An _),YX];rfl) (by show (s.ll++[_])[s.ln.length]?=_;rw [GU (by omega),show s.ln.length - s.ll.length=0 by omega];rfl)
    rw [e,Yp]
    show s.row.length+0=0+0+s.row.length
    omega
  ·cases g
 | tell x y=>
  have g:DV s x y=some s':=g
  unfold DV at g
  split at g
  ·next l el=>
   split at g
   ·next c=>
    cases g
    have xm:x∈s.ln:=TB l1 el
    have gl:=ok.good l (CG el)
    have cx:BR s x=l.cs:=Fj ok.n1 (Ei xm) el
    intro j z q hz hq
    have hz:s.sn[j]?=some z:=hz
    have hq:(s.sq.modify (s.sn.idxOf x) Sm.tell)[j]?=some q:=hq
    by_cases zx:z=x
    ·subst zx
     have ji:s.sn.idxOf z=j:=GY ok.n2 hz
     rw [ji,iS] at hq
     obtain ⟨q0,h0,rfl⟩:=Option.map_eq_some_iff.mp hq
     have b:=B j z q0 hz h0
     rw [cx] at b
     have e:BR ⟨s.row,s.ln,s.ll.set (s.ln.idxOf z) ⟨l.r,s.row.idxOf y+1,wo l.cs y⟩,s.sn,s.sq.modify (s.sn.idxOf z) Sm.tell⟩ z=wo l.cs y:=
      Fj (i:=s.ln.idxOf z) (l:=⟨l.r,s.row.idxOf y+1,wo l.cs y⟩) ok.n1 (Ei xm) (by show (s.ll.set _ _)[_]?=_;rw [Ca (List.getElem?_eq_some_iff.mp el).1])
     rw [e]
     have w:=ZH (PR gl.up) c
     show q0.stood+q0.joined=q0.told+1+q0.taken+(wo l.cs y).length
     omega
    ·have ji:s.sn.idxOf x≠j:=fun h=>by
      have:=Ei (ok.sub x xm)
      rw [h,hz] at this
      exact zx (BU this)
     rw [iT _ _ ji] at hq
     have b:=B j z q hz hq
     have e:BR ⟨s.row,s.ln,s.ll.set (s.ln.idxOf x) ⟨l.r,s.row.idxOf y+1,wo l.cs y⟩,s.sn,s.sq.modify (s.sn.idxOf x) Sm.tell⟩ z=BR s z:=by
      by_cases hl:z∈s.ln
      ·obtain ⟨i,l',h1,h2,h3⟩:=Qn ok hl
       rw [h3]
       refine Fj ok.n1 h1 ?_
       show (s.ll.set _ _)[i]?=_
       rw [CJ (fun h=>by
        have:=Ei xm
        rw [h,h1] at this
        exact zx (BU this))]
       exact h2
      ·rw [Hg l1 hl]
       exact Hg Hs.l1 hl
     rw [e];exact b
   ·cases g
  ·cases g
 | over x=>
  have g:DL s x=some s':=g
  unfold DL at g
  split at g
  ·next l el=>
   split at g
   ·next c=>
    cases g
    have xm:x∈s.ln:=TB l1 el
    have hi0:=(List.getElem?_eq_some_iff.mp el).1
    have cx:BR s x=l.cs:=Fj ok.n1 (Ei xm) el
    intro j z q hz hq
    have b:=B j z q hz hq
    have gone:∀ k:Nat,(s.ln.eraseIdx (s.ln.idxOf x))[k]?≠some x:=fun k h=>by
     rw [List.getElem?_eraseIdx] at h
     split at h
     ·next hk=>
      have:=GY ok.n1 h
      omega
     ·next hk=>
      have:=GY ok.n1 h
      omega
    have e:BR ⟨s.row,s.ln.eraseIdx (s.ln.idxOf x),s.ll.eraseIdx (s.ln.idxOf x),s.sn,s.sq⟩ z=BR s z:=by
     by_cases zx:z=x
     ·subst zx
      rw [cx,c]
      exact Hg Hs.l1 fun h=>by
       obtain ⟨k,hk,ek⟩:=List.mem_iff_getElem.mp h
       exact gone k (by rw [B1 hk,ek])
     ·by_cases hl:z∈s.ln
      ·obtain ⟨i,l',h1,h2,h3⟩:=Qn ok hl
       rw [h3]
       have ne:i≠s.ln.idxOf x:=fun h=>by
        have:=Ei xm
        rw [<- h,h1] at this
        exact zx (BU this)
       by_cases lt:i < s.ln.idxOf x
       ·exact Fj (i:=i) Hs.n1 (by show (s.ln.eraseIdx _)[i]?=_;rw [ZBy lt];exact h1) (by show (s.ll.eraseIdx _)[i]?=_;rw [ZBy lt];exact h2)
       ·exact Fj (i:=i - 1) Hs.n1 (by show (s.ln.eraseIdx _)[i - 1]?=_;rw [ZBx (by omega),show i - 1+1=i by omega];exact h1) (by show (s.ll.eraseIdx _)[i - 1]?=_;rw [ZBx (by omega),show i - 1+1=i by omega];exact h2)
      ·rw [Hg l1 hl]
       exact Hg Hs.l1 fun h=>hl ((YK _ _).subset h)
    rw [e];exact b
   ·cases g
  ·cases g
 | GG d=>
  have g:EE s d=some s':=g
  unfold EE at g
  split at g
  ·next d' ed=>
   cases g
   have od:=(Nn ed).2
   intro j z q hz hq
   rcases XN ok hz s.ln.length q (An _) hq with ⟨i,l,q0,hi,h1,h2,h3,rfl⟩ | ⟨h1,h2⟩
   ·have b:=B j z q0 hz h3
    rw [Fj ok.n1 h1 h2] at b
    have e:BR ⟨d'.done s.row,s.ln,s.ll.map (Lp.led s.row d'),s.sn,C0 s d' s.ln.length⟩ z=(l.led s.row d').cs:=Fj (l:=l.led s.row d') ok.n1 h1 (by show (s.ll.map _)[i]?=_;rw [BF,h2];rfl)
    rw [e]
    have cl:=tQ (ok.good l (CG h2)) od
    generalize (l.led s.row d').cs.length=n at cl ⊢
    unfold Sm.by
    by_cases c1:l.cs.length < n
    ·rw [if_pos c1]
     show q0.stood+(q0.joined+1)=q0.told+q0.taken+n
     omega
    ·rw [if_neg c1]
     by_cases c2:n < l.cs.length
     ·rw [if_pos c2]
      show q0.stood+q0.joined=q0.told+(q0.taken+1)+n
      omega
     ·rw [if_neg c2]
      show q0.stood+q0.joined=q0.told+q0.taken+n
      omega
   ·have b:=B j z q hz h2
    have hl:z∉s.ln:=fun h=>h1 (s.ln.idxOf z) (List.idxOf_lt_length_iff.mpr h) (Ei h)
    rw [Hg l1 hl] at b
    rw [show BR ⟨d'.done s.row,s.ln,s.ll.map (Lp.led s.row d'),s.sn,C0 s d' s.ln.length⟩ z=[] from Hg Hs.l1 hl]
    exact b
  ·cases g
theorem tU {es:List LE}:∀ {s s':Ls},s.Ok->MM s->runs s es=some s'->MM s':=by
 induction es with
 | nil=>intro s s' ok B e;rw [runs] at e;cases e;exact B
 | cons x es ih=>
  intro s s' ok B e
  rw [runs] at e
  split at e
  ·next s1 e1=>exact ih (ok.step e1) (B.step ok e1) e
  ·cases e
theorem tW (ns:List Str):MM (CK ns):=fun j x q h=>by cases h
theorem zy:∀ x y:Int,PV.int x=PV.int y->x=y:=fun _ _ e=>by injection e
noncomputable def Lu (q:Sm) (n:Nat):List Int:=[(q.stood:Int),q.joined,q.told,q.taken,n]
theorem vP (q:Sm) (n:Nat):Dc q++[.int n]=(Lu q n).map PV.int:=rfl
end Fz
namespace L2
section
variable {X:Cx}
def aG (K:ZCy) (t:TA):TE:=fun σ H Q=>t σ H fun vs H1=>∃ a tp ys,vs=[.ref a]/\CS K tp H1 a ys/\tp=false/\∀ l,H1 l=none->Q (.ref l) (upd H1 l (.lst ys.reverse))
theorem zR {p1 p2 V3 Hr:Pos}{e:Expr}{t:TA}(hc:X.calm=true) (Uo:Gl X "list") (Nz:X.mg "list" = none) (Sq:Gl X "reversed") (R5:X.mg "reversed" = none) (ha:PA X [e] t)
  (he:starEach [e] X.env=[(false,eval e X.env)]:=by rfl) (Lx:starEach [.Call (.Name "reversed" p2) [e] [] Hr] X.env=[(false,eval (.Call (.Name "reversed" p2) [e] [] Hr) X.env)]:=by rfl) :
  PE X (.Call (.Name "list" p1) [.Call (.Name "reversed" p2) [e] [] Hr] [] V3) (aG X.K t):=by
 intro pins s σ H Q I h
 refine wpAny_Call_Name_kw (J8 I Uo Nz (show bootBuiltins "list" = some (.type "list") by decide +kernel) ?_ (by decide) (by decide))
 refine Oe ?_ Lx rfl
 rw [Lx]
 show wpAny _ _ (spliced ((false,eval (.Call (.Name "reversed" p2) [e] [] Hr) X.env) :: [])) _ _ s
 refine iL ?_
 refine wpAny_Call_Name_kw (J8 I Sq R5 (show bootBuiltins "reversed" = some (.type "reversed") by decide +kernel) ?_ (by decide) (by decide))
 refine Oe (AR (ha Hr pins s σ H _ I h) fun us s1 ⟨vs,H1,I1,r1,q1⟩=>?_) he rfl
 obtain ⟨a,tp,ys,rfl,hq,rfl,q⟩:=q1
 obtain ⟨u,rfl,rx⟩:=vals1 r1
 cases rx
 have fin:∀ (A6:List Value) (D:Addr) (s2 s':Shared) (acc:Array Value) (c:Nat) (tk:Nat) (ob:Obj),Vals ys A6->ys.length<=sizeLine->D=s1.heap.objs.size->s2={ s1 with heap:=s1.heap.push ob,toks:=tk }->
   Moved [s2.heap.objs.size,D] (fun a b=>b=a) { s2 with heap:=s2.heap.push { cls:=.type "list", data:=.seq #[] } } s'->s'.heap.get? s2.heap.objs.size=some { cls:=.type "list", dict:=none,data:=.seq acc c,slots:=#[] }->
   ItemsOf (fun i v=>A6.toArray[A6.toArray.size - 1 - i]?=some v) acc A6.toArray.size->EP X pins σ Q (.ref s2.heap.objs.size) s':=by
  intro A6 D s2 s' acc c tk ob r hz eD e2 hm hS B9
  subst eD;subst e2
  obtain ⟨us,rv,rfl⟩:=qg r B9
  obtain ⟨h',g',d',tk',NO⟩:=s'
  have eg:g'=s1.gens:=hm.gens
  have ed:d'=s1.drawn:=hm.drawn
  have eo:NO=s1.os:=hm.os
  subst eg;subst ed;subst eo
  have hsz:(s1.heap.push ob).objs.size=s1.heap.objs.size+1:=JY ..
  have kp:∀ b o,s1.heap.get? b=some o->h'.get? b=some o:=fun b o e=>by
   have hb:=BA e
   refine hm.heap b o ?_ (Bl _ (Bl _ e))
   show b∉[(s1.heap.push ob).objs.size,s1.heap.objs.size]
   rw [hsz]
   simp only [HE,BH,or_false,not_or]
   exact ⟨Bx (Oc hb),Bx hb⟩
  refine ⟨.ref _,_,I1.laid (a:=(s1.heap.push ob).objs.size) (t':=tk') kp (by rw [hsz];exact Jb _) (show C5 X.prog X.w _ h' _ (.lst ys.reverse) from ⟨by rw [OU];exact hz,us,c,rv,hS⟩),rfl,q _ (I1.AM.fresh (by show _<=_;rw [hsz];exact Jb _))⟩
 have hh:X.A.handled=none:=I1.ok.hd hc
 obtain ⟨A6,r,pl,hz⟩:=I1.list hq
 have hlen:=r.length
 refine call_reversed_list pl.isList ?_
 refine iM ?_
 obtain ⟨o,n,ho,_⟩:=id pl
 have Al:=BA ho
 have As:a≠s1.heap.objs.size:=Bx Al
 have BY:0<=A6.toArray.size/\Heap.IsRevIter (s1.heap.push (revObj a ((A6.toArray.size:Int) - 1))) s1.heap.objs.size a ((A6.toArray.size:Int) - 1 - ((0:Nat):Int))/\Heap.IsList (s1.heap.push (revObj a ((A6.toArray.size:Int) - 1))) a A6.toArray:=
  ⟨Cc _,⟨_,CI _ rfl,rfl,by simp [revObj]⟩,pl.isList.push _⟩
 refine k9 (I:=s1.heap.objs.size) (s:={ s1 with heap:=s1.heap.push (revObj a ((A6.toArray.size:Int) - 1)) }) (Walks.listRev (prog:=X.prog) (w:=X.w) (A:=X.A.in1.in1) hh s1.heap.objs.size a As A6.toArray).toS (fun i s st=>st.2.1.typeIs) BY ?_ (by simp) ?_ (by simp;omega)
 ·intro b hb
  show b < (s1.heap.push _).objs.size
  rw [JY]
  rcases List.mem_cons.mp hb with h | h
  ·rw [h];exact YW _
  ·have:b=a:=by simpa using h
   rw [this];exact Oc Al
 ·intro s' acc c hm hS B9
  exact fin A6 s1.heap.objs.size { s1 with heap:=s1.heap.push (revObj a ((A6.toArray.size:Int) - 1)) } s' acc c s1.toks (revObj a ((A6.toArray.size:Int) - 1)) r hz rfl rfl hm hS B9
theorem i8 {p1 p2 V3 Hr:Pos}{e:Expr}{t:TA}(hc:X.calm=true) (Uo:Gl X "list") (Nz:X.mg "list" = none) (Sq:Gl X "reversed") (R5:X.mg "reversed" = none) (ha:QA X [e] t)
  (he:starEach [e] X.env=[(false,eval e X.env)]:=by rfl) (Lx:starEach [.Call (.Name "reversed" p2) [e] [] Hr] X.env=[(false,eval (.Call (.Name "reversed" p2) [e] [] Hr) X.env)]:=by rfl) :
  QE X (.Call (.Name "list" p1) [.Call (.Name "reversed" p2) [e] [] Hr] [] V3) (aG X.K t):=⟨zR hc Uo Nz Sq R5 ha.h he Lx⟩
end
section
variable {X:Cx}{pins:ZCz}{σ:St} {H:Hp}{s:Shared}
def eO (K:ZCy):R2:=fun x y H Q=>∃ p q xs ys,x=.ref p/\y=.ref q/\AE K H p xs/\AE K H q ys/\xs.length=ys.length/\(∀ (j:Nat) (x y:V),xs[j]?=some x->ys[j]?=some y->Fq K H 8 x y)/\Q (.bl true) H
theorem xp (hu:X.A.units+64 < cLine):BB X (compareOp .Eq) (eO X.K):=by
 intro pins s σ H x y v u Q I rx ry h
 obtain ⟨p,q,xs,ys,rfl,rfl,ha,hb,hl,hE,hQ⟩:=h
 cases rx;cases ry
 obtain ⟨A6,r1,p1,z1⟩:=I.list ha
 obtain ⟨C3,r2,p2,z2⟩:=I.list hb
 have l1:=r1.length
 have l2:=r2.length
 refine SeqAt.eq_listAt (e:=fun _=>true) p1.isList p2.isList (by simp only [Br];omega) (by omega) (V8 r1 r2 hl fun j x y u v hx hy ru rv=>hG I (hE j x y hx hy) X.A.in1 u v ru rv (by show X.A.units+1+8 < cLine;omega)) ⟨.bl true,H,I,?_,hQ⟩
 rw [show (List.range A6.toArray.size).all (fun _=>true)=true from List.all_eq_true.mpr fun _ _=>rfl]
 rfl
end
end L2
namespace Fz
open L2 Lw
def aH:Sp:=fun vs H Q _=>∃ (a:Addr) (tp:Bool) (ns:List Str) (lo hi:Nat),vs=[.ref a,.int lo,.int hi]/\H a=some (BI tp (ns.map V.str))/\tp=false/\ns.length<=1000/\lo<=hi/\hi<=ns.length/\MJ H Q (FE ns lo hi)
def YB:Sp:=fun vs H Q _=>∃ (a t:Addr) (tp:Bool) (ns:List Str) (d:AJ),vs=[.ref a,.ref t]/\H a=some (BI tp (ns.map V.str))/\H t=some (.tup d.vals)/\tp=false/\d.Ok 40 ns/\ns.length<=40/\MJ H Q (d.done ns)
section
variable [Xw]
variable {ss:List Slot}{te:TE}{K:ZCy}{ta tb tc:TE}{k:PV->Prop}
theorem cZ {k:List PV->Prop}(h:Wz ss te fun tp xs=>tp=false/\k (IH xs)):Wi ss (TJ K (AS te Aw)) k:=⟨fun E σ F H R S q=>
 h.go E σ F H _ S fun v tp xs F1 H1 m1 f ⟨et,kk⟩=>by
  subst et
  obtain ⟨l,vs,ev,hl,r⟩:∃ l vs,v=.ref l/\(∀ (ss:List Slot) (σ:L2.St) (F H:Hp),A8 F1 F->Sg E ss σ F H->H l=some (.lst vs))/\AU F1 vs xs:=by
   obtain ⟨l,vs,e,h1,r⟩:=f
   refine ⟨l,vs,e,fun ss σ F H s S=>?_,r⟩
   rcases h1 with h1 | ⟨hA,h1⟩
   ·exact S.fh _ _ (s _ _ h1)
   ·exact S.keep _ _ hA h1
  subst ev
  refine ⟨l,vs,rfl,AE.of (hl ss σ F1 H1 (A8.refl _) m1.st),q _ (IH xs) F1 H1 m1 ⟨fun ss σ F H i s S hi=>?_,fun ss σ F H s S=>?_,fun ss σ F H i x H' s S hi y=>?_⟩ kk⟩
  ·rw [LA] at hi;exact ⟨AE.of (hl ss σ F H s S),by rw [r.length];exact hi⟩
  ·refine ⟨AE.of (hl ss σ F H s S),?_⟩
   rw [LA,r.length];exact An _
  ·obtain ⟨p,y,hy,ex,hp,eH⟩:=y
   subst ex;subst eH
   obtain ⟨z,hz,rz⟩:=r.get' hy
   have m:=S.alloc hp (.tup [.int i,y])
   exact ⟨_,_,W2 hz,m,.tup AI (.cons (.int _) (.one (rz.mono (s.trans m.ff))))⟩⟩
theorem nh {k:List PV->Prop}(h:Wq ss ta fun tp xs=>tp=false/\∃ ns:List Str,xs=ns.map PV.str/\Wp ss tb fun p=>∃ d:AJ,p=dP d/\d.Ok 40 ns/\ns.length<=40/\k ((d.done ns).map PV.str)) :
  Wn ss (CP YB [] E0 (AS ta (AS tb Aw))) k:=⟨fun E σ F H Q S q=>
 h.go E σ F H _ S fun v tp xs F1 H1 m1 sv ⟨KN,ns,ex,h2⟩=>h2.go E σ F1 H1 _ m1.st fun v2 p2 F2 H2 m2 r2 ⟨d,em,hd,hz,kk⟩=>by
  subst ex;subst em
  obtain ⟨l,vs,ev,hl,r⟩:=(sv.mv m2).seq m2.st
  subst ev
  rw [r.strs] at hl
  obtain ⟨t,et,ht⟩:=RH r2
  subst et
  refine ⟨l,t,tp,ns,d,rfl,hl,m2.st.fh _ _ ht,KN,hd,hz,fun a H3 ha s e3=>?_⟩
  have m3:=m2.st.grow s
  exact q a _ _ F2 H3 (m1.trans (m2.trans m3)) (m2.st.Bb ha) ((m1.trans m2).none ha) e3 (Kb _) kk⟩
theorem ZAf (h:Wp ss ta fun p=>Wp ss tb fun p2=>p2=p/\∃ xs,p=.lst xs/\xs.all (JE 8)=true/\k (.bl true)):Wp ss (BQ (eO K) ta tb) k:=⟨fun E σ F H Q S q=>
 h.go E σ F H _ S fun v p F1 H1 m1 r1 h2=>h2.go E σ F1 H1 _ m1.st fun v2 p2 F2 H2 m2 r2 ⟨e,xs,ep,ho,kk⟩=>by
  subst e;subst ep
  cases r1 with
  | lst e1 q1=>
   cases r2 with
   | lst e2 q2=>
    refine ⟨_,_,_,_,rfl,rfl,AE.of (m2.st.fh _ _ (m2.ff _ _ e1)),AE.of (m2.st.fh _ _ e2),by rw [q1.length,q2.length],fun j x y hx hy=>?_,q _ _ F2 H2 (m1.trans m2) (.bl _) kk⟩
    obtain ⟨p1,Ec,Nq⟩:=q1.get' hx
    obtain ⟨p2,EK,K3⟩:=q2.get' hy
    rw [Ec] at EK;cases EK
    exact Y5 m2.st.fh 8 (List.all_eq_true.mp ho _ (CG Ec)) (Nq.mono m2.ff) K3⟩
theorem wa (h:Wq ss ta fun tp xs=>∃ ns:List Str,xs=ns.map PV.str/\Wp ss tb fun p=>∃ (r:Str) (g:Nat) (cs:List Str),p=D8 r g cs/\Wp ss tc fun p2=>∃ x:Str,p2=.str x/\cs.length < 64/\x∈ns/\k (D8 r (ns.idxOf x+1) (wo cs x))) :
  Wp ss (CP (V0 K) [] E0 (AS ta (AS tb (AS tc Aw)))) k:=⟨fun E σ F H Q S q=>
 h.go E σ F H _ S fun v tp xs F1 H1 m1 sv ⟨ns,ex,h2⟩=>h2.go E σ F1 H1 _ m1.st fun v2 p2 F2 H2 m2 r2 ⟨r,g,cs,ep,h3⟩=>h3.go E σ F2 H2 _ m2.st fun v3 p3 F3 H3 m3 r3 ⟨x,ed,hz,hx,kk⟩=>by
  subst ex;subst ep;subst ed;cases r3
  obtain ⟨l,vs,rfl,hl,rr⟩:=(sv.mv (m2.trans m3)).seq m3.st
  rw [rr.strs] at hl
  obtain ⟨tl,c0,rfl,lc⟩:=RV (r2.mono m3.ff)
  have Wy:=lc.same m3.st.fh
  refine ⟨l,tp,ns,tl,r,g,cs,x,rfl,hl,⟨c0,Wy⟩,hz,hx,fun t' c' H4 GB Fm s4 e4=>?_⟩
  obtain ⟨F4,m4,_,r4⟩:=(m3.st.grow s4).RM m3.st GB (.inl Fm) lc.2 e4
  exact q _ _ F4 H4 (m1.trans (m2.trans (m3.trans m4))) r4 kk⟩
end
def Pn (C T:Addr):Pre:=fun l R=>∃ (s s':Ls) (a:Addr) (t:OV) (d:BM),l=[.ow true t,.is (aP d)]/\Cf s C T a t/\s.Ok/\s.sn.length<=1000/\EE s d=some s'/\R=.mt fun p t'=>p=.bl true/\Cf s' C T a t'
def WB (C T:Addr):Pre:=fun l R=>∃ (s s':Ls) (a:Addr) (t:OV) (e:LE),l=[.ow true t,.is e.P]/\Cf s C T a t/\s.Ok/\e.say/\s.sn.length<=1000/\Dr s e=some s'/\R=.mt fun p t'=>p=.bl true/\Cf s' C T a t'
def Vd (C T:Addr):Pre:=fun l R=>∃ (tp:Bool) (ns:List Str) (es:List LE) (s:Ls),l=[.is (JX tp (ns.map .str)),.is (.lst (es.map LE.P))]/\HY 40 ns/\(∀ e∈es,e.say)/\es.length<=200/\runs (CK ns) es=some s/\R=.ow fun u=>∃ a,Cf s C T a u
theorem kO {ns:List Str}{es:List LE}{s:Ls}(h:runs (CK ns) es=some s){i:Nat}{e:LE}(he:es[i]?=some e){s1:Ls}(h1:runs (CK ns) (es.take i)=some s1):∃ s2,Dr s1 e=some s2:=by
 cases g:Dr s1 e with
 | some s2=>exact ⟨s2,rfl⟩
 | none=>exact absurd h (yW ⟨s1,e,h1,he,g⟩)
theorem pQ (es:List LE):(es.map LE.P).all (JE 8)=true:=by
 rw [iN]
 refine List.all_eq_true.mpr fun e _=>?_
 cases e with
 | GG d=>cases d <;> rfl
 | _=>rfl
theorem wV (zs:List Int):(zs.map PV.int).all (JE 8)=true:=by
 rw [iN]
 exact List.all_eq_true.mpr fun _ _=>rfl
end Fz
set_option maxHeartbeats 8000000
namespace Pf
open L2 Lw
abbrev St:=L2.St
noncomputable def top (i:Nat):Stmt:=PySem.Challenge.pw_stirround_k23_tallies.main.body.getD i (.Pass ⟨0,0,0,0⟩)
noncomputable abbrev VJ:Stmt:=top 42
noncomputable abbrev Sb:Stmt:=top 43
noncomputable abbrev Xr:Stmt:=top 44
noncomputable abbrev WI:Stmt:=top 45
noncomputable abbrev Vs:Stmt:=top 46
noncomputable abbrev SI:Stmt:=top 47
noncomputable abbrev V4:Stmt:=top 48
noncomputable abbrev WC:Stmt:=top 61
noncomputable abbrev Np:Stmt:=top 53
noncomputable abbrev Y4:Stmt:=top 62
noncomputable abbrev Pa:Stmt:=top 49
noncomputable abbrev QH:Stmt:=top 55
noncomputable abbrev Tf:Stmt:=top 56
noncomputable abbrev Ue:Stmt:=top 50
noncomputable abbrev Py:Stmt:=top 52
noncomputable abbrev VI:Stmt:=top 57
noncomputable abbrev XU:Stmt:=top 58
noncomputable abbrev Xv:Stmt:=top 51
noncomputable abbrev X3:Stmt:=top 59
noncomputable abbrev RZ:Stmt:=top 60
noncomputable abbrev UE:Stmt:=top 64
noncomputable abbrev Tc:Stmt:=HR (top 39) 7
noncomputable abbrev Xb:Stmt:=HR (top 39) 8
noncomputable abbrev U9:Stmt:=HR (top 39) 0
noncomputable abbrev SX:Stmt:=HR (top 40) 0
noncomputable abbrev Xy:Stmt:=top 32
noncomputable abbrev Ux:Stmt:=top 29
noncomputable abbrev Oq:Stmt:=top 13
noncomputable abbrev W8:Stmt:=HR (top 39) 2
noncomputable abbrev Qp:Stmt:=top 34
noncomputable abbrev XQ:Stmt:=top 15
noncomputable abbrev U5:Stmt:=top 31
noncomputable abbrev XT:Stmt:=HR (top 39) 3
noncomputable abbrev U2:Stmt:=HR (top 39) 4
noncomputable abbrev TR:Stmt:=top 25
noncomputable abbrev Vl:Stmt:=top 26
noncomputable abbrev U0:Stmt:=top 17
noncomputable abbrev Wu:Stmt:=top 35
noncomputable abbrev SY:Stmt:=top 33
noncomputable abbrev VU:Stmt:=top 30
noncomputable abbrev Th:Stmt:=HR (top 39) 6
noncomputable abbrev VN:Stmt:=top 19
noncomputable abbrev XX:Stmt:=top 20
noncomputable abbrev VW:Stmt:=top 21
noncomputable abbrev WQ:Stmt:=top 18
noncomputable abbrev U1:Stmt:=top 24
noncomputable abbrev Uw:Stmt:=top 22
noncomputable abbrev RQ:Stmt:=top 23
noncomputable abbrev Uq:Stmt:=top 16
noncomputable abbrev UP:Stmt:=HR (top 39) 5
noncomputable abbrev XG:Stmt:=HR (top 39) 1
noncomputable abbrev VO:Stmt:=top 38
noncomputable abbrev Sk:Stmt:=top 37
noncomputable abbrev VX:Stmt:=top 54
noncomputable abbrev Jn:Stmt:=top 65
variable {P:Program}{w:World}{K:ZCy}{mg:ZD0}{base:Heap}{f:Addr}{fd:FuncData}
theorem ZM {α:Type} {us:List α}(h:us.length=1):∃ a,us=[a]:=by
 rcases us with _ | ⟨a,_ | ⟨b,us⟩⟩
 ·cases h
 ·exact ⟨a,rfl⟩
 ·cases h
theorem ln2 {α:Type} {us:List α}(h:us.length=2):∃ a b,us=[a,b]:=by
 rcases us with _ | ⟨a,us⟩
 ·cases h
 ·obtain ⟨b,rfl⟩:=ZM (Rz h);exact ⟨a,b,rfl⟩
theorem ZV {α:Type} {us:List α}(h:us.length=3):∃ a b c,us=[a,b,c]:=by
 rcases us with _ | ⟨a,us⟩
 ·cases h
 ·obtain ⟨b,c,rfl⟩:=ln2 (Rz h);exact ⟨a,b,c,rfl⟩
theorem gE {α:Type} {us:List α}(h:us.length=4):∃ a b c d,us=[a,b,c,d]:=by
 rcases us with _ | ⟨a,us⟩
 ·cases h
 ·obtain ⟨b,c,d,rfl⟩:=ZV (Rz h);exact ⟨a,b,c,d,rfl⟩
theorem bc {α:Type} {us:List α}(h:us.length=5):∃ a b c d e,us=[a,b,c,d,e]:=by
 rcases us with _ | ⟨a,us⟩
 ·cases h
 ·obtain ⟨b,c,d,e,rfl⟩:=gE (Rz h);exact ⟨a,b,c,d,e,rfl⟩
theorem wG {α:Type} {us:List α}(h:us.length=6):∃ a b c d e f,us=[a,b,c,d,e,f]:=by
 rcases us with _ | ⟨a,us⟩
 ·cases h
 ·obtain ⟨b,c,d,e,f,rfl⟩:=bc (Rz h);exact ⟨a,b,c,d,e,f,rfl⟩
local macro_rules | `(tactic| walk_at "bD1")=>`(tactic| (intro _ _ _ _ _ _ us hl;obtain ⟨_,e⟩:=ZM hl;subst e;rfl))
local macro_rules | `(tactic| walk_at "bD2")=>`(tactic| (intro _ _ _ _ _ _ us hl;obtain ⟨_,_,e⟩:=ln2 hl;subst e;rfl))
local macro_rules | `(tactic| walk_at "bD3")=>`(tactic| (intro _ _ _ _ _ _ us hl;obtain ⟨_,_,_,e⟩:=ZV hl;subst e;rfl))
local macro_rules | `(tactic| walk_at "bD4")=>`(tactic| (intro _ _ _ _ _ _ us hl;obtain ⟨_,_,_,_,e⟩:=gE hl;subst e;rfl))
local macro_rules | `(tactic| walk_at "bD5")=>`(tactic| (intro _ _ _ _ _ _ us hl;obtain ⟨_,_,_,_,_,e⟩:=bc hl;subst e;rfl))
local macro_rules | `(tactic| walk_at "bD6")=>`(tactic| (intro _ _ _ _ _ _ us hl;obtain ⟨_,_,_,_,_,_,e⟩:=wG hl;subst e;rfl))
abbrev nS (K:ZCy) (x:Str) (v:Value):Prop:=PySem.W.nsIn K mainGlobals x=some (some v)
abbrev nN (K:ZCy) (x:Str):Prop:=PySem.W.nsIn K mainGlobals x=some none
open Fz
def ZWM (t:String):Lean.MacroM (Lean.TSyntax `tactic):=do
 let g:Lean.TSyntax `tactic←`(tactic| fail)
 let k←`(tactic| case wk=>rfl)
 let n (s:String):=`(tactic| walk_at $(Lean.quote s):str)
 (t.splitOn " ").foldrM (fun s r=>do
  let l:=((s.drop 1).toString.splitOn "/").map fun x=>Lean.mkIdent (`Fz++x.toName)
  let h:Lean.Ident:=l.getLast!
  let c:=s.front
  let w:=(h.getId.getString!.toLower.replace "o" "e").replace "i" "e"
  let z←if c=='j' then `($h ?wj ?wk ?_) else if c=='k'||c=='K' then `($h ?wk ?_) else `($h ?_)
  let z←l.dropLast.foldrM (fun (f:Lean.Ident) (z:Lean.Term)=>`($f ($z))) z
  let p←if c=='e' then `(tactic| show ∃ _,_=$h _/\_) else if c=='s' then `(tactic| show $h _ _ _) else `(tactic| refine' $z)
  let p←if c=='K'||c=='R'||c=='j' then pure p else `(tactic| with_reducible $p:tactic)
  let q←if c=='e' then `(tactic| refine ⟨_,rfl,?_⟩) else if c=='s' then n w else if c=='n' then n "wn" else if c=='p' then n "wp" else if c=='k'||c=='K' then pure k else if c=='j' then `(tactic| ((case wj=>rfl);$k:tactic)) else `(tactic| skip)
  `(tactic| first | ($p:tactic;$q:tactic) | $r:tactic)) g
local macro_rules | `(tactic| walk_at "wp")=>ZWM "kCp/M9/C2 kCp/KQ/C2 kCp/M9/M9/C2 kCp/KQ/KQ/C2 kCp/KQ/M9/C2 kVh/C2 kVh/KQ/C2 kVh/M9/C2 kAO rBg rEW rCg rqX rkz rTX rFL rvO rzi rZ8 rzL rfJ rZAc rxX kyk rCU rjK rEH rxQ rzr rWr rM8 rbf rtL rbj rZBh rlz kkG rkB rnA rmQ RxF rgy rrV ruc rZAN Kub KnH KsH kae KlX KgM KZBf KXf"
local macro_rules | `(tactic| walk_at "wn")=>ZWM "raT rfD rZk rzj Rsh rmX rqo rfi KNj jkP"
local macro_rules | `(tactic| walk_at "wq")=>do
 let z←ZWM "kWT/C2 kWT/M9/C2 kWT/KQ/C2 kpB kqF kVz kFH ryP"
 `(tactic| first | $z:tactic | (refine BD (EJ ?_);walk_at "wn") | (refine BD ?_;walk_at "wp"))
local macro_rules | `(tactic| walk_at "wz")=>`(tactic| first
 | ((with_reducible refine' cX ?wk ?_);(case wk=>rfl))
 | (with_reducible refine' Ze ?_)
 | (refine Hx (EJ ?_);walk_at "wn")
 | (refine Hx ?_;walk_at "wp"))
local macro_rules | `(tactic| walk_at "wt")=>ZWM "rDT rEV rdF rKR rvG rGn"
local macro_rules | `(tactic| walk_at "we")=>ZWM "rFh rIM ruk rmL rzV rzt rZA9 rNS"
local macro_rules | `(tactic| walk_at "w")=>do
 let z←ZWM "rAm rES rCH rB7 klO koR kZBY kZAu nP5 pG2 koI nkR pFK"
 let z1←ZWM "eOV.tp eOV.fz"
 let z2←ZWM "sWn sWq sWz sWt sWe sWo sWi"
 let z3←ZWM "ePV.int ePV.str ePV.bl"
 `(tactic| first | $z1:tactic | ((with_reducible show ∃ _ _,_=OV.nd NK.lst _ _/\_);refine ⟨_,_,rfl,?_⟩) | ((with_reducible show ∃ _ _ _,_=PV.int _/\_/\_/\_);refine ⟨_,_,_,rfl,rfl,rfl,?_⟩) | ((with_reducible show Wp _ _ _);first | walk_at "wp" | (refine EJ ?_;walk_at "wn")) | $z2:tactic | ((with_reducible show Ws _ _ _ _);$z:tactic) | $z3:tactic | ((with_reducible show (_:Bool)=_/\_);refine ⟨rfl,?_⟩) | ((with_reducible show ∃ _ _,_=PV.int _/\L2.BX _ _=some _/\_);refine ⟨_,_,rfl,rfl,?_⟩) | ((with_reducible show ∃ _,(_=PV.lst _/\_)∨(_=PV.tup _/\_));first | refine ⟨_,.inl ⟨rfl,?_⟩⟩ | refine ⟨_,.inr ⟨rfl,?_⟩⟩) | ((with_reducible show ∃ _,_=List.map _ _/\_);first | refine ⟨_,rfl,?_⟩ | refine ⟨[],rfl,?_⟩ | refine ⟨_,sj _ _ _ _,?_⟩ | refine ⟨_,yR _ _ _,?_⟩ | refine ⟨_,qu _ _,?_⟩))
local macro_rules | `(tactic| walk_at "ww")=>`(tactic| repeat walk_at "w")
theorem Mc:Au ["script", "k", "cell", "rest_here"] ["script", "k"] (Ae VJ):=⟨rfl,rfl,rfl,by decide +kernel,rfl,by decide +kernel,by decide +kernel⟩
theorem vA (F:AK K "_law_pot" "_law_pot" VJ f fd) (m:mg "_law_pot" = some (.ref f)) (Ad:mg "len" = none) :
  AA P w K mg base "_law_pot" 1 ["script", "k"] (US K):=by
 refine AA.mk F (F.binds (by walk_at "bD2")) m (F.Az (k:=0) Mc (fun vs H Q E h=>?_) (fun Aa A outer s H vs Q E hr h=>?_))
 ·obtain ⟨a,ns,k,rfl,hS,k0,k1,q⟩:=h;rfl
 obtain ⟨a,ns,k,rfl,hS,k0,k1,q⟩:=h
 refine ⟨_,(AB rfl (Ar 2 Mc.nd A4)
   (AB rfl (CO (Ag (AX FA (qv 1) (B2 EM Ad (A0 (qv 0) A3))) (AD rfl (Ar 2 Mc.nd (Ap Hh (AH Ed (qv 0) (qv 1)) (Ap Kv (Ap Kv (Ap Kv (Ap La A4 A4) (Ap La A4 A4)) (Ap La A4 A4)) (Ap La A4 A4))))) Ah))
   (AB rfl (Ar 3 Mc.nd A4)
   (AB rfl (CO (Ag (AX LG (qv 2) (Ap La A4 A4)) (AD rfl (Ar 3 Mc.nd (qv 2))) Ah))
   (AD rfl (AY (Gd (A0 (qv 3) (A0 (Ap Hh (Ap Kv (Ap D2 (Ap D2 (Ap Hh (qv 2) A4) (Ap Kv A4 (qv 1))) A4) A4) A4) A3))))))))),?_⟩
 have hl:(ns.map V.int).length=ns.length:=AV _
 refine ⟨fun σ' H'=>∃ c:Int,σ'=[some (.ref a),some (.int k),some (.int c),none]/\H=H'/\0<=c/\c < 10 ^ 256,?_,?_⟩
 ·refine ⟨_,rfl,_,rfl,a,_,rfl,.inl hS,_,_,rfl,rfl,_,rfl,?_⟩
  refine Af (fun c=>?_) (fun c=>?_)
  ·have c':k < (((ns.map V.int).length:Nat):Int):=of_decide_eq_true c
   rw [hl] at c'
   have hk:k.toNat < ns.length:=by omega
   have hv:BX (ns.map V.int) k=some (.int ns[k.toNat]):=Mm k0 (by rw [BF,B1 hk] <;> rfl)
   refine ⟨_,rfl,_,rfl,a,_,_,_,rfl,rfl,hS,hv,_,_,rfl,rfl,⟨by decide,by decide,by decide +kernel⟩,_,_,rfl,rfl,⟨by decide,by decide,by decide +kernel⟩,_,_,rfl,rfl,⟨by decide +kernel,by decide +kernel⟩,_,_,rfl,rfl,⟨by decide,by decide,by decide +kernel⟩,_,_,rfl,rfl,⟨by decide +kernel,by decide +kernel⟩,
    _,_,rfl,rfl,⟨by decide,by decide,by decide +kernel⟩,_,_,rfl,rfl,⟨by decide +kernel,by decide +kernel⟩,_,_,rfl,rfl,(by show (0:Int) < _;decide +kernel),?_⟩
   exact ⟨_,rfl,rfl,L1 _ (by decide +kernel),L0 _ (by decide +kernel)⟩
  ·exact ⟨0,rfl,rfl,by decide,by decide +kernel⟩
 rintro σ' H' ⟨c,rfl,rfl,c0,c1⟩
 refine ⟨fun σ' H'=>∃ d:Int,σ'=[some (.ref a),some (.int k),some (.int c),some (.int d)]/\H=H'/\0<=d/\d < 10 ^ 256,?_,?_⟩
 ·refine ⟨_,rfl,_,_,rfl,rfl,⟨by decide,by decide,by decide +kernel⟩,_,_,rfl,rfl,_,rfl,?_⟩
  refine Af (fun _=>?_) (fun _=>?_)
  ·exact ⟨_,rfl,c,rfl,rfl,c0,c1⟩
  ·exact ⟨0,rfl,rfl,by decide,by decide +kernel⟩
 rintro σ' H' ⟨d,rfl,rfl,d0,d1⟩
 have e0:0<=c % 2147483629:=L1 _ (by decide)
 have e1:c % 2147483629 < 2147483629:=L0 _ (by decide)
 refine ⟨_,rfl,_,rfl,_,_,rfl,rfl,(by show (0:Int) < 2147483629;decide),_,rfl,_,_,rfl,rfl,⟨by decide +kernel,Lc (by omega) (by omega)⟩,_,_,rfl,rfl,_,_,rfl,rfl,_,_,rfl,rfl,⟨Lc (by omega) (by omega),by decide +kernel⟩,_,_,rfl,rfl,(by show (0:Int) < 2147483647;decide),?_⟩
 refine ⟨(by show 2<=sizeLine;decide),fun p hp=>?_⟩
 exact q p _ hp (Ac hp _) ⟨d,_,AI,d0,d1,L1 _ (by decide),L0 _ (by decide)⟩
theorem Zo:Au ["pot", "many", "found"] ["pot", "many"] (Ae Sb):=⟨rfl,rfl,rfl,by decide +kernel,rfl,by decide +kernel,by decide +kernel⟩
theorem ZBJ (F:AK K "_law_take" "_law_take" Sb f fd) (m:mg "_law_take" = some (.ref f))  :
  AA P w K mg base "_law_take" 1 ["pot", "many"] (Iy):=by
 refine AA.mk F (F.binds (by walk_at "bD2")) m (F.Az (k:=0) Zo (fun vs H Q E h=>?_) (fun Aa A outer s H vs Q E hr h=>?_))
 ·obtain ⟨p,m,rfl,⟨a,b,hp,a0,a1,b0,b1⟩,m0,m1,q⟩:=h;rfl
 obtain ⟨p,m,rfl,⟨a,b,hp,a0,a1,b0,b1⟩,m0,m1,q⟩:=h
 refine ⟨_,(AB rfl (Ag (AX K4 (AH Ed (qv 0) A4) A4) (AB rfl (Ar 2 Zo.nd (Ap Hh (AH Ed (qv 0) A4) (qv 1)))
   (AB rfl (Iq (Ap Vp (AH Ed (qv 0) A4) (qv 1)) (XA (qv 0) A4 set_list))
   (AD rfl (AY (qv 2))))) Ah)
   (AB rfl (Iq (Ap Hh (Ap D2 (Ap Kv (AH Ed (qv 0) A4) A4) A4) A4) (XA (qv 0) A4 set_list))
   (AD rfl (AY (Ap Hh (Ap Vp (Ap Hh (Ap Kv (AH Ed (qv 0) A4) (AH Ed (qv 0) A4)) A4) A4) (qv 1)))))),?_⟩
 refine ⟨_,rfl,p,_,_,_,rfl,rfl,AE.of hp,rfl,_,_,rfl,rfl,_,rfl,?_⟩
 refine Af (fun c=>?_) (fun c=>?_)
 ·have c':0 < a:=of_decide_eq_true c
  refine ⟨_,rfl,p,_,_,_,rfl,rfl,AE.of hp,rfl,_,rfl,_,_,rfl,rfl,m0,?_⟩
  refine ⟨_,rfl,p,_,_,_,rfl,rfl,AE.of hp,rfl,_,rfl,_,_,rfl,rfl,⟨m0,Lc (by omega) (by omega)⟩,?_⟩
  refine ⟨_,rfl,p,_,_,_,rfl,rfl,hp,rfl,?_⟩
  refine ⟨_,rfl,?_⟩
  refine q _ _ (L1 _ (by omega)) (L0 _ m0) ⟨⟨a / m,b,AI,Int.ediv_nonneg a0 (by omega),ZBo (Int.ediv_le_self _ a0) a1,b0,b1⟩,Er.upd⟩
 ·refine ⟨_,rfl,p,_,_,_,rfl,rfl,AE.of hp,rfl,_,_,rfl,rfl,⟨Lc (by omega) (by omega),by decide +kernel⟩,_,_,rfl,rfl,_,_,rfl,rfl,(by show (0:Int) < 2147483647;decide),?_⟩
  refine ⟨_,rfl,p,_,_,_,rfl,rfl,hp,rfl,?_⟩
  have Zm:0<=(b * 69621+12345) % 2147483647:=L1 _ (by decide)
  have Q2:(b * 69621+12345) % 2147483647 < 2147483647:=L0 _ (by decide)
  generalize hb:(b * 69621+12345) % 2147483647=b' at Zm Q2
  have Jj:(upd H p (.lst [.int a,.int ((b * 69621+12345) % 2147483647)])) p=some (.lst [.int a,.int b']):=by rw [AI,hb]
  refine ⟨_,rfl,p,_,_,_,rfl,rfl,AE.of Jj,rfl,_,rfl,p,_,_,_,rfl,rfl,AE.of Jj,rfl,_,_,rfl,rfl,⟨Lc (by omega) (by omega),Lc (by omega) (by omega)⟩,_,_,rfl,rfl,(by show (0:Int) < 2147483629;decide),?_⟩
  refine ⟨_,_,rfl,rfl,⟨(by show (0:Int) < 64;decide),by decide +kernel⟩,_,rfl,_,_,rfl,rfl,m0,?_⟩
  exact q _ _ (L1 _ (by omega)) (L0 _ m0) ⟨⟨a,b',Jj,a0,a1,Zm,Q2⟩,Er.upd⟩
theorem RI:Au ["number", "word"] ["number"] (Ae Xr):=⟨rfl,rfl,rfl,by decide +kernel,rfl,by decide +kernel,by decide +kernel⟩
theorem um (F:AK K "_law_letters" "_law_letters" Xr f fd) (m:mg "_law_letters" = some (.ref f))  :
  AA P w K mg base "_law_letters" 1 ["number"] (ZE):=by
 refine AA.mk F (F.binds (by walk_at "bD1")) m (F.Az (k:=0) RI (fun vs H Q E h=>?_) (fun Aa A outer s H vs Q E hr h=>?_))
 ·obtain ⟨r,rfl,r0,r1,q⟩:=h;rfl
 obtain ⟨r,rfl,r0,r1,q⟩:=h
 refine ⟨_,(AB rfl (Ar 1 RI.nd AW)
   (AB rfl (CO (b5 Ih (Ee (AX BP (qv 1) AW) (Gu (AX K4 (qv 0) A4))).pt (AB rfl (Ar 1 RI.nd (Ap iF (qv 1) (AH jq AW (Ap Hh (qv 0) A4))))
   (AD rfl (Ar 0 RI.nd (Ap Vp (qv 0) A4))))))
   (AD rfl (AY (qv 1))))),?_⟩
 obtain ⟨n,rfl⟩:=EO r0
 have hn:n < 26 ^ 8:=by omega
 rw [YG] at q
 refine ⟨fun σ' H'=>∃ v,σ'=[some v,some (.str (Cw (MA.lets n)))]/\H=H',?_,?_⟩
 ·refine ⟨fun m σ' H'=>∃ (k:Nat) (pre:List Nat),σ'=[some (.int k),some (.str (Cw pre))]/\H=H'/\((pre=[]/\k=n/\m=n+2)∨(pre≠[]/\m=k+1/\(0 < k->pre++MA.lets k=MA.lets n)/\(k=0->pre=MA.lets n))),⟨n+2,n,[],rfl,rfl,.inl ⟨rfl,rfl,rfl⟩⟩,?_⟩
  rintro m σ' H' ⟨k,pre,rfl,rfl,hI⟩
  refine ⟨_,rfl,rfl,_,rfl,?_⟩
  refine Af (fun c=>Jc ?_) (fun c=>⟨_,rfl,_,_,rfl,rfl,_,rfl,?_⟩)
  ·have hp:pre=[]:=dZ.mp (of_decide_eq_true c)
   obtain ⟨_,hk,hm⟩ | ⟨h,_⟩:=hI
   ·have he:pre++MA.lets k=MA.lets n:=by rw [hp,hk];rfl
    have hlen:pre.length+1<=8:=by
     have h1:=congrArg List.length he
     rw [Bm] at h1
     have h2:=MA.Ox 7 n hn
     have h3:=MA.SA k
     omega
    refine ⟨fun σ' H'=>σ'=[some (.int ((k:Int) / 26)),some (.str (Cw pre++⟨#[97+((k:Int) % 26).toNat]⟩))]/\H=H',?_,?_⟩
    ·rintro σ' H' ⟨rfl,rfl⟩
     have nx:=ZR he
     have e1:((k:Int) % 26).toNat=k % 26:=by omega
     have e2:(k:Int) / 26=((k / 26:Nat):Int):=by omega
     exact ⟨k / 26+1,by omega,k / 26,pre++[97+k % 26],by rw [e1,e2,aJ],rfl,.inr ⟨by simp,rfl,nx.1,nx.2⟩⟩
    ·refine ⟨_,rfl,_,rfl,_,_,rfl,rfl,(by show (0:Int) < 26;decide),_,_,_,rfl,rfl,(by decide +kernel),eL (L1 _ (by decide)) (L0 _ (by decide)),_,_,rfl,rfl,?_,?_⟩
     ·rw [Qr];exact small (show pre.length+1<=_ by omega)
     ·exact ⟨_,rfl,_,_,rfl,rfl,⟨(by show (0:Int) < 26;decide),by decide +kernel⟩,rfl,rfl⟩
   ·exact absurd hp h
  ·have hp:pre≠[]:=fun h=>c (decide_eq_true (dZ.mpr h))
   obtain ⟨h,_⟩ | ⟨_,hm,h1,h2⟩:=hI
   ·exact absurd h hp
   refine Af (fun c2=>?_) (fun c2=>?_)
   ·have hk:0 < k:=by have:(0:Int) < k:=of_decide_eq_true c2;omega
    have he:=h1 hk
    have hlen:pre.length+1<=8:=by
     have h1:=congrArg List.length he
     rw [Bm] at h1
     have h2:=MA.Ox 7 n hn
     have h3:=MA.SA k
     omega
    refine ⟨fun σ' H'=>σ'=[some (.int ((k:Int) / 26)),some (.str (Cw pre++⟨#[97+((k:Int) % 26).toNat]⟩))]/\H=H',?_,?_⟩
    ·rintro σ' H' ⟨rfl,rfl⟩
     have nx:=ZR he
     have e1:((k:Int) % 26).toNat=k % 26:=by omega
     have e2:(k:Int) / 26=((k / 26:Nat):Int):=by omega
     exact ⟨k / 26+1,by omega,k / 26,pre++[97+k % 26],by rw [e1,e2,aJ],rfl,.inr ⟨by simp,rfl,nx.1,nx.2⟩⟩
    ·refine ⟨_,rfl,_,rfl,_,_,rfl,rfl,(by show (0:Int) < 26;decide),_,_,_,rfl,rfl,(by decide +kernel),eL (L1 _ (by decide)) (L0 _ (by decide)),_,_,rfl,rfl,?_,?_⟩
     ·rw [Qr];exact small (show pre.length+1<=_ by omega)
     ·exact ⟨_,rfl,_,_,rfl,rfl,⟨(by show (0:Int) < 26;decide),by decide +kernel⟩,rfl,rfl⟩
   ·have hk:k=0:=by
     have:¬ (0:Int) < k:=fun z=>c2 (decide_eq_true z)
     omega
    exact ⟨_,by rw [h2 hk],rfl⟩
 ·rintro σ' H' ⟨v,rfl,rfl⟩
  exact ⟨_,rfl,q⟩
theorem GF:Au ["pot", "names", "some", "way", "name", "number"] ["pot", "names"] (Ae WI):=⟨rfl,rfl,rfl,by decide +kernel,rfl,by decide +kernel,by decide +kernel⟩
theorem yC (F:AK K "_law_name" "_law_name" WI f fd) (m:mg "_law_name" = some (.ref f)) (Ma:AA P w K mg base "_law_letters" 1 ["number"] (ZE)) (BW:AA P w K mg base "_law_take" 1 ["pot", "many"] (Iy)) (Ad:mg "len" = none) :
  AA P w K mg base "_law_name" 2 ["pot", "names"] (Na K):=by
 refine AA.mk F (F.binds (by walk_at "bD2")) m (F.Az (k:=1) GF (fun vs H Q E h=>?_) (fun Aa A outer s H vs Q E hr h=>?_))
 ·obtain ⟨p,q,ns,rfl,hp,hS,As,hN,hL,K1⟩:=h;rfl
 obtain ⟨p,q,ns,rfl,hp,hS,As,hN,hL,K1⟩:=h
 refine ⟨_,(AB rfl (Ar 2 GF.nd (BZ (A0 AW (A0 AW (A0 AW (A0 AW (A0 AW (A0 AW (A0 AW (A0 AW (A0 AW (A0 AW (A0 AW (A0 AW (A0 AW A3)))))))))))))))
   (AB rfl (Ar 3 GF.nd (AZ BW hr (A0 (qv 0) (A0 A4 A3))))
   (AB rfl (Ar 4 GF.nd (AH AL (qv 2) (AZ BW hr (A0 (qv 0) (A0 A4 A3)))))
   (AB rfl (CO (Ag (AX BP (qv 3) A4) (AD rfl (Ar 4 GF.nd (AZ Ma hr (A0 (AZ BW hr (A0 (qv 0) (A0 (Ap Nr (Ap La A4 A4) A4) A3))) A3)))) Ah))
   (AB rfl (CO (Ag (GO (AX BP (qv 3) A4) (GP (AX (Nu hr.IX) (qv 1) (Gd A3)))).pt (AB rfl (Ar 4 GF.nd (AH Ed (qv 1) (AZ BW hr (A0 (qv 0) (A0 (B2 EM Ad (A0 (qv 1) A3)) A3)))))
   (AD rfl (Ar 4 GF.nd (Ea eY (Ap iF (qv 4) (AZ Ma hr (A0 (AZ BW hr (A0 (qv 0) (A0 A4 A3))) A3))) GQ (Dj A4))))) Ah))
   (AB rfl (CO (Ag (GO (AX BP (qv 3) A4) (GP (AX (Nu hr.IX) (qv 1) (Gd A3)))).pt (AB rfl (Ar 4 GF.nd (AH Ed (qv 1) (AZ BW hr (A0 (qv 0) (A0 (B2 EM Ad (A0 (qv 1) A3)) A3)))))
   (AD rfl (Ar 4 GF.nd (Ea eY (qv 4) GQ (Dj (Ap D2 A4 (AZ BW hr (A0 (qv 0) (A0 (B2 Y3 Ad (A0 (qv 4) A3)) A3))))))))) Ah))
   (AB rfl (Ar 5 GF.nd A4)
   (AB rfl (CO (b5 Ih (AX Lo (qv 4) (qv 1)) (AB rfl (Ar 4 GF.nd (AZ Ma hr (A0 (qv 5) A3)))
   (AD rfl (Ar 5 GF.nd (Ap D2 (qv 5) A4))))))
   (AD rfl (AY (qv 4))))))))))),?_⟩
 have hl:(ns.map V.str).length=ns.length:=AV _
 refine ⟨(by show 13<=sizeLine;decide +kernel),fun sm HW=>?_⟩
 have Fb:sm≠p:=by
  obtain ⟨_,_,e,_⟩:=hp
  exact (EN e HW).symm
 have g0:BJ p H (upd H sm (.tup RY)):=BJ.of hp (Ac HW _)
 refine ⟨_,rfl,p,4,rfl,g0.AN,by decide,by decide,fun way H1 w0 w1 s1=>?_⟩
 refine ⟨_,rfl,_,rfl,p,13,rfl,s1.AN,by decide,by decide,fun i H2 i0 i1 s2=>?_⟩
 have h2:H2 sm=some (.tup RY):=s2.at' (s1.at' AI Fb) Fb
 obtain ⟨x,hx,nx⟩:=vz i0 i1
 refine ⟨sm,_,_,_,rfl,rfl,A9.of h2,hx,?_⟩
 have g2:=g0.trans (s1.trans s2)
 refine ⟨fun σ' H'=>∃ x,σ'=[some (.ref p),some (.ref q),some (.ref sm),some (.int way),some (.str x),none]/\Nm x/\BJ p H H',?_,?_⟩
 ·refine ⟨_,rfl,rfl,_,rfl,?_⟩
  refine Af (fun c=>?_) (fun c=>?_)
  ·refine ⟨_,rfl,_,_,rfl,rfl,⟨by decide,by decide,by decide +kernel⟩,_,_,rfl,rfl,p,_,rfl,g2.AN,ua,lH,fun r H3 r0 r1 s3=>?_⟩
   have r2:r < 26 ^ 8:=Int.lt_trans r1 zS
   exact ⟨r,rfl,r0,r2,_,rfl,SN (dN r0 r2),g2.trans s3⟩
  ·exact ⟨x,rfl,nx,g2⟩
 clear h2 hx nx s2 g2 i0 i1
 rintro σ' H3 ⟨y,rfl,ny,g3⟩
 refine ⟨fun σ' H'=>∃ x,σ'=[some (.ref p),some (.ref q),some (.ref sm),some (.int way),some (.str x),none]/\Nm x/\BJ p H H',?_,?_⟩
 ·refine ⟨_,rfl,rfl,_,rfl,?_⟩
  refine Af (fun c=>?_) (fun c=>Cv ⟨y,rfl,ny,g3⟩)
  refine ⟨_,rfl,(by show 0<=sizeLine;decide),fun e he=>?_⟩
  have g4:=g3.trans (BJ.of g3.AN (Ac he (.lst [])))
  have OP:=g4.MX hS As
  refine ⟨q,e,_,[],rfl,rfl,.inl ⟨OP,AE.of AI⟩,Fo ns,rfl,_,rfl,?_⟩
  rw [OO]
  refine Af (fun c2=>?_) (fun c2=>⟨y,rfl,ny,g4⟩)
  have IT:0 < ns.length:=by
   cases ns with
   | nil=>simp at c2
   | cons a r=>simp
  refine ⟨_,rfl,_,rfl,_,rfl,q,_,rfl,.inl OP,p,_,rfl,g4.AN,(by rw [hl];omega),(by rw [hl];omega),fun i H5 i0 i1 s5=>?_⟩
  rw [hl] at i1
  have g5:=g4.trans s5
  obtain ⟨z,hz,X2,_⟩:=Mq i0 i1
  have nz:=hN z X2
  refine ⟨q,_,_,_,rfl,rfl,g5.MX hS As,hz,?_⟩
  refine ⟨_,rfl,_,rfl,p,26,rfl,g5.AN,by decide,by decide,fun r H6 r0 r1 s6=>?_⟩
  have g6:=g5.trans s6
  have r2:r < 26 ^ 8:=Int.lt_trans r1 zB
  refine ⟨r,rfl,r0,r2,?_⟩
  have nl:=SN (n:=r.toNat) (dN r0 r2)
  have hlen:z.length+(Cw (MA.lets r.toNat)).length<=16:=by have:=nz.2.1;have:=nl.2.1;omega
  refine ⟨_,_,rfl,rfl,small (by omega),?_⟩
  refine ⟨_,rfl,_,rfl,small (by rw [fB];omega),?_⟩
  refine ⟨_,rfl,gL (by decide) (by decide) (by rw [fB];have:=nz.1;omega) (fun c hc=>?_),g6⟩
  rw [gH] at hc
  rcases List.mem_append.mp hc with hc | hc
  ·exact nz.2.2 c hc
  ·exact nl.2.2 c hc
 clear ny g3
 rintro σ' H3 ⟨y,rfl,ny,g3⟩
 refine ⟨fun σ' H'=>∃ x,σ'=[some (.ref p),some (.ref q),some (.ref sm),some (.int way),some (.str x),none]/\Nm x/\BJ p H H',?_,?_⟩
 ·refine ⟨_,rfl,rfl,_,rfl,?_⟩
  refine Af (fun c=>?_) (fun c=>Cv ⟨y,rfl,ny,g3⟩)
  refine ⟨_,rfl,(by show 0<=sizeLine;decide),fun e he=>?_⟩
  have g4:=g3.trans (BJ.of g3.AN (Ac he (.lst [])))
  have OP:=g4.MX hS As
  refine ⟨q,e,_,[],rfl,rfl,.inl ⟨OP,AE.of AI⟩,Fo ns,rfl,_,rfl,?_⟩
  rw [OO]
  refine Af (fun c2=>?_) (fun c2=>⟨y,rfl,ny,g4⟩)
  have IT:0 < ns.length:=by
   cases ns with
   | nil=>simp at c2
   | cons a r=>simp
  refine ⟨_,rfl,_,rfl,_,rfl,q,_,rfl,.inl OP,p,_,rfl,g4.AN,(by rw [hl];omega),(by rw [hl];omega),fun i H5 i0 i1 s5=>?_⟩
  rw [hl] at i1
  have g5:=g4.trans s5
  obtain ⟨z,hz,X2,_⟩:=Mq i0 i1
  have nz:=hN z X2
  refine ⟨q,_,_,_,rfl,rfl,g5.MX hS As,hz,?_⟩
  have nz1:=nz.1
  have nz2:=nz.2.1
  refine ⟨_,rfl,_,rfl,_,rfl,_,rfl,small (by omega),p,_,rfl,g5.AN,(by omega),(by omega),fun r H6 r0 r1 s6=>?_⟩
  refine ⟨_,_,rfl,rfl,_,rfl,_,rfl,small (by omega),?_⟩
  exact ⟨_,rfl,gL (by omega) (by omega) nz1 nz.2.2,g5.trans s6⟩
 clear ny g3
 rintro σ' H3 ⟨y,rfl,ny,g3⟩
 refine ⟨fun σ' H'=>∃ x v,σ'=[some (.ref p),some (.ref q),some (.ref sm),some (.int way),some (.str x),some v]/\Nm x/\x∉ns/\H3=H',?_,?_⟩
 ·refine ⟨fun m σ' H'=>∃ (k:Nat) (x:Str),σ'=[some (.ref p),some (.ref q),some (.ref sm),some (.int way),some (.str x),some (.int k)]/\H3=H'/\Nm x/\m=ns.length+1 - k/\k<=ns.length+1/\(0 < k->x=Cw (MA.lets (k - 1)))/\(∀ j,j+1 < k->Cw (MA.lets j)∈ns),
   ⟨ns.length+1,0,y,rfl,rfl,ny,rfl,Cc _,fun h=>absurd h (by decide),fun j h=>absurd h (by omega)⟩,?_⟩
  rintro m σ' H' ⟨k,x,rfl,rfl,nx,rfl,hk,hx,hj⟩
  refine ⟨_,rfl,_,rfl,q,_,rfl,.inl (g3.MX hS As),rfl,Fo ns,_,rfl,?_⟩
  rw [if_neg (by decide),KD]
  refine Af (fun c=>?_) (fun c=>⟨x,_,rfl,nx,fun z=>c (decide_eq_true z),rfl⟩)
  have T4:x∈ns:=of_decide_eq_true c
  have Io:∀ j,j < k->Cw (MA.lets j)∈ns:=fun j L8=>by
   by_cases e:j+1 < k
   ·exact hj j e
   ·have e2:j=k - 1:=by omega
    rw [e2,<- hx (by omega)];exact T4
  have hkn:=oA Io
  refine ⟨fun σ' H'=>σ'=[some (.ref p),some (.ref q),some (.ref sm),some (.int way),some (.str (Cw (MA.lets k))),some (.int ((k:Int)+1))]/\H3=H',?_,?_⟩
  ·rintro σ' H' ⟨rfl,rfl⟩
   exact ⟨ns.length+1 - (k+1),by omega,k+1,Cw (MA.lets k),rfl,rfl,SN (L5 (Cs hkn hL) jv),rfl,by omega,fun _=>rfl,fun j L8=>Io j (by omega)⟩
  ·refine ⟨_,rfl,k,rfl,by omega,?_,?_⟩
   ·have:(k:Int)<=1000:=by omega
    exact ZBo this xJ
   ·rw [YG]
    exact ⟨_,rfl,_,_,rfl,rfl,rfl,rfl⟩
 rintro σ' H' ⟨x,v,rfl,nx,hx,rfl⟩
 exact ⟨_,rfl,K1 x H3 nx hx g3⟩
theorem V1:Au ["pot", "many", "names", "k"] ["pot", "many"] (Ae Vs):=⟨rfl,rfl,rfl,by decide +kernel,rfl,by decide +kernel,by decide +kernel⟩
theorem vJ (F:AK K "_law_names" "_law_names" Vs f fd) (m:mg "_law_names" = some (.ref f)) (Hy:AA P w K mg base "_law_name" 2 ["pot", "names"] (Na K)) (Kx:mg "range" = none) :
  AA P w K mg base "_law_names" 3 ["pot", "many"] (hZ):=by
 refine AA.mk F (F.binds (by walk_at "bD2")) m (F.Az (k:=2) V1 (fun vs H Q E h=>?_) (fun Aa A outer s H vs Q E hr h=>?_))
 ·obtain ⟨p,m,rfl,hp,m0,m1,q⟩:=h;rfl
 obtain ⟨p,m,rfl,hp,m0,m1,q⟩:=h
 refine ⟨_,(AB rfl (Ar 2 V1.nd (Gd A3))
   (AB rfl (CO (JW Ih rfl (fM rfl Kx (A0 (qv 1) A3)) (CL 3 V1.nd) (AD rfl (EL (JK MQ ZCG ZCJ gm (qv 2) (A0 (AZ Hy hr (A0 (qv 0) (A0 (qv 2) A3))) A3))))))
   (AD rfl (AY (qv 2))))),?_⟩
 refine ⟨(by show 0<=sizeLine;decide),fun l hl=>?_⟩
 have As:=hp.ne hl
 refine ⟨fun σ' H'=>∃ (ns:List Str) (v:Option V),σ'=[some (.ref p),some (.int m),some (.ref l),v]/\BJ p H H'/\H' l=some (.lst (ns.map V.str))/\(ns.length:Int)=m/\(∀ x∈ns,Nm x)/\ns.Nodup,?_,?_⟩
 ·refine ⟨_,rfl,m,rfl,by omega,by omega,oq (n:=m.toNat) (fun i σ' H'=>∃ (ns:List Str) (v:Option V),σ'=[some (.ref p),some (.int m),some (.ref l),v]/\BJ p H H'/\H' l=some (.lst (ns.map V.str))/\ns.length=i/\(∀ x∈ns,Nm x)/\ns.Nodup) ?_ ?_ ?_⟩
  ·exact ⟨[],none,rfl,(BJ.of hp (A8.refl H)).upd hl As,AI,rfl,fun x hx=>absurd hx (by simp),by simp⟩
  ·rintro i σ' H' hi ⟨ns,v,rfl,g,e,hlen,hN,nd⟩
   refine ⟨_,rfl,.inl ⟨rfl,_,AE.of e⟩,_,rfl,_,rfl,p,l,ns,rfl,g.AN,AE.of e,As,hN,by omega,fun x H2 nx hx s2=>?_⟩
   refine ⟨l,_,_,rfl,rfl,s2.at' e As,L5 (m:=100) (by rw [AV];omega) (by decide +kernel),?_⟩
   refine ⟨ns++[x],_,rfl,(g.trans s2).upd hl As,by rw [AI,E9];rfl,by rw [Bm];simp [hlen],fun y hy=>?_,P0 nd hx⟩
   rcases List.mem_append.mp hy with h | h
   ·exact hN y h
   ·have:y=x:=by simpa using h
    rw [this];exact nx
  ·rintro σ' H' ⟨ns,v,rfl,g,e,hlen,hN,nd⟩
   exact ⟨ns,v,rfl,g,e,by omega,hN,nd⟩
 rintro σ' H' ⟨ns,v,rfl,g,e,hlen,hN,nd⟩
 exact ⟨_,rfl,q l H' ns hl g e hlen hN nd⟩
theorem YC:Au ["pot", "most", "many"] ["pot", "most"] (Ae SI):=⟨rfl,rfl,rfl,by decide +kernel,rfl,by decide +kernel,by decide +kernel⟩
theorem ZBD (F:AK K "_law_row" "_law_row" SI f fd) (m:mg "_law_row" = some (.ref f)) (UH:AA P w K mg base "_law_names" 3 ["pot", "many"] (hZ)) (BW:AA P w K mg base "_law_take" 1 ["pot", "many"] (Iy)) :
  AA P w K mg base "_law_row" 4 ["pot", "most"] (VP):=by
 refine AA.mk F (F.binds (by walk_at "bD2")) m (F.Az (k:=3) YC (fun vs H Q E h=>?_) (fun Aa A outer s H vs Q E hr h=>?_))
 ·obtain ⟨p,m,rfl,hp,m0,m1,q⟩:=h;rfl
 obtain ⟨p,m,rfl,hp,m0,m1,q⟩:=h
 refine ⟨_,(AB rfl (Ar 2 YC.nd (AZ BW hr (A0 (qv 0) (A0 (Ap D2 (qv 1) A4) A3))))
   (AB rfl (CO (Ag (AX BP (AZ BW hr (A0 (qv 0) (A0 A4 A3))) A4) (AD rfl (Ar 2 YC.nd (AH AL (BZ (A0 A4 (A0 A4 (A0 (qv 1) A3)))) (AZ BW hr (A0 (qv 0) (A0 A4 A3)))))) Ah))
   (AD rfl (AY (AZ UH hr (A0 (qv 0) (A0 (qv 2) A3))))))),?_⟩
 refine ⟨_,rfl,_,rfl,_,_,rfl,rfl,p,_,rfl,hp,by omega,by omega,fun many H1 n0 n1 s1=>?_⟩
 refine ⟨fun σ' H'=>∃ k:Int,σ'=[some (.ref p),some (.int m),some (.int k)]/\0<=k/\k<=m/\BJ p H H',?_,?_⟩
 ·refine ⟨_,rfl,p,8,rfl,s1.AN,by decide,by decide,fun r H2 r0 r1 s2=>?_⟩
  have g2:=s1.trans s2
  refine ⟨rfl,_,rfl,?_⟩
  refine Af (fun _=>?_) (fun _=>⟨many,rfl,n0,by omega,g2⟩)
  refine ⟨_,rfl,(by show 3<=sizeLine;decide +kernel),fun t ht=>?_⟩
  have As:=g2.AN.ne ht
  have g3:=g2.trans (BJ.of g2.AN (Ac ht (.tup [.int 0,.int 1,.int m])))
  refine ⟨_,rfl,p,3,rfl,g3.AN,by decide,by decide,fun j H4 j0 j1 s4=>?_⟩
  obtain ⟨k,hk,k0,k1⟩:=qN j0 j1 m0
  exact ⟨t,_,_,_,rfl,rfl,A9.of (s4.at' AI As),hk,k,rfl,k0,k1,g3.trans s4⟩
 rintro σ' H' ⟨k,rfl,k0,k1,g⟩
 refine ⟨_,rfl,_,rfl,p,k,rfl,g.AN,k0,by omega,fun l H' ns hl s e hlen hN nd=>?_⟩
 exact q l H' ns (g.none hl) (g.trans s) e (by omega) hN nd
theorem Om:Au ["pot", "row", "most", "way", "low", "name"] ["pot", "row", "most"] (Ae V4):=⟨rfl,rfl,rfl,by decide +kernel,rfl,by decide +kernel,by decide +kernel⟩
theorem ZBH (F:AK K "_law_deed" "_law_deed" V4 f fd) (m:mg "_law_deed" = some (.ref f)) (Hy:AA P w K mg base "_law_name" 2 ["pot", "names"] (Na K)) (BW:AA P w K mg base "_law_take" 1 ["pot", "many"] (Iy)) (Ad:mg "len" = none) :
  AA P w K mg base "_law_deed" 3 ["pot", "row", "most"] (R1):=by
 refine AA.mk F (F.binds (by walk_at "bD3")) m (F.Az (k:=2) Om (fun vs H Q E h=>?_) (fun Aa A outer s H vs Q E hr h=>?_))
 ·obtain ⟨p,a,m,ns,rfl,hp,hS,As,hN,hz,m1,m2,q⟩:=h;rfl
 obtain ⟨p,a,m,ns,rfl,hp,hS,As,hN,hz,m1,m2,q⟩:=h
 refine ⟨_,(AB rfl (Ar 3 Om.nd (AZ BW hr (A0 (qv 0) (A0 A4 A3))))
   (AB rfl (Ag (Ee (GO (AX FA (qv 3) A4) (GP (AX FA (B2 EM Ad (A0 (qv 1) A3)) (qv 2)))).pt (Gu (AX (R6 hr.IX) (qv 1) (Gd A3)))).pt (AB rfl (Ag (AX LG (B2 EM Ad (A0 (qv 1) A3)) (qv 2)) (AD rfl (AY (BZ (A0 AW (A0 A4 (A0 A4 A3)))))) Ah)
   (AD rfl (AY (BZ (A0 AW (A0 (AZ Hy hr (A0 (qv 0) (A0 (qv 1) A3))) (A0 (AZ BW hr (A0 (qv 0) (A0 (Ap D2 (B2 EM Ad (A0 (qv 1) A3)) A4) A3))) A3))))))) Ah)
   (AB rfl (Ag (AX BP (qv 3) A4) (AB rfl (Ar 4 Om.nd (AZ BW hr (A0 (qv 0) (A0 (Ap D2 (B2 EM Ad (A0 (qv 1) A3)) A4) A3))))
   (AD rfl (AY (BZ (A0 AW (A0 (qv 4) (A0 (Ap D2 (qv 4) (AZ BW hr (A0 (qv 0) (A0 (Ap D2 (Ap Nr (B2 EM Ad (A0 (qv 1) A3)) (qv 4)) A4) A3)))) A3))))))) Ah)
   (AB rfl (Ar 5 Om.nd (AH Ed (qv 1) (AZ BW hr (A0 (qv 0) (A0 (B2 EM Ad (A0 (qv 1) A3)) A3)))))
   (AB rfl (Ag (AX BP (qv 3) A4) (AD rfl (AY (BZ (A0 AW (A0 (qv 5) (A0 (AZ BW hr (A0 (qv 0) (A0 (B2 EM Ad (A0 (qv 1) A3)) A3))) A3)))))) Ah)
   (AD rfl (AY (BZ (A0 AW (A0 (qv 5) A3)))))))))),?_⟩
 have hl:=Dk ns
 have zz:∀ n:Nat,n<=3->n<=sizeLine:=fun n h=>Cs h (by decide +kernel)
 refine ⟨_,rfl,p,5,rfl,hp,by decide,by decide,fun way H1 w0 w1 s1=>?_⟩
 have e1:=s1.at' hS As
 have em:decide (ns.map V.str=[])=true->ns=[]:=fun h=>List.map_eq_nil_iff.mp (of_decide_eq_true h)
 have dU:¬ decide (ns.map V.str=[])=true->0 < ns.length:=fun h=>by
  cases ns with
  | nil=>exact absurd (decide_eq_true rfl) h
  | cons y r=>simp
 refine ⟨_,rfl,_,_,rfl,rfl,_,rfl,?_⟩
 refine Af (fun cA=>?_) (fun cA=>Cv ?_)
 ·refine ⟨_,rfl,a,_,rfl,.inl (AE.of e1),_,rfl,_,_,rfl,rfl,_,rfl,?_⟩
  refine Af (fun cB=>Jc ?_) (fun cB=>?_)
  ·have Al:ns.length < m:=by have:=of_decide_eq_true cB;rw [hl] at this;omega
   have gg:=s1
   have eH:=e1
   refine ⟨_,rfl,a,_,rfl,.inl (AE.of eH),_,rfl,_,_,rfl,rfl,_,rfl,B8 (by rw [hl,decide_eq_false (by omega)];decide) ?_⟩
   refine ⟨_,rfl,_,rfl,p,a,ns,rfl,gg.AN,AE.of eH,As,hN,by omega,fun x H3 nx hx s3=>?_⟩
   have e3:=s3.at' eH As
   refine ⟨_,rfl,_,rfl,a,_,rfl,.inl (AE.of e3),_,_,rfl,rfl,p,_,rfl,s3.AN,by omega,by rw [hl];omega,fun i H4 i0 i1 s4=>?_⟩
   rw [hl] at i1
   obtain ⟨i,rfl⟩:=EO i0
   refine ⟨zz _ (by simp),fun t ht=>?_⟩
   have g4:=gg.trans (s3.trans s4)
   exact q (.put x i) t _ (g4.none ht) (g4.trans (BJ.of g4.AN (Ac ht _))) AI ⟨nx,hx,by omega,by omega⟩
  ·have mR:¬ ns.length < m:=fun z=>cB (decide_eq_true (by rw [hl];omega))
   refine ⟨_,rfl,(by show 0<=sizeLine;decide),fun e he=>?_⟩
   have s2:=BJ.of s1.AN (Ac he (.lst []))
   have gg:=s1.trans s2
   have eH:=s2.at' e1 As
   refine ⟨a,e,_,[],rfl,rfl,.inl ⟨AE.of eH,AE.of AI⟩,Fo ns,rfl,_,rfl,?_⟩
   show if Et (ns.map V.str) []=true then _ else _
   rw [OO]
   refine Af (fun cC=>?_) (fun cC=>?_)
   ·exact absurd (by rw [em cC];show 0 < m;omega) mR
   ·have IT:=dU cC
    refine ⟨_,rfl,rfl,_,rfl,?_⟩
    refine Af (fun c4=>?_) (fun c4=>?_)
    ·refine ⟨_,rfl,_,rfl,a,_,rfl,.inl (AE.of eH),_,_,rfl,rfl,p,_,rfl,gg.AN,by omega,by rw [hl];omega,fun lo H3 l0 l1 s3=>?_⟩
     rw [hl] at l1
     obtain ⟨lo,rfl⟩:=EO l0
     have e3:=s3.at' eH As
     refine ⟨_,rfl,_,rfl,_,rfl,_,rfl,a,_,rfl,.inl (AE.of e3),_,rfl,_,_,rfl,rfl,_,_,rfl,rfl,p,_,rfl,s3.AN,by rw [hl];omega,by rw [hl];omega,fun k H4 k0 k1 s4=>?_⟩
     rw [hl] at k1
     obtain ⟨k,rfl⟩:=EO k0
     refine ⟨_,_,rfl,rfl,zz _ (by simp),fun t ht=>?_⟩
     have g4:=gg.trans (s3.trans s4)
     exact q (.turn lo (lo+k)) t _ (g4.none ht) (g4.trans (BJ.of g4.AN (Ac ht _))) (by rw [AI];rfl) ⟨by omega,by omega⟩
    ·refine ⟨_,rfl,_,rfl,_,rfl,a,_,rfl,.inl (AE.of eH),p,_,rfl,gg.AN,by rw [hl];omega,by rw [hl];omega,fun i H3 i0 i1 s3=>?_⟩
     rw [hl] at i1
     have e3:=s3.at' eH As
     obtain ⟨x,hx,NN,_⟩:=Mq i0 i1
     refine ⟨a,_,_,_,rfl,rfl,AE.of e3,hx,?_⟩
     have g3:=gg.trans s3
     refine ⟨_,rfl,rfl,_,rfl,?_⟩
     refine Af (fun c3=>?_) (fun c3=>?_)
     ·refine ⟨_,rfl,_,rfl,_,rfl,a,_,rfl,.inl (AE.of e3),p,_,rfl,s3.AN,by rw [hl];omega,by rw [hl];omega,fun k H4 k0 k1 s4=>?_⟩
      rw [hl] at k1
      obtain ⟨k,rfl⟩:=EO k0
      have g4:=g3.trans s4
      refine ⟨zz _ (by simp),fun t ht=>?_⟩
      exact q (.move x k) t _ (g4.none ht) (g4.trans (BJ.of g4.AN (Ac ht _))) AI ⟨NN,by omega⟩
     ·refine ⟨_,rfl,zz _ (by simp),fun t ht=>?_⟩
      exact q (.take x) t _ (g3.none ht) (g3.trans (BJ.of g3.AN (Ac ht _))) AI NN
 ·skip
  refine ⟨_,rfl,(by show 0<=sizeLine;decide),fun e he=>?_⟩
  have s2:=BJ.of s1.AN (Ac he (.lst []))
  have gg:=s1.trans s2
  have eH:=s2.at' e1 As
  refine ⟨a,e,_,[],rfl,rfl,.inl ⟨AE.of eH,AE.of AI⟩,Fo ns,rfl,_,rfl,?_⟩
  show if Et (ns.map V.str) []=true then _ else _
  rw [OO]
  refine Af (fun cC=>?_) (fun cC=>?_)
  ·have Al:ns.length < m:=by rw [em cC];show 0 < m;omega
   refine ⟨_,rfl,a,_,rfl,.inl (AE.of eH),_,rfl,_,_,rfl,rfl,_,rfl,B8 (by rw [hl,decide_eq_false (by omega)];decide) ?_⟩
   refine ⟨_,rfl,_,rfl,p,a,ns,rfl,gg.AN,AE.of eH,As,hN,by omega,fun x H3 nx hx s3=>?_⟩
   have e3:=s3.at' eH As
   refine ⟨_,rfl,_,rfl,a,_,rfl,.inl (AE.of e3),_,_,rfl,rfl,p,_,rfl,s3.AN,by omega,by rw [hl];omega,fun i H4 i0 i1 s4=>?_⟩
   rw [hl] at i1
   obtain ⟨i,rfl⟩:=EO i0
   refine ⟨zz _ (by simp),fun t ht=>?_⟩
   have g4:=gg.trans (s3.trans s4)
   exact q (.put x i) t _ (g4.none ht) (g4.trans (BJ.of g4.AN (Ac ht _))) AI ⟨nx,hx,by omega,by omega⟩
  ·have IT:=dU cC
   refine ⟨_,rfl,rfl,_,rfl,?_⟩
   refine Af (fun c4=>?_) (fun c4=>?_)
   ·refine ⟨_,rfl,_,rfl,a,_,rfl,.inl (AE.of eH),_,_,rfl,rfl,p,_,rfl,gg.AN,by omega,by rw [hl];omega,fun lo H3 l0 l1 s3=>?_⟩
    rw [hl] at l1
    obtain ⟨lo,rfl⟩:=EO l0
    have e3:=s3.at' eH As
    refine ⟨_,rfl,_,rfl,_,rfl,_,rfl,a,_,rfl,.inl (AE.of e3),_,rfl,_,_,rfl,rfl,_,_,rfl,rfl,p,_,rfl,s3.AN,by rw [hl];omega,by rw [hl];omega,fun k H4 k0 k1 s4=>?_⟩
    rw [hl] at k1
    obtain ⟨k,rfl⟩:=EO k0
    refine ⟨_,_,rfl,rfl,zz _ (by simp),fun t ht=>?_⟩
    have g4:=gg.trans (s3.trans s4)
    exact q (.turn lo (lo+k)) t _ (g4.none ht) (g4.trans (BJ.of g4.AN (Ac ht _))) (by rw [AI];rfl) ⟨by omega,by omega⟩
   ·refine ⟨_,rfl,_,rfl,_,rfl,a,_,rfl,.inl (AE.of eH),p,_,rfl,gg.AN,by rw [hl];omega,by rw [hl];omega,fun i H3 i0 i1 s3=>?_⟩
    rw [hl] at i1
    have e3:=s3.at' eH As
    obtain ⟨x,hx,NN,_⟩:=Mq i0 i1
    refine ⟨a,_,_,_,rfl,rfl,AE.of e3,hx,?_⟩
    have g3:=gg.trans s3
    refine ⟨_,rfl,rfl,_,rfl,?_⟩
    refine Af (fun c3=>?_) (fun c3=>?_)
    ·refine ⟨_,rfl,_,rfl,_,rfl,a,_,rfl,.inl (AE.of e3),p,_,rfl,s3.AN,by rw [hl];omega,by rw [hl];omega,fun k H4 k0 k1 s4=>?_⟩
     rw [hl] at k1
     obtain ⟨k,rfl⟩:=EO k0
     have g4:=g3.trans s4
     refine ⟨zz _ (by simp),fun t ht=>?_⟩
     exact q (.move x k) t _ (g4.none ht) (g4.trans (BJ.of g4.AN (Ac ht _))) AI ⟨NN,by omega⟩
    ·refine ⟨_,rfl,zz _ (by simp),fun t ht=>?_⟩
     exact q (.take x) t _ (g3.none ht) (g3.trans (BJ.of g3.AN (Ac ht _))) AI NN
theorem tF:Au ["pot"] ["pot"] (Ae WC):=⟨rfl,rfl,rfl,by decide +kernel,rfl,by decide +kernel,by decide +kernel⟩
theorem dB  : ∀ ss R,WN ss R->ss.length=1:=by rintro _ _ ⟨rfl,rfl⟩;rfl
theorem ZB5 (F:AK K "_law_rule" "_law_rule" WC f fd) (m:mg "_law_rule" = some (.ref f)) (BW:AA P w K mg base "_law_take" 1 ["pot", "many"] (Iy)) :
  AA P w K mg base "_law_rule" 2 ["pot"] (Bp WN):=by
 refine AA.mk F (F.binds (by walk_at "bD1")) m (F.Az (k:=1) tF (fun vs H Q E h=>Fz.He dB h) (fun Aa A outer s H vs Q E hr h=>?_))
 refine ⟨_,(AD rfl (AY (AH AL (BZ (A0 AW (A0 AW (A0 AW A3)))) (AZ BW hr (A0 (qv 0) (A0 A4 A3)))))),?_⟩
 refine Fz.HL h dB ?_
 rintro _ _ ⟨rfl,rfl⟩
 show Ws [_] _ _ _
 walk_at "ww"
 refine ⟨by decide,_,.inr ⟨rfl,rfl,?_⟩⟩
 walk_at "ww"
 refine ⟨by decide,by decide,fun q q0 q1=>?_⟩
 obtain ⟨q,rfl⟩:=EO q0
 obtain ⟨r,hr,er⟩:=ZF (k:=q) (by omega)
 exact ⟨_,_,rfl,er,r,rfl,hr⟩
theorem LD:Au ["row", "loop", "rule", "gap", "coming", "found", "left"] ["row", "loop"] (Ae Np):=⟨rfl,rfl,rfl,by decide +kernel,rfl,by decide +kernel,by decide +kernel⟩
noncomputable def y6:Scope:={ kind:=.function,names:=[(".0", .local),("name", .local),("coming", .free)],isGenerator:=false,isCoroutine:=false,more:=[] }
theorem nX:Dd ["row", "loop", "rule", "gap", "coming", "found", "left"] (Ae Np) y6 "name" ["coming"] [4]:=⟨rfl,by decide +kernel,by decide +kernel,rfl,rfl,by decide +kernel,by decide +kernel,by decide +kernel,by decide +kernel⟩
noncomputable def pL:Scope:={ kind:=.function,names:=[(".0", .local),("name", .local),("found", .free)],isGenerator:=false,isCoroutine:=false,more:=[] }
theorem pk:Dd ["row", "loop", "rule", "gap", "coming", "found", "left"] (Ae Np) pL "name" ["found"] [5]:=⟨rfl,by decide +kernel,by decide +kernel,rfl,rfl,by decide +kernel,by decide +kernel,by decide +kernel,by decide +kernel⟩
theorem wL (F:AK K "_law_step" "_law_step" Np f fd) (m:mg "_law_step" = some (.ref f)) (CA:mg "tuple" = none) :
  AA P w K mg base "_law_step" 1 ["row", "loop"] (WA):=by
 refine AA.mk F (F.binds (by walk_at "bD2")) m (F.Az (k:=0) LD (fun vs H Q E h=>?_) (fun Aa A outer s H vs Q E hr h=>?_))
 ·obtain ⟨a,ns,t,r,g,ss,rfl,hS,⟨c,hT,hC⟩,GC,hz,q⟩:=h;rfl
 obtain ⟨a,ns,t,r,g,ss,rfl,hS,⟨c,hT,hC⟩,GC,hz,q⟩:=h
 refine ⟨_,(AB rfl (Iq (qv 1) (Jk rfl (DP (CL 2 LD.nd) (DP (CL 3 LD.nd) (DP (CL 4 LD.nd) Jd)))))
   (AB rfl (Ar 5 LD.nd (IV rfl nX (Gi (Ap Im (Ea Ir (qv 0) (Dj (qv 3)) GQ) (Ea Ir (qv 0) GQ (Dj (qv 3))))) (fun _ _ _ _=>by exact (KW (AX (show BB _ (compareOp .In) (Kr K false) from Lo) (qv 1) (qv 0)))) (fun _ _ _ _=>by exact (qv 1))))
   (AB rfl (Ag (AX (R6 hr.IX) (qv 5) (Gd A3)) (AD rfl (AY (BZ (A0 VB (A0 (qv 1) A3))))) Ah)
   (AB rfl (Ar 6 LD.nd (CY HJ CA (A0 (IV rfl pk (Gi (qv 4)) (fun _ _ _ _=>by exact (KW (AX J5 (qv 1) (AH (show FN _ (Mt K) from Ed) (qv 0) A4)))) (fun _ _ _ _=>by exact (qv 1))) A3)))
   (AD rfl (AY (BZ (A0 (AH Ed (qv 5) A4) (A0 (BZ (A0 (qv 2) (A0 (Ap D2 (JK MQ S8 Yb QR (qv 0) (A0 (AH Ed (qv 5) A4) A3)) A4) (A0 (qv 6) A3)))) A3))))))))),?_⟩
 have hl:=Dk ns
 have m9:=Dk ss
 refine ⟨_,rfl,t,_,rfl,A9.of hT,rfl,_,_,rfl,_,_,rfl,_,_,rfl,rfl,?_⟩
 refine ⟨_,rfl,_,rfl,_,rfl,a,_,rfl,AE.of hS,fun l1 My=>?_⟩
 have n1:=Ac My (.lst (C4 (ns.map V.str) (some (g:Int)) none))
 refine ⟨_,rfl,_,rfl,_,rfl,a,_,rfl,AE.of (n1 _ _ hS),fun l2 Ck=>?_⟩
 have n2:=Ac Ck (.lst (C4 (ns.map V.str) none (some (g:Int))))
 have e1:=n2 _ _ (AI (H:=H) (a:=l1) (o:=.lst (C4 (ns.map V.str) (some (g:Int)) none)))
 have e2:=AI (H:=upd H l1 (.lst (C4 (ns.map V.str) (some (g:Int)) none))) (a:=l2) (o:=.lst (C4 (ns.map V.str) none (some (g:Int))))
 have k2:=n1.trans n2
 generalize upd (upd H l1 (.lst (C4 (ns.map V.str) (some (g:Int)) none))) l2 (.lst (C4 (ns.map V.str) none (some (g:Int))))=H2 at *
 rw [Pw] at e1
 rw [QP] at e2
 refine ⟨l1,l2,_,_,rfl,rfl,e1,e2,small (by rw [E8,CF];omega),fun l3 XS=>?_⟩
 have n3:=Ac XS (.lst ((ns.map V.str).drop g++(ns.map V.str).take g))
 have k3:=k2.trans n3
 have hM:CS K false (upd H2 l3 (.lst ((ns.map V.str).drop g++(ns.map V.str).take g))) l3 ((ns.drop g++ns.take g).map V.str):=AE.of (by rw [AI,E9,OY,OZ])
 refine ⟨false,l3,_,rfl,hM,fun acc B9=>Lh (fun v=>Dv v (ss.map V.str)) (fun v=>v) hM B9 (small (by rw [Dk,Bm,E8,CF];omega)) (fun i v H' Q' hv s4 h=>?_) (fun i v H' Q' hv _ s4 h=>?_) (fun H4 s4 e4=>?_)⟩
 ·obtain ⟨x,rfl,_⟩:=MD hv
  exact ⟨_,rfl,_,rfl,c,_,rfl,.inr (A9.of (s4 _ _ (k3 _ _ hC))),rfl,Fo ss,_,rfl,h _ (A8.refl _)⟩
 ·exact ⟨_,rfl,h _ (A8.refl _)⟩
 rw [xC,r8] at e4
 have k4:=k3.trans s4
 refine ⟨_,rfl,(by show 0<=sizeLine;decide),fun l5 kC=>?_⟩
 have n5:=Ac kC (.lst [])
 have k5:=k4.trans n5
 have e5:=n5 _ _ e4
 refine ⟨acc,l5,_,[],rfl,rfl,.inl ⟨AE.of e5,AE.of AI⟩,Fo _,rfl,_,rfl,?_⟩
 show if Et ((Ez ns g ss).map V.str) []=true then _ else _
 rw [OO]
 refine Af (fun c1=>?_) (fun c1=>?_)
 ·have er:Ez ns g ss=[]:=by simpa using c1
  refine ⟨_,rfl,(by show 2<=sizeLine;decide),fun t' GB=>?_⟩
  exact q t' _ (A8.none k5 GB) (k5.trans (Ac GB _)) (.inl ⟨er,AI⟩)
 ·obtain ⟨x,FZ,er⟩:∃ x FZ,Ez ns g ss=x :: FZ:=by
   cases h:Ez ns g ss with
   | nil=>rw [h] at c1;simp at c1
   | cons x FZ=>exact ⟨x,FZ,rfl⟩
  have hx:x∈ns/\x∈ss:=QC.mp (by rw [er];exact EA)
  rw [er] at e5
  generalize upd H4 l5 (.lst [])=H5 at *
  have Zn:CS K true H5 c (ss.map V.str):=A9.of (k5 _ _ hC)
  refine ⟨_,rfl,true,c,_,rfl,Zn,fun yH vn=>Lh (HU (.str x)) (fun v=>v) Zn vn (by rw [m9];exact small (by omega)) (fun i v H' Q' hv s6 h=>?_) (fun i v H' Q' hv _ s6 h=>?_) (fun H6 s6 e6=>?_)⟩
  ·obtain ⟨y,rfl,_⟩:=MD hv
   exact ⟨_,rfl,_,rfl,acc,_,_,_,rfl,rfl,AE.of (s6 _ _ e5),Vo,rfl,_,rfl,h _ (A8.refl _)⟩
  ·exact ⟨_,rfl,h _ (A8.refl _)⟩
  rw [Nx] at e6
  refine ⟨yH,_,rfl,.inl ⟨AE.of e6,fun t7 fk=>?_⟩⟩
  have n7:=Ac fk (.tup ((wo ss x).map V.str))
  have k7:=k5.trans (s6.trans n7)
  have f7:H t7=none:=A8.none (k5.trans s6) fk
  have e7:=n7 _ _ (s6 _ _ e5)
  have u7:=AI (H:=H6) (a:=t7) (o:=.tup ((wo ss x).map V.str))
  generalize upd H6 t7 (.tup ((wo ss x).map V.str))=H7 at *
  refine ⟨_,rfl,acc,_,_,_,rfl,rfl,AE.of e7,Vo,_,rfl,_,rfl,.inl ⟨rfl,_,AE.of (k7 _ _ hS)⟩,_,rfl,acc,_,_,_,rfl,rfl,AE.of e7,Vo,a,ns,x,rfl,rfl,AE.of (k7 _ _ hS),hx.1,_,_,rfl,rfl,_,rfl,?_⟩
  refine ⟨(by show 3<=sizeLine;decide),fun t8 cn=>?_⟩
  have n8:=Ac cn (.tup [.str r,.int ((ns.idxOf x:Nat)+1),.ref t7])
  refine ⟨(by show 2<=sizeLine;decide),fun t9 d7=>?_⟩
  have n9:=Ac d7 (.tup [.str x,.ref t8])
  exact q t9 _ (A8.none (k7.trans n8) d7) (k7.trans (n8.trans n9)) (.inr ⟨x,FZ,t8,t7,er,A8.none k7 cn,f7,AI,n9 _ _ AI,n9 _ _ (n8 _ _ u7)⟩)
theorem Mi:Au ["pot", "state", "most", "way", "names", "name", "loop"] ["pot", "state", "most"] (Ae Y4):=⟨rfl,rfl,rfl,by decide +kernel,rfl,by decide +kernel,by decide +kernel⟩
theorem Yi  : ∀ ss R,Tp ss R->ss.length=3:=by rintro _ _ ⟨s,m,rfl,_,_,_,_,_,rfl⟩;rfl
theorem mm (F:AK K "_law_good_entry" "_law_good_entry" Y4 f fd) (m:mg "_law_good_entry" = some (.ref f)) (WJ:AA P w K mg base "_law_deed" 3 ["pot", "row", "most"] (R1)) (Hy:AA P w K mg base "_law_name" 2 ["pot", "names"] (Na K)) (Uc:AA P w K mg base "_law_rule" 2 ["pot"] (Bp WN)) (Ua:AA P w K mg base "_law_step" 1 ["row", "loop"] (WA)) (BW:AA P w K mg base "_law_take" 1 ["pot", "many"] (Iy)) (Ad:mg "len" = none) (Bs:mg "list" = none) (Eb:mg "sorted" = none) :
  AA P w K mg base "_law_good_entry" 4 ["pot", "state", "most"] (Bp Tp):=by
 refine AA.mk F (F.binds (by walk_at "bD3")) m (F.Az (k:=3) Mi (fun vs H Q E h=>Fz.He Yi h) (fun Aa A outer s H vs Q E hr h=>?_))
 refine ⟨_,(AB rfl (Ar 3 Mi.nd (AZ BW hr (A0 (qv 0) (A0 A4 A3))))
   (AB rfl (Ar 4 Mi.nd (B2 (pZ rfl) Eb (A0 (BO (Ax hr) (qv 1) AW (fun _ _=>rfl)) A3)))
   (AB rfl (Ag (Ee (GO (AX BP (qv 3) A4) (GP (AX FA (B2 Cu Ad (A0 (qv 4) A3)) A4))).pt (Gu (GO (AX FA (qv 3) A4) (GP (AX (R6 hr.IX) (qv 4) (Gd A3)))).pt)).pt (AD rfl (AY (BZ (A0 AW (A0 (AZ Hy hr (A0 (qv 0) (A0 (CY (RS rfl) Bs (A0 (BO (Ax hr) (qv 1) AW (fun _ _=>rfl)) A3)) A3))) (A0 (AZ Uc hr (A0 (qv 0) A3)) A3)))))) Ah)
   (AB rfl (CO (Ag (AX FA (qv 3) A4) (AB rfl (Ar 5 Mi.nd (AH Ed (qv 4) (AZ BW hr (A0 (qv 0) (A0 (B2 Cu Ad (A0 (qv 4) A3)) A3)))))
   (AB rfl (Ar 6 Mi.nd (BO (Ax hr) (BO (Ax hr) (qv 1) AW (fun _ _=>rfl)) (qv 5) (fun _ _=>rfl)))
   (AB rfl (Ag (GO (AX (R6 hr.IX) (AH AL (qv 6) A4) (BZ A3)) (GP (AX BP (AZ BW hr (A0 (qv 0) (A0 A4 A3))) A4))).pt (AD rfl (AY (BZ (A0 AW (A0 (qv 5) A3))))) Ah)
   (AB rfl (Ag (GO (AX (Nu hr.IX) (AH AL (qv 6) A4) (BZ A3)) (GP (AX BP (AZ BW hr (A0 (qv 0) (A0 A4 A3))) A4))).pt (AD rfl (AY (BZ (A0 AW (A0 (qv 5) (A0 (AH AL (AH AL (qv 6) A4) (AZ BW hr (A0 (qv 0) (A0 (B2 Cu Ad (A0 (AH AL (qv 6) A4) A3)) A3)))) A3)))))) Ah)
   (AD rfl (Ag (AX (Nu hr.IX) (AH AL (qv 6) A4) (BZ A3)) (AD rfl (AY (BZ (A0 AW (A0 (qv 5) (A0 (AH AL (AZ Ua hr (A0 (BO (Ax hr) (qv 1) AW (fun _ _=>rfl)) (A0 (qv 6) A3))) A4) A3)))))) Ah)))))) Ah))
   (AD rfl (AY (AZ WJ hr (A0 (qv 0) (A0 (BO (Ax hr) (qv 1) AW (fun _ _=>rfl)) (A0 (qv 2) A3)))))))))),?_⟩
 refine Fz.HL h Yi ?_
 rintro _ _ ⟨s,m,rfl,ok,h5,hn,hm,R5,rfl⟩
 show Ws [_,_,_,.any,.any,.any,.any] _ _ _
 have l1:=ok.l1
 walk_at "ww"
 refine ⟨by decide,by decide,fun way w0 w1=>?_⟩
 refine Am (P5 (jU (FO (AO rfl ⟨k3,_,rfl,EW ⟨.inr "live", _,rfl,rfl,_,s.ln,rfl,by omega,fun Bw pm st=>?_⟩⟩))))
 refine O6 4 rfl ?_
 show Ws [.AN,.is (FC s),.is (.int m),.is (.int way),.is (.lst (Bw.map .str)),.any,.any] _ _ _
 have OB:=pm.length_eq
 refine Am (CH (km (k':=fun b=>(b=true->s.ln.length < 5)/\(b=false->way < 5->Bw≠[])) ?_ ?_))
 ·walk_at "ww"
  refine Af (fun c=>?_) (fun c=>?_)
  ·walk_at "ww"
   rw [AV,OB]
   refine Af (fun c2=>⟨fun _=>by have:=of_decide_eq_true c2;omega,fun z=>by cases z⟩) (fun c2=>?_)
   walk_at "ww"
   refine Af (fun c3=>?_) (fun c3=>⟨fun z=>(by cases z),fun _ z=>absurd (decide_eq_true z) c3⟩)
   walk_at "ww"
   refine ⟨by decide,_,.inl ⟨rfl,rfl,[],rfl,_,rfl,fun z=>?_,fun z _ q=>?_⟩⟩
   ·have:=of_decide_eq_true z
    rw [this] at OB
    have:s.ln.length=0:=OB.symm
    omega
   ·rw [decide_eq_true q] at z;cases z
  ·refine Cv ?_
   walk_at "ww"
   refine Af (fun c3=>?_) (fun c3=>⟨fun z=>(by cases z),fun _ z=>absurd (decide_eq_true z) c3⟩)
   walk_at "ww"
   refine ⟨by decide,_,.inl ⟨rfl,rfl,[],rfl,_,rfl,fun z=>?_,fun z _ q=>?_⟩⟩
   ·have:=of_decide_eq_true z
    rw [this] at OB
    have:s.ln.length=0:=OB.symm
    omega
   ·rw [decide_eq_true q] at z;cases z
 rintro b ⟨Q2,Lg⟩
 cases b with
 | true=>
  refine ER rfl ?_
  refine FK (M8 (Fh (EW (Fh (kN rfl ?_)))))
  refine BD (EJ (i4 (FO (AO rfl ⟨k3,_,rfl,EW ⟨.inr "sums", _,rfl,rfl,Ab s.sn,_,rfl,by unfold Ab;rw [AV];omega,_,.inl ⟨rfl,rfl,s.sn,Rf _,ok.nm,by omega,fun x hx nx=>?_⟩⟩⟩))))
  refine Fh (ai rfl (IS ⟨_,⟨rfl,rfl⟩,?_⟩))
  rintro _ ⟨r,rfl,hr⟩
  have sr:DN r:=by
   unfold EX at hr
   rcases List.mem_cons.mp hr with rfl | hr
   ·exact Vv (by decide) (by decide +kernel)
   ·rcases List.mem_cons.mp hr with rfl | hr
    ·exact Vv (by decide) (by decide +kernel)
    ·rw [List.mem_singleton.mp hr];exact Vv (by decide) (by decide +kernel)
  refine IM ⟨by simp,.Hu x r,⟨s.row,s.ln++[x],s.ll++[⟨r,0,DA s.row⟩],s.sn++[x],s.sq++[⟨s.row.length,0,0,0⟩]⟩,rfl,by show E6 s x r=_;unfold E6;rw [if_pos ⟨Tv hx,nx,decide_eq_true hr⟩],⟨Iv hx,sr⟩,?_,hm⟩
  show (s.ln++[x]).length<=5
  have:=Q2 rfl
  rw [Bm,OW];omega
 | false=>
  refine B8 (by decide) (B7 ?_)
  have hb:=Lg rfl
  have fin:∀ s5 s6:Slot,Ws [.AN,.is (FC s),.is (.int m),.is (.int way),.is (.lst (Bw.map .str)),s5,s6] (Fn (CP R1 [] E0 (AS (BG 0) (AS (IB (BG 1) (tC (V.str "row"))) (AS (BG 2) Aw))))) (fun x=>∃ k,(Ay.is fun p=>∃ e s',p=LE.P e/\Dr s e=some s'/\e.say/\s'.ln.length<=5/\s'.row.length<=m)=Ay.is k/\k .AF) (.is fun p=>∃ e s',p=LE.P e/\Dr s e=some s'/\e.say/\s'.ln.length<=5/\s'.row.length<=m):=fun s5 s6=>by
   refine FK (ae rfl (BD (FO (AO rfl ⟨k3,_,rfl,EW ⟨.inr "row", _,rfl,rfl,_,.inl ⟨rfl,rfl,s.row,rfl,AO rfl ⟨m,rfl,ok.row.nm,hm,by omega,by omega,fun d od=>?_⟩⟩⟩⟩))))
   have iG:d.Ok 40 s.row:=by
    cases d with
    | put x i=>exact ⟨od.1,od.2.1,od.2.2.1,by have:=od.2.2.2;omega⟩
    | _=>exact od
   exact ⟨.GG (Gy d),⟨d.done s.row,s.ln,s.ll.map (Lp.led s.row d),s.sn,C0 s d s.ln.length⟩,(Wf d).symm,by show EE s (Gy d)=_;unfold EE;rw [W5 (rP iG)],ZB8 iG ok.row.nm ok.row.len,h5,(HY.done ⟨hm,ok.row.nm,ok.row.nd⟩ od).len⟩
  refine bu (fun AQ=>∃ s5 s6:Slot,AQ=[.AN,.is (FC s),.is (.int m),.is (.int way),.is (.lst (Bw.map .str)),s5,s6]) ?_ (by rintro _ ⟨s5,s6,rfl⟩;exact fin s5 s6)
  walk_at "ww"
  refine Af (fun c=>?_) (fun c=>B7 ⟨_,_,rfl⟩)
  have As:=hb (of_decide_eq_true c)
  have IT:0 < Bw.length:=List.length_pos_iff.mpr As
  walk_at "ww"
  rw [AV]
  refine ⟨by omega,by omega,fun q q0 q1=>?_⟩
  obtain ⟨q,rfl⟩:=EO q0
  obtain ⟨x,hx⟩:∃ x,Bw[q]?=some x:=⟨_,B1 (by omega)⟩
  refine ⟨_,.str x,rfl,?_,?_⟩
  ·exact SE (by rw [BF,hx];rfl)
  have xm:x∈s.ln:=pm.mem_iff.mp (CG hx)
  have hi:=List.idxOf_lt_length_iff.mpr xm
  obtain ⟨l,el⟩:∃ l,s.ll[s.ln.idxOf x]?=some l:=⟨_,B1 (by omega)⟩
  have gl:=ok.good l (CG el)
  have fw:=gl.len
  have Kw:=ok.row.len
  have sx:DN x:=Iv (ok.nm x (ok.sub x xm))
  refine Am (G2 (FO (FO (AO rfl ⟨k3,_,rfl,EW ⟨.inr "live", _,rfl,rfl,Ab s.ln,_,rfl,AO rfl ⟨.inr x,l.P,rfl,LF xm (by rw [BF,el];rfl),?_⟩⟩⟩))))
  show Ws [.AN,.is (FC s),.is (.int m),.is (.int way),.is (.lst (Bw.map .str)),.is (.str x),.is (.tup [.str l.r,.int l.g,.tup (l.cs.map .str)])] _ _ _
  walk_at "ww"
  have ov:l.cs=[]->Dr s (.over x)=some ⟨s.row,s.ln.eraseIdx (s.ln.idxOf x),s.ll.eraseIdx (s.ln.idxOf x),s.sn,s.sq⟩:=fun h=>by
   show DL s x=_
   unfold DL
   rw [el]
   show (if l.cs=[] then _ else none)=_
   rw [if_pos h]
  have te:∀ y∈l.cs,Dr s (.tell x y)=some ⟨s.row,s.ln,s.ll.set (s.ln.idxOf x) ⟨l.r,s.row.idxOf y+1,wo l.cs y⟩,s.sn,s.sq.modify (s.sn.idxOf x) Sm.tell⟩:=fun y hy=>by
   show DV s x y=_
   unfold DV
   rw [el]
   show (if y∈l.cs then _ else none)=_
   rw [if_pos hy]
  have sy:∀ y∈l.cs,DN y:=fun y hy=>Iv (ok.row.nm y (gl.sub y hy))
  refine ⟨by decide,_,.inr ⟨rfl,rfl,[],rfl,_,rfl,?_⟩⟩
  by_cases h0:l.cs=[]
  ·rw [decide_eq_true h0]
   refine Jc ?_
   walk_at "ww"
   refine ⟨by decide,by decide,fun w w0 w1=>?_⟩
   walk_at "ww"
   refine Af (fun c2=>?_) (fun c2=>B7 ?_)
   ·walk_at "ww"
    refine ⟨by simp,.over x,_,rfl,ov h0,sx,?_,hm⟩
    exact Cs (List.length_eraseIdx_le _ _) h5
   ·walk_at "ww"
    refine ⟨by decide,_,.inr ⟨rfl,rfl,[],rfl,_,rfl,?_⟩⟩
    rw [decide_eq_true h0]
    refine Cv ?_
    refine Cv (B7 ?_)
    walk_at "ww"
    refine ⟨by decide,_,.inr ⟨rfl,rfl,[],rfl,_,rfl,?_⟩⟩
    rw [decide_eq_true h0]
    exact Cv (B7 ⟨_,_,rfl⟩)
  ·rw [decide_eq_false h0]
   refine Cv (Cv (B7 ?_))
   walk_at "ww"
   refine ⟨by decide,_,.inr ⟨rfl,rfl,[],rfl,_,rfl,?_⟩⟩
   rw [decide_eq_false h0]
   refine Jc ?_
   walk_at "ww"
   refine ⟨by decide,by decide,fun w w0 w1=>?_⟩
   walk_at "ww"
   refine Af (fun c2=>?_) (fun c2=>B7 ?_)
   ·walk_at "ww"
    rw [AV]
    have lp:=List.length_pos_iff.mpr h0
    refine ⟨by omega,by omega,fun w w0 w1=>?_⟩
    obtain ⟨w,rfl⟩:=EO w0
    obtain ⟨y,hy⟩:∃ y,l.cs[w]?=some y:=⟨_,B1 (by omega)⟩
    have ym:=CG hy
    exact ⟨_,.str y,rfl,SE (by rw [BF,hy];rfl),IM ⟨by simp,.tell x y,_,rfl,te y ym,⟨sx,sy y ym⟩,h5,hm⟩⟩
   ·walk_at "ww"
    refine ⟨by decide,_,.inr ⟨rfl,rfl,[],rfl,_,rfl,?_⟩⟩
    rw [decide_eq_false h0]
    refine Jc ?_
    walk_at "ww"
    obtain ⟨y,FZ,er⟩:∃ y FZ,Ez s.row l.g l.cs=y :: FZ:=by
     obtain ⟨c,cs,ec⟩:=ZBu h0
     have cm:c∈l.cs:=by rw [ec];exact EA
     have:c∈Ez s.row l.g l.cs:=QC.mpr ⟨gl.sub c cm,cm⟩
     exact ZBu fun z=>by rw [z] at this;cases this
    have ym:y∈l.cs:=(QC.mp (by rw [er];exact EA)).2
    have oC:MI s.row l.r l.g l.cs=.tup [.str y,D8 l.r (s.row.idxOf y+1) (wo l.cs y)]:=by unfold MI;rw [er]
    refine BD (ZAy (BD (FO (AO rfl ⟨k3,_,rfl,EW ⟨.inr "row", _,rfl,rfl,_,.inl ⟨rfl,rfl,s.row,rfl,AO rfl ⟨l.r,l.g,l.cs,rfl,gl,by omega,_,.inr ⟨oC,rfl,Bg ⟨_,_,rfl,rfl,?_⟩⟩⟩⟩⟩⟩))))
    exact IM ⟨by simp,.tell x y,_,rfl,te y ym,⟨sx,sy y ym⟩,h5,hm⟩
theorem Pe:Au ["row", "deed", "made", "low", "high"] ["row", "deed"] (Ae Pa):=⟨rfl,rfl,rfl,by decide +kernel,rfl,by decide +kernel,by decide +kernel⟩
noncomputable def oM:Scope:={ kind:=.function,names:=[(".0", .local),("name", .local),("deed", .free)],isGenerator:=false,isCoroutine:=false,more:=[] }
theorem mU:Dd ["row", "deed", "made", "low", "high"] (Ae Pa) oM "name" ["deed"] [1]:=⟨rfl,by decide +kernel,by decide +kernel,rfl,rfl,by decide +kernel,by decide +kernel,by decide +kernel,by decide +kernel⟩
theorem xh (F:AK K "_law_done" "_law_done" Pa f fd) (m:mg "_law_done" = some (.ref f)) (Bs:mg "list" = none) (LR:mg "reversed" = none) :
  AA P w K mg base "_law_done" 1 ["row", "deed"] (Vi):=by
 refine AA.mk F (F.binds (by walk_at "bD2")) m (F.Az (k:=0) Pe (fun vs H Q E h=>?_) (fun Aa A outer s H vs Q E hr h=>?_))
 ·obtain ⟨a,t,ns,d,rfl,hS,hT,hd,hz,nd,q⟩:=h;rfl
 obtain ⟨a,t,ns,d,rfl,hS,hT,hd,hz,nd,q⟩:=h
 refine ⟨_,(AB rfl (sG (i:=2) Pe.nd rfl (Or.inl rfl) rfl mU (Gi (qv 0)) (fun _ _ _ _=>by exact (KW (AX J5 (qv 1) (AH (show FN _ (Jf K) from AL) (qv 0) A4)))) (fun _ _ _ _=>by exact (qv 1)))
   (AB rfl (Ag (AX BP (AH AL (qv 1) A4) AW) (AB rfl (Iq (Ea dJ (qv 1) (Dj A4) GQ) (Jk rfl (DP (CL 3 Pe.nd) (DP (CL 4 Pe.nd) Jd))))
   (AD rfl (AY (Ap Im (Ap Im (Ea Ir (qv 0) GQ (Dj (qv 3))) (i8 rfl rfl Bs rfl LR (A0 (Ea Ir (qv 0) (Dj (qv 3)) (Dj (qv 4))) A3))) (Ea Ir (qv 0) (Dj (qv 4)) GQ))))) Ah)
   (AB rfl (CO (Ag (AX J5 (AH AL (qv 1) A4) AW) (AD rfl (EL (JK MQ ZCH PySem.F.type_list_insert ye (qv 2) (A0 (AH AL (qv 1) A4) (A0 (AH AL (qv 1) A4) A3))))) Ah))
   (AD rfl (AY (qv 2)))))),?_⟩
 have hl:=Dk ns
 have zz:∀ n:Nat,n<=2001->n<=sizeLine:=fun n h=>Cs h (by decide +kernel)
 have EF:CS K false H a (ns.map V.str):=AE.of hS
 have wm:=tO ns d
 refine ⟨_,rfl,false,a,_,rfl,EF,fun acc B9=>Lh (HU d.v1) (fun v=>v) EF B9 (by rw [hl];exact small (by omega)) (fun i v H' Q' hv s1 h=>?_) (fun i v H' Q' hv _ s1 h=>?_) (fun H' s1 e1=>?_)⟩
 ·obtain ⟨y,rfl,hm⟩:=MD hv
  exact ⟨_,rfl,_,rfl,t,_,_,_,rfl,rfl,A9.of (s1 _ _ hT),ax d,vx y d,_,rfl,h H' (A8.refl _)⟩
 ·exact ⟨_,rfl,h H' (A8.refl _)⟩
 have Bt:=s1 _ _ hT
 rw [rQ] at e1
 refine ⟨_,rfl,t,_,_,_,rfl,rfl,A9.of Bt,Gk d,rfl,_,rfl,Af (fun c1=>?_) (fun c1=>?_)⟩
 ·obtain ⟨lo,hi,rfl⟩:=wM c1
  obtain ⟨h1,h2⟩:=hd
  refine ⟨_,rfl,_,rfl,t,_,rfl,A9.of Bt,(fun h=>absurd h.1 (show ¬ HT.Ak 3 0 (some 1)=0 by decide)),fun p n=>?_⟩
  have n1:=Ac n (.tup (C4 (AJ.turn lo hi).vals (some 1) none))
  refine ⟨p,_,rfl,A9.of AI,rfl,_,_,rfl,_,_,rfl,rfl,?_⟩
  have s2:=s1.trans n1
  have e2:=s2 _ _ hS
  refine ⟨_,rfl,_,rfl,_,rfl,a,_,rfl,AE.of e2,fun l3 n3=>?_⟩
  rw [QP]
  have t3:=Ac n3 (.lst ((ns.map V.str).take lo))
  have s3:=s2.trans t3
  refine ⟨_,rfl,_,rfl,_,rfl,_,rfl,_,rfl,a,_,rfl,AE.of (s3 _ _ hS),fun l4 n4=>?_⟩
  rw [aN _ h1 (by rw [hl];exact h2)]
  have t4:=Ac n4 (.lst (((ns.map V.str).drop lo).take (hi - lo)))
  refine ⟨l4,false,_,rfl,AE.of AI,rfl,fun l5 n5=>?_⟩
  have t5:=Ac n5 (.lst (((ns.map V.str).drop lo).take (hi - lo)).reverse)
  refine ⟨l3,l5,_,_,rfl,rfl,t5 _ _ (t4 _ _ AI),AI,zz _ (by simp only [CF,OU,E8];omega),fun l6 n6=>?_⟩
  have t6:=Ac n6 (.lst ((ns.map V.str).take lo++(((ns.map V.str).drop lo).take (hi - lo)).reverse))
  have s6:=s3.trans (t4.trans (t5.trans t6))
  refine ⟨_,rfl,_,rfl,_,rfl,a,_,rfl,AE.of (s6 _ _ hS),fun l7 n7=>?_⟩
  rw [Pw]
  have t7:=Ac n7 (.lst ((ns.map V.str).drop hi))
  refine ⟨l6,l7,_,_,rfl,rfl,t7 _ _ AI,AI,zz _ (by simp only [Bm,CF,E8,OU];omega),fun l8 n8=>?_⟩
  have s7:=s6.trans t7
  refine q l8 _ (A8.none s7 n8) (s7.trans (Ac n8 _)) ?_
  rw [AI]
  show some (HO.lst _)=some (HO.lst ((FE ns lo hi).map V.str))
  unfold FE
  simp only [E9,OZ,OY,ZC5,CD]
 ·refine ⟨fun σ' H'=>σ'=[some (.ref a),some (.ref t),some (.ref acc),none,none]/\A8 H H'/\H' acc=some (.lst ((d.done ns).map V.str)),?_,?_⟩
  ·refine ⟨_,rfl,t,_,_,_,rfl,rfl,A9.of Bt,Gk d,rfl,_,rfl,Af (fun c2=>?_) (fun c2=>⟨rfl,s1,by rw [kZ c2];exact e1⟩)⟩
   obtain ⟨x,i,Sn,hv,GD,hdn⟩:=nr hd nd c1 c2
   refine ⟨_,rfl,.inl ⟨rfl,_,AE.of e1⟩,_,rfl,t,_,_,_,rfl,rfl,A9.of Bt,Sn,_,rfl,t,_,_,_,rfl,rfl,A9.of Bt,ax d,acc,_,_,_,rfl,rfl,e1,by omega,by rw [Dk];omega,by rw [Dk];exact L5 wm (L5 hz (by decide +kernel)),?_⟩
   refine ⟨rfl,kX s1 B9,?_⟩
   rw [AI,hdn,hv]
   unfold ins
   simp only [E9,OZ,Bq,OY,YG]
  ·rintro σ' H2 ⟨rfl,s2,e2⟩
   exact ⟨_,rfl,q acc H2 B9 s2 e2⟩
theorem jQ:Au ["text"] ["text"] (Ae QH):=⟨rfl,rfl,rfl,by decide +kernel,rfl,by decide +kernel,by decide +kernel⟩
noncomputable def yT:Scope:={ kind:=.function,names:=[(".0", .local),("sign", .local)],isGenerator:=false,isCoroutine:=false,more:=[] }
theorem tD:Dd ["text"] (Ae QH) yT "sign" [] []:=⟨rfl,by decide +kernel,by decide +kernel,rfl,rfl,by decide +kernel,by decide +kernel,by decide +kernel,by decide +kernel⟩
theorem ZBK (F:AK K "_law_is_name" "_law_is_name" QH f fd) (m:mg "_law_is_name" = some (.ref f)) (IF:mg "all" = none) (Ad:mg "len" = none) :
  AA P w K mg base "_law_is_name" 1 ["text"] (Ke):=by
 refine AA.mk F (F.binds (by walk_at "bD1")) m (F.Az (k:=0) jQ (fun vs H Q E h=>?_) (fun Aa A outer s H vs Q E hr h=>?_))
 ·obtain ⟨x,rfl,hx,q⟩:=h;rfl
 obtain ⟨x,rfl,hx,q⟩:=h
 refine ⟨_,(AD rfl (AY (Nc (LW Di Di A4 (B2 Y3 Ad (A0 (qv 0) A3)) A4) (Ko (B2 (WG rfl) IF (A0 (IV rfl tD (fg (qv 0)) (fun _ _ _ _=>by exact Wv) (fun _ _ _ _=>by exact (Gh Zv (qv 0) AW))) A3)))))),?_⟩
 refine ⟨_,rfl,_,rfl,small (by omega),_,_,rfl,rfl,_,rfl,?_⟩
 refine Af (fun c=>?_) (fun c=>⟨_,rfl,Cv ?_⟩)
 ·refine ⟨_,_,rfl,rfl,_,rfl,?_⟩
  refine Af (fun c2=>?_) (fun c2=>?_)
  ·refine ⟨_,rfl,x,rfl,fun acc B9=>iE (fun _=>true) Ww B9 (by rw [<- Cj,<- Gm];exact small (by omega)) (fun i v H' Q' _ _ h=>h H' (A8.refl _)) (fun i v H' Q' hv _ _ h=>?_) (fun H' s1 e1=>?_)⟩
   ·obtain ⟨cc,rfl⟩:=signs_get hv
    exact ⟨_,rfl,_,_,rfl,rfl,h H' (A8.refl _)⟩
   ·rw [bG] at e1
    refine ⟨acc,_,rfl,AE.of e1,?_⟩
    rw [all_map]
    have e:isNm x=x.cps.toList.all Kf:=by unfold isNm;rw [c,c2];rfl
    rw [<- e];exact q H' s1
  ·have e:isNm x=false:=by unfold isNm;rw [Bool.eq_false_iff.mpr c2];simp
   rw [<- e];exact q H (A8.refl _)
 ·have e:isNm x=false:=by unfold isNm;rw [Bool.eq_false_iff.mpr c];simp
  rw [<- e];exact q H (A8.refl _)
theorem ZB6:Au ["row", "deed"] ["row", "deed"] (Ae Tf):=⟨rfl,rfl,rfl,by decide +kernel,rfl,by decide +kernel,by decide +kernel⟩
theorem bb  : ∀ ss R,VR ss R->ss.length=2:=by rintro _ _ ⟨ns,d,rfl,_,_,rfl⟩;rfl
theorem rT (F:AK K "_law_deed_right" "_law_deed_right" Tf f fd) (m:mg "_law_deed_right" = some (.ref f)) (L9:AA P w K mg base "_law_is_name" 1 ["text"] (Ke)) (Ad:mg "len" = none) :
  AA P w K mg base "_law_deed_right" 2 ["row", "deed"] (Bp VR):=by
 refine AA.mk F (F.binds (by walk_at "bD2")) m (F.Az (k:=1) ZB6 (fun vs H Q E h=>Fz.He bb h) (fun Aa A outer s H vs Q E hr h=>?_))
 refine ⟨_,(AB rfl (Ag (AX BP (AH AL (qv 1) A4) AW) (AD rfl (AY (Nc (LW Di Di A4 (AH AL (qv 1) A4) (B2 Cu Ad (A0 (qv 0) A3))) (Ko (LW Di Di (AH AL (qv 1) A4) (AH AL (qv 1) A4) (B2 Cu Ad (A0 (qv 0) A3))))))) Ah)
   (AB rfl (Ag (AX BP (AH AL (qv 1) A4) AW) (AB rfl (Ag (Ee (FP (HQ (AZ L9 hr (A0 (AH AL (qv 1) A4) A3)))) (Ee (AX Lo (AH AL (qv 1) A4) (qv 0)) (Gu (AX LG (B2 Cu Ad (A0 (qv 0) A3)) A4)))).pt (AD rfl (AY D9)) Ah)
   (AD rfl (AY (LW Di Di A4 (AH AL (qv 1) A4) (B2 Cu Ad (A0 (qv 0) A3)))))) Ah)
   (AB rfl (Ag (AX K5 (AH AL (qv 1) A4) (qv 0)) (AD rfl (AY D9)) Ah)
   (AD rfl (AY (dg (Gh BP (AH AL (qv 1) A4) AW) (Ko (LW Di FA A4 (AH AL (qv 1) A4) (B2 Cu Ad (A0 (qv 0) A3)))))))))),?_⟩
 refine Fz.HL h bb ?_
 rintro _ _ ⟨ns,d,rfl,hs,hz,rfl⟩
 show Ws [_,_] _ _ _
 cases d with
 | put x i=>
  unfold aP
  dsimp only
  walk_at "ww"
  refine B8 (by decide +kernel) (B7 ?_)
  walk_at "ww"
  refine ER (by decide +kernel) ?_
  refine Am (CH (Gn (KR (EV (VQ ?_)))))
  walk_at "ww"
  refine ⟨hs.1.2,_,rfl,?_⟩
  refine Af (fun c=>?_) (fun c=>?_)
  ·refine FK (Cg ?_)
   rw [I0]
   simp only [BM.Cm]
   have h0:isNm x=false:=by cases e:isNm x with
    | false=>rfl
    | true=>rw [e] at c;cases c
   rw [if_pos h0]
   rfl
  have h1:isNm x=true:=by cases e:isNm x with
   | true=>rfl
   | false=>exact absurd (by rw [e];rfl) c
  walk_at "ww"
  refine Af (fun c2=>?_) (fun c2=>?_)
  ·refine FK (Cg ?_)
   rw [I0]
   simp only [BM.Cm]
   rw [if_neg (by rw [h1];decide),if_pos (of_decide_eq_true c2)]
   rfl
  have h2:x∉ns:=fun z=>c2 (decide_eq_true z)
  walk_at "ww"
  rw [AV]
  refine Af (fun c3=>?_) (fun c3=>B7 ?_)
  ·refine FK (Cg ?_)
   rw [qU h1 h2 (by have:=of_decide_eq_true c3;omega)]
  walk_at "ww"
  rw [tM h1 h2 (by have:¬ (40:Int)<=ns.length:=fun z=>c3 (decide_eq_true z);omega),Q6]
  refine Af (fun c4=>?_) (fun c4=>?_)
  ·walk_at "ww"
   rw [c4,AV];rfl
  ·rw [Bool.eq_false_iff.mpr c4];rfl
 | take x=>
  unfold aP
  dsimp only
  walk_at "ww"
  refine B8 (by decide +kernel) (B7 ?_)
  walk_at "ww"
  refine B8 (by decide +kernel) (B7 ?_)
  walk_at "ww"
  refine Af (fun c=>?_) (fun c=>B7 ?_)
  ·refine FK (Cg ?_)
   rw [I0]
   simp only [BM.Cm]
   rw [if_pos (fun z=>by rw [decide_eq_true z] at c;cases c)]
   rfl
  have h2:x∈ns:=Ic fun z=>c (by rw [decide_eq_false z];rfl)
  walk_at "ww"
  refine ER (by decide +kernel) ?_
  rw [I0]
  simp only [BM.Cm]
  rw [if_neg (Decidable.not_not.mpr h2)]
  rfl
 | move x i=>
  unfold aP
  dsimp only
  walk_at "ww"
  refine B8 (by decide +kernel) (B7 ?_)
  walk_at "ww"
  refine B8 (by decide +kernel) (B7 ?_)
  walk_at "ww"
  refine Af (fun c=>?_) (fun c=>B7 ?_)
  ·refine FK (Cg ?_)
   rw [I0]
   simp only [BM.Cm]
   rw [if_pos (fun z=>by rw [decide_eq_true z] at c;cases c)]
   rfl
  have h2:x∈ns:=Ic fun z=>c (by rw [decide_eq_false z];rfl)
  walk_at "ww"
  refine B8 (by decide +kernel) ?_
  walk_at "ww"
  rw [oQ h2,Q6]
  refine Af (fun c4=>?_) (fun c4=>?_)
  ·walk_at "ww"
   rw [c4,AV,Kz]
   congr 1
   rw [decide_eq_decide];omega
  ·rw [Bool.eq_false_iff.mpr c4];rfl
 | turn lo hi=>
  unfold aP
  dsimp only
  walk_at "ww"
  refine ER (by decide +kernel) ?_
  walk_at "ww"
  rw [xl,Q6,Q6]
  refine Af (fun c=>?_) (fun c=>?_)
  ·walk_at "ww"
   rw [AV]
   refine Af (fun c2=>?_) (fun c2=>?_)
   ·walk_at "ww"
    refine Af (fun c3=>?_) (fun c3=>?_)
    ·walk_at "ww"
     rw [c,c2,c3,AV];rfl
    ·rw [c,c2,Bool.eq_false_iff.mpr c3];rfl
   ·rw [c,Bool.eq_false_iff.mpr c2];rfl
  ·rw [Bool.eq_false_iff.mpr c]
   exact ⟨_,rfl,Cv rfl⟩
theorem Tx:Au ["row", "gap", "deed"] ["row", "gap", "deed"] (Ae Ue):=⟨rfl,rfl,rfl,by decide +kernel,rfl,by decide +kernel,by decide +kernel⟩
theorem ZAi (F:AK K "_law_gap" "_law_gap" Ue f fd) (m:mg "_law_gap" = some (.ref f)) (Ge:mg "int" = none) :
  AA P w K mg base "_law_gap" 1 ["row", "gap", "deed"] (eG):=by
 refine AA.mk F (F.binds (by walk_at "bD3")) m (F.Az (k:=0) Tx (fun vs H Q E h=>?_) (fun Aa A outer s H vs Q E hr h=>?_))
 ·obtain ⟨a,t,ns,g,d,rfl,hS,hT,ok,q⟩:=h;rfl
 obtain ⟨a,t,ns,g,d,rfl,hS,hT,ok,q⟩:=h
 refine ⟨_,(AB rfl (CO (Ag (AX Lo (AH AL (qv 2) A4) (BZ (A0 AW (A0 AW A3)))) (AD rfl (Ar 1 Tx.nd (Ap Nr (qv 1) (CY QB Ge (A0 (Gh FA (JK MQ S8 Yb QR (qv 0) (A0 (AH AL (qv 2) A4) A3)) (qv 1)) A3))))) Ah))
   (AB rfl (CO (Ag (AX Lo (AH AL (qv 2) A4) (BZ (A0 AW (A0 AW A3)))) (AD rfl (Ar 1 Tx.nd (Ap D2 (qv 1) (CY QB Ge (A0 (Gh FA (AH AL (qv 2) A4) (qv 1)) A3))))) Ah))
   (AD rfl (AY (qv 1))))),?_⟩
 refine ⟨fun σ' H'=>σ'=[some (.ref a),some (.int (d.NH ns g:Nat)),some (.ref t)]/\A8 H H',?_,?_⟩
 ·refine ⟨_,rfl,t,_,_,_,rfl,rfl,A9.of hT,Gk d,(by show 2<=sizeLine;decide),fun t1 Mj=>?_⟩
  have n1:=Ac Mj (.tup [.str "take", .str "move"])
  refine ⟨t1,_,rfl,.inr (A9.of AI),rfl,rfl,_,rfl,?_⟩
  show if Dv (.str d.kind) [.str "take", .str "move"]=true then _ else _
  refine Af (fun c=>?_) (fun c=>?_)
  ·obtain ⟨x,MR,Jt,sR⟩:=p5 g ok c
   refine ⟨_,rfl,_,rfl,.inl ⟨rfl,_,AE.of (n1 _ _ hS)⟩,_,rfl,t,_,_,_,rfl,rfl,A9.of (n1 _ _ hT),MR,a,ns,x,rfl,rfl,AE.of (n1 _ _ hS),Jt,_,rfl,_,_,rfl,rfl,.inr ⟨_,rfl,_,_,rfl,rfl,?_,n1⟩⟩
   rw [sR,<- uf];rfl
  ·refine ⟨?_,n1⟩
   rw [qf g c];rfl
 rintro σ' H1 ⟨rfl,s1⟩
 have Bt:=s1 _ _ hT
 refine ⟨fun σ' H'=>σ'=[some (.ref a),some (.int (d.gap ns g:Nat)),some (.ref t)]/\A8 H H',?_,?_⟩
 ·refine ⟨_,rfl,t,_,_,_,rfl,rfl,A9.of Bt,Gk d,(by show 2<=sizeLine;decide),fun t2 P8=>?_⟩
  have n2:=Ac P8 (.tup [.str "put", .str "move"])
  refine ⟨t2,_,rfl,.inr (A9.of AI),rfl,rfl,_,rfl,?_⟩
  show if Dv (.str d.kind) [.str "put", .str "move"]=true then _ else _
  refine Af (fun c=>?_) (fun c=>?_)
  ·obtain ⟨i,Sn,GD⟩:=xg (ns:=ns) g c
   refine ⟨_,rfl,_,rfl,t,_,_,_,rfl,rfl,A9.of (n2 _ _ Bt),Sn,_,rfl,_,_,rfl,rfl,.inr ⟨_,rfl,_,_,rfl,rfl,?_,s1.trans n2⟩⟩
   rw [GD,<- vc];rfl
  ·refine ⟨?_,s1.trans n2⟩
   rw [lF g c]
 rintro σ' H2 ⟨rfl,s2⟩
 exact ⟨_,rfl,q _ s2⟩
theorem LO:Au ["row", "loop", "deed", "rule", "gap", "coming"] ["row", "loop", "deed"] (Ae Py):=⟨rfl,rfl,rfl,by decide +kernel,rfl,by decide +kernel,by decide +kernel⟩
noncomputable def zf:Scope:={ kind:=.function,names:=[(".0", .local),("name", .local),("deed", .free)],isGenerator:=false,isCoroutine:=false,more:=[] }
theorem zW:Dd ["row", "loop", "deed", "rule", "gap", "coming"] (Ae Py) zf "name" ["deed"] [2]:=⟨rfl,by decide +kernel,by decide +kernel,rfl,rfl,by decide +kernel,by decide +kernel,by decide +kernel,by decide +kernel⟩
theorem yN (F:AK K "_law_led" "_law_led" Py f fd) (m:mg "_law_led" = some (.ref f)) (WZ:AA P w K mg base "_law_gap" 1 ["row", "gap", "deed"] (eG)) (Eb:mg "sorted" = none) (CA:mg "tuple" = none) :
  AA P w K mg base "_law_led" 2 ["row", "loop", "deed"] (UM):=by
 refine AA.mk F (F.binds (by walk_at "bD3")) m (F.Az (k:=1) LO (fun vs H Q E h=>?_) (fun Aa A outer s H vs Q E hr h=>?_))
 ·obtain ⟨a,tl,t,c,ns,r,g,ss,d,rfl,hS,⟨hL,hC⟩,hT,ok,gd,hz,q⟩:=h;rfl
 obtain ⟨a,tl,t,c,ns,r,g,ss,d,rfl,hS,⟨hL,hC⟩,hT,ok,gd,hz,q⟩:=h
 refine ⟨_,(AB rfl (Iq (qv 1) (Jk rfl (DP (CL 3 LO.nd) (DP (CL 4 LO.nd) (DP (CL 5 LO.nd) Jd)))))
   (AB rfl (CO (Ag (AX BP (AH AL (qv 2) A4) AW) (AD rfl (Ar 5 LO.nd (CY HJ CA (A0 (IV rfl zW (Gi (qv 5)) (fun _ _ _ _=>by exact (KW (AX J5 (qv 1) (AH (show FN _ (Jf K) from AL) (qv 0) A4)))) (fun _ _ _ _=>by exact (qv 1))) A3)))) Ah))
   (AB rfl (CO (Ag (GO (AX BP (AH AL (qv 2) A4) AW) (GP (Ee (AX BP (qv 3) AW) (Gu (GO (AX BP (qv 3) AW) (GP (AX LG (AH AL (qv 2) A4) (qv 4)))).pt)).pt)).pt (AD rfl (Ar 5 LO.nd (CY HJ CA (A0 (B2 Oh Eb (A0 (Ap cM (qv 5) (BZ (A0 (AH AL (qv 2) A4) A3))) A3)) A3)))) Ah))
   (AD rfl (AY (BZ (A0 (qv 3) (A0 (AZ WZ hr (A0 (qv 0) (A0 (qv 4) (A0 (qv 2) A3)))) (A0 (qv 5) A3))))))))),?_⟩
 have hlen:=gd.len
 refine ⟨_,rfl,tl,_,rfl,A9.of hL,rfl,_,_,rfl,_,_,rfl,_,_,rfl,rfl,?_⟩
 refine ⟨fun σ' H'=>∃ c':Addr,σ'=[some (.ref a),some (.ref tl),some (.ref t),some (.str r),some (.int g),some (.ref c')]/\A8 H H'/\(H c'=none∨c'=c)/\H' c'=some (.tup ((d.RA ss).map V.str)),?_,?_⟩
 ·refine ⟨_,rfl,t,_,_,_,rfl,rfl,A9.of hT,Gk d,rfl,_,rfl,?_⟩
  refine Af (fun d1=>?_) (fun d1=>⟨c,rfl,A8.refl _,.inr rfl,by rw [bo d1];exact hC⟩)
  obtain ⟨x,MR,Jt⟩:=x2 (r:=r) (g:=g) (ss:=ss) d1
  have KC:CS K true H c (ss.map V.str):=A9.of hC
  refine ⟨_,rfl,true,c,_,rfl,KC,fun acc B9=>Lh (HU (.str x)) (fun v=>v) KC B9 (by rw [Dk];exact small (by omega)) (fun i v H' Q' hv s4 h=>?_) (fun i v H' Q' hv _ s4 h=>?_) (fun H4 s4 e4=>?_)⟩
  ·obtain ⟨y,rfl,_⟩:=MD hv
   exact ⟨_,rfl,_,rfl,t,_,_,_,rfl,rfl,A9.of (s4 _ _ hT),MR,rfl,_,rfl,h _ (A8.refl _)⟩
  ·exact ⟨_,rfl,h _ (A8.refl _)⟩
  rw [Nx,<- Jt] at e4
  exact ⟨acc,_,rfl,.inl ⟨AE.of e4,fun t5 bM=>⟨t5,rfl,s4.trans (Ac bM _),.inl (A8.none s4 bM),AI⟩⟩⟩
 rintro σ' H1 ⟨c1,rfl,s1,f1,e1⟩
 refine ⟨fun σ' H'=>∃ c':Addr,σ'=[some (.ref a),some (.ref tl),some (.ref t),some (.str r),some (.int g),some (.ref c')]/\A8 H H'/\(H c'=none∨c'=c)/\H' c'=some (.tup ((d.Du r g ss).map V.str)),?_,?_⟩
 ·refine ⟨_,rfl,t,_,_,_,rfl,rfl,A9.of (s1 _ _ hT),Gk d,rfl,_,rfl,?_⟩
  refine Af (fun d0=>?_) (fun d0=>Cv ⟨c1,rfl,s1,f1,by rw [Zq d0];exact e1⟩)
  obtain ⟨x,i,rfl⟩:=Xn d0
  replace e1:H1 c1=some (.tup (ss.map V.str)):=e1
  refine ⟨_,rfl,rfl,_,rfl,?_⟩
  refine Af (fun d1=>?_) (fun d1=>?_)
  ·have hj:CZ r g i=true:=by unfold CZ;rw [if_pos d1]
   refine Jc ?_
   refine ⟨_,rfl,_,rfl,t,_,_,_,rfl,rfl,A9.of (s1 _ _ hT),rfl,(by show 1<=sizeLine;decide),fun t6 SW=>?_⟩
   have n6:=Ac SW (.tup [.str x])
   refine ⟨c1,t6,_,_,rfl,rfl,A9.of (n6 _ _ e1),A9.of AI,by simp,small (by rw [Dk];simp;omega),fun p7 H7 s7 e7=>?_⟩
   have XR:A9 K H7 p7 ((ss++[x]).map V.str):=by rw [E9];exact e7
   refine ⟨p7,true,ss++[x],rfl,XR,by rw [Bm];simp;omega,fun l8 ts W4 hp hs=>?_⟩
   have n8:=Ac W4 (.lst (ts.map V.str))
   refine ⟨l8,_,rfl,.inl ⟨AE.of AI,fun c9 NM=>?_⟩⟩
   exact ⟨c9,rfl,s1.trans (n6.trans (s7.trans (n8.trans (Ac NM _)))),.inl (A8.none (s1.trans (n6.trans (s7.trans n8))) NM),by rw [AI,Vf hp hs gd.up (Vk gd ok x i rfl),UA hj]⟩
  ·refine ⟨_,rfl,rfl,_,rfl,?_⟩
   refine Af (fun d2=>?_) (fun d2=>?_)
   ·refine ⟨_,rfl,t,_,_,_,rfl,rfl,A9.of (s1 _ _ hT),rfl,_,rfl,_,_,rfl,rfl,_,rfl,?_⟩
    have L8:CZ r g i=decide ((g:Int)<=(i:Int)):=by unfold CZ;rw [if_neg d1,if_pos d2]
    refine Af (fun d3=>?_) (fun d3=>?_)
    ·have hj:CZ r g i=true:=L8.trans d3
     refine ⟨_,rfl,_,rfl,t,_,_,_,rfl,rfl,A9.of (s1 _ _ hT),rfl,(by show 1<=sizeLine;decide),fun t6 SW=>?_⟩
     have n6:=Ac SW (.tup [.str x])
     refine ⟨c1,t6,_,_,rfl,rfl,A9.of (n6 _ _ e1),A9.of AI,by simp,small (by rw [Dk];simp;omega),fun p7 H7 s7 e7=>?_⟩
     have XR:A9 K H7 p7 ((ss++[x]).map V.str):=by rw [E9];exact e7
     refine ⟨p7,true,ss++[x],rfl,XR,by rw [Bm];simp;omega,fun l8 ts W4 hp hs=>?_⟩
     have n8:=Ac W4 (.lst (ts.map V.str))
     refine ⟨l8,_,rfl,.inl ⟨AE.of AI,fun c9 NM=>?_⟩⟩
     exact ⟨c9,rfl,s1.trans (n6.trans (s7.trans (n8.trans (Ac NM _)))),.inl (A8.none (s1.trans (n6.trans (s7.trans n8))) NM),by rw [AI,Vf hp hs gd.up (Vk gd ok x i rfl),UA hj]⟩
    ·have hj:CZ r g i=false:=L8.trans (Bool.eq_false_iff.mpr d3)
     exact ⟨c1,rfl,s1,f1,by rw [ND hj];exact e1⟩
   ·have hj:CZ r g i=false:=by unfold CZ;rw [if_neg d1,if_neg d2]
    exact Cv ⟨c1,rfl,s1,f1,by rw [ND hj];exact e1⟩
 rintro σ' H2 ⟨c2,rfl,s2,f2,e2⟩
 refine ⟨_,rfl,_,rfl,_,rfl,_,rfl,a,t,ns,g,d,rfl,s2 _ _ hS,s2 _ _ hT,ok,fun H3 s3=>?_⟩
 refine ⟨_,rfl,(by show 3<=sizeLine;decide),fun t4 J4=>?_⟩
 have k3:=s2.trans s3
 have n4:=Ac J4 (.tup [.str r,.int (d.gap ns g:Nat),.ref c2])
 exact q t4 c2 _ (A8.none k3 J4) f2 (k3.trans n4) ⟨AI,n4 _ _ (s3 _ _ e2)⟩
theorem vh:Au ["state", "name", "place"] ["state", "name", "place"] (Ae VI):=⟨rfl,rfl,rfl,by decide +kernel,rfl,by decide +kernel,by decide +kernel⟩
theorem fb  : ∀ ss R,NF ss R->ss.length=3:=by rintro _ _ ⟨s,a,t,x,k,rfl,_,_,_,_,rfl⟩;rfl
theorem oZ (F:AK K "_law_counted" "_law_counted" VI f fd) (m:mg "_law_counted" = some (.ref f))  :
  AA P w K mg base "_law_counted" 1 ["state", "name", "place"] (Be NF):=by
 refine AA.mk F (F.binds (by walk_at "bD3")) m (F.Az (k:=0) vh (fun vs H Q E h=>Fz.G7 fb h) (fun Aa A outer s H vs Q E hr h=>?_))
 refine ⟨_,(AD rfl (Iq (Ap D2 (AH Ed (BO (Ax hr) (BO (Ax hr) (qv 0) AW (fun _ _=>rfl)) (qv 1) (fun _ _=>rfl)) (qv 2)) A4) (XA (BO (Ax hr) (BO (Ax hr) (qv 0) AW (fun _ _=>rfl)) (qv 1) (fun _ _=>rfl)) (qv 2) set_list))),?_⟩
 refine Fz.Oj h fb ?_
 rintro _ _ ⟨s,a,t,x,k,rfl,hT,hx,hl,hk,rfl⟩
 obtain ⟨aL,aS,us,BC,rfl⟩:=hT
 show Ws [_,_,_] _ _ _
 obtain ⟨q,eq⟩:∃ q,s.sq[s.sn.idxOf x]?=some q:=⟨_,B1 (by have:=List.idxOf_lt_length_iff.mpr hx;omega)⟩
 obtain ⟨u,hu,b,rfl⟩:=BC.get eq
 obtain ⟨v,hv,hw⟩:∃ v:Int,(Dc q)[k]?=some (.int v)/\(Dc q).set k (.int (v+1))=Dc (Tu k q):=by
  rcases hk with rfl | rfl | rfl
  ·exact ⟨_,rfl,rfl⟩
  ·exact ⟨_,rfl,rfl⟩
  ·exact ⟨_,rfl,rfl⟩
 have k4:k < (Dc q).length:=by show k < 4;omega
 refine sA (i:=0) (t:=BN s a aL aS us) (TX (Cp (KQ (Fc (PK rfl ⟨Ab s.sn,aS,us,rfl,AO rfl ⟨.inr x,s.sn.idxOf x,_,rfl,FI hx,hu,b,_,rfl,AO rfl ⟨_,k,.fz (.int v),rfl,?_,?_,_,rfl,?_⟩⟩⟩)))))
 ·rw [AV];exact hV k4
 ·rw [BF,hv];rfl
 refine ⟨_,rfl,Bg ⟨_,rfl,Fc (PK rfl ⟨Ab s.sn,aS,us,rfl,AO rfl ⟨.inr x,s.sn.idxOf x,_,rfl,FI hx,hu,true,b,Dc q,rfl,rfl,AO rfl ⟨k,rfl,k4,?_⟩⟩⟩)⟩⟩
 unfold BN
 rw [show (([]++[2])++[s.sn.idxOf x]:List Nat)=[2,s.sn.idxOf x] from rfl,Pt hu,hw]
 exact ⟨_,_,_,_,rfl,rfl,rfl,aL,aS,_,BC.set fun q' h'=>by rw [eq] at h';cases h';exact ⟨b,rfl⟩,rfl⟩
theorem PF:Au ["state", "deed", "name", "loop", "later"] ["state", "deed"] (Ae XU):=⟨rfl,rfl,rfl,by decide +kernel,rfl,by decide +kernel,by decide +kernel⟩
theorem Z5  : ∀ ss R,PJ ss R->ss.length=2:=by rintro _ _ ⟨s,a,t,d,rfl,_,_,_,_,rfl⟩;rfl
theorem rL (F:AK K "_law_stirred" "_law_stirred" XU f fd) (m:mg "_law_stirred" = some (.ref f)) (Jp:AA P w K mg base "_law_counted" 1 ["state", "name", "place"] (Be NF)) (XB:AA P w K mg base "_law_deed_right" 2 ["row", "deed"] (Bp VR)) (Xm:AA P w K mg base "_law_done" 1 ["row", "deed"] (Vi)) (XZ:AA P w K mg base "_law_led" 2 ["row", "loop", "deed"] (UM)) (Ad:mg "len" = none) (Bs:mg "list" = none) :
  AA P w K mg base "_law_stirred" 4 ["state", "deed"] (Be PJ):=by
 refine AA.mk F (F.binds (by walk_at "bD2")) m (F.Az (k:=3) PF (fun vs H Q E h=>Fz.G7 Z5 h) (fun Aa A outer s H vs Q E hr h=>?_))
 refine ⟨_,(AB rfl (Ag (FP (HQ (AZ XB hr (A0 (BO (Ax hr) (qv 0) AW (fun _ _=>rfl)) (A0 (qv 1) A3))))) (AD rfl (AY D9)) Ah)
   (AB rfl (CO (JW Ih rfl (Gi (CY (RS rfl) Bs (A0 (BO (Ax hr) (qv 0) AW (fun _ _=>rfl)) A3))) (CL 2 PF.nd) (AB rfl (Ar 3 PF.nd (BO (Ax hr) (BO (Ax hr) (qv 0) AW (fun _ _=>rfl)) (qv 2) (fun _ _=>rfl)))
   (AB rfl (Ar 4 PF.nd (AZ XZ hr (A0 (BO (Ax hr) (qv 0) AW (fun _ _=>rfl)) (A0 (qv 3) (A0 (qv 1) A3)))))
   (AB rfl (CO (Ag (AX K4 (B2 Cu Ad (A0 (AH AL (qv 4) A4) A3)) (B2 Cu Ad (A0 (AH AL (qv 3) A4) A3))) (AD rfl (EL (AZ Jp hr (A0 (qv 0) (A0 (qv 2) (A0 A4 A3)))))) Ah))
   (AB rfl (CO (Ag (AX FA (B2 Cu Ad (A0 (AH AL (qv 4) A4) A3)) (B2 Cu Ad (A0 (AH AL (qv 3) A4) A3))) (AD rfl (EL (AZ Jp hr (A0 (qv 0) (A0 (qv 2) (A0 A4 A3)))))) Ah))
   (AD rfl (IZ (Ax hr) (BO (Ax hr) (qv 0) AW (fun _ _=>rfl)) (qv 2) (qv 4)))))))))
   (AB rfl (IZ (Ax hr) (qv 0) AW (AZ Xm hr (A0 (BO (Ax hr) (qv 0) AW (fun _ _=>rfl)) (A0 (qv 1) A3))))
   (AD rfl (AY D9))))),?_⟩
 refine Fz.JG h Z5 ?_
 rintro _ _ ⟨s,a,t,d,rfl,hT,ok,hs,hn,rfl⟩
 obtain ⟨aL,aS,us,BC,rfl⟩:=hT
 show Ws [_,_,.any,.any,.any] _ _ _
 have l1:=ok.l1
 have l2:=ok.l2
 have l3:=IC ok.n1 ok.sub
 have Kw:=ok.row.len
 refine Am (CH (KR (EV (wp_call (FV (Cp (M6 rfl ⟨_,rfl,FV (AO rfl (IS ⟨_,⟨s.row,d,rfl,hs,Kw,rfl⟩,?_⟩))⟩)))))))
 rintro _ rfl
 refine ⟨_,rfl,?_⟩
 cases ed:dd s.row d with
 | none=>exact ER rfl (Dh (i:=0) rfl (Cg (.inr ⟨by unfold EE;rw [ed],rfl,aL,aS,us,BC,rfl⟩)))
 | some d'=>
  refine B8 (fun z=>by cases z) (B7 ?_)
  have Es:=Nn ed
  rw [Es.1]
  refine Am (ES (Km (fun _ i AQ=>∃ (s2 s3 s4:Slot) (t':OV),AQ=[.ow true t',.is (dP d'),s2,s3,s4]/\D1 (Dy s d' i) a t') (NS (Hx (EJ (gu (OG rfl ⟨Ab s.ln,aL,_,rfl,by unfold Ab;rw [AV];omega,_,.inl ⟨rfl,?_⟩⟩)))))))
  rw [Rf]
  refine ⟨⟨_,_,_,_,rfl,aL,aS,us,BC,rfl⟩,?_,?_⟩
  ·rintro i p AQ hp ⟨s2,s3,s4,t',rfl,aL,aS,us,BC,rfl⟩
   rw [BF] at hp
   obtain ⟨x,hx,rfl⟩:=Option.map_eq_some_iff.mp hp
   refine OL ?_
   have hi:i < s.ln.length:=(List.getElem?_eq_some_iff.mp hx).1
   obtain ⟨l,el⟩:∃ l,s.ll[i]?=some l:=⟨_,B1 (by omega)⟩
   have xm:x∈s.ln:=CG hx
   have xs:x∈s.sn:=ok.sub x xm
   have ix:s.ln.idxOf x=i:=GY ok.n1 hx
   have gl:=ok.good l (CG el)
   have ll:=ID s d' i
   have lq:=N6 s d' i
   show Ws [.ow true (BN (Dy s d' i) a aL aS us),.is (dP d'),.is (.str x),s3,s4] _ _ _
   refine Am (G2 (Cp (Fc (OG rfl ⟨Ab s.ln,aL,_,rfl,AO rfl ⟨.inr x,i,.fz l.P,rfl,by rw [FI xm,ix],LU (Tq el),_,rfl,?_⟩⟩))))
   refine Am (G2 (uH (BD (Cp (M6 rfl ⟨_,rfl,_,.inl ⟨rfl,rfl,s.row,rfl,AO rfl ⟨l.r,l.g,l.cs,rfl,AO rfl ⟨d',rfl,Es.2,gl,Kw,?_⟩⟩⟩⟩)))))
   have fin:∀ t',D1 ⟨s.row,s.ln,C1 s d' i,s.sn,C0 s d' (i+1)⟩ a t'->Ws [.ow true t',.is (dP d'),.is (.str x),.is l.P,.is (l.led s.row d').P] (Rg (IB (BG 0) (tC (V.str "live"))) (BG 2) (BG 4)) (fun AQ=>∃ (s2 s3 s4:Slot) (t':OV),AQ=[.ow true t',.is (dP d'),s2,s3,s4]/\D1 (Dy s d' (i+1)) a t') (.mt (ET (fun s t=>D1 s a t) s (EE s d))):=by
    rintro _ ⟨aL,aS,us,BC,rfl⟩
    refine IJ (i:=0) (t:=BN ⟨s.row,s.ln,C1 s d' i,s.sn,C0 s d' (i+1)⟩ a aL aS us) (DJ (AO rfl (OG rfl ⟨true,aL,Ab s.ln,_,rfl,rfl,by unfold Bv;rw [AV];show (C1 s d' i).length<=99999;omega,HX ok.n1,BH,AO rfl ⟨.inr x,rfl,?_⟩⟩)))
    rw [RB xm,RK xm,ix,Q8,XM el]
    unfold BN
    rw [show ([]++[1]:List Nat)=[1] from rfl,JP]
    exact ⟨_,_,_,_,rfl,aL,aS,us,BC,rfl⟩
   rw [Y2 hx el] at fin
   show Ws [.ow true (BN (Dy s d' i) a aL aS us),.is (dP d'),.is (.str x),.is l.P,.is (l.led s.row d').P] _ _ _
   have cnt:∀ k:Nat,(k=1∨k=2∨k=3)->∀ (nx:List Slot->Prop) R,(∀ t',D1 ⟨s.row,s.ln,C1 s d' i,s.sn,(C0 s d' i).modify (s.sn.idxOf x) (Tu k)⟩ a t'->nx [.ow true t',.is (dP d'),.is (.str x),.is l.P,.is (l.led s.row d').P])->Ws [.ow true (BN (Dy s d' i) a aL aS us),.is (dP d'),.is (.str x),.is l.P,.is (l.led s.row d').P] (J1 (CP (Be NF) [] E0 (AS (BG 0) (AS (BG 2) (AS (tC (V.int k)) Aw))))) nx R:=fun k hk nx R yF=>by
    refine Uj (i:=0) (MV rfl (N9 rfl (DU (AO rfl (DU (Bg (FU ⟨_,⟨Dy s d' i,a,_,x,k,rfl,⟨aL,aS,us,BC,rfl⟩,xs,by show s.sn.length=(C0 s d' i).length;omega,hk,rfl⟩,?_⟩)))))))
    rintro _ t2 ⟨rfl,CM⟩
    obtain ⟨nk,Hm,rfl⟩:=CM.nd
    exact ⟨nk,Hm,rfl,yF _ CM⟩
   have ec:(d'.Du l.r l.g l.cs)=(l.led s.row d').cs:=rfl
   rcases Rx l.cs.length (l.led s.row d').cs.length with h | h | h
   ·refine Am (ES (CH (DT (FL (CU (BD (EH (FH (i:=4) rfl ⟨rfl,Bg ⟨_,_,rfl,rfl,_,.inr ⟨rfl,_,rfl,CU (BD (EH (FH (i:=3) rfl ⟨rfl,Bg ⟨_,_,rfl,rfl,_,.inr ⟨rfl,_,rfl,_,rfl,?_⟩⟩⟩)))⟩⟩⟩))))))))
    rw [AV,AV]
    refine ER (decide_eq_true (by omega)) (cnt 1 (.inl rfl) _ _ fun t' Ey=>?_)
    refine Am (ES (CH (DT (FL (CU (BD (EH (FH (i:=4) rfl ⟨rfl,Bg ⟨_,_,rfl,rfl,_,.inr ⟨rfl,_,rfl,CU (BD (EH (FH (i:=3) rfl ⟨rfl,Bg ⟨_,_,rfl,rfl,_,.inr ⟨rfl,_,rfl,_,rfl,?_⟩⟩⟩)))⟩⟩⟩))))))))
    rw [AV,AV]
    refine B8 (fun z=>by have:=of_decide_eq_true z;omega) (B7 (fin t' ?_))
    unfold Sm.by
    rw [if_pos h]
    exact Ey
   ·refine Am (ES (CH (DT (FL (CU (BD (EH (FH (i:=4) rfl ⟨rfl,Bg ⟨_,_,rfl,rfl,_,.inr ⟨rfl,_,rfl,CU (BD (EH (FH (i:=3) rfl ⟨rfl,Bg ⟨_,_,rfl,rfl,_,.inr ⟨rfl,_,rfl,_,rfl,?_⟩⟩⟩)))⟩⟩⟩))))))))
    rw [AV,AV]
    refine B8 (fun z=>by have:=of_decide_eq_true z;omega) (B7 ?_)
    refine Am (ES (CH (DT (FL (CU (BD (EH (FH (i:=4) rfl ⟨rfl,Bg ⟨_,_,rfl,rfl,_,.inr ⟨rfl,_,rfl,CU (BD (EH (FH (i:=3) rfl ⟨rfl,Bg ⟨_,_,rfl,rfl,_,.inr ⟨rfl,_,rfl,_,rfl,?_⟩⟩⟩)))⟩⟩⟩))))))))
    rw [AV,AV]
    refine B8 (fun z=>by have:=of_decide_eq_true z;omega) (B7 (fin _ ?_))
    unfold Sm.by
    rw [if_neg (by omega),if_neg (by omega),i7]
    exact ⟨aL,aS,us,BC,rfl⟩
   ·refine Am (ES (CH (DT (FL (CU (BD (EH (FH (i:=4) rfl ⟨rfl,Bg ⟨_,_,rfl,rfl,_,.inr ⟨rfl,_,rfl,CU (BD (EH (FH (i:=3) rfl ⟨rfl,Bg ⟨_,_,rfl,rfl,_,.inr ⟨rfl,_,rfl,_,rfl,?_⟩⟩⟩)))⟩⟩⟩))))))))
    rw [AV,AV]
    refine B8 (fun z=>by have:=of_decide_eq_true z;omega) (B7 ?_)
    refine Am (ES (CH (DT (FL (CU (BD (EH (FH (i:=4) rfl ⟨rfl,Bg ⟨_,_,rfl,rfl,_,.inr ⟨rfl,_,rfl,CU (BD (EH (FH (i:=3) rfl ⟨rfl,Bg ⟨_,_,rfl,rfl,_,.inr ⟨rfl,_,rfl,_,rfl,?_⟩⟩⟩)))⟩⟩⟩))))))))
    rw [AV,AV]
    refine ER (decide_eq_true (by omega)) (cnt 3 (.inr (.inr rfl)) _ _ fun t' Ey=>fin t' ?_)
    unfold Sm.by
    rw [if_neg (by omega),if_pos h]
    exact Ey
  ·rintro AQ ⟨s2,s3,s4,t',rfl,Ey⟩
   rw [AV] at Ey
   obtain ⟨KG,Ky,us',Gx,rfl⟩:=Ey
   refine Am (IJ (i:=0) (t:=BN (Dy s d' s.ln.length) a KG Ky us') (DJ (EJ (fi (BD (Cp (M6 rfl ⟨_,rfl,_,.inl ⟨rfl,rfl,s.row,rfl,AO rfl ⟨d',rfl,Es.2,by omega,ok.row.nd,?_⟩⟩⟩)))))))
   refine C2 rfl ⟨true,a,k3,_,rfl,rfl,by show 3<=99999;decide,by decide +kernel,BH,EW ⟨.inr "row", rfl,?_⟩⟩
   rw [OV.FG]
   refine Dh (i:=0) rfl (Cg (.inl ⟨⟨d'.done s.row,s.ln,s.ll.map (Lp.led s.row d'),s.sn,C0 s d' s.ln.length⟩,?_,rfl,KG,Ky,us',Gx,?_⟩))
   ·unfold EE
    rw [ed]
   ·rw [<- Yc,<- l1,nq,m6];rfl
theorem pb:Au ["row", "rule"] ["row", "rule"] (Ae Xv):=⟨rfl,rfl,rfl,by decide +kernel,rfl,by decide +kernel,by decide +kernel⟩
theorem fU  : ∀ ss R,Vc ss R->ss.length=2:=by rintro _ _ ⟨ns,r,rfl,hz,rfl⟩;rfl
theorem wt (F:AK K "_law_begun" "_law_begun" Xv f fd) (m:mg "_law_begun" = some (.ref f)) (Eb:mg "sorted" = none) (CA:mg "tuple" = none) :
  AA P w K mg base "_law_begun" 1 ["row", "rule"] (Bp Vc):=by
 refine AA.mk F (F.binds (by walk_at "bD2")) m (F.Az (k:=0) pb (fun vs H Q E h=>Fz.He fU h) (fun Aa A outer s H vs Q E hr h=>?_))
 refine ⟨_,(AD rfl (AY (BZ (A0 (qv 1) (A0 A4 (A0 (CY HJ CA (A0 (B2 Oh Eb (A0 (qv 0) A3)) A3)) A3)))))),?_⟩
 refine Fz.HL h fU ?_
 rintro _ _ ⟨ns,r,rfl,hz,rfl⟩
 show Ws [_,_] _ _ _
 walk_at "ww"
 refine ⟨hz,fun ts pm st=>?_⟩
 walk_at "ww"
 exact ⟨by simp,ts,pm,st,rfl⟩
theorem zC:Au ["state", "name", "rule"] ["state", "name", "rule"] (Ae X3):=⟨rfl,rfl,rfl,by decide +kernel,rfl,by decide +kernel,by decide +kernel⟩
theorem fP  : ∀ ss R,V2 ss R->ss.length=3:=by rintro _ _ ⟨s,a,t,x,r,rfl,_,_,_,_,_,rfl⟩;rfl
theorem yu (F:AK K "_law_begins" "_law_begins" X3 f fd) (m:mg "_law_begins" = some (.ref f)) (Y7:AA P w K mg base "_law_begun" 1 ["row", "rule"] (Bp Vc)) (L9:AA P w K mg base "_law_is_name" 1 ["text"] (Ke)) (Ad:mg "len" = none) :
  AA P w K mg base "_law_begins" 3 ["state", "name", "rule"] (Be V2):=by
 refine AA.mk F (F.binds (by walk_at "bD3")) m (F.Az (k:=2) zC (fun vs H Q E h=>Fz.G7 fP h) (fun Aa A outer s H vs Q E hr h=>?_))
 refine ⟨_,(AB rfl (Ag (Ee (FP (HQ (AZ L9 hr (A0 (qv 1) A3)))) (Ee (XY (Ax hr) (qv 1) (BO (Ax hr) (qv 0) AW (fun _ _=>rfl))) (Gu (AX K5 (qv 2) (BZ (A0 AW (A0 AW (A0 AW A3)))))))).pt (AD rfl (AY D9)) Ah)
   (AB rfl (IZ (Ax hr) (BO (Ax hr) (qv 0) AW (fun _ _=>rfl)) (qv 1) (AZ Y7 hr (A0 (BO (Ax hr) (qv 0) AW (fun _ _=>rfl)) (A0 (qv 2) A3))))
   (AB rfl (IZ (Ax hr) (BO (Ax hr) (qv 0) AW (fun _ _=>rfl)) (qv 1) (Gd (A0 (B2 Cu Ad (A0 (BO (Ax hr) (qv 0) AW (fun _ _=>rfl)) A3)) (A0 A4 (A0 A4 (A0 A4 A3))))))
   (AD rfl (AY D9))))),?_⟩
 refine Fz.JG h fP ?_
 rintro _ _ ⟨s,a,t,x,r,rfl,hT,ok,hx,hr,hn,rfl⟩
 obtain ⟨aL,aS,us,BC,rfl⟩:=hT
 show Ws [_,_,_] _ _ _
 have no:∀ nx:List Slot->Prop,¬ (isNm x=true/\x∉s.sn/\NB r=true)->Ws [.ow true (BN s a aL aS us),.is (.str x),.is (.str r)] (Fn (tC (V.bl false))) nx (.mt (ET (fun s t=>D1 s a t) s (E6 s x r))):=fun nx h=>Dh (i:=0) rfl (Cg (.inr ⟨by unfold E6;rw [if_neg h],rfl,aL,aS,us,BC,rfl⟩))
 refine Am (CH (Gn (KR (EV (VQ (AO rfl ⟨x,rfl,hx.2,_,rfl,?_⟩))))))
 refine Af (fun c=>no _ fun z=>by rw [z.1] at c;cases c) (fun c=>?_)
 refine Gn (EV (dI (AO rfl (PK rfl ⟨Ab s.sn,aS,us,.inr x,rfl,rfl,_,rfl,?_⟩))))
 rw [HM]
 refine Af (fun c2=>no _ fun z=>z.2.1 (of_decide_eq_true c2)) (fun c2=>?_)
 walk_at "ww"
 refine ⟨by decide,_,.inr ⟨rfl,["none", "ahead", "all"],rfl,_,rfl,?_⟩⟩
 refine Af (fun c3=>no _ fun z=>?_) (fun c3=>B7 ?_)
 ·have h3:decide (r∈([("none" : Str), "ahead", "all"]))=true:=z.2.2
  rw [h3] at c3;cases c3
 have h1:isNm x=true:=by cases e:isNm x with
  | true=>rfl
  | false=>exact absurd (by rw [e];rfl) c
 have h2:x∉s.sn:=fun z=>c2 (decide_eq_true z)
 have h3:NB r=true:=by
  show decide (r∈([("none" : Str), "ahead", "all"]))=true
  cases e:decide (r∈([("none" : Str), "ahead", "all"])) with
  | true=>rfl
  | false=>exact absurd (by rw [e];rfl) c3
 have h4:x∉s.ln:=fun z=>h2 (ok.sub x z)
 have l1:=ok.l1
 have l2:=ok.l2
 have l3:=IC ok.n1 ok.sub
 refine Am (IJ (i:=0) (t:=BN s a aL aS us) (DJ (wp_call (lE (BD (Cp (M6 rfl ⟨_,rfl,_,.inl ⟨rfl,FV (AO rfl (IS ⟨_,⟨s.row,r,rfl,by have:=ok.row.len;omega,rfl⟩,?_⟩))⟩⟩)))))))
 rintro _ ⟨ts,pm,st,rfl⟩
 rw [ZZ ok.row.nd pm st]
 refine (OG rfl ⟨true,aL,Ab s.ln,_,rfl,rfl,by unfold Bv;rw [AV];omega,HX ok.n1,BH,AO rfl ⟨.inr x,rfl,?_⟩⟩)
 rw [MS h4,Pu h4]
 unfold BN
 rw [show ([]++[1]:List Nat)=[1] from rfl,JP]
 have e1:Bv s.ll++[.fz (D8 r 0 (DA s.row))]=Bv (s.ll++[⟨r,0,DA s.row⟩]):=by unfold Bv;rw [E9];rfl
 rw [e1]
 show Ws [.ow true (BN ⟨s.row,s.ln++[x],s.ll++[⟨r,0,DA s.row⟩],s.sn,s.sq⟩ a aL aS us),.is (.str x),.is (.str r)] _ _ _
 refine Am (IJ (i:=0) (t:=BN ⟨s.row,s.ln++[x],s.ll++[⟨r,0,DA s.row⟩],s.sn,s.sq⟩ a aL aS us) (v5 (Ju (DJ (CU (BD (Cp (M6 rfl ⟨_,rfl,_,.inl ⟨rfl,Ju (DJ (Bg (Ju (DJ (Bg (Ju (DJ (Bg (cD ⟨by simp,by simp,by simp,by simp,by show 4<=100000;decide,fun b=>?_⟩)))))))))⟩⟩))))))))
 refine (PK rfl ⟨true,aS,Ab s.sn,us,rfl,rfl,by rw [BC.1];omega,HX ok.n2,BH,AO rfl ⟨.inr x,rfl,?_⟩⟩)
 rw [MS h2,Pu h2,AV]
 unfold BN
 rw [show ([]++[2]:List Nat)=[2] from rfl,put2]
 exact Dh (i:=0) rfl (Cg (.inl ⟨_,by unfold E6;rw [if_pos ⟨h1,h2,h3⟩],rfl,aL,aS,_,BC.snoc ⟨b,rfl⟩,rfl⟩))
theorem LQ:Au ["state", "entry", "live", "rule", "gap", "coming", "left"] ["state", "entry"] (Ae RZ):=⟨rfl,rfl,rfl,by decide +kernel,rfl,by decide +kernel,by decide +kernel⟩
noncomputable def ZAL:Scope:={ kind:=.function,names:=[(".0", .local),("name", .local),("entry", .free)],isGenerator:=false,isCoroutine:=false,more:=[] }
theorem wx:Dd ["state", "entry", "live", "rule", "gap", "coming", "left"] (Ae RZ) ZAL "name" ["entry"] [1]:=⟨rfl,by decide +kernel,by decide +kernel,rfl,rfl,by decide +kernel,by decide +kernel,by decide +kernel,by decide +kernel⟩
theorem gx  : ∀ ss R,UI ss R->ss.length=2:=by rintro _ _ ⟨s,a,t,e,rfl,_,_,_,_,rfl⟩;rfl
theorem mK (F:AK K "_law_goes" "_law_goes" RZ f fd) (m:mg "_law_goes" = some (.ref f)) (WD:AA P w K mg base "_law_begins" 3 ["state", "name", "rule"] (Be V2)) (Jp:AA P w K mg base "_law_counted" 1 ["state", "name", "place"] (Be NF)) (XE:AA P w K mg base "_law_stirred" 4 ["state", "deed"] (Be PJ)) (CA:mg "tuple" = none) :
  AA P w K mg base "_law_goes" 5 ["state", "entry"] (Be UI):=by
 refine AA.mk F (F.binds (by walk_at "bD2")) m (F.Az (k:=4) LQ (fun vs H Q E h=>Fz.G7 gx h) (fun Aa A outer s H vs Q E hr h=>?_))
 refine ⟨_,(AB rfl (Ar 2 LQ.nd (BO (Ax hr) (qv 0) AW (fun _ _=>rfl)))
   (AB rfl (Ag (AX BP (AH AL (qv 1) A4) AW) (AD rfl (AY (AZ WD hr (A0 (qv 0) (A0 (AH AL (qv 1) A4) (A0 (AH AL (qv 1) A4) A3)))))) Ah)
   (AB rfl (Ag (AX BP (AH AL (qv 1) A4) AW) (AB rfl (Ag (Ee (Mn (Ax hr) (AH AL (qv 1) A4) (qv 2)) (Gu (AX (Nu hr.IX) (AH AL (BO (Ax hr) (qv 2) (AH AL (qv 1) A4) (fun _ _=>rfl)) A4) (BZ A3)))).pt (AD rfl (AY D9)) Ah)
   (AB rfl (EL (cu (qv 2) (AH AL (qv 1) A4) ⟨rfl,rfl,rfl,rfl⟩))
   (AD rfl (AY D9)))) Ah)
   (AB rfl (Ag (AX BP (AH AL (qv 1) A4) AW) (AB rfl (Ag (Ee (Mn (Ax hr) (AH AL (qv 1) A4) (qv 2)) (Gu (AX K5 (AH AL (qv 1) A4) (AH AL (BO (Ax hr) (qv 2) (AH AL (qv 1) A4) (fun _ _=>rfl)) A4)))).pt (AD rfl (AY D9)) Ah)
   (AB rfl (Iq (BO (Ax hr) (qv 2) (AH AL (qv 1) A4) (fun _ _=>rfl)) (Jk rfl (DP (CL 3 LQ.nd) (DP (CL 4 LQ.nd) (DP (CL 5 LQ.nd) Jd)))))
   (AB rfl (Ar 6 LQ.nd (CY HJ CA (A0 (IV rfl wx (Gi (qv 5)) (fun _ _ _ _=>by exact (KW (AX J5 (qv 1) (AH (show FN _ (Jf K) from AL) (qv 0) A4)))) (fun _ _ _ _=>by exact (qv 1))) A3)))
   (AB rfl (IZ (Ax hr) (qv 2) (AH AL (qv 1) A4) (BZ (A0 (qv 3) (A0 (Ap D2 (JK MQ S8 Yb QR (BO (Ax hr) (qv 0) AW (fun _ _=>rfl)) (A0 (AH AL (qv 1) A4) A3)) A4) (A0 (qv 6) A3)))))
   (AB rfl (EL (AZ Jp hr (A0 (qv 0) (A0 (AH AL (qv 1) A4) (A0 A4 A3)))))
   (AD rfl (AY D9))))))) Ah)
   (AD rfl (AY (AZ XE hr (A0 (qv 0) (A0 (qv 1) A3))))))))),?_⟩
 refine Fz.JG h gx ?_
 rintro _ _ ⟨s,a,t,e,rfl,hT,ok,hs,hn,rfl⟩
 obtain ⟨aL,aS,us,BC,rfl⟩:=id hT
 show Ws [_,_,.any,.any,.any,.any,.any] _ _ _
 have nd:∀ {o:Option Ls}{p:PV}{t':OV},ET (fun s t=>D1 s a t) s o p t'->∃ DO us',t'=.nd DO a us'/\(∃ nk a us,t'=.nd nk a us)/\ET (fun s t=>D1 s a t) s o p t':=fun h=>by
  obtain ⟨nk,us,e⟩:=h.nd fun _ _ h=>h.nd
  exact ⟨nk,us,e,⟨nk,a,us,e⟩,h⟩
 have l1:=ok.l1
 have l2:=ok.l2
 have l3:=IC ok.n1 ok.sub
 have Kw:=ok.row.len
 refine Am (SV (i:=0) (OG rfl ⟨_,aL,_,rfl,?_⟩))
 cases e with
 | Hu x r=>
  show Ws [.ow true (BN s a aL aS us),.is (.tup [.str "begin", .str x,.str r]),.raw (ptr aL),.any,.any,.any,.any] _ _ _
  walk_at "ww"
  refine ER (by decide +kernel) ?_
  refine Lv (i:=0) rfl (MV rfl (N9 rfl (DU ?_)))
  walk_at "ww"
  refine DU ?_
  walk_at "ww"
  exact FU ⟨_,⟨s,a,_,x,r,rfl,hT,ok,hs.1,hs.2,hn,rfl⟩,fun p t' h=>nd h⟩
 | over x=>
  show Ws [.ow true (BN s a aL aS us),.is (.tup [.str "over", .str x]),.raw (ptr aL),.any,.any,.any,.any] _ _ _
  walk_at "ww"
  refine B8 (by decide +kernel) (B7 ?_)
  walk_at "ww"
  refine ER (by decide +kernel) ?_
  refine Am (CH (Gn (EV (QL (i:=0) (t:=BN s a aL aS us) ?_))))
  walk_at "ww"
  refine (HZ (j:=2) (i:=0) (p:=[1]) rfl rfl DG ⟨Ab s.ln,aL,_,.inr x,rfl,rfl,_,rfl,?_⟩)
  rw [HM]
  refine Af (fun c=>?_) (fun c=>?_)
  ·have nx:x∉s.ln:=fun z=>by rw [decide_eq_true z] at c;cases c
   refine Dh (i:=0) rfl (Cg (.inr ⟨?_,rfl,aL,aS,us,BC,rfl⟩))
   show DL s x=none
   unfold DL
   rw [Rn nx,l1,JZ (An _)]
  ·have hx:x∈s.ln:=Ic fun z=>c (by rw [decide_eq_false z];rfl)
   have hi:=List.idxOf_lt_length_iff.mpr hx
   obtain ⟨l,el⟩:∃ l,s.ll[s.ln.idxOf x]?=some l:=⟨_,B1 (by omega)⟩
   refine DT (bj (BD (EH (BD (Cp (Fc (HZ (j:=2) (i:=0) (p:=[1]) rfl rfl DG ⟨Ab s.ln,aL,_,rfl,?_⟩)))))))
   walk_at "ww"
   refine ⟨.inr x,s.ln.idxOf x,.fz l.P,rfl,FI hx,LU el,_,rfl,_,.inr ⟨rfl,rfl,Bg ⟨_,_,rfl,rfl,_,.inr ⟨rfl,l.cs,rfl,?_⟩⟩⟩⟩
   refine BD (M8 (IM ⟨by decide,_,.inr ⟨rfl,rfl,[],rfl,_,rfl,?_⟩⟩))
   refine Af (fun c2=>?_) (fun c2=>B7 ?_)
   ·refine Dh (i:=0) rfl (Cg (.inr ⟨?_,rfl,aL,aS,us,BC,rfl⟩))
    show DL s x=none
    unfold DL
    rw [el]
    show (if l.cs=[] then _ else none)=none
    rw [if_neg (fun z=>by rw [decide_eq_true z] at c2;cases c2)]
   ·have h0:l.cs=[]:=Ic fun z=>c2 (by rw [decide_eq_false z];rfl)
    refine Am (fQ (i:=0) (t:=BN s a aL aS us) (HZ (j:=2) (i:=0) (p:=[1]) rfl rfl DG ⟨true,aL,Ab s.ln,_,rfl,rfl,HX ok.n1,?_⟩))
    walk_at "ww"
    refine ⟨.inr x,s.ln.idxOf x,rfl,FI hx,?_⟩
    unfold BN
    rw [JP,iI,bR]
    refine Dh (i:=0) rfl (Cg (.inl ⟨⟨s.row,s.ln.eraseIdx (s.ln.idxOf x),s.ll.eraseIdx (s.ln.idxOf x),s.sn,s.sq⟩,?_,rfl,aL,aS,us,BC,rfl⟩))
    show DL s x=_
    unfold DL
    rw [el]
    show (if l.cs=[] then _ else none)=_
    rw [if_pos h0]
 | tell x y=>
  show Ws [.ow true (BN s a aL aS us),.is (.tup [.str "tell", .str x,.str y]),.raw (ptr aL),.any,.any,.any,.any] _ _ _
  walk_at "ww"
  refine B8 (by decide +kernel) (B7 ?_)
  walk_at "ww"
  refine B8 (by decide +kernel) (B7 ?_)
  walk_at "ww"
  refine ER (by decide +kernel) ?_
  refine Am (CH (Gn (EV (QL (i:=0) (t:=BN s a aL aS us) ?_))))
  walk_at "ww"
  refine (HZ (j:=2) (i:=0) (p:=[1]) rfl rfl DG ⟨Ab s.ln,aL,_,.inr x,rfl,rfl,_,rfl,?_⟩)
  rw [HM]
  refine Af (fun c=>?_) (fun c=>?_)
  ·have nx:x∉s.ln:=fun z=>by rw [decide_eq_true z] at c;cases c
   refine Dh (i:=0) rfl (Cg (.inr ⟨?_,rfl,aL,aS,us,BC,rfl⟩))
   show DV s x y=none
   unfold DV
   rw [Rn nx,l1,JZ (An _)]
  ·have hx:x∈s.ln:=Ic fun z=>c (by rw [decide_eq_false z];rfl)
   have hi:=List.idxOf_lt_length_iff.mpr hx
   obtain ⟨l,el⟩:∃ l,s.ll[s.ln.idxOf x]?=some l:=⟨_,B1 (by omega)⟩
   refine DT (Wr ?_)
   walk_at "ww"
   refine BD (Cp (Fc (HZ (j:=2) (i:=0) (p:=[1]) rfl rfl DG ⟨Ab s.ln,aL,_,rfl,?_⟩)))
   walk_at "ww"
   refine ⟨.inr x,s.ln.idxOf x,.fz l.P,rfl,FI hx,LU el,_,rfl,_,.inr ⟨rfl,rfl,Bg ⟨_,_,rfl,rfl,_,.inr ⟨rfl,l.cs,rfl,_,rfl,?_⟩⟩⟩⟩
   have xs:x∈s.sn:=ok.sub x hx
   have gl:=ok.good l (CG el)
   have fw:=gl.len
   refine Af (fun c2=>?_) (fun c2=>B7 ?_)
   ·refine Dh (i:=0) rfl (Cg (.inr ⟨?_,rfl,aL,aS,us,BC,rfl⟩))
    show DV s x y=none
    unfold DV
    rw [el]
    show (if y∈l.cs then _ else none)=none
    rw [if_neg (fun z=>by rw [decide_eq_true z] at c2;cases c2)]
   ·have hy:y∈l.cs:=Ic fun z=>c2 (by rw [decide_eq_false z];rfl)
    have yr:y∈s.row:=gl.sub y hy
    refine Am (dr (Cp (Fc (HZ (j:=2) (i:=0) (p:=[1]) rfl rfl DG ⟨Ab s.ln,aL,_,rfl,?_⟩))))
    walk_at "ww"
    refine ⟨.inr x,s.ln.idxOf x,.fz l.P,rfl,FI hx,LU el,_,rfl,ZAh ⟨_,_,_,rfl,?_⟩⟩
    show Ws [.ow true (BN s a aL aS us),.is (.tup [.str "tell", .str x,.str y]),.raw (ptr aL),.is (.str l.r),.is (.int l.g),.is (.tup (l.cs.map .str)),.any] _ _ _
    refine Am (G2 (Xf rfl (BD (EJ (iA PV.str (fun z=>!decide (z=y)) PV.str (NS (Hx (AO rfl ⟨_,.inr ⟨rfl,l.cs,rfl,by omega,fun z hz=>?_,fun z hz _=>AO rfl rfl,?_⟩⟩))) str_inj)))))
    ·walk_at "ww"
     rw [show alike (PV.str z) (PV.str y)=decide (z=y) from rfl]
    refine ⟨_,.inl ⟨rfl,?_⟩⟩
    show Ws [.ow true (BN s a aL aS us),.is (.tup [.str "tell", .str x,.str y]),.raw (ptr aL),.is (.str l.r),.is (.int l.g),.is (.tup (l.cs.map .str)),.is (.tup ((wo l.cs y).map .str))] _ _ _
    refine Am (IJ (i:=0) (t:=BN s a aL aS us) (DJ (M8 (Fh (AO rfl (Fh ?_))))))
    refine TX (gy (BD (Cp (M6 rfl ⟨_,rfl,_,.inl ⟨rfl,rfl,s.row,rfl,?_⟩⟩))))
    walk_at "ww"
    refine ⟨yr,_,rfl,Bg ⟨_,rfl,Fh (AO rfl (IM ⟨by simp,?_⟩))⟩⟩
    refine (HZ (j:=2) (i:=0) (p:=[1]) rfl rfl DG ⟨true,aL,Ab s.ln,_,rfl,rfl,by unfold Bv;rw [AV];omega,HX ok.n1,BH,?_⟩)
    walk_at "ww"
    refine ⟨.inr x,rfl,?_⟩
    rw [RB hx,RK hx]
    have e2:(Bv s.ll).set (s.ln.idxOf x) (.fz (.tup [.str l.r,.int (((s.row.idxOf y:Nat):Int)+1),.tup ((wo l.cs y).map .str)]))=Bv (s.ll.set (s.ln.idxOf x) ⟨l.r,s.row.idxOf y+1,wo l.cs y⟩):=Q8 _ _ ⟨l.r,s.row.idxOf y+1,wo l.cs y⟩
    rw [e2]
    unfold BN
    rw [JP]
    show Ws [.ow true (BN ⟨s.row,s.ln,s.ll.set (s.ln.idxOf x) ⟨l.r,s.row.idxOf y+1,wo l.cs y⟩,s.sn,s.sq⟩ a aL aS us),.is (.tup [.str "tell", .str x,.str y]),.raw (ptr aL),.is (.str l.r),.is (.int l.g),.is (.tup (l.cs.map .str)),.is (.tup ((wo l.cs y).map .str))] _ _ _
    refine Am (Uj (i:=0) (MV rfl (N9 rfl (DU ?_))))
    walk_at "ww"
    refine DU (Bg (FU ⟨_,⟨⟨s.row,s.ln,s.ll.set (s.ln.idxOf x) ⟨l.r,s.row.idxOf y+1,wo l.cs y⟩,s.sn,s.sq⟩,a,_,x,2,rfl,⟨aL,aS,us,BC,rfl⟩,xs,l2,.inr (.inl rfl),rfl⟩,?_⟩))
    rintro _ t2 ⟨rfl,x8,xk,Hm,tS,rfl⟩
    refine ⟨_,_,rfl,?_⟩
    refine Dh (i:=0) rfl (Cg (.inl ⟨⟨s.row,s.ln,s.ll.set (s.ln.idxOf x) ⟨l.r,s.row.idxOf y+1,wo l.cs y⟩,s.sn,s.sq.modify (s.sn.idxOf x) Sm.tell⟩,?_,rfl,x8,xk,Hm,tS,rfl⟩))
    show DV s x y=_
    unfold DV
    rw [el]
    show (if y∈l.cs then _ else none)=_
    rw [if_pos hy]
 | GG d=>
  have fin:∀ nx,Ws [.ow true (BN s a aL aS us),.is (aP d),.raw (ptr aL),.any,.any,.any,.any] (Fn (CP (Be PJ) [] E0 (AS (BG 0) (AS (BG 1) Aw)))) nx (.mt (ET (fun s t=>D1 s a t) s (Dr s (.GG d)))):=fun nx=>Lv (i:=0) rfl (MV rfl (N9 rfl (DU (AO rfl (FU ⟨_,⟨s,a,_,d,rfl,hT,ok,hs,hn,rfl⟩,fun p t' h=>nd h⟩)))))
  show Ws [.ow true (BN s a aL aS us),.is (aP d),.raw (ptr aL),.any,.any,.any,.any] _ _ _
  cases d with
  | _=>
   unfold aP at fin ⊢
   dsimp only at fin ⊢
   walk_at "ww"
   refine B8 (by decide +kernel) (B7 ?_)
   walk_at "ww"
   refine B8 (by decide +kernel) (B7 ?_)
   walk_at "ww"
   refine B8 (by decide +kernel) (B7 ?_)
   exact fin _
theorem GK:Au ["script", "rate", "pot", "most", "first", "state", "log", "wrong", "k", "turn", "entry"] ["script", "rate"] (Ae UE):=⟨rfl,rfl,rfl,by decide +kernel,rfl,by decide +kernel,by decide +kernel⟩
theorem gD  : ∀ ss R,(Xt K) ss R->ss.length=2:=by rintro _ _ ⟨sc,rfl,_,rfl⟩;rfl
theorem mx (F:AK K "_law_log" "_law_log" UE f fd) (m:mg "_law_log" = some (.ref f)) (VA:AA P w K mg base "_law_goes" 5 ["state", "entry"] (Be UI)) (Y9:AA P w K mg base "_law_good_entry" 4 ["pot", "state", "most"] (Bp Tp)) (PQ:AA P w K mg base "_law_pot" 1 ["script", "k"] (US K)) (Xo:AA P w K mg base "_law_row" 4 ["pot", "most"] (VP)) (BW:AA P w K mg base "_law_take" 1 ["pot", "many"] (Iy)) (Ge:mg "int" = none) (Ad:mg "len" = none) (Bs:mg "list" = none) (Ts:mg "max" = none) (TF:mg "min" = none) (Kx:mg "range" = none) :
  AA P w K mg base "_law_log" 6 ["script", "rate"] (Bp (Xt K)):=by
 refine AA.mk F (F.binds (by walk_at "bD2")) m (F.Az (k:=5) GK (fun vs H Q E h=>Fz.He gD h) (fun Aa A outer s H vs Q E hr h=>?_))
 refine ⟨_,(AB rfl (Ar 2 GK.nd (AZ PQ hr (A0 (qv 0) (A0 A4 A3))))
   (AB rfl (Ar 3 GK.nd (AH AL (BZ (A0 A4 (A0 A4 A3))) (CY QB Ge (A0 (Gh BP (AZ BW hr (A0 (qv 2) (A0 A4 A3))) A4) A3))))
   (AB rfl (Ar 4 GK.nd (AZ Xo hr (A0 (qv 2) (A0 (qv 3) A3))))
   (AB rfl (Ar 5 GK.nd (ZBP (Va AW (CY KP Bs (A0 (qv 4) A3)) (Va AW P9 (Va AW P9 ZBC))) rfl rfl (by simp) (by decide)))
   (AB rfl (Ar 6 GK.nd (Gd A3))
   (AB rfl (Ar 7 GK.nd VB)
   (AB rfl (CO (JW Ih rfl (pU rfl Kx (A0 A4 (A0 (B2 (kf rfl) Ts (A0 A4 (A0 (B2 (uG rfl) TF (A0 (B2 Cu Ad (A0 (qv 0) A3)) (A0 A4 A3))) A3))) A3))) (CL 8 GK.nd) (AB rfl (Ar 2 GK.nd (AZ PQ hr (A0 (qv 0) (A0 (qv 8) A3))))
   (AD rfl (JW Ih rfl (fM rfl Kx (A0 (Ap D2 A4 (AZ BW hr (A0 (qv 2) (A0 (AH AL (BZ (A0 A4 (A0 A4 A3))) (CY QB Ge (A0 (Gh K4 (qv 3) A4) A3))) A3)))) A3)) (CL 9 GK.nd) (AB rfl (Ar 10 GK.nd (AZ Y9 hr (A0 (qv 2) (A0 (qv 5) (A0 (qv 3) A3)))))
   (AB rfl (CO (Ag (GO (AX K4 (qv 1) A4) (GP (AX BP (AZ BW hr (A0 (qv 2) (A0 (qv 1) A3))) A4))).pt (AD rfl GJ) Ah))
   (AB rfl (EL (JK MQ ZCG ZCJ gm (qv 6) (A0 (qv 10) A3)))
   (AD rfl (Ag (GO (FP (HQ (AZ VA hr (A0 (qv 5) (A0 (qv 10) A3))))) (GP (AX yB (qv 7) VB))).pt (AD rfl (Ar 7 GK.nd (Ap Nr (B2 Cu Ad (A0 (qv 6) A3)) A4))) Ah))))))))))
   (AD rfl (AY (BZ (A0 (qv 4) (A0 (qv 6) (A0 (qv 7) (A0 (qv 5) A3)))))))))))))),?_⟩
 refine Fz.HL h gD ?_
 rintro _ _ ⟨sc,rfl,Pp,rfl⟩
 show Ws [_,_,.any,.any,.any,.any,.any,.any,.any,.any,.any] _ _ _
 walk_at "ww"
 refine ⟨by decide,by decide,?_⟩
 walk_at "ww"
 refine ⟨by decide,_,.inr ⟨rfl,rfl,?_⟩⟩
 walk_at "ww"
 refine ⟨by decide,by decide,fun r r0 r1=>?_⟩
 walk_at "ww"
 obtain ⟨m,em,hm⟩:∃ m:Nat,L2.BX [PV.int 9,.int 40] (if alike (PV.int r) (.int 0)=true then 1 else 0)=some (.int m)/\(m=9∨m=40):=by
  split
  ·exact ⟨40,rfl,.inr rfl⟩
  ·exact ⟨9,rfl,.inl rfl⟩
 refine ⟨_,_,rfl,em,?_⟩
 walk_at "ww"
 refine ⟨by omega,by omega,fun ns hn1 hN nd=>?_⟩
 have hr:HY 40 ns:=⟨by omega,hN,nd⟩
 refine O6 4 rfl ?_
 show Ws [.raw (DW K sc),.is (.int 0),.AN,.is (.int m),.is (.lst (ns.map .str)),.any,.any,.any,.any,.any,.any] _ _ _
 refine Am (X9 (pE (by decide +kernel) (Ju (DJ (EJ (Nj rfl (Vz rfl (Ju (RO fun aL=>Ju (RO fun aS=>cD ⟨by simp,by simp,by simp,rfl,fun a=>?_⟩))))))))))
 show Ws [.raw (DW K sc),.is (.int 0),.AN,.is (.int m),.is (.lst (ns.map .str)),.ow false (BN (CK ns) a aL aS []),.any,.any,.any,.any,.any] _ _ _
 walk_at "ww"
 refine ⟨by decide,?_⟩
 walk_at "ww"
 refine Km (fun _ i AQ=>∃ s8:Slot,∃ (es:List LE) (s:Ls) (t:OV) (s2 s9 D5:Slot),AQ=[.raw (DW K sc),.is (.int 0),s2,.is (.int m),.is (.lst (ns.map .str)),.ow false t,.own (es.map LE.P),.is .AF,s8,s9,D5]/\D1 s a t/\runs (CK ns) es=some s/\(∀ e∈es,e.say)/\s.ln.length<=5/\s.row.length<=m/\es.length<=3 * i) ?_
 walk_at "ww"
 obtain ⟨n,en,hn7⟩:=oo (b:=7) (c:=36) (n:=sc.length) (by decide) (by decide) (by omega)
 rw [en]
 refine ⟨by omega,⟨_,[],CK ns,_,_,_,_,rfl,⟨aL,aS,[],R2.nil,rfl⟩,rfl,fun e h=>absurd h BH,Cc _,by show ns.length<=m;omega,Cc _⟩,?_,?_⟩
 ·rintro i p AQ hp ⟨s8,es,s,t,s2,s9,D5,rfl,hT,hR,hs,h5,MH,hl⟩
  obtain ⟨hi,rfl⟩:=mY hp
  refine OL ?_
  have ZCP:i < 36:=by omega
  walk_at "ww"
  refine ⟨by omega,by omega,?_⟩
  refine Km (fun _ j AQ=>∃ (es:List LE) (s:Ls) (t:OV) (s9 D5:Slot),AQ=[.raw (DW K sc),.is (.int 0),.AN,.is (.int m),.is (.lst (ns.map .str)),.ow false t,.own (es.map LE.P),.is .AF,.is (.int (1+(i:Int))),s9,D5]/\D1 s a t/\runs (CK ns) es=some s/\(∀ e∈es,e.say)/\s.ln.length<=5/\s.row.length<=m/\es.length<=3 * i+j) ?_
  walk_at "ww"
  refine ⟨by decide,_,.inr ⟨rfl,rfl,?_⟩⟩
  walk_at "ww"
  obtain ⟨q,eq,hq⟩:∃ q:Nat,L2.BX [PV.int 3,.int 1] (if decide ((9:Int) < m)=true then 1 else 0)=some (.int q)/\(q=3∨q=1):=by
   split
   ·exact ⟨1,rfl,.inr rfl⟩
   ·exact ⟨3,rfl,.inl rfl⟩
  refine ⟨_,_,rfl,eq,_,rfl,by omega,by omega,fun w w0 w1=>?_⟩
  obtain ⟨w,rfl⟩:=EO w0
  refine ⟨_,rfl,_,rfl,by omega,by omega,⟨es,s,t,s9,D5,rfl,hT,hR,hs,h5,MH,hl⟩,?_,?_⟩
  ·rintro j p AQ hp ⟨es,s,t,s9,D5,rfl,hT,hR,hs,h5,MH,hl⟩
   obtain ⟨hj,rfl⟩:=ZBB hp
   refine OL ?_
   obtain ⟨aL,aS,us,BC,rfl⟩:=id hT
   have ok:=Qx (NW hr) hR
   have sl:=SG hR
   have rK:(CK ns).sn.length=0:=rfl
   have hj3:j < 3:=by omega
   show Ws [.raw (DW K sc),.is (.int 0),.AN,.is (.int m),.is (.lst (ns.map .str)),.ow false (BN s a aL aS us),.own (es.map LE.P),.is .AF,.is (.int (1+(i:Int))),.is (.int j),D5] _ _ _
   refine Am (G2 (uj 5 rfl (ai rfl (FV (AO rfl (FV (AO rfl (IS ⟨_,⟨s,m,congrArg (fun p=>[Slot.AN,.is p,.is (.int m)]) (aW BC),ok,h5,by omega,MH,hm,rfl⟩,?_⟩))))))))
   rintro _ ⟨e,s',rfl,g,se,vp,Mu⟩
   refine ⟨wy e,?_⟩
   show Ws [.raw (DW K sc),.is (.int 0),.AN,.is (.int m),.is (.lst (ns.map .str)),.ow false (BN s a aL aS us),.own (es.map LE.P),.is .AF,.is (.int (1+(i:Int))),.is (.int j),.is e.P] _ _ _
   walk_at "ww"
   refine Cv (Cv (B7 ?_))
   walk_at "ww"
   refine ⟨by rw [AV];omega,?_⟩
   refine cU (i:=5) (oG (Yh (gU (MV rfl (N9 rfl (DU (AO rfl (FU ⟨_,⟨s,a,_,e,rfl,hT,ok,se,by omega,rfl⟩,?_⟩))))))))
   rintro _ t2 (⟨s2,g2,rfl,CM⟩ | ⟨g2,_,_⟩)
   ·rw [g] at g2;cases g2
    obtain ⟨nk,Hm,rfl⟩:=CM.nd
    refine ⟨nk,Hm,rfl,true,rfl,rfl,Cv (B7 ⟨es++[e],s',_,.is (.int j),.is e.P,?_,CM,?_,?_,vp,Mu,?_⟩)⟩
    ·rw [E9];rfl
    ·rw [V6 hR,g]
    ·intro e' sM
     rcases List.mem_append.mp sM with z | z
     ·exact hs e' z
     ·rw [List.mem_singleton.mp z];exact se
    ·rw [Bm,OW];omega
   ·rw [g] at g2;cases g2
  ·rintro AQ ⟨es,s,t,s9,D5,rfl,hT,hR,hs,h5,MH,hl⟩
   rw [Mx,show ((1:Int)+(w:Nat)).toNat=1+w by omega] at hl
   exact ⟨_,es,s,t,_,_,_,rfl,hT,hR,hs,h5,MH,by omega⟩
 ·rintro AQ ⟨s8,es,s,t,s2,s9,D5,rfl,⟨aL,aS,us,BC,rfl⟩,hR,hs,h5,MH,hl⟩
  rw [O5] at hl
  refine y4 5 rfl ?_
  refine O6 6 rfl ?_
  rw [aW BC]
  walk_at "ww"
  exact ⟨by show 4<=100000;decide,ns,es,s,rfl,hr,hs,by omega,hR⟩
theorem vm:Au ["self", "loop"] ["self", "loop"] (Ae Tc):=⟨rfl,rfl,rfl,by decide +kernel,rfl,by decide +kernel,by decide +kernel⟩
theorem gC {A7:Addr}:∀ ss R,(Kl A7) ss R->ss.length=2:=by rintro _ _ ⟨s,xs,x,rfl,_,rfl⟩;rfl
theorem vb {A7:Addr}(F:AK K "coming" "Course.coming" Tc f fd) (mt:Meth K A7 "coming" f) (B0:Bf K A7) (CV:BK K A7 "running") :
  DB P w K mg base A7 "coming" 2 ["self", "loop"] (Bp (Kl A7)):=by
 refine ⟨f,fd,F.Az (k:=1) vm (fun vs H Q E h=>Fz.He gC h) (fun Aa A outer s H vs Q E hr h=>?_),(F.binds (by walk_at "bD2")),mt,B0⟩
 refine ⟨_,(AB rfl (Ag (Mn (Ax hr) (qv 1) (CT (qv 0))) (AD rfl (AY (BZ A3))) Ah)
   (AD rfl (AY (AH AL (BO (Ax hr) (CT (qv 0)) (qv 1) (fun _ _=>rfl)) A4)))),?_⟩
 refine Fz.HL h gC ?_
 rintro _ _ ⟨s,xs,x,rfl,hl,rfl⟩
 show Ws [_,_] _ _ _
 refine Am (CH (EV (jY (AO rfl (Jz (AO rfl ⟨A7,Fp,_,1,_,rfl,B0,CV,by decide +kernel,rfl,Ab s.ln,_,.inr x,rfl,rfl,_,rfl,?_⟩))))))
 rw [HM]
 refine Af (fun c=>?_) (fun c=>B7 ?_)
 ·refine FK (M8 (IM ⟨by simp,?_⟩))
  have nx:x∉s.ln:=fun z=>by rw [decide_eq_true z] at c;cases c
  unfold BR
  rw [Rn nx,hl,JZ (An _)]
  rfl
 ·have hx:x∈s.ln:=Ic fun z=>c (by rw [decide_eq_false z];rfl)
  have hi:=List.idxOf_lt_length_iff.mpr hx
  obtain ⟨l,el⟩:∃ l,s.ll[s.ln.idxOf x]?=some l:=⟨_,B1 (by omega)⟩
  refine FK (EH (BD (FO (Jz (AO rfl ⟨A7,Fp,_,1,_,rfl,B0,CV,by decide +kernel,rfl,Ab s.ln,_,rfl,AO rfl ⟨.inr x,l.P,rfl,LF hx (by rw [BF,el];rfl),_,.inr ⟨rfl,rfl,Bg ⟨_,_,rfl,rfl,?_⟩⟩⟩⟩)))))
  unfold BR
  rw [el]
theorem gI:Au ["self", "loop", "tally"] ["self", "loop"] (Ae Xb):=⟨rfl,rfl,rfl,by decide +kernel,rfl,by decide +kernel,by decide +kernel⟩
theorem Yu {A7:Addr}{AG:Addr}:∀ ss R,(X0 A7 AG) ss R->ss.length=2:=by rintro _ _ ⟨s,xs,x,q,rfl,_,_,_,rfl⟩;rfl
theorem mW {A7:Addr}{AG:Addr}(F:AK K "tally_of" "Course.tally_of" Xb f fd) (mt:Meth K A7 "tally_of" f) (Eo:DB P w K mg base A7 "coming" 2 ["self", "loop"] (Bp (Kl A7))) (Ad:mg "len" = none) (B0:Bf K A7) (DH:Bf K AG) (DZ:BK K A7 "tallies") (IP:BK K AG "joined") (M7:BK K AG "stood") (IY:BK K AG "taken") (Hn:BK K AG "told") :
  DB P w K mg base A7 "tally_of" 3 ["self", "loop"] (Bp (X0 A7 AG)):=by
 refine ⟨f,fd,F.Az (k:=2) gI (fun vs H Q E h=>Fz.He Yu h) (fun Aa A outer s H vs Q E hr h=>?_),(F.binds (by walk_at "bD2")),mt,B0⟩
 refine ⟨_,(AB rfl (Ar 2 gI.nd (BO (Ax hr) (CT (qv 0)) (qv 1) (fun _ _=>rfl)))
   (AD rfl (AY (BZ (A0 (CT (qv 2)) (A0 (CT (qv 2)) (A0 (CT (qv 2)) (A0 (CT (qv 2)) (A0 (B2 Cu Ad (A0 (FR Eo hr (by decide) (qv 0) (A0 (qv 1) A3)) A3)) A3))))))))),?_⟩
 refine Fz.HL h Yu ?_
 rintro _ _ ⟨s,xs,x,q,rfl,hl,hx,hq,rfl⟩
 show Ws [_,_,.any] _ _ _
 refine Am (G2 (FO (Jz (AO rfl ⟨A7,Fp,_,2,_,rfl,B0,DZ,by decide +kernel,rfl,Ab s.sn,_,rfl,AO rfl ⟨.inr x,_,rfl,LF hx hq,?_⟩⟩))))
 refine FK (M8 (Fh (Jz (AO rfl ⟨AG,_,_,0,_,rfl,DH,M7,by decide +kernel,rfl,?_⟩))))
 refine Fh (Jz (AO rfl ⟨AG,_,_,1,_,rfl,DH,IP,by decide +kernel,rfl,?_⟩))
 refine Fh (Jz (AO rfl ⟨AG,_,_,2,_,rfl,DH,Hn,by decide +kernel,rfl,?_⟩))
 refine Fh (Jz (AO rfl ⟨AG,_,_,3,_,rfl,DH,IY,by decide +kernel,rfl,?_⟩))
 refine Fh (CU (BD (sW (ns:=Fp) (xs:=[]) (AO rfl ⟨Fp,_,rfl,by decide +kernel,FV (AO rfl (IS ⟨_,⟨s,xs,x,rfl,hl,rfl⟩,?_⟩))⟩))))
 rintro _ rfl
 refine ⟨_,.inr ⟨rfl,IM ⟨by simp,?_⟩⟩⟩
 rw [AV];rfl
theorem lg:Au ["self", "row"] ["self", "row"] (Ae U9):=⟨rfl,rfl,rfl,by decide +kernel,rfl,by decide +kernel,by decide +kernel⟩
theorem eQ {A7:Addr}{AG:Addr}:∀ ss R,(Sz A7 AG) ss R->ss.length=2:=by rintro _ _ ⟨a,dx,tp,ns,rfl,rfl⟩;rfl
theorem wC {A7:Addr}{AG:Addr}(F:AK K "__init__" "Course.__init__" U9 f fd) (mt:Mk K A7 f) (Bs:mg "list" = none) (B0:Bf K A7) (CV:BK K A7 "running") (Df:BK K A7 "standing") (DZ:BK K A7 "tallies") :
  Mz P w K mg base A7 2 ["self", "row"] (Be (Sz A7 AG)):=by
 refine ⟨f,fd,F.Az (k:=1) lg (fun vs H Q E h=>Fz.G7 eQ h) (fun Aa A outer s H vs Q E hr h=>?_),(F.binds (by walk_at "bD2")),mt⟩
 refine ⟨_,(AB rfl (JC (qv 0) (CY KP Bs (A0 (qv 1) A3)))
   (AB rfl (JC (qv 0) P9)
   (AD rfl (JC (qv 0) P9)))),?_⟩
 refine Fz.Oj h eQ ?_
 rintro _ _ ⟨a,dx,tp,ns,rfl,rfl⟩
 show Ws [_,_] _ _ _
 cases tp
 case' false=>refine Am (Hv (i:=0) (DJ (EJ (Nj rfl (BD (AO rfl ⟨_,.inl ⟨rfl,C2 rfl ⟨true,A7,dx,_,a,_,rfl,rfl,B0,Df,by decide,BH,?_⟩⟩⟩))))))
 case' true=>refine Am (Hv (i:=0) (DJ (EJ (Nj rfl (BD (AO rfl ⟨_,.inr ⟨rfl,C2 rfl ⟨true,A7,dx,_,a,_,rfl,rfl,B0,Df,by decide,BH,?_⟩⟩⟩))))))
 all_goals
  rw [OV.FG]
  show Ws [.ow true (.nd (.obj A7 dx ["standing"]) a [.fz (.lst (ns.map .str))]),_] _ _ _
  refine Am (Hv (i:=0) (RO fun b2=>C2 rfl ⟨true,A7,dx,_,a,_,rfl,rfl,B0,CV,by decide,BH,?_⟩))
  rw [OV.FG]
  show Ws [.ow true (.nd (.obj A7 dx ["standing", "running"]) a [.fz (.lst (ns.map .str)),.nd (.Ao []) b2 []]),_] _ _ _
  refine Hv (i:=0) (RO fun b3=>C2 rfl ⟨true,A7,dx,_,a,_,rfl,rfl,B0,DZ,by decide,BH,?_⟩)
  rw [OV.FG]
  exact ⟨_,_,_,_,rfl,rfl,rfl,b2,b3,rfl⟩
theorem qr:Au ["self", "stood"] ["self", "stood"] (Ae SX):=⟨rfl,rfl,rfl,by decide +kernel,rfl,by decide +kernel,by decide +kernel⟩
theorem eW {AG:Addr}:∀ ss R,(Vn AG) ss R->ss.length=2:=by rintro _ _ ⟨a,dx,n,rfl,rfl⟩;rfl
theorem vI {AG:Addr}(F:AK K "__init__" "Tally.__init__" SX f fd) (mt:Mk K AG f) (DH:Bf K AG) (IP:BK K AG "joined") (M7:BK K AG "stood") (IY:BK K AG "taken") (Hn:BK K AG "told") :
  Mz P w K mg base AG 1 ["self", "stood"] (Be (Vn AG)):=by
 refine ⟨f,fd,F.Az (k:=0) qr (fun vs H Q E h=>Fz.G7 eW h) (fun Aa A outer s H vs Q E hr h=>?_),(F.binds (by walk_at "bD2")),mt⟩
 refine ⟨_,(AB rfl (JC (qv 0) (qv 1))
   (AB rfl (JC (qv 0) A4)
   (AB rfl (JC (qv 0) A4)
   (AD rfl (JC (qv 0) A4))))),?_⟩
 refine Fz.Oj h eW ?_
 rintro _ _ ⟨a,dx,n,rfl,rfl⟩
 show Ws [_,_] _ _ _
 refine Am (Hv (i:=0) (DJ (AO rfl (C2 rfl ⟨true,AG,dx,_,a,_,rfl,rfl,DH,M7,by decide,BH,?_⟩))))
 rw [OV.FG]
 show Ws [.ow true (.nd (.obj AG dx ["stood"]) a [.fz (.int n)]),.is (.int n)] _ _ _
 refine Am (Hv (i:=0) (DJ (Bg (C2 rfl ⟨true,AG,dx,_,a,_,rfl,rfl,DH,IP,by decide,BH,?_⟩))))
 rw [OV.FG]
 show Ws [.ow true (.nd (.obj AG dx ["stood", "joined"]) a [.fz (.int n),.fz (.int 0)]),.is (.int n)] _ _ _
 refine Am (Hv (i:=0) (DJ (Bg (C2 rfl ⟨true,AG,dx,_,a,_,rfl,rfl,DH,Hn,by decide,BH,?_⟩))))
 rw [OV.FG]
 show Ws [.ow true (.nd (.obj AG dx ["stood", "joined", "told"]) a [.fz (.int n),.fz (.int 0),.fz (.int 0)]),.is (.int n)] _ _ _
 refine Hv (i:=0) (DJ (Bg (C2 rfl ⟨true,AG,dx,_,a,_,rfl,rfl,DH,IY,by decide,BH,?_⟩)))
 rw [OV.FG]
 exact ⟨_,_,_,_,rfl,rfl,rfl,rfl⟩
theorem rq:Au ["rule"] ["rule"] (Ae Xy):=⟨rfl,rfl,rfl,by decide +kernel,rfl,by decide +kernel,by decide +kernel⟩
theorem uu {FT:Addr}(F:AK K "check_rule" "check_rule" Xy f fd) (m:mg "check_rule" = some (.ref f)) (MF:mg "RULES" = some (.ref FT)) (ME:∀ H,A9 K H FT [.str "none", .str "ahead", .str "all"]) :
  AA P w K mg base "check_rule" 1 ["rule"] (bE):=by
 refine AA.mk F (F.binds (by walk_at "bD1")) m (F.Az (k:=0) rq (fun vs H Q E h=>?_) (fun Aa A outer s H vs Q E hr h=>?_))
 ·obtain ⟨r,rfl,Nh,q⟩:=h;rfl
 obtain ⟨r,rfl,Nh,q⟩:=h
 refine ⟨_,(AD rfl (Ag (AX K5 (qv 0) (N0 (v:=.ref FT) (by rfl) MF rfl)) (AD rfl GJ) Ah)),?_⟩
 refine ⟨_,rfl,FT,_,rfl,.inr (ME H),rfl,rfl,_,rfl,?_⟩
 have er:Dv (.str r) (EX.map V.str)=decide (r∈EX):=KD r EX
 show if (!Dv (.str r) (EX.map V.str))=true then _ else _
 rw [er,decide_eq_true Nh]
 exact Cv q
theorem uW:Au ["row", "rule"] ["row", "rule"] (Ae Ux):=⟨rfl,rfl,rfl,by decide +kernel,rfl,by decide +kernel,by decide +kernel⟩
theorem ur (F:AK K "begun" "begun" Ux f fd) (m:mg "begun" = some (.ref f)) (TL:AA P w K mg base "check_rule" 1 ["rule"] (bE)) (Eb:mg "sorted" = none) (CA:mg "tuple" = none) :
  AA P w K mg base "begun" 2 ["row", "rule"] (W7 K):=by
 refine AA.mk F (F.binds (by walk_at "bD2")) m (F.Az (k:=1) uW (fun vs H Q E h=>?_) (fun Aa A outer s H vs Q E hr h=>?_))
 ·obtain ⟨a,tp,ns,r,rfl,hS,Nh,hz,q⟩:=h;rfl
 obtain ⟨a,tp,ns,r,rfl,hS,Nh,hz,q⟩:=h
 refine ⟨_,(AB rfl (EL (AZ TL hr (A0 (qv 1) A3)))
   (AD rfl (AY (BZ (A0 (qv 1) (A0 A4 (A0 (CY HJ CA (A0 (B2 Oh Eb (A0 (qv 0) A3)) A3)) A3))))))),?_⟩
 refine ⟨_,rfl,r,rfl,Nh,?_⟩
 refine ⟨_,rfl,_,rfl,a,tp,ns,rfl,hS,hz,fun l ts hl hp hs=>?_⟩
 have n1:=Ac hl (.lst (ts.map V.str))
 refine ⟨l,_,rfl,.inl ⟨AE.of AI,fun c hc=>?_⟩⟩
 have n2:=Ac hc (.tup (ts.map V.str))
 refine ⟨(by show 3<=sizeLine;decide),fun t ht=>?_⟩
 have n3:=Ac ht (.tup [.str r,.int 0,.ref c])
 exact q t c _ ts (A8.none (n1.trans n2) ht) (A8.none n1 hc) (n1.trans (n2.trans n3)) hp hs ⟨AI,n3 _ _ AI⟩
theorem ZB1:Au ["text"] ["text"] (Ae Oq):=⟨rfl,rfl,rfl,by decide +kernel,rfl,by decide +kernel,by decide +kernel⟩
noncomputable def yw:Scope:={ kind:=.function,names:=[(".0", .local),("sign", .local),("LETTERS", .globalImplicit)],isGenerator:=false,isCoroutine:=false,more:=[] }
theorem pe:Dd ["text"] (Ae Oq) yw "sign" [] []:=⟨rfl,by decide +kernel,by decide +kernel,rfl,rfl,by decide +kernel,by decide +kernel,by decide +kernel,by decide +kernel⟩
theorem kj {SH:Tok}{T8:Tok}(F:AK K "is_name" "is_name" Oq f fd) (m:mg "is_name" = some (.ref f)) (IF:mg "all" = none) (Ad:mg "len" = none) (To:mg "LETTERS" = some (.str "abcdefghijklmnopqrstuvwxyz" SH)) (Ta:mg "MOST_LETTERS" = some (.int 8 T8)) :
  AA P w K mg base "is_name" 1 ["text"] (Ke):=by
 refine AA.mk F (F.binds (by walk_at "bD1")) m (F.Az (k:=0) ZB1 (fun vs H Q E h=>?_) (fun Aa A outer s H vs Q E hr h=>?_))
 ·obtain ⟨x,rfl,hx,q⟩:=h;rfl
 obtain ⟨x,rfl,hx,q⟩:=h
 refine ⟨_,(AD rfl (AY (Nc (LW Di Di A4 (B2 Y3 Ad (A0 (qv 0) A3)) (N0 (v:=.int 8) (by rfl) Ta ⟨_,rfl⟩)) (Ko (B2 (WG rfl) IF (A0 (IV rfl pe (fg (qv 0)) (fun _ _ _ _=>by exact Wv) (fun _ _ _ _=>by exact (Gh Zv (qv 0) (N0 (v:=.str "abcdefghijklmnopqrstuvwxyz") (by rfl) To ⟨_,rfl⟩)))) A3)))))),?_⟩
 refine ⟨_,rfl,_,rfl,small (by omega),_,_,rfl,rfl,_,rfl,?_⟩
 refine Af (fun c=>?_) (fun c=>⟨_,rfl,Cv ?_⟩)
 ·refine ⟨_,_,rfl,rfl,_,rfl,?_⟩
  refine Af (fun c2=>?_) (fun c2=>?_)
  ·refine ⟨_,rfl,x,rfl,fun acc B9=>iE (fun _=>true) Ww B9 (by rw [<- Cj,<- Gm];exact small (by omega)) (fun i v H' Q' _ _ h=>h H' (A8.refl _)) (fun i v H' Q' hv _ _ h=>?_) (fun H' s1 e1=>?_)⟩
   ·obtain ⟨cc,rfl⟩:=signs_get hv
    exact ⟨_,rfl,_,_,rfl,rfl,h H' (A8.refl _)⟩
   ·rw [bG] at e1
    refine ⟨acc,_,rfl,AE.of e1,?_⟩
    rw [all_map]
    have e:isNm x=x.cps.toList.all Kf:=by unfold isNm;rw [c,c2];rfl
    rw [<- e];exact q H' s1
  ·have e:isNm x=false:=by unfold isNm;rw [Bool.eq_false_iff.mpr c2];simp
   rw [<- e];exact q H (A8.refl _)
 ·have e:isNm x=false:=by unfold isNm;rw [Bool.eq_false_iff.mpr c];simp
  rw [<- e];exact q H (A8.refl _)
theorem zH:Au ["self", "loop", "rule"] ["self", "loop", "rule"] (Ae W8):=⟨rfl,rfl,rfl,by decide +kernel,rfl,by decide +kernel,by decide +kernel⟩
theorem gn {A7:Addr}{AG:Addr}:∀ ss R,(VF A7 AG) ss R->ss.length=3:=by rintro _ _ ⟨s,a,t,x,r,rfl,_,_,_,_,_,rfl⟩;rfl
theorem xY {FT:Addr}{A7:Addr}{AG:Addr}(F:AK K "follows_begin" "Course.follows_begin" W8 f fd) (mt:Meth K A7 "follows_begin" f) (WR:Mz P w K mg base AG 1 ["self", "stood"] (Be (Vn AG))) (Vt:AA P w K mg base "begun" 2 ["row", "rule"] (W7 K)) (Ly:AA P w K mg base "is_name" 1 ["text"] (Ke)) (Ad:mg "len" = none) (MF:mg "RULES" = some (.ref FT)) (ME:∀ H,A9 K H FT [.str "none", .str "ahead", .str "all"]) (WL:mg "Tally" = some (.ref AG)) (B0:Bf K A7) (CV:BK K A7 "running") (Df:BK K A7 "standing") (DZ:BK K A7 "tallies") :
  DB P w K mg base A7 "follows_begin" 6 ["self", "loop", "rule"] (Be (VF A7 AG)):=by
 refine ⟨f,fd,F.Az (k:=5) zH (fun vs H Q E h=>Fz.G7 gn h) (fun Aa A outer s H vs Q E hr h=>?_),(F.binds (by walk_at "bD3")),mt,B0⟩
 refine ⟨_,(AB rfl (Ag (Ee (FP (HQ (AZ Ly hr (A0 (qv 1) A3)))) (Ee (XY (Ax hr) (qv 1) (CT (qv 0))) (Gu (AX K5 (qv 2) (N0 (v:=.ref FT) (by rfl) MF rfl))))).pt (AD rfl (AY D9)) Ah)
   (AB rfl (IZ (Ax hr) (CT (qv 0)) (qv 1) (AZ Vt hr (A0 (CT (qv 0)) (A0 (qv 2) A3))))
   (AB rfl (IZ (Ax hr) (CT (qv 0)) (qv 1) (gk WR hr (by decide) WL (A0 (B2 Cu Ad (A0 (CT (qv 0)) A3)) A3)))
   (AD rfl (AY D9))))),?_⟩
 refine Fz.JG h gn ?_
 rintro _ _ ⟨s,a,t,x,r,rfl,hT,ok,hx,hr,hn,rfl⟩
 obtain ⟨dx,aL,aS,us,BC,rfl⟩:=hT
 have C:ML K FT ([("none" : Str), "ahead", "all"].map .str):=ML.of ME rfl rfl
 show Ws [_,_,_] _ _ _
 have no:∀ nx:List Slot->Prop,¬ (isNm x=true/\x∉s.sn/\NB r=true)->Ws [.ow true (BV s A7 a dx aL aS us),.is (.str x),.is (.str r)] (Fn (tC (V.bl false))) nx (.mt (ET (fun s t=>Cf s A7 AG a t) s (E6 s x r))):=fun nx h=>Dh (i:=0) rfl (Cg (.inr ⟨by unfold E6;rw [if_neg h],rfl,dx,aL,aS,us,BC,rfl⟩))
 refine Am (CH (Gn (KR (EV (VQ (AO rfl ⟨x,rfl,hx.2,_,rfl,?_⟩))))))
 refine Af (fun c=>no _ fun z=>by rw [z.1] at c;cases c) (fun c=>?_)
 refine Gn (EV (dI (AO rfl (O3 rfl B0 DZ ⟨Ab s.sn,aS,us,.inr x,rfl,rfl,_,rfl,?_⟩))))
 rw [HM]
 refine Af (fun c2=>no _ fun z=>z.2.1 (of_decide_eq_true c2)) (fun c2=>?_)
 refine DT (rE (neg:=true) C (AO rfl ⟨r,rfl,_,rfl,?_⟩))
 refine Af (fun c3=>no _ fun z=>?_) (fun c3=>B7 ?_)
 ·have h3:decide (r∈([("none" : Str), "ahead", "all"]))=true:=z.2.2
  rw [h3] at c3;cases c3
 have h1:isNm x=true:=by cases e:isNm x with
  | true=>rfl
  | false=>exact absurd (by rw [e];rfl) c
 have h2:x∉s.sn:=fun z=>c2 (decide_eq_true z)
 have h3:NB r=true:=by
  show decide (r∈([("none" : Str), "ahead", "all"]))=true
  cases e:decide (r∈([("none" : Str), "ahead", "all"])) with
  | true=>rfl
  | false=>exact absurd (by rw [e];rfl) c3
 have h4:x∉s.ln:=fun z=>h2 (ok.sub x z)
 refine Am (IJ (i:=0) (t:=BV s A7 a dx aL aS us) (DJ (lQ (BD (Cp (Nl rfl B0 Df ⟨_,rfl,_,.inl ⟨rfl,s.row,rfl,AO rfl ⟨r,rfl,of_decide_eq_true h3,by have:=ok.row.len;omega,fun ts pm st=>?_⟩⟩⟩))))))
 rw [ZZ ok.row.nd pm st]
 have l1:=ok.l1
 have l2:=ok.l2
 have l3:=IC ok.n1 ok.sub
 refine (JU rfl B0 CV ⟨true,aL,Ab s.ln,_,rfl,rfl,by unfold Bv;rw [AV];omega,HX ok.n1,BH,AO rfl ⟨.inr x,rfl,?_⟩⟩)
 rw [MS h4,Pu h4]
 unfold BV
 rw [show ([]++[1]:List Nat)=[1] from rfl,JP]
 have e1:Bv s.ll++[.fz (D8 r 0 (DA s.row))]=Bv (s.ll++[⟨r,0,DA s.row⟩]):=by unfold Bv;rw [E9];rfl
 rw [e1]
 show Ws [.ow true (BV ⟨s.row,s.ln++[x],s.ll++[⟨r,0,DA s.row⟩],s.sn,s.sq⟩ A7 a dx aL aS us),.is (.str x),.is (.str r)] _ _ _
 refine Am (IJ (i:=0) (t:=BV ⟨s.row,s.ln++[x],s.ll++[⟨r,0,DA s.row⟩],s.sn,s.sq⟩ A7 a dx aL aS us) (fN (DU (CU (BD (Cp (Nl rfl B0 Df ⟨_,rfl,_,.inl ⟨rfl,FU fun b e=>⟨_,⟨b,e,s.row.length,by rw [AV],rfl⟩,?_⟩⟩⟩)))))))
 rintro _ _ ⟨rfl,rfl⟩
 refine ⟨rfl,_,_,rfl,?_⟩
 refine (O3 rfl B0 DZ ⟨true,aS,Ab s.sn,us,rfl,rfl,by rw [BC.1];omega,HX ok.n2,BH,AO rfl ⟨.inr x,rfl,?_⟩⟩)
 rw [MS h2,Pu h2]
 unfold BV
 rw [show ([]++[2]:List Nat)=[2] from rfl,put2]
 exact Dh (i:=0) rfl (Cg (.inl ⟨_,by unfold E6;rw [if_pos ⟨h1,h2,h3⟩],rfl,dx,aL,aS,_,BC.snoc ⟨e,b,rfl⟩,rfl⟩))
theorem kL:Au ["coming", "gone"] ["coming", "gone"] (Ae Qp):=⟨rfl,rfl,rfl,by decide +kernel,rfl,by decide +kernel,by decide +kernel⟩
noncomputable def zv:Scope:={ kind:=.function,names:=[(".0", .local),("name", .local),("gone", .free)],isGenerator:=false,isCoroutine:=false,more:=[] }
theorem ZA0:Dd ["coming", "gone"] (Ae Qp) zv "name" ["gone"] [1]:=⟨rfl,by decide +kernel,by decide +kernel,rfl,rfl,by decide +kernel,by decide +kernel,by decide +kernel,by decide +kernel⟩
theorem rF (F:AK K "coming_without" "coming_without" Qp f fd) (m:mg "coming_without" = some (.ref f)) (CA:mg "tuple" = none) :
  AA P w K mg base "coming_without" 1 ["coming", "gone"] (Vr K):=by
 refine AA.mk F (F.binds (by walk_at "bD2")) m (F.Az (k:=0) kL (fun vs H Q E h=>?_) (fun Aa A outer s H vs Q E hr h=>?_))
 ·obtain ⟨c,ss,x,rfl,hC,hz,q⟩:=h;rfl
 obtain ⟨c,ss,x,rfl,hC,hz,q⟩:=h
 refine ⟨_,(AD rfl (AY (CY HJ CA (A0 (IV rfl ZA0 (Gi (qv 0)) (fun _ _ _ _=>by exact (KW (AX J5 (qv 1) (qv 0)))) (fun _ _ _ _=>by exact (qv 1))) A3)))),?_⟩
 have hl:=Dk ss
 have KC:CS K true H c (ss.map V.str):=hC
 refine ⟨_,rfl,true,c,_,rfl,KC,fun acc B9=>Lh (HU (.str x)) (fun v=>v) KC B9 (by rw [hl];exact small (by omega)) (fun i v H' Q' hv s1 h=>?_) (fun i v H' Q' hv _ s1 h=>?_) (fun H' s1 e1=>?_)⟩
 ·obtain ⟨y,rfl,_⟩:=MD hv
  exact ⟨_,rfl,_,rfl,rfl,_,rfl,h _ (A8.refl _)⟩
 ·exact ⟨_,rfl,h _ (A8.refl _)⟩
 ·rw [Nx] at e1
  refine ⟨acc,_,rfl,.inl ⟨AE.of e1,fun t ht=>?_⟩⟩
  exact q t _ (A8.none s1 ht) (s1.trans (Ac ht _)) AI
theorem rJ:Au ["row", "name"] ["row", "name"] (Ae XQ):=⟨rfl,rfl,rfl,by decide +kernel,rfl,by decide +kernel,by decide +kernel⟩
theorem oV (F:AK K "place_of" "place_of" XQ f fd) (m:mg "place_of" = some (.ref f))  :
  AA P w K mg base "place_of" 1 ["row", "name"] (Lb):=by
 refine AA.mk F (F.binds (by walk_at "bD2")) m (F.Az (k:=0) rJ (fun vs H Q E h=>?_) (fun Aa A outer s H vs Q E hr h=>?_))
 ·obtain ⟨a,tp,ns,x,rfl,hS,hx,q⟩:=h;rfl
 obtain ⟨a,tp,ns,x,rfl,hS,hx,q⟩:=h
 refine ⟨_,(AB rfl (Ag (AX K5 (qv 1) (qv 0)) (AD rfl GJ) Ah)
   (AD rfl (AY (k6 (JK MQ S8 Yb QR (qv 0) (A0 (qv 1) A3)) (JK PySem.F.plainAttrs_tuple ZCI PySem.F.type_tuple_index vN (qv 0) (A0 (qv 1) A3)))))),?_⟩
 refine ⟨_,rfl,_,rfl,a,_,rfl,(BI.sq (K:=K) hS).or,rfl,Fo ns,_,rfl,?_⟩
 refine B8 (by show ¬ (!Dv (V.str x) (ns.map V.str))=true;rw [KD,decide_eq_true hx];decide) ?_
 cases tp with
 | false=>exact .inl ⟨_,rfl,.inl ⟨rfl,_,AE.of hS⟩,_,rfl,a,ns,x,rfl,rfl,AE.of hS,hx,q⟩
 | true=>exact .inr ⟨_,rfl,.inr (.inr (.inr (.inr ⟨rfl,_,hS⟩))),_,rfl,a,ns,x,rfl,rfl,A9.of hS,hx,q⟩
theorem xO:Au ["row", "loop", "name"] ["row", "loop", "name"] (Ae U5):=⟨rfl,rfl,rfl,by decide +kernel,rfl,by decide +kernel,by decide +kernel⟩
theorem oS (F:AK K "loop_telling" "loop_telling" U5 f fd) (m:mg "loop_telling" = some (.ref f)) (LX:AA P w K mg base "coming_without" 1 ["coming", "gone"] (Vr K)) (Fd:AA P w K mg base "place_of" 1 ["row", "name"] (Lb)) :
  AA P w K mg base "loop_telling" 2 ["row", "loop", "name"] (V0 K):=by
 refine AA.mk F (F.binds (by walk_at "bD3")) m (F.Az (k:=1) xO (fun vs H Q E h=>?_) (fun Aa A outer s H vs Q E hr h=>?_))
 ·obtain ⟨a,tp,ns,t,r,g,ss,x,rfl,hS,hL,GC,hx,q⟩:=h;rfl
 obtain ⟨a,tp,ns,t,r,g,ss,x,rfl,hS,hL,GC,hx,q⟩:=h
 refine ⟨_,(AD rfl (AY (BZ (A0 (AH AL (qv 1) A4) (A0 (Ap D2 (AZ Fd hr (A0 (qv 0) (A0 (qv 2) A3))) A4) (A0 (AZ LX hr (A0 (AH AL (qv 1) A4) (A0 (qv 2) A3))) A3)))))),?_⟩
 obtain ⟨c,Ey,KC⟩:=id hL
 have hT:A9 K H t _:=A9.of Ey
 have hC:A9 K H c _:=A9.of KC
 refine ⟨_,rfl,t,_,_,_,rfl,rfl,hT,rfl,_,rfl,_,rfl,a,tp,ns,x,rfl,hS,hx,_,_,rfl,rfl,?_⟩
 refine ⟨_,rfl,t,_,_,_,rfl,rfl,hT,rfl,_,rfl,c,ss,x,rfl,hC,by omega,fun c3 H3 j8 s3 e3=>?_⟩
 refine ⟨(by show 3<=sizeLine;decide),fun t4 J4=>?_⟩
 have n4:=Ac J4 (.tup [.str r,.int ((ns.idxOf x:Nat)+1),.ref c3])
 exact q t4 c3 _ (A8.none s3 J4) j8 (s3.trans n4) ⟨AI,n4 _ _ e3⟩
theorem fS:Au ["self", "loop", "name", "tally"] ["self", "loop", "name"] (Ae XT):=⟨rfl,rfl,rfl,by decide +kernel,rfl,by decide +kernel,by decide +kernel⟩
theorem b7 {A7:Addr}{AG:Addr}:∀ ss R,(Sw A7 AG) ss R->ss.length=3:=by rintro _ _ ⟨s,a,t,x,y,rfl,_,_,_,rfl⟩;rfl
theorem mf {A7:Addr}{AG:Addr}(F:AK K "follows_tell" "Course.follows_tell" XT f fd) (mt:Meth K A7 "follows_tell" f) (Eo:DB P w K mg base A7 "coming" 2 ["self", "loop"] (Bp (Kl A7))) (TM:AA P w K mg base "loop_telling" 2 ["row", "loop", "name"] (V0 K)) (B0:Bf K A7) (DH:Bf K AG) (CV:BK K A7 "running") (Df:BK K A7 "standing") (DZ:BK K A7 "tallies") (Hn:BK K AG "told") :
  DB P w K mg base A7 "follows_tell" 6 ["self", "loop", "name"] (Be (Sw A7 AG)):=by
 refine ⟨f,fd,F.Az (k:=5) fS (fun vs H Q E h=>Fz.G7 b7 h) (fun Aa A outer s H vs Q E hr h=>?_),(F.binds (by walk_at "bD3")),mt,B0⟩
 refine ⟨_,(AB rfl (Ag (AX K5 (qv 2) (FR Eo hr (by decide) (qv 0) (A0 (qv 1) A3))) (AD rfl (AY D9)) Ah)
   (AB rfl (IZ (Ax hr) (CT (qv 0)) (qv 1) (AZ TM hr (A0 (CT (qv 0)) (A0 (BO (Ax hr) (CT (qv 0)) (qv 1) (fun _ _=>rfl)) (A0 (qv 2) A3)))))
   (AB rfl (Ar 3 fS.nd (BO (Ax hr) (CT (qv 0)) (qv 1) (fun _ _=>rfl)))
   (AB rfl (UZ (qv 3) A4 XF)
   (AD rfl (AY D9)))))),?_⟩
 refine Fz.JG h b7 ?_
 rintro _ _ ⟨s,a,t,x,y,rfl,hT,ok,hn,rfl⟩
 obtain ⟨dx,aL,aS,us,BC,rfl⟩:=hT
 show Ws [_,_,_,.any] _ _ _
 have l1:=ok.l1
 have l2:=ok.l2
 have l3:=IC ok.n1 ok.sub
 have h40:(BR s x).length<=1000:=by
  unfold BR
  split
  ·next l e=>have:=(ok.good l (CG e)).len;have:=ok.row.len;omega
  ·exact Cc _
 refine Am (CH (DT (Wr (AO rfl ⟨y,rfl,(Ht rfl rfl l1 ⟨_,rfl,?_⟩)⟩))))
 refine ⟨_,rfl,?_⟩
 have no:y∉BR s x->DV s x y=none:=fun h=>by
  unfold DV
  unfold BR at h
  split
  ·next l e=>rw [e] at h;rw [if_neg h]
  ·rfl
 refine Af (fun c=>?_) (fun c=>B7 ?_)
 ·refine Dh (i:=0) rfl (Cg (.inr ⟨no (fun z=>(by rw [decide_eq_true z] at c;cases c)),rfl,dx,aL,aS,us,BC,rfl⟩))
 ·have hy:y∈BR s x:=Ic fun z=>c (by rw [decide_eq_false z];rfl)
  obtain ⟨l,el⟩:∃ l,s.ll[s.ln.idxOf x]?=some l:=by
   unfold BR at hy
   split at hy
   ·next l e=>exact ⟨l,e⟩
   ·cases hy
  have c1:BR s x=l.cs:=by unfold BR;rw [el]
  rw [c1] at hy
  have xm:x∈s.ln:=TB l1 el
  have xs:x∈s.sn:=ok.sub x xm
  have gl:=ok.good l (CG el)
  have yr:y∈s.row:=gl.sub y hy
  have Kw:=ok.row.len
  have fw:=gl.len
  refine Am (IJ (i:=0) (t:=BV s A7 a dx aL aS us) (DJ (wa (BD (Cp (Nl rfl B0 Df ⟨_,rfl,_,.inl ⟨rfl,s.row,rfl,?_⟩⟩))))))
  refine Cp (Fc (JU rfl B0 CV ⟨Ab s.ln,aL,_,rfl,AO rfl ⟨.inr x,s.ln.idxOf x,.fz l.P,rfl,FI xm,LU el,_,rfl,l.r,l.g,l.cs,rfl,AO rfl ⟨y,rfl,by omega,yr,?_⟩⟩⟩))
  refine (JU rfl B0 CV ⟨true,aL,Ab s.ln,_,rfl,rfl,by unfold Bv;rw [AV];omega,HX ok.n1,BH,AO rfl ⟨.inr x,rfl,?_⟩⟩)
  rw [RB xm,RK xm]
  unfold BV
  rw [show ([]++[1]:List Nat)=[1] from rfl,JP]
  have e2:(Bv s.ll).set (s.ln.idxOf x) (.fz (D8 l.r (s.row.idxOf y+1) (wo l.cs y)))=Bv (s.ll.set (s.ln.idxOf x) ⟨l.r,s.row.idxOf y+1,wo l.cs y⟩):=Q8 _ _ ⟨l.r,s.row.idxOf y+1,wo l.cs y⟩
  rw [e2]
  obtain ⟨q,eq⟩:∃ q,s.sq[s.sn.idxOf x]?=some q:=⟨_,B1 (by have:=List.idxOf_lt_length_iff.mpr xs;omega)⟩
  obtain ⟨u,hu,e,b,rfl⟩:=BC.get eq
  show Ws [.ow true (BV ⟨s.row,s.ln,s.ll.set (s.ln.idxOf x) ⟨l.r,s.row.idxOf y+1,wo l.cs y⟩,s.sn,s.sq⟩ A7 a dx aL aS us),.is (.str x),.is (.str y),.any] _ _ _
  refine Am (SV (i:=0) (Fc (O3 rfl B0 DZ ⟨Ab s.sn,aS,us,rfl,AO rfl ⟨.inr x,s.sn.idxOf x,_,rfl,FI xs,hu,_,b,_,rfl,?_⟩⟩)))
  show Ws [.ow true (BV ⟨s.row,s.ln,s.ll.set (s.ln.idxOf x) ⟨l.r,s.row.idxOf y+1,wo l.cs y⟩,s.sn,s.sq⟩ A7 a dx aL aS us),.is (.str x),.is (.str y),.raw (ptr b)] _ _ _
  refine Am (Vg (HZ (j:=3) (i:=0) (p:=[2,s.sn.idxOf x]) rfl rfl (Sa hu) ⟨true,AG,e,_,b,_,2,_,rfl,rfl,DH,Hn,by decide,by decide +kernel,rfl,Bg ⟨_,rfl,?_⟩⟩))
  unfold BV
  rw [Pt hu]
  refine Dh (i:=0) rfl (Cg (.inl ⟨⟨s.row,s.ln,s.ll.set (s.ln.idxOf x) ⟨l.r,s.row.idxOf y+1,wo l.cs y⟩,s.sn,s.sq.modify (s.sn.idxOf x) Sm.tell⟩,?_,rfl,dx,aL,aS,_,BC.set fun q' h'=>by rw [eq] at h';cases h';exact ⟨e,b,rfl⟩,rfl⟩))
  unfold DV
  rw [el]
  show (if y∈l.cs then _ else none)=_
  rw [if_pos hy]
theorem ZAw:Au ["self", "loop"] ["self", "loop"] (Ae U2):=⟨rfl,rfl,rfl,by decide +kernel,rfl,by decide +kernel,by decide +kernel⟩
theorem fo {A7:Addr}{AG:Addr}:∀ ss R,(UX A7 AG) ss R->ss.length=2:=by rintro _ _ ⟨s,a,t,x,rfl,_,_,rfl⟩;rfl
theorem tP {A7:Addr}{AG:Addr}(F:AK K "follows_over" "Course.follows_over" U2 f fd) (mt:Meth K A7 "follows_over" f) (Eo:DB P w K mg base A7 "coming" 2 ["self", "loop"] (Bp (Kl A7))) (Ad:mg "len" = none) (B0:Bf K A7) (CV:BK K A7 "running") :
  DB P w K mg base A7 "follows_over" 6 ["self", "loop"] (Be (UX A7 AG)):=by
 refine ⟨f,fd,F.Az (k:=5) ZAw (fun vs H Q E h=>Fz.G7 fo h) (fun Aa A outer s H vs Q E hr h=>?_),(F.binds (by walk_at "bD2")),mt,B0⟩
 refine ⟨_,(AB rfl (Ag (Ee (Mn (Ax hr) (qv 1) (CT (qv 0))) (Gu (AX K4 (B2 Cu Ad (A0 (FR Eo hr (by decide) (qv 0) (A0 (qv 1) A3)) A3)) A4))).pt (AD rfl (AY D9)) Ah)
   (AB rfl (EL (cu (CT (qv 0)) (qv 1) ⟨rfl,rfl,rfl,rfl⟩))
   (AD rfl (AY D9)))),?_⟩
 refine Fz.JG h fo ?_
 rintro _ _ ⟨s,a,t,x,rfl,hT,ok,rfl⟩
 obtain ⟨dx,aL,aS,us,BC,rfl⟩:=hT
 show Ws [_,_] _ _ _
 have l1:=ok.l1
 refine Am (CH (Gn (EV (QL (AO rfl (JU rfl B0 CV ⟨Ab s.ln,aL,_,.inr x,rfl,rfl,_,rfl,?_⟩))))))
 rw [HM]
 refine Af (fun c=>?_) (fun c=>?_)
 ·have nx:x∉s.ln:=fun z=>by rw [decide_eq_true z] at c;cases c
  refine Dh (i:=0) rfl (Cg (.inr ⟨?_,rfl,dx,aL,aS,us,BC,rfl⟩))
  unfold DL
  rw [Rn nx,l1,JZ (An _)]
 ·have hx:x∈s.ln:=Ic fun z=>c (by rw [decide_eq_false z];rfl)
  have hi:=List.idxOf_lt_length_iff.mpr hx
  obtain ⟨l,el⟩:∃ l,s.ll[s.ln.idxOf x]?=some l:=⟨_,B1 (by omega)⟩
  have c1:BR s x=l.cs:=by unfold BR;rw [el]
  refine DT (FL (CU (Ht rfl rfl l1 ?_)))
  rw [AV,c1]
  refine ⟨_,rfl,Bg ⟨_,rfl,_,rfl,?_⟩⟩
  refine Af (fun c2=>?_) (fun c2=>B7 ?_)
  ·have h0:=of_decide_eq_true c2
   refine Dh (i:=0) rfl (Cg (.inr ⟨?_,rfl,dx,aL,aS,us,BC,rfl⟩))
   unfold DL
   rw [el]
   show (if l.cs=[] then _ else none)=none
   rw [if_neg (fun z=>by rw [z] at h0;exact absurd h0 (by decide))]
  ·have h0:l.cs=[]:=List.length_eq_zero_iff.mp (by have:¬ (0:Int) < l.cs.length:=fun z=>c2 (decide_eq_true z);omega)
   refine Am (fQ (i:=0) (t:=BV s A7 a dx aL aS us) (JU rfl B0 CV ⟨true,aL,Ab s.ln,_,rfl,rfl,HX ok.n1,AO rfl ⟨.inr x,s.ln.idxOf x,rfl,FI hx,?_⟩⟩))
   unfold BV
   rw [show ([]++[1]:List Nat)=[1] from rfl,JP,iI,bR]
   refine Dh (i:=0) rfl (Cg (.inl ⟨⟨s.row,s.ln.eraseIdx (s.ln.idxOf x),s.ll.eraseIdx (s.ln.idxOf x),s.sn,s.sq⟩,?_,rfl,dx,aL,aS,us,BC,rfl⟩))
   unfold DL
   rw [el]
   show (if l.cs=[] then _ else none)=_
   rw [if_pos h0]
theorem ZAF:Au ["gap", "at"] ["gap", "at"] (Ae TR):=⟨rfl,rfl,rfl,by decide +kernel,rfl,by decide +kernel,by decide +kernel⟩
theorem zd (F:AK K "gap_behind_put" "gap_behind_put" TR f fd) (m:mg "gap_behind_put" = some (.ref f))  :
  AA P w K mg base "gap_behind_put" 1 ["gap", "at"] (gQ):=by
 refine AA.mk F (F.binds (by walk_at "bD2")) m (F.Az (k:=0) ZAF (fun vs H Q E h=>?_) (fun Aa A outer s H vs Q E hr h=>?_))
 ·obtain ⟨g,i,rfl,q⟩:=h;rfl
 obtain ⟨g,i,rfl,q⟩:=h
 refine ⟨_,(AB rfl (Ag (AX FA (qv 1) (qv 0)) (AD rfl (AY (Ap D2 (qv 0) A4))) Ah)
   (AD rfl (AY (qv 0)))),?_⟩
 refine ⟨_,rfl,_,rfl,_,_,rfl,rfl,_,rfl,?_⟩
 refine Af (fun c=>?_) (fun c=>?_)
 ·have c':(i:Int) < (g:Int):=of_decide_eq_true c
  have e:((FJ i g:Nat):Int)=(g:Int)+1:=by unfold FJ;rw [if_pos (by omega)];omega
  rw [e] at q
  exact ⟨_,rfl,_,_,rfl,rfl,q⟩
 ·have c':¬ (i:Int) < (g:Int):=fun z=>c (decide_eq_true z)
  have e:FJ i g=g:=by unfold FJ;rw [if_neg (by omega)]
  rw [e] at q
  exact ⟨_,rfl,q⟩
theorem oP:Au ["gap", "place"] ["gap", "place"] (Ae Vl):=⟨rfl,rfl,rfl,by decide +kernel,rfl,by decide +kernel,by decide +kernel⟩
theorem pV (F:AK K "gap_behind_take" "gap_behind_take" Vl f fd) (m:mg "gap_behind_take" = some (.ref f))  :
  AA P w K mg base "gap_behind_take" 1 ["gap", "place"] (i5):=by
 refine AA.mk F (F.binds (by walk_at "bD2")) m (F.Az (k:=0) oP (fun vs H Q E h=>?_) (fun Aa A outer s H vs Q E hr h=>?_))
 ·obtain ⟨g,p,rfl,q⟩:=h;rfl
 obtain ⟨g,p,rfl,q⟩:=h
 refine ⟨_,(AB rfl (Ag (AX FA (qv 1) (qv 0)) (AD rfl (AY (Ap Nr (qv 0) A4))) Ah)
   (AD rfl (AY (qv 0)))),?_⟩
 refine ⟨_,rfl,_,rfl,_,_,rfl,rfl,_,rfl,?_⟩
 refine Af (fun c=>?_) (fun c=>?_)
 ·have c':(p:Int) < (g:Int):=of_decide_eq_true c
  have e:((EC p g:Nat):Int)=(g:Int) - 1:=by unfold EC;rw [if_pos (by omega)];omega
  rw [e] at q
  exact ⟨_,rfl,_,_,rfl,rfl,q⟩
 ·have c':¬ (p:Int) < (g:Int):=fun z=>c (decide_eq_true z)
  have e:EC p g=g:=by unfold EC;rw [if_neg (by omega)]
  rw [e] at q
  exact ⟨_,rfl,q⟩
theorem lA:Au ["row", "gap", "deed"] ["row", "gap", "deed"] (Ae U0):=⟨rfl,rfl,rfl,by decide +kernel,rfl,by decide +kernel,by decide +kernel⟩
theorem qK (F:AK K "gap_led" "gap_led" U0 f fd) (m:mg "gap_led" = some (.ref f)) (Q3:AA P w K mg base "gap_behind_put" 1 ["gap", "at"] (gQ)) (Ph:AA P w K mg base "gap_behind_take" 1 ["gap", "place"] (i5)) (Fd:AA P w K mg base "place_of" 1 ["row", "name"] (Lb)) :
  AA P w K mg base "gap_led" 3 ["row", "gap", "deed"] (ZX):=by
 refine AA.mk F (F.binds (by walk_at "bD3")) m (F.Az (k:=2) lA (fun vs H Q E h=>?_) (fun Aa A outer s H vs Q E hr h=>?_))
 ·obtain ⟨a,t,tp,ns,g,d,rfl,hS,hT,ok,q⟩:=h;rfl
 obtain ⟨a,t,tp,ns,g,d,rfl,hS,hT,ok,q⟩:=h
 refine ⟨_,(AB rfl (Ag (AX BP (AH AL (qv 2) A4) AW) (AD rfl (AY (AZ Q3 hr (A0 (qv 1) (A0 (AH AL (qv 2) A4) A3))))) Ah)
   (AB rfl (Ag (AX BP (AH AL (qv 2) A4) AW) (AD rfl (AY (AZ Ph hr (A0 (qv 1) (A0 (AZ Fd hr (A0 (qv 0) (A0 (AH AL (qv 2) A4) A3))) A3))))) Ah)
   (AB rfl (Ag (AX BP (AH AL (qv 2) A4) AW) (AD rfl (AY (AZ Q3 hr (A0 (AZ Ph hr (A0 (qv 1) (A0 (AZ Fd hr (A0 (qv 0) (A0 (AH AL (qv 2) A4) A3))) A3))) (A0 (AH AL (qv 2) A4) A3))))) Ah)
   (AD rfl (AY (qv 1)))))),?_⟩
 have e1:=hT
 have a1:=hS
 refine ⟨_,rfl,t,_,_,_,rfl,rfl,A9.of e1,Gk d,rfl,_,rfl,Af (fun c1=>?_) (fun c1=>?_)⟩
 ·obtain ⟨x,i,rfl⟩:=Xn c1
  exact ⟨_,rfl,_,rfl,t,_,_,_,rfl,rfl,A9.of e1,rfl,g,i,rfl,q⟩
 refine ⟨_,rfl,t,_,_,_,rfl,rfl,A9.of e1,Gk d,rfl,_,rfl,Af (fun c2=>?_) (fun c2=>?_)⟩
 ·obtain ⟨x,rfl⟩:=XD c2
  exact ⟨_,rfl,_,rfl,_,rfl,t,_,_,_,rfl,rfl,A9.of e1,rfl,a,tp,ns,x,rfl,a1,ok,g,_,rfl,q⟩
 refine ⟨_,rfl,t,_,_,_,rfl,rfl,A9.of e1,Gk d,rfl,_,rfl,Af (fun c3=>?_) (fun c3=>?_)⟩
 ·obtain ⟨x,i,rfl⟩:=oy c3
  exact ⟨_,rfl,_,rfl,_,rfl,t,_,_,_,rfl,rfl,A9.of e1,rfl,a,tp,ns,x,rfl,a1,ok.1,g,_,rfl,_,rfl,t,_,_,_,rfl,rfl,A9.of e1,rfl,_,i,rfl,q⟩
 obtain ⟨lo,hi,rfl⟩:=xa c1 c2 c3
 exact ⟨_,rfl,q⟩
theorem we:Au ["loop", "at"] ["loop", "at"] (Ae Wu):=⟨rfl,rfl,rfl,by decide +kernel,rfl,by decide +kernel,by decide +kernel⟩
theorem yp (F:AK K "joins" "joins" Wu f fd) (m:mg "joins" = some (.ref f))  :
  AA P w K mg base "joins" 1 ["loop", "at"] (hU):=by
 refine AA.mk F (F.binds (by walk_at "bD2")) m (F.Az (k:=0) we (fun vs H Q E h=>?_) (fun Aa A outer s H vs Q E hr h=>?_))
 ·obtain ⟨t,r,g,i,c,rfl,hT,q⟩:=h;rfl
 obtain ⟨t,r,g,i,c,rfl,hT,q⟩:=h
 refine ⟨_,(AD rfl (AY (dg (Gh BP (AH AL (qv 0) A4) AW) (Ko (Nc (Gh BP (AH AL (qv 0) A4) AW) (Ko (Gh LG (qv 1) (AH AL (qv 0) A4)))))))),?_⟩
 refine ⟨_,rfl,t,_,_,_,rfl,rfl,A9.of hT,rfl,rfl,_,rfl,?_⟩
 refine Af (fun c1=>?_) (fun c1=>?_)
 ·have e:CZ r g i=true:=by unfold CZ;rw [if_pos c1]
  rw [e] at q;exact q
 ·refine ⟨_,rfl,t,_,_,_,rfl,rfl,A9.of hT,rfl,rfl,_,rfl,?_⟩
  refine Af (fun c2=>?_) (fun c2=>?_)
  ·have e:CZ r g i=decide ((g:Int)<=(i:Int)):=by unfold CZ;rw [if_neg c1,if_pos c2]
   rw [e] at q
   exact ⟨_,rfl,_,rfl,t,_,_,_,rfl,rfl,A9.of hT,rfl,_,_,rfl,rfl,q⟩
  ·have e:CZ r g i=false:=by unfold CZ;rw [if_neg c1,if_neg c2]
   rw [e] at q;exact q
theorem ZBk:Au ["loop", "deed"] ["loop", "deed"] (Ae SY):=⟨rfl,rfl,rfl,by decide +kernel,rfl,by decide +kernel,by decide +kernel⟩
theorem jw (F:AK K "coming_behind" "coming_behind" SY f fd) (m:mg "coming_behind" = some (.ref f)) (LX:AA P w K mg base "coming_without" 1 ["coming", "gone"] (Vr K)) (SK:AA P w K mg base "joins" 1 ["loop", "at"] (hU)) (Eb:mg "sorted" = none) (CA:mg "tuple" = none) :
  AA P w K mg base "coming_behind" 2 ["loop", "deed"] (gK):=by
 refine AA.mk F (F.binds (by walk_at "bD2")) m (F.Az (k:=1) ZBk (fun vs H Q E h=>?_) (fun Aa A outer s H vs Q E hr h=>?_))
 ·obtain ⟨tl,t,c,r,g,ss,d,rfl,⟨hL,hC⟩,hT,hz,up,hx,q⟩:=h;rfl
 obtain ⟨tl,t,c,r,g,ss,d,rfl,⟨hL,hC⟩,hT,hz,up,hx,q⟩:=h
 refine ⟨_,(AB rfl (Ag (AX BP (AH AL (qv 1) A4) AW) (AD rfl (AY (AZ LX hr (A0 (AH AL (qv 0) A4) (A0 (AH AL (qv 1) A4) A3))))) Ah)
   (AB rfl (Ag (GO (AX BP (AH AL (qv 1) A4) AW) (GP (HQ (AZ SK hr (A0 (qv 0) (A0 (AH AL (qv 1) A4) A3)))))).pt (AD rfl (AY (CY HJ CA (A0 (B2 Oh Eb (A0 (Ap cM (AH AL (qv 0) A4) (BZ (A0 (AH AL (qv 1) A4) A3))) A3)) A3)))) Ah)
   (AD rfl (AY (AH AL (qv 0) A4))))),?_⟩
 refine ⟨_,rfl,t,_,_,_,rfl,rfl,A9.of hT,Gk d,rfl,_,rfl,Af (fun c2=>?_) (fun c2=>?_)⟩
 ·obtain ⟨x,rfl⟩:=XD c2
  exact ⟨_,rfl,tl,_,_,_,rfl,rfl,A9.of hL,rfl,_,rfl,t,_,_,_,rfl,rfl,A9.of hT,rfl,c,ss,x,rfl,A9.of hC,by omega,fun l H' hl s e=>q l H' (.inl hl) s e⟩
 refine ⟨_,rfl,t,_,_,_,rfl,rfl,A9.of hT,Gk d,rfl,_,rfl,Af (fun c1=>?_) (fun c1=>Cv ⟨_,rfl,tl,_,_,_,rfl,rfl,A9.of hL,rfl,q c _ (.inr rfl) (A8.refl _) (by rw [o7 c1 c2];exact hC)⟩)⟩
 obtain ⟨x,i,rfl⟩:=Xn c1
 refine ⟨_,rfl,_,rfl,t,_,_,_,rfl,rfl,A9.of hT,rfl,tl,r,g,i,c,rfl,hL,_,rfl,?_⟩
 refine Af (fun hj=>?_) (fun hj=>⟨_,rfl,tl,_,_,_,rfl,rfl,A9.of hL,rfl,q c _ (.inr rfl) (A8.refl _) (by rw [ND (Bool.eq_false_iff.mpr hj)];exact hC)⟩)
 refine ⟨_,rfl,tl,_,_,_,rfl,rfl,A9.of hL,rfl,_,rfl,t,_,_,_,rfl,rfl,A9.of hT,rfl,(by show 1<=sizeLine;decide),fun t1 Mj=>?_⟩
 have n1:=Ac Mj (.tup [.str x])
 refine ⟨c,t1,_,_,rfl,rfl,A9.of (n1 _ _ hC),A9.of AI,by simp,small (by rw [Dk];simp;omega),fun p2 H2 s2 e2=>?_⟩
 have Bu:A9 K H2 p2 ((ss++[x]).map V.str):=by rw [E9];exact e2
 refine ⟨p2,true,ss++[x],rfl,Bu,by rw [Bm];simp;omega,fun l3 ts XS hp hs=>?_⟩
 have n3:=Ac XS (.lst (ts.map V.str))
 refine ⟨l3,_,rfl,.inl ⟨AE.of AI,fun c4 cH=>?_⟩⟩
 exact q c4 _ (.inl (A8.none (n1.trans (s2.trans n3)) cH)) (n1.trans (s2.trans (n3.trans (Ac cH _)))) (by rw [AI,Vf hp hs up (hx x i rfl),UA hj])
theorem l9:Au ["row", "loop", "deed"] ["row", "loop", "deed"] (Ae VU):=⟨rfl,rfl,rfl,by decide +kernel,rfl,by decide +kernel,by decide +kernel⟩
theorem ZB0 (F:AK K "loop_led" "loop_led" VU f fd) (m:mg "loop_led" = some (.ref f)) (SU:AA P w K mg base "coming_behind" 2 ["loop", "deed"] (gK)) (T1:AA P w K mg base "gap_led" 3 ["row", "gap", "deed"] (ZX)) :
  AA P w K mg base "loop_led" 4 ["row", "loop", "deed"] (VH):=by
 refine AA.mk F (F.binds (by walk_at "bD3")) m (F.Az (k:=3) l9 (fun vs H Q E h=>?_) (fun Aa A outer s H vs Q E hr h=>?_))
 ·obtain ⟨a,tl,t,c,tp,ns,r,g,ss,d,rfl,hS,⟨Lk,aO⟩,hT,ok,gd,hz,q⟩:=h;rfl
 obtain ⟨a,tl,t,c,tp,ns,r,g,ss,d,rfl,hS,⟨Lk,aO⟩,hT,ok,gd,hz,q⟩:=h
 refine ⟨_,(AD rfl (AY (BZ (A0 (AH AL (qv 1) A4) (A0 (AZ T1 hr (A0 (qv 0) (A0 (AH AL (qv 1) A4) (A0 (qv 2) A3)))) (A0 (AZ SU hr (A0 (qv 1) (A0 (qv 2) A3))) A3)))))),?_⟩
 have hlen:=gd.len
 have g1:=gd.g1
 refine ⟨_,rfl,tl,_,_,_,rfl,rfl,A9.of Lk,rfl,_,rfl,_,rfl,tl,_,_,_,rfl,rfl,A9.of Lk,rfl,_,rfl,a,t,tp,ns,g,d,rfl,hS,hT,ok,?_⟩
 refine ⟨_,rfl,_,rfl,tl,t,c,r,g,ss,d,rfl,⟨Lk,aO⟩,hT,by omega,gd.up,Vk gd ok,fun c3 H3 f3 s3 e3=>?_⟩
 refine ⟨(by show 3<=sizeLine;decide),fun t4 J4=>?_⟩
 have n4:=Ac J4 (.tup [.str r,.int (d.gap ns g:Nat),.ref c3])
 exact q t4 c3 _ (A8.none s3 J4) f3 (s3.trans n4) ⟨AI,n4 _ _ e3⟩
theorem SF:Au ["self", "loop", "deed", "many", "tally"] ["self", "loop", "deed"] (Ae Th):=⟨rfl,rfl,rfl,by decide +kernel,rfl,by decide +kernel,by decide +kernel⟩
theorem fc {A7:Addr}{AG:Addr}:∀ ss R,(T7 A7 AG) ss R->ss.length=3:=by rintro _ _ ⟨s,a,t,d,i,x,rfl,_,_,_,_,_,_,rfl⟩;rfl
theorem ZAk {A7:Addr}{AG:Addr}(F:AK K "lead" "Course.lead" Th f fd) (mt:Meth K A7 "lead" f) (Eo:DB P w K mg base A7 "coming" 2 ["self", "loop"] (Bp (Kl A7))) (UG:AA P w K mg base "loop_led" 4 ["row", "loop", "deed"] (VH)) (Ad:mg "len" = none) (B0:Bf K A7) (DH:Bf K AG) (CV:BK K A7 "running") (Df:BK K A7 "standing") (DZ:BK K A7 "tallies") (IP:BK K AG "joined") (IY:BK K AG "taken") :
  DB P w K mg base A7 "lead" 8 ["self", "loop", "deed"] (Be (T7 A7 AG)):=by
 refine ⟨f,fd,F.Az (k:=7) SF (fun vs H Q E h=>Fz.G7 fc h) (fun Aa A outer s H vs Q E hr h=>?_),(F.binds (by walk_at "bD3")),mt,B0⟩
 refine ⟨_,(AB rfl (Ar 3 SF.nd (B2 Cu Ad (A0 (FR Eo hr (by decide) (qv 0) (A0 (qv 1) A3)) A3)))
   (AB rfl (IZ (Ax hr) (CT (qv 0)) (qv 1) (AZ UG hr (A0 (CT (qv 0)) (A0 (BO (Ax hr) (CT (qv 0)) (qv 1) (fun _ _=>rfl)) (A0 (qv 2) A3)))))
   (AB rfl (Ar 4 SF.nd (BO (Ax hr) (CT (qv 0)) (qv 1) (fun _ _=>rfl)))
   (AB rfl (CO (Ag (AX K4 (B2 Cu Ad (A0 (FR Eo hr (by decide) (qv 0) (A0 (qv 1) A3)) A3)) (qv 3)) (AD rfl (UZ (qv 4) A4 XF)) Ah))
   (AD rfl (Ag (AX FA (B2 Cu Ad (A0 (FR Eo hr (by decide) (qv 0) (A0 (qv 1) A3)) A3)) (qv 3)) (AD rfl (UZ (qv 4) A4 XF)) Ah)))))),?_⟩
 refine Fz.Oj h fc ?_
 rintro _ _ ⟨s,a,t,d,i,x,rfl,hT,ok,hx,hd,hs,hn,rfl⟩
 obtain ⟨dx,aL,aS,us,BC,rfl⟩:=hT
 show Ws [_,_,_,.any,.any] _ _ _
 have l1:=ok.l1
 have hi:i < s.ln.length:=(List.getElem?_eq_some_iff.mp hx).1
 obtain ⟨l,el⟩:∃ l,s.ll[i]?=some l:=⟨_,B1 (by omega)⟩
 have xm:x∈s.ln:=CG hx
 have xs:x∈s.sn:=ok.sub x xm
 have ix:s.ln.idxOf x=i:=GY ok.n1 hx
 have gl:=ok.good l (CG el)
 have ll:(C1 s d i).length=s.ll.length:=ID s d i
 have c1:BR (Dy s d i) x=l.cs:=Fj (s:=Dy s d i) ok.n1 hx (Tq el)
 refine Am (G2 (CU (Ht rfl rfl (by rw [show (Dy s d i).ll.length=s.ll.length from ll];exact l1) ?_)))
 rw [AV,c1]
 refine Am (IJ (i:=0) (t:=BV (Dy s d i) A7 a dx aL aS us) (DJ (qZ (BD (Cp (Nl rfl B0 Df ⟨_,rfl,_,.inl ⟨rfl,s.row,rfl,?_⟩⟩))))))
 refine Cp (Fc (JU rfl B0 CV ⟨Ab s.ln,aL,_,rfl,AO rfl ⟨.inr x,i,.fz l.P,rfl,by rw [FI xm,ix],LU (Tq el),_,rfl,l.r,l.g,l.cs,rfl,AO rfl ⟨d,rfl,hd,gl,ok.row.len,?_⟩⟩⟩))
 refine (JU rfl B0 CV ⟨true,aL,Ab s.ln,_,rfl,rfl,by unfold Bv;rw [AV];show (C1 s d i).length<=99999;have:=IC ok.n1 ok.sub;omega,HX ok.n1,BH,AO rfl ⟨.inr x,rfl,?_⟩⟩)
 rw [RB xm,RK xm]
 unfold BV
 rw [show ([]++[1]:List Nat)=[1] from rfl,JP,ix]
 have e2:(Bv (Dy s d i).ll).set i (.fz (D8 l.r (d.gap s.row l.g) (d.Du l.r l.g l.cs)))=Bv (C1 s d (i+1)):=by
  rw [<- XM el];exact Q8 _ _ (l.led s.row d)
 rw [e2]
 obtain ⟨q,eq⟩:=ud (d:=d) (i:=i) ok xs
 obtain ⟨u,hu,e,b,rfl⟩:=BC.get eq
 have ju:=List.idxOf_lt_length_iff.mpr xs
 have c2:∀ Q,BR ⟨s.row,s.ln,C1 s d (i+1),s.sn,Q⟩ x=(l.led s.row d).cs:=fun Q=>Fj (s:=⟨s.row,s.ln,C1 s d (i+1),s.sn,Q⟩) ok.n1 hx (by rw [<- XM el,Ca (by rw [ID];omega)])
 show Ws [.ow true (BV ⟨s.row,s.ln,C1 s d (i+1),s.sn,C0 s d i⟩ A7 a dx aL aS us),.is (.str x),.is (dP d),.is (.int l.cs.length),.any] _ _ _
 refine Am (SV (i:=0) (Fc (O3 rfl B0 DZ ⟨Ab s.sn,aS,us,rfl,AO rfl ⟨.inr x,s.sn.idxOf x,_,rfl,FI xs,hu,_,b,_,rfl,?_⟩⟩)))
 have fin:∀ us',R2 (NG AG) us' (C0 s d (i+1))->RU (.mt fun p t'=>p=.AF/\Cf (Dy s d (i+1)) A7 AG a t') [.ow true (BV ⟨s.row,s.ln,C1 s d (i+1),s.sn,C0 s d (i+1)⟩ A7 a dx aL aS us'),.is (.str x),.is (dP d),.is (.int l.cs.length),.raw (ptr b)]:=fun us' h=>⟨_,_,_,_,rfl,rfl,rfl,dx,aL,aS,us',h,rfl⟩
 rw [Y2 hx el] at fin
 show Ws [.ow true (BV ⟨s.row,s.ln,C1 s d (i+1),s.sn,C0 s d i⟩ A7 a dx aL aS us),.is (.str x),.is (dP d),.is (.int l.cs.length),.raw (ptr b)] _ _ _
 rcases Rx l.cs.length (l.led s.row d).cs.length with h | h | h
 ·refine Am (ES (CH (DT (FL (CU (Ht rfl rfl (by rw [show (C1 s d (i+1)).length=s.ll.length from ID s d (i+1)];exact l1) ?_))))))
  rw [AV,c2]
  refine ⟨_,rfl,AO rfl ⟨_,rfl,_,rfl,ER (decide_eq_true (by omega)) ?_⟩⟩
  refine Vg (HZ (j:=4) (i:=0) (p:=[2,s.sn.idxOf x]) rfl rfl (Sa hu) ⟨true,AG,e,_,b,_,1,_,rfl,rfl,DH,IP,by decide,by decide +kernel,rfl,Bg ⟨_,rfl,?_⟩⟩)
  unfold BV
  rw [Pt hu]
  have Gx:R2 (NG AG) (us.set (s.sn.idxOf x) (.nd (.obj AG e ["stood", "joined", "told", "taken"]) b ((Dc q.join).map .fz))) ((C0 s d i).modify (s.sn.idxOf x) (Sm.by l.cs.length (l.led s.row d).cs.length)):=BC.set fun q' h'=>by
   have h':(C0 s d i)[s.sn.idxOf x]?=some q':=h'
   rw [eq] at h';cases h'
   unfold Sm.by
   rw [if_pos h];exact ⟨e,b,rfl⟩
  show Ws [.ow true (BV ⟨s.row,s.ln,C1 s d (i+1),s.sn,(C0 s d i).modify (s.sn.idxOf x) (Sm.by l.cs.length (l.led s.row d).cs.length)⟩ A7 a dx aL aS (us.set (s.sn.idxOf x) (.nd (.obj AG e ["stood", "joined", "told", "taken"]) b ((Dc q.join).map .fz)))),.is (.str x),.is (dP d),.is (.int l.cs.length),.raw (ptr b)] _ _ _
  refine CH (DT (FL (CU (Ht rfl rfl (by rw [show (C1 s d (i+1)).length=s.ll.length from ID s d (i+1)];exact l1) ?_))))
  rw [AV,c2]
  exact ⟨_,rfl,AO rfl ⟨_,rfl,_,rfl,B8 (fun z=>by have:=of_decide_eq_true z;omega) (B7 (fin _ Gx))⟩⟩
 ·have Gx:R2 (NG AG) us ((C0 s d i).modify (s.sn.idxOf x) (Sm.by l.cs.length (l.led s.row d).cs.length)):=by
   unfold Sm.by
   rw [if_neg (by omega),if_neg (by omega),i7];exact BC
  refine Am (ES (CH (DT (FL (CU (Ht rfl rfl (by rw [show (C1 s d (i+1)).length=s.ll.length from ID s d (i+1)];exact l1) ?_))))))
  rw [AV,c2]
  refine ⟨_,rfl,AO rfl ⟨_,rfl,_,rfl,B8 (fun z=>by have:=of_decide_eq_true z;omega) (B7 ?_)⟩⟩
  refine CH (DT (FL (CU (Ht rfl rfl (by rw [show (C1 s d (i+1)).length=s.ll.length from ID s d (i+1)];exact l1) ?_))))
  rw [AV,c2]
  exact ⟨_,rfl,AO rfl ⟨_,rfl,_,rfl,B8 (fun z=>by have:=of_decide_eq_true z;omega) (B7 (fin _ Gx))⟩⟩
 ·refine Am (ES (CH (DT (FL (CU (Ht rfl rfl (by rw [show (C1 s d (i+1)).length=s.ll.length from ID s d (i+1)];exact l1) ?_))))))
  rw [AV,c2]
  refine ⟨_,rfl,AO rfl ⟨_,rfl,_,rfl,B8 (fun z=>by have:=of_decide_eq_true z;omega) (B7 ?_)⟩⟩
  refine CH (DT (FL (CU (Ht rfl rfl (by rw [show (C1 s d (i+1)).length=s.ll.length from ID s d (i+1)];exact l1) ?_))))
  rw [AV,c2]
  refine ⟨_,rfl,AO rfl ⟨_,rfl,_,rfl,ER (decide_eq_true (by omega)) ?_⟩⟩
  refine Vg (HZ (j:=4) (i:=0) (p:=[2,s.sn.idxOf x]) rfl rfl (Sa hu) ⟨true,AG,e,_,b,_,3,_,rfl,rfl,DH,IY,by decide,by decide +kernel,rfl,Bg ⟨_,rfl,?_⟩⟩)
  unfold BV
  rw [Pt hu]
  have Gx:R2 (NG AG) (us.set (s.sn.idxOf x) (.nd (.obj AG e ["stood", "joined", "told", "taken"]) b ((Dc q.take).map .fz))) ((C0 s d i).modify (s.sn.idxOf x) (Sm.by l.cs.length (l.led s.row d).cs.length)):=BC.set fun q' h'=>by
   have h':(C0 s d i)[s.sn.idxOf x]?=some q':=h'
   rw [eq] at h';cases h'
   unfold Sm.by
   rw [if_neg (by omega),if_pos h];exact ⟨e,b,rfl⟩
  exact fin _ Gx
theorem sZ:Au ["row", "name", "at"] ["row", "name", "at"] (Ae VN):=⟨rfl,rfl,rfl,by decide +kernel,rfl,by decide +kernel,by decide +kernel⟩
theorem zk {UN:Tok}(F:AK K "check_put" "check_put" VN f fd) (m:mg "check_put" = some (.ref f)) (Ly:AA P w K mg base "is_name" 1 ["text"] (Ke)) (Ad:mg "len" = none) (UT:mg "MOST_THINGS" = some (.int 40 UN)) :
  AA P w K mg base "check_put" 2 ["row", "name", "at"] (aY):=by
 refine AA.mk F (F.binds (by walk_at "bD3")) m (F.Az (k:=1) sZ (fun vs H Q E h=>?_) (fun Aa A outer s H vs Q E hr h=>?_))
 ·obtain ⟨a,tp,ns,x,i,rfl,hS,⟨h1,h2,h3,h4⟩,q⟩:=h;rfl
 obtain ⟨a,tp,ns,x,i,rfl,hS,⟨h1,h2,h3,h4⟩,q⟩:=h
 refine ⟨_,(AB rfl (Ag (FP (HQ (AZ Ly hr (A0 (qv 1) A3)))) (AD rfl GJ) Ah)
   (AB rfl (Ag (AX Lo (qv 1) (qv 0)) (AD rfl GJ) Ah)
   (AB rfl (Ag (FP (Oo Di Di A4 (qv 2) (B2 EM Ad (A0 (qv 0) A3)))) (AD rfl GJ) Ah)
   (AD rfl (Ag (AX LG (B2 EM Ad (A0 (qv 0) A3)) (N0 (v:=.int 40) (by rfl) UT ⟨_,rfl⟩)) (AD rfl GJ) Ah))))),?_⟩
 have hl:=Dk ns
 refine ⟨_,rfl,x,rfl,by have:=h1.2.1;omega,fun H1 s1=>⟨_,rfl,?_⟩⟩
 refine B8 (by rw [Tv h1];decide) ?_
 have e1:=s1 _ _ hS
 refine ⟨_,rfl,_,rfl,a,_,rfl,(BI.sq (K:=K) e1).or,rfl,Fo ns,_,rfl,?_⟩
 refine B8 (by show ¬ (Dv (V.str x) (ns.map V.str))=true;rw [KD,decide_eq_false h2];decide) ?_
 refine ⟨_,rfl,_,_,rfl,rfl,_,rfl,HH (decide_eq_true (by omega)) ?_⟩
 refine ⟨_,rfl,a,_,rfl,(BI.sq (K:=K) e1).or,_,_,rfl,rfl,_,rfl,R3 (by rw [hl];omega) ?_⟩
 refine ⟨_,rfl,a,_,rfl,(BI.sq (K:=K) e1).or,_,_,rfl,rfl,_,rfl,B8 (by rw [hl,decide_eq_false (by omega)];decide) ?_⟩
 exact q _ s1
theorem kx:Au ["row", "name", "at"] ["row", "name", "at"] (Ae XX):=⟨rfl,rfl,rfl,by decide +kernel,rfl,by decide +kernel,by decide +kernel⟩
theorem j6 (F:AK K "check_move" "check_move" XX f fd) (m:mg "check_move" = some (.ref f)) (Fd:AA P w K mg base "place_of" 1 ["row", "name"] (Lb)) (Ad:mg "len" = none) :
  AA P w K mg base "check_move" 2 ["row", "name", "at"] (fO):=by
 refine AA.mk F (F.binds (by walk_at "bD3")) m (F.Az (k:=1) kx (fun vs H Q E h=>?_) (fun Aa A outer s H vs Q E hr h=>?_))
 ·obtain ⟨a,tp,ns,x,i,rfl,hS,⟨h1,h2⟩,q⟩:=h;rfl
 obtain ⟨a,tp,ns,x,i,rfl,hS,⟨h1,h2⟩,q⟩:=h
 refine ⟨_,(AB rfl (EL (AZ Fd hr (A0 (qv 0) (A0 (qv 1) A3))))
   (AD rfl (Ag (FP (Oo Di FA A4 (qv 2) (B2 EM Ad (A0 (qv 0) A3)))) (AD rfl GJ) Ah))),?_⟩
 have hl:=Dk ns
 refine ⟨_,rfl,_,rfl,a,tp,ns,x,rfl,hS,h1,?_⟩
 refine ⟨_,rfl,_,_,rfl,rfl,_,rfl,HH (decide_eq_true (by omega)) ?_⟩
 refine ⟨_,rfl,a,_,rfl,(BI.sq (K:=K) hS).or,_,_,rfl,rfl,_,rfl,R3 (by rw [hl];omega) ?_⟩
 exact q
theorem pW:Au ["row", "low", "high"] ["row", "low", "high"] (Ae VW):=⟨rfl,rfl,rfl,by decide +kernel,rfl,by decide +kernel,by decide +kernel⟩
theorem ZAJ (F:AK K "check_turn" "check_turn" VW f fd) (m:mg "check_turn" = some (.ref f)) (Ad:mg "len" = none) :
  AA P w K mg base "check_turn" 1 ["row", "low", "high"] (dD):=by
 refine AA.mk F (F.binds (by walk_at "bD3")) m (F.Az (k:=0) pW (fun vs H Q E h=>?_) (fun Aa A outer s H vs Q E hr h=>?_))
 ·obtain ⟨a,tp,ns,lo,hi,rfl,hS,⟨h1,h2⟩,q⟩:=h;rfl
 obtain ⟨a,tp,ns,lo,hi,rfl,hS,⟨h1,h2⟩,q⟩:=h
 refine ⟨_,(AB rfl (Ag (FP (Oo Di Di A4 (qv 1) (B2 EM Ad (A0 (qv 0) A3)))) (AD rfl GJ) Ah)
   (AD rfl (Ag (FP (Oo Di Di (qv 1) (qv 2) (B2 EM Ad (A0 (qv 0) A3)))) (AD rfl GJ) Ah))),?_⟩
 have hl:=Dk ns
 refine ⟨_,rfl,_,_,rfl,rfl,_,rfl,HH (decide_eq_true (by omega)) ?_⟩
 refine ⟨_,rfl,a,_,rfl,(BI.sq (K:=K) hS).or,_,_,rfl,rfl,_,rfl,R3 (by rw [hl];omega) ?_⟩
 refine ⟨_,rfl,_,rfl,_,_,rfl,rfl,_,rfl,HH (decide_eq_true (by omega)) ?_⟩
 refine ⟨_,rfl,a,_,rfl,(BI.sq (K:=K) hS).or,_,_,rfl,rfl,_,rfl,R3 (by rw [hl];omega) ?_⟩
 exact q
theorem y8:Au ["row", "deed"] ["row", "deed"] (Ae WQ):=⟨rfl,rfl,rfl,by decide +kernel,rfl,by decide +kernel,by decide +kernel⟩
theorem ZBb (F:AK K "check_deed" "check_deed" WQ f fd) (m:mg "check_deed" = some (.ref f)) (TU:AA P w K mg base "check_move" 2 ["row", "name", "at"] (fO)) (Sl:AA P w K mg base "check_put" 2 ["row", "name", "at"] (aY)) (Vm:AA P w K mg base "check_turn" 1 ["row", "low", "high"] (dD)) (Fd:AA P w K mg base "place_of" 1 ["row", "name"] (Lb)) :
  AA P w K mg base "check_deed" 3 ["row", "deed"] (aZ):=by
 refine AA.mk F (F.binds (by walk_at "bD2")) m (F.Az (k:=2) y8 (fun vs H Q E h=>?_) (fun Aa A outer s H vs Q E hr h=>?_))
 ·obtain ⟨a,t,tp,ns,d,rfl,hS,hT,hd,q⟩:=h;rfl
 obtain ⟨a,t,tp,ns,d,rfl,hS,hT,hd,q⟩:=h
 refine ⟨_,(AD rfl (Ag (AX BP (AH AL (qv 1) A4) AW) (AD rfl (EL (AZ Sl hr (A0 (qv 0) (A0 (AH AL (qv 1) A4) (A0 (AH AL (qv 1) A4) A3)))))) (AD rfl (Ag (AX BP (AH AL (qv 1) A4) AW) (AD rfl (EL (AZ Fd hr (A0 (qv 0) (A0 (AH AL (qv 1) A4) A3))))) (AD rfl (Ag (AX BP (AH AL (qv 1) A4) AW) (AD rfl (EL (AZ TU hr (A0 (qv 0) (A0 (AH AL (qv 1) A4) (A0 (AH AL (qv 1) A4) A3)))))) (AD rfl (EL (AZ Vm hr (A0 (qv 0) (A0 (AH AL (qv 1) A4) (A0 (AH AL (qv 1) A4) A3)))))))))))),?_⟩
 cases d with
 | put x i=>
  refine ⟨_,rfl,t,_,_,_,rfl,rfl,A9.of hT,rfl,rfl,_,rfl,HH (by decide +kernel) ?_⟩
  exact ⟨_,rfl,_,rfl,t,_,_,_,rfl,rfl,A9.of hT,rfl,_,rfl,t,_,_,_,rfl,rfl,A9.of hT,rfl,a,tp,ns,x,i,rfl,hS,hd,q⟩
 | take x=>
  refine ⟨_,rfl,t,_,_,_,rfl,rfl,A9.of hT,rfl,rfl,_,rfl,B8 (by decide +kernel) ?_⟩
  refine ⟨_,rfl,t,_,_,_,rfl,rfl,A9.of hT,rfl,rfl,_,rfl,HH (by decide +kernel) ?_⟩
  exact ⟨_,rfl,_,rfl,t,_,_,_,rfl,rfl,A9.of hT,rfl,a,tp,ns,x,rfl,hS,hd,q _ (A8.refl _)⟩
 | move x i=>
  refine ⟨_,rfl,t,_,_,_,rfl,rfl,A9.of hT,rfl,rfl,_,rfl,B8 (by decide +kernel) ?_⟩
  refine ⟨_,rfl,t,_,_,_,rfl,rfl,A9.of hT,rfl,rfl,_,rfl,B8 (by decide +kernel) ?_⟩
  refine ⟨_,rfl,t,_,_,_,rfl,rfl,A9.of hT,rfl,rfl,_,rfl,HH (by decide +kernel) ?_⟩
  exact ⟨_,rfl,_,rfl,t,_,_,_,rfl,rfl,A9.of hT,rfl,_,rfl,t,_,_,_,rfl,rfl,A9.of hT,rfl,a,tp,ns,x,i,rfl,hS,hd,q _ (A8.refl _)⟩
 | turn lo hi=>
  refine ⟨_,rfl,t,_,_,_,rfl,rfl,A9.of hT,rfl,rfl,_,rfl,B8 (by decide +kernel) ?_⟩
  refine ⟨_,rfl,t,_,_,_,rfl,rfl,A9.of hT,rfl,rfl,_,rfl,B8 (by decide +kernel) ?_⟩
  refine ⟨_,rfl,t,_,_,_,rfl,rfl,A9.of hT,rfl,rfl,_,rfl,B8 (by decide +kernel) ?_⟩
  exact ⟨_,rfl,_,rfl,t,_,_,_,rfl,rfl,A9.of hT,rfl,_,rfl,t,_,_,_,rfl,rfl,A9.of hT,rfl,a,tp,ns,lo,hi,rfl,hS,hd,q _ (A8.refl _)⟩
theorem xE:Au ["row", "low", "high"] ["row", "low", "high"] (Ae U1):=⟨rfl,rfl,rfl,by decide +kernel,rfl,by decide +kernel,by decide +kernel⟩
theorem jo (F:AK K "row_turned" "row_turned" U1 f fd) (m:mg "row_turned" = some (.ref f)) (Bs:mg "list" = none) (LR:mg "reversed" = none) :
  AA P w K mg base "row_turned" 1 ["row", "low", "high"] (aH):=by
 refine AA.mk F (F.binds (by walk_at "bD3")) m (F.Az (k:=0) xE (fun vs H Q E h=>?_) (fun Aa A outer s H vs Q E hr h=>?_))
 ·obtain ⟨a,tp,ns,lo,hi,rfl,hS,KN,hz,h1,h2,q⟩:=h;rfl
 obtain ⟨a,tp,ns,lo,hi,rfl,hS,KN,hz,h1,h2,q⟩:=h
 refine ⟨_,(AD rfl (AY (Ap Im (Ap Im (CY KP Bs (A0 (Ea NR (qv 0) GQ (Dj (qv 1))) A3)) (i8 rfl rfl Bs rfl LR (A0 (Ea NR (qv 0) (Dj (qv 1)) (Dj (qv 2))) A3))) (CY KP Bs (A0 (Ea NR (qv 0) (Dj (qv 2)) GQ) A3))))),?_⟩
 have hl:=Dk ns
 have zz:∀ n:Nat,n<=2001->n<=sizeLine:=fun n h=>Cs h (by decide +kernel)
 refine ⟨_,rfl,_,rfl,_,rfl,a,tp,_,rfl,BI.sq hS,fun p1 H1 s1 e1=>?_⟩
 rw [QP] at e1
 refine ⟨p1,_,rfl,e1.or,fun l1 n1=>?_⟩
 have t1:=Ac n1 (.lst ((ns.map V.str).take lo))
 have s2:=s1.trans t1
 refine ⟨_,rfl,_,rfl,_,rfl,_,rfl,_,rfl,a,tp,_,rfl,BI.sq (s2 _ _ hS),fun p3 H3 s3 e3=>?_⟩
 rw [aN _ h1 (by rw [hl];exact h2)] at e3
 refine ⟨p3,tp,_,rfl,e3,KN,fun l4 n4=>?_⟩
 have t4:=Ac n4 (.lst (((ns.map V.str).drop lo).take (hi - lo)).reverse)
 refine ⟨l1,l4,_,_,rfl,rfl,t4 _ _ (s3 _ _ AI),AI,zz _ (by simp only [CF,OU,E8];omega),fun l5 n5=>?_⟩
 have t5:=Ac n5 (.lst ((ns.map V.str).take lo++(((ns.map V.str).drop lo).take (hi - lo)).reverse))
 have s5:=s2.trans (s3.trans (t4.trans t5))
 refine ⟨_,rfl,_,rfl,_,rfl,a,tp,_,rfl,BI.sq (s5 _ _ hS),fun p6 H6 s6 e6=>?_⟩
 rw [Pw] at e6
 refine ⟨p6,_,rfl,e6.or,fun l7 n7=>?_⟩
 have t7:=Ac n7 (.lst ((ns.map V.str).drop hi))
 refine ⟨l5,l7,_,_,rfl,rfl,t7 _ _ (s6 _ _ AI),AI,zz _ (by simp only [Bm,CF,E8,OU];omega),fun l8 n8=>?_⟩
 have s7:=s5.trans (s6.trans t7)
 refine q l8 _ (A8.none s7 n8) (s7.trans (Ac n8 _)) ?_
 rw [AI]
 unfold FE
 simp only [E9,OZ,OY,ZC5,CD]
theorem nR:Au ["row", "name", "at"] ["row", "name", "at"] (Ae Uw):=⟨rfl,rfl,rfl,by decide +kernel,rfl,by decide +kernel,by decide +kernel⟩
theorem yL (F:AK K "row_with" "row_with" Uw f fd) (m:mg "row_with" = some (.ref f)) (Bs:mg "list" = none) :
  AA P w K mg base "row_with" 1 ["row", "name", "at"] (eP):=by
 refine AA.mk F (F.binds (by walk_at "bD3")) m (F.Az (k:=0) nR (fun vs H Q E h=>?_) (fun Aa A outer s H vs Q E hr h=>?_))
 ·obtain ⟨a,tp,ns,x,i,rfl,hS,hz,q⟩:=h;rfl
 obtain ⟨a,tp,ns,x,i,rfl,hS,hz,q⟩:=h
 refine ⟨_,(AD rfl (AY (Ap Im (Ap Im (CY KP Bs (A0 (Ea NR (qv 0) GQ (Dj (qv 2))) A3)) (Gd (A0 (qv 1) A3))) (CY KP Bs (A0 (Ea NR (qv 0) (Dj (qv 2)) GQ) A3))))),?_⟩
 have hl:=Dk ns
 have zz:∀ n:Nat,n<=2001->n<=sizeLine:=fun n h=>Cs h (by decide +kernel)
 refine ⟨_,rfl,_,rfl,_,rfl,a,tp,_,rfl,BI.sq hS,fun p1 H1 s1 e1=>?_⟩
 rw [QP] at e1
 refine ⟨p1,_,rfl,e1.or,fun l1 n1=>?_⟩
 have t1:=Ac n1 (.lst ((ns.map V.str).take i))
 refine ⟨_,rfl,zz _ (by show 1<=2001;decide),fun l2 n2=>?_⟩
 have t2:=Ac n2 (.lst [.str x])
 refine ⟨l1,l2,_,_,rfl,rfl,t2 _ _ AI,AI,zz _ (by simp only [CF,OW];omega),fun l3 n3=>?_⟩
 have t3:=Ac n3 (.lst ((ns.map V.str).take i++[.str x]))
 have s3:=s1.trans (t1.trans (t2.trans t3))
 refine ⟨_,rfl,_,rfl,_,rfl,a,tp,_,rfl,BI.sq (s3 _ _ hS),fun p4 H4 s4 e4=>?_⟩
 rw [Pw] at e4
 refine ⟨p4,_,rfl,e4.or,fun l5 n5=>?_⟩
 have t5:=Ac n5 (.lst ((ns.map V.str).drop i))
 refine ⟨l3,l5,_,_,rfl,rfl,t5 _ _ (s4 _ _ AI),AI,zz _ (by simp only [Bm,CF,E8,OW];omega),fun l6 n6=>?_⟩
 have s5:=s3.trans (s4.trans t5)
 refine q l6 _ (A8.none s5 n6) (s5.trans (Ac n6 _)) ?_
 rw [AI]
 unfold ins
 simp only [E9,OZ,Bq,OY,CD,List.singleton_append]
theorem jb:Au ["row", "name"] ["row", "name"] (Ae RQ):=⟨rfl,rfl,rfl,by decide +kernel,rfl,by decide +kernel,by decide +kernel⟩
noncomputable def uU:Scope:={ kind:=.function,names:=[(".0", .local),("thing", .local),("name", .free)],isGenerator:=false,isCoroutine:=false,more:=[] }
theorem yn:Dd ["row", "name"] (Ae RQ) uU "thing" ["name"] [1]:=⟨rfl,by decide +kernel,by decide +kernel,rfl,rfl,by decide +kernel,by decide +kernel,by decide +kernel,by decide +kernel⟩
theorem pI (F:AK K "row_without" "row_without" RQ f fd) (m:mg "row_without" = some (.ref f))  :
  AA P w K mg base "row_without" 1 ["row", "name"] (bA):=by
 refine AA.mk F (F.binds (by walk_at "bD2")) m (F.Az (k:=0) jb (fun vs H Q E h=>?_) (fun Aa A outer s H vs Q E hr h=>?_))
 ·obtain ⟨a,tp,ns,x,rfl,hS,hz,q⟩:=h;rfl
 obtain ⟨a,tp,ns,x,rfl,hS,hz,q⟩:=h
 refine ⟨_,(AD rfl (AY (IV rfl yn (Gi (qv 0)) (fun _ _ _ _=>by exact (KW (AX J5 (qv 1) (qv 0)))) (fun _ _ _ _=>by exact (qv 1))))),?_⟩
 have hl:=Dk ns
 refine ⟨_,rfl,tp,a,_,rfl,BI.sq hS,fun acc B9=>Lh (HU (.str x)) (fun v=>v) (BI.sq hS) B9 (by rw [hl];exact small (by omega)) (fun i v H' Q' hv s1 h=>?_) (fun i v H' Q' hv _ s1 h=>?_) (fun H' s1 e1=>?_)⟩
 ·obtain ⟨y,rfl,hm⟩:=MD hv
  exact ⟨_,rfl,_,rfl,rfl,_,rfl,h H' (A8.refl _)⟩
 ·exact ⟨_,rfl,h H' (A8.refl _)⟩
 ·rw [Nx] at e1
  exact q acc H' B9 s1 e1
theorem rW:Au ["row", "deed"] ["row", "deed"] (Ae Uq):=⟨rfl,rfl,rfl,by decide +kernel,rfl,by decide +kernel,by decide +kernel⟩
theorem yE (F:AK K "done" "done" Uq f fd) (m:mg "done" = some (.ref f)) (Uk:AA P w K mg base "check_deed" 3 ["row", "deed"] (aZ)) (Tt:AA P w K mg base "row_turned" 1 ["row", "low", "high"] (aH)) (Ra:AA P w K mg base "row_with" 1 ["row", "name", "at"] (eP)) (QX:AA P w K mg base "row_without" 1 ["row", "name"] (bA)) :
  AA P w K mg base "done" 4 ["row", "deed"] (YB):=by
 refine AA.mk F (F.binds (by walk_at "bD2")) m (F.Az (k:=3) rW (fun vs H Q E h=>?_) (fun Aa A outer s H vs Q E hr h=>?_))
 ·obtain ⟨a,t,tp,ns,d,rfl,hS,hT,KN,hd,hz,q⟩:=h;rfl
 obtain ⟨a,t,tp,ns,d,rfl,hS,hT,KN,hd,hz,q⟩:=h
 refine ⟨_,(AB rfl (EL (AZ Uk hr (A0 (qv 0) (A0 (qv 1) A3))))
   (AB rfl (Ag (AX BP (AH AL (qv 1) A4) AW) (AD rfl (AY (AZ Ra hr (A0 (qv 0) (A0 (AH AL (qv 1) A4) (A0 (AH AL (qv 1) A4) A3)))))) Ah)
   (AB rfl (Ag (AX BP (AH AL (qv 1) A4) AW) (AD rfl (AY (AZ QX hr (A0 (qv 0) (A0 (AH AL (qv 1) A4) A3))))) Ah)
   (AB rfl (Ag (AX BP (AH AL (qv 1) A4) AW) (AD rfl (AY (AZ Ra hr (A0 (AZ QX hr (A0 (qv 0) (A0 (AH AL (qv 1) A4) A3))) (A0 (AH AL (qv 1) A4) (A0 (AH AL (qv 1) A4) A3)))))) Ah)
   (AD rfl (AY (AZ Tt hr (A0 (qv 0) (A0 (AH AL (qv 1) A4) (A0 (AH AL (qv 1) A4) A3)))))))))),?_⟩
 refine ⟨_,rfl,_,rfl,a,t,tp,ns,d,rfl,hS,hT,hd,fun H1 s1=>?_⟩
 have Bt:=s1 _ _ hT
 have Ff:=s1 _ _ hS
 have fin:MJ H1 Q (d.done ns):=fun l H' n s e=>q l H' (A8.none s1 n) (s1.trans s) e
 cases d with
 | put x i=>
  refine ⟨_,rfl,t,_,_,_,rfl,rfl,A9.of Bt,rfl,rfl,_,rfl,HH (by decide +kernel) ?_⟩
  exact ⟨_,rfl,_,rfl,t,_,_,_,rfl,rfl,A9.of Bt,rfl,_,rfl,t,_,_,_,rfl,rfl,A9.of Bt,rfl,a,tp,ns,x,i,rfl,Ff,by omega,fin⟩
 | take x=>
  refine ⟨_,rfl,t,_,_,_,rfl,rfl,A9.of Bt,rfl,rfl,_,rfl,B8 (by decide +kernel) ?_⟩
  refine ⟨_,rfl,t,_,_,_,rfl,rfl,A9.of Bt,rfl,rfl,_,rfl,HH (by decide +kernel) ?_⟩
  exact ⟨_,rfl,_,rfl,t,_,_,_,rfl,rfl,A9.of Bt,rfl,a,tp,ns,x,rfl,Ff,by omega,fin⟩
 | move x i=>
  refine ⟨_,rfl,t,_,_,_,rfl,rfl,A9.of Bt,rfl,rfl,_,rfl,B8 (by decide +kernel) ?_⟩
  refine ⟨_,rfl,t,_,_,_,rfl,rfl,A9.of Bt,rfl,rfl,_,rfl,B8 (by decide +kernel) ?_⟩
  refine ⟨_,rfl,t,_,_,_,rfl,rfl,A9.of Bt,rfl,rfl,_,rfl,HH (by decide +kernel) ?_⟩
  refine ⟨_,rfl,_,rfl,t,_,_,_,rfl,rfl,A9.of Bt,rfl,a,tp,ns,x,rfl,Ff,by omega,fun l2 H2 n2 s2 e2=>?_⟩
  have CM:=s2 _ _ Bt
  have hw:(wo ns x).length<=ns.length:=Ro _ _
  exact ⟨_,rfl,t,_,_,_,rfl,rfl,A9.of CM,rfl,_,rfl,t,_,_,_,rfl,rfl,A9.of CM,rfl,l2,false,wo ns x,x,i,rfl,e2,by omega,fun l H' n s e=>fin l H' (A8.none s2 n) (s2.trans s) e⟩
 | turn lo hi=>
  refine ⟨_,rfl,t,_,_,_,rfl,rfl,A9.of Bt,rfl,rfl,_,rfl,B8 (by decide +kernel) ?_⟩
  refine ⟨_,rfl,t,_,_,_,rfl,rfl,A9.of Bt,rfl,rfl,_,rfl,B8 (by decide +kernel) ?_⟩
  refine ⟨_,rfl,t,_,_,_,rfl,rfl,A9.of Bt,rfl,rfl,_,rfl,B8 (by decide +kernel) ?_⟩
  exact ⟨_,rfl,_,rfl,t,_,_,_,rfl,rfl,A9.of Bt,rfl,_,rfl,t,_,_,_,rfl,rfl,A9.of Bt,rfl,a,tp,ns,lo,hi,rfl,Ff,KN,by omega,hd.1,hd.2,fin⟩
theorem Uv:Au ["self", "deed", "behind", "loop"] ["self", "deed"] (Ae UP):=⟨rfl,rfl,rfl,by decide +kernel,rfl,by decide +kernel,by decide +kernel⟩
theorem gA {A7:Addr}{AG:Addr}:∀ ss R,(Pn A7 AG) ss R->ss.length=2:=by rintro _ _ ⟨s,s1,a,t,d,rfl,_,_,_,_,rfl⟩;rfl
theorem wz {A7:Addr}{N2:Addr}{AG:Addr}(F:AK K "follows_deed" "Course.follows_deed" UP f fd) (mt:Meth K A7 "follows_deed" f) (Sd:DB P w K mg base A7 "lead" 8 ["self", "loop", "deed"] (Be (T7 A7 AG))) (Uu:AA P w K mg base "done" 4 ["row", "deed"] (YB)) (Bs:mg "list" = none) (Xu:mg "StirError" = some (.ref N2)) (B0:Bf K A7) (CV:BK K A7 "running") (Df:BK K A7 "standing") :
  DB P w K mg base A7 "follows_deed" 9 ["self", "deed"] (Be (Pn A7 AG)):=by
 refine ⟨f,fd,F.Az (k:=8) Uv (fun vs H Q E h=>Fz.G7 gA h) (fun Aa A outer s H vs Q E hr h=>?_),(F.binds (by walk_at "bD2")),mt,B0⟩
 refine ⟨_,(AB rfl (mN rfl rfl (by rfl) Xu (fun _ _ _ g1=>by exact (AD rfl (Ar 2 Uv.nd (AZ Uu hr (A0 (show QE _ _ (JJ K _ _) from CT (qv 0)) (A0 (qv 1) A3)))))) (fun _=>by exact (AD rfl (AY D9))))
   (AB rfl (CO (JW Ih rfl (Gi (CY (RS rfl) Bs (A0 (CT (qv 0)) A3))) (CL 3 Uv.nd) (AD rfl (EL (FR Sd hr (by decide) (qv 0) (A0 (qv 3) (A0 (qv 1) A3)))))))
   (AB rfl (JC (qv 0) (qv 2))
   (AD rfl (AY D9))))),?_⟩
 refine Fz.JG h gA ?_
 rintro _ _ ⟨s,s1,a,t,d,rfl,hT,ok,hn,hg,rfl⟩
 obtain ⟨dx,aL,aS,us,BC,rfl⟩:=hT
 show Ws [_,_,.any,.any] _ _ _
 have l1:=ok.l1
 have l3:=IC ok.n1 ok.sub
 have Kw:=ok.row.len
 obtain ⟨d',Es⟩:∃ d',d.Is s.row d':=by
  unfold EE at hg
  split at hg
  ·next d' e=>exact ⟨d',Nn e⟩
  ·cases hg
 rw [Es.1]
 refine Am (mn (fun _=>True) (fun _=>False) (fun E=>?_) (fun Nk x hJ hD=>hD.elim))
 letI:Xw:=Ld E (fun _=>True) (fun _=>False)
 refine P5 (nh (BD (Cp (Nl rfl B0 Df ⟨_,rfl,_,.inl ⟨rfl,rfl,s.row,rfl,AO rfl ⟨d',rfl,Es.2,Kw,?_⟩⟩⟩))))
 clear this
 show Ws [.ow true (BV s A7 a dx aL aS us),.is (dP d'),.own ((d'.done s.row).map .str),.any] _ _ _
 refine O6 2 rfl ?_
 have qV:∀ x,d'=.take x∨(∃ i,d'=.move x i)->DN x:=by
  rintro x (rfl | ⟨i,rfl⟩)
  ·exact Iv (ok.row.nm x Es.2)
  ·exact Iv (ok.row.nm x Es.2.1)
 refine Am (ES (Km (fun _ i AQ=>∃ (s3:Slot) (t':OV),AQ=[.ow true t',.is (dP d'),.is (.lst ((d'.done s.row).map .str)),s3]/\Cf (Dy s d' i) A7 AG a t') (NS (Hx (EJ (gu (JU rfl B0 CV ⟨Ab s.ln,aL,_,rfl,by unfold Ab;rw [AV];omega,_,.inl ⟨rfl,?_⟩⟩)))))))
 rw [Rf]
 refine ⟨⟨_,_,rfl,dx,aL,aS,us,BC,rfl⟩,?_,?_⟩
 ·rintro i p AQ hp ⟨s3,t',rfl,Ey⟩
  rw [BF] at hp
  obtain ⟨x,hx,rfl⟩:=Option.map_eq_some_iff.mp hp
  refine OL ?_
  obtain ⟨IL,KG,Ky,us',Gx,rfl⟩:=id Ey
  refine Uj (i:=0) (LM rfl (by decide +kernel) (DU (AO rfl (DU (AO rfl (FU ⟨_,⟨s,a,_,d',i,x,rfl,Ey,ok,hx,Es.2,qV,hn,rfl⟩,?_⟩))))))
  rintro _ t2 ⟨rfl,CM⟩
  obtain ⟨nk,Hm,rfl⟩:=CM.nd
  exact ⟨nk,Hm,rfl,_,_,rfl,CM⟩
 ·rintro AQ ⟨s3,t',rfl,Ey⟩
  rw [AV] at Ey
  obtain ⟨IL,KG,Ky,us',Gx,rfl⟩:=Ey
  refine Am (Hv (i:=0) (t:=BV (Dy s d' s.ln.length) A7 a IL KG Ky us') (DJ (AO rfl (C2 rfl ⟨true,A7,IL,Fp,a,_,rfl,rfl,B0,Df,by decide,BH,?_⟩))))
  rw [OV.FG]
  have eg:s1=⟨d'.done s.row,s.ln,s.ll.map (Lp.led s.row d'),s.sn,C0 s d' s.ln.length⟩:=by
   unfold EE at hg
   rw [W5 Es] at hg
   exact (BU hg).symm
  refine Dh (i:=0) rfl (Cg ⟨rfl,IL,KG,Ky,us',?_,?_⟩)
  ·rw [eg];exact Gx
  ·rw [eg,<- Yc,<- l1];rfl
theorem uF:Au ["self", "entry"] ["self", "entry"] (Ae XG):=⟨rfl,rfl,rfl,by decide +kernel,rfl,by decide +kernel,by decide +kernel⟩
theorem bz {A7:Addr}{AG:Addr}:∀ ss R,(WB A7 AG) ss R->ss.length=2:=by rintro _ _ ⟨s,s1,a,t,e,rfl,_,_,_,_,_,rfl⟩;rfl
theorem lM {A7:Addr}{AG:Addr}(F:AK K "follows" "Course.follows" XG f fd) (mt:Meth K A7 "follows" f) (Te:DB P w K mg base A7 "follows_begin" 6 ["self", "loop", "rule"] (Be (VF A7 AG))) (Tb:DB P w K mg base A7 "follows_deed" 9 ["self", "deed"] (Be (Pn A7 AG))) (Vu:DB P w K mg base A7 "follows_over" 6 ["self", "loop"] (Be (UX A7 AG))) (Um:DB P w K mg base A7 "follows_tell" 6 ["self", "loop", "name"] (Be (Sw A7 AG))) (B0:Bf K A7) :
  DB P w K mg base A7 "follows" 10 ["self", "entry"] (Be (WB A7 AG)):=by
 refine ⟨f,fd,F.Az (k:=9) uF (fun vs H Q E h=>Fz.G7 bz h) (fun Aa A outer s H vs Q E hr h=>?_),(F.binds (by walk_at "bD2")),mt,B0⟩
 refine ⟨_,(AB rfl (Ag (AX BP (AH AL (qv 1) A4) AW) (AD rfl (AY (FR Te hr (by decide) (qv 0) (A0 (AH AL (qv 1) A4) (A0 (AH AL (qv 1) A4) A3))))) Ah)
   (AB rfl (Ag (AX BP (AH AL (qv 1) A4) AW) (AD rfl (AY (FR Um hr (by decide) (qv 0) (A0 (AH AL (qv 1) A4) (A0 (AH AL (qv 1) A4) A3))))) Ah)
   (AB rfl (Ag (AX BP (AH AL (qv 1) A4) AW) (AD rfl (AY (FR Vu hr (by decide) (qv 0) (A0 (AH AL (qv 1) A4) A3)))) Ah)
   (AD rfl (AY (FR Tb hr (by decide) (qv 0) (A0 (qv 1) A3))))))),?_⟩
 refine Fz.JG h bz ?_
 rintro _ _ ⟨s,s1,a,t,e,rfl,hT,ok,hs,hn,hg,rfl⟩
 obtain ⟨dx,aL,aS,us,BC,rfl⟩:=id hT
 show Ws [_,_] _ _ _
 have nd:∀ {o:Option Ls}{p:PV}{t':OV},o=some s1->ET (fun s t=>Cf s A7 AG a t) s o p t'->∃ DO us',t'=.nd DO a us'/\(∃ nk a us,t'=.nd nk a us)/\p=.bl true/\Cf s1 A7 AG a t':=fun ho h=>by
  rcases h with ⟨s2,e2,rfl,h⟩ | ⟨e2,_⟩
  ·rw [ho] at e2;cases e2
   obtain ⟨nk,us,e⟩:=h.nd
   exact ⟨nk,us,e,⟨nk,a,us,e⟩,rfl,h⟩
  ·rw [ho] at e2;cases e2
 cases e with
 | Hu x r=>
  show Ws [_,.is (.tup [.str "begin", .str x,.str r])] _ _ _
  walk_at "ww"
  refine ER (by decide +kernel) ?_
  refine Lv (i:=0) rfl (LM rfl (by decide +kernel) (DU ?_))
  walk_at "ww"
  refine DU ?_
  walk_at "ww"
  exact FU ⟨_,⟨s,a,_,x,r,rfl,hT,ok,hs.1,hs.2,hn,rfl⟩,fun p t' h=>nd hg h⟩
 | tell x y=>
  show Ws [_,.is (.tup [.str "tell", .str x,.str y])] _ _ _
  walk_at "ww"
  refine B8 (by decide +kernel) (B7 ?_)
  walk_at "ww"
  refine ER (by decide +kernel) ?_
  refine Lv (i:=0) rfl (LM rfl (by decide +kernel) (DU ?_))
  walk_at "ww"
  refine DU ?_
  walk_at "ww"
  exact FU ⟨_,⟨s,a,_,x,y,rfl,hT,ok,hn,rfl⟩,fun p t' h=>nd hg h⟩
 | over x=>
  show Ws [_,.is (.tup [.str "over", .str x])] _ _ _
  walk_at "ww"
  refine B8 (by decide +kernel) (B7 ?_)
  walk_at "ww"
  refine B8 (by decide +kernel) (B7 ?_)
  walk_at "ww"
  refine ER (by decide +kernel) ?_
  refine Lv (i:=0) rfl (LM rfl (by decide +kernel) (DU ?_))
  walk_at "ww"
  exact FU ⟨_,⟨s,a,_,x,rfl,hT,ok,rfl⟩,fun p t' h=>nd hg h⟩
 | GG d=>
  have Ki:∀ (p:PV) (t':OV),p=.bl true/\Cf s1 A7 AG a t'->∃ DO us',t'=.nd DO a us'/\(∃ nk a us,t'=.nd nk a us)/\p=.bl true/\Cf s1 A7 AG a t':=fun p t' h=>by
   obtain ⟨nk,us,e⟩:=h.2.nd
   exact ⟨nk,us,e,⟨nk,a,us,e⟩,h⟩
  have fin:∀ nx,Ws [.ow true (BV s A7 a dx aL aS us),.is (aP d)] (Fn (Jo A7 "follows_deed" (Be (Pn A7 AG)) [] E0 (BG 0) (AS (BG 1) Aw))) nx (.mt fun p t'=>p=.bl true/\Cf s1 A7 AG a t'):=fun nx=>Lv (i:=0) rfl (LM rfl (by decide +kernel) (DU (AO rfl (FU ⟨_,⟨s,s1,a,_,d,rfl,hT,ok,hn,hg,rfl⟩,Ki⟩))))
  show Ws [_,.is (aP d)] _ _ _
  cases d with
  | _=>
   unfold aP at fin ⊢
   dsimp only at fin ⊢
   walk_at "ww"
   refine B8 (by decide +kernel) (B7 ?_)
   walk_at "ww"
   refine B8 (by decide +kernel) (B7 ?_)
   walk_at "ww"
   refine B8 (by decide +kernel) (B7 ?_)
   exact fin _
theorem Qy:Au ["row", "log", "course", "number", "entry"] ["row", "log"] (Ae VO):=⟨rfl,rfl,rfl,by decide +kernel,rfl,by decide +kernel,by decide +kernel⟩
theorem b4 {A7:Addr}{AG:Addr}:∀ ss R,(Vd A7 AG) ss R->ss.length=2:=by rintro _ _ ⟨tp,ns,es,s,rfl,_,_,_,_,rfl⟩;rfl
theorem nP {A7:Addr}{AG:Addr}(F:AK K "course_of" "course_of" VO f fd) (m:mg "course_of" = some (.ref f)) (WM:Mz P w K mg base A7 2 ["self", "row"] (Be (Sz A7 AG))) (Vw:DB P w K mg base A7 "follows" 10 ["self", "entry"] (Be (WB A7 AG))) (MK:mg "enumerate" = none) (T2:mg "Course" = some (.ref A7)) :
  AA P w K mg base "course_of" 11 ["row", "log"] (Bp (Vd A7 AG)):=by
 refine AA.mk F (F.binds (by walk_at "bD2")) m (F.Az (k:=10) Qy (fun vs H Q E h=>Fz.He b4 h) (fun Aa A outer s H vs Q E hr h=>?_))
 refine ⟨_,(AB rfl (Ar 2 Qy.nd (gk WM hr (by decide) T2 (A0 (qv 0) A3)))
   (AB rfl (CO (JW Ih rfl (Z6 rfl MK (A0 (qv 1) A3)) (Jk rfl (DP (CL 3 Qy.nd) (DP (CL 4 Qy.nd) Jd))) (AD rfl (Ag (FP (HQ (FR Vw hr (by decide) (qv 2) (A0 (qv 4) A3)))) (AD rfl GJ) Ah))))
   (AD rfl (AY (qv 2))))),?_⟩
 refine Fz.HL h b4 ?_
 rintro _ _ ⟨tp,ns,es,sE,rfl,hr,hs,hz,hE,rfl⟩
 show Ws [_,_,.any,.any,.any] _ _ _
 refine Am (X9 (fN (DU (AO rfl (FU fun b e=>⟨_,⟨b,e,tp,ns,rfl,rfl⟩,?_⟩)))))
 rintro _ _ ⟨rfl,aL,aS,rfl⟩
 refine ⟨rfl,_,_,rfl,?_⟩
 show Ws [.is (JX tp (ns.map .str)),.is (.lst (es.map LE.P)),.ow false (BV (CK ns) A7 b e aL aS []),.any,.any] _ _ _
 refine Am (ES (Km (fun _ i AQ=>∃ (s3 s4:Slot) (t':OV) (s:Ls),AQ=[.is (JX tp (ns.map .str)),.is (.lst (es.map LE.P)),.ow false t',s3,s4]/\runs (CK ns) (es.take i)=some s/\Cf s A7 AG b t') (cZ (Hx (AO rfl ⟨_,.inl ⟨rfl,rfl,?_⟩⟩)))))
 refine ⟨⟨_,_,_,CK ns,rfl,rfl,e,aL,aS,[],R2.nil,rfl⟩,?_,?_⟩
 ·rintro i p AQ hp ⟨s3,s4,t',s,rfl,hR,hT⟩
  obtain ⟨x0,hx,rfl⟩:=ak hp
  rw [BF] at hx
  obtain ⟨en,he,rfl⟩:=Option.map_eq_some_iff.mp hx
  have ok:=Qx (NW hr) hR
  have hl:=SG hR
  have hi:=(List.getElem?_eq_some_iff.mp he).1
  rw [CF] at hl
  have cz:(CK ns).sn.length=0:=rfl
  obtain ⟨s',g⟩:=kO hE he hR
  refine av ⟨_,_,rfl,?_⟩
  obtain ⟨IL,KG,Ky,us',Gx,rfl⟩:=id hT
  refine cU (i:=2) (Yh (gU (LM rfl (by decide +kernel) (DU (AO rfl (FU ⟨_,⟨s,s',b,_,en,rfl,hT,ok,hs en (CG he),by omega,g,rfl⟩,?_⟩))))))
  rintro _ t2 ⟨rfl,CM⟩
  obtain ⟨nk,Hm,rfl⟩:=CM.nd
  refine ⟨nk,Hm,rfl,true,rfl,Cv (B7 ⟨_,_,_,s',rfl,?_,CM⟩)⟩
  obtain ⟨GD,e2⟩:=List.getElem?_eq_some_iff.mp he
  rw [YV GD,e2,V6 hR,g]
 ·rintro AQ ⟨s3,s4,t',s,rfl,hR,hT⟩
  rw [LA,AV,MP,hE] at hR
  cases hR
  exact sL (pO rfl ⟨b,hT⟩)
theorem d4:Au ["row", "log", "loop", "course"] ["row", "log", "loop"] (Ae Sk):=⟨rfl,rfl,rfl,by decide +kernel,rfl,by decide +kernel,by decide +kernel⟩
theorem gf  : ∀ ss R,TY ss R->ss.length=3:=by rintro _ _ ⟨tp,ns,es,s,x,q,rfl,_,_,_,_,_,_,rfl⟩;rfl
theorem ZBc {A7:Addr}{AG:Addr}(F:AK K "tallied" "tallied" Sk f fd) (m:mg "tallied" = some (.ref f)) (SM:DB P w K mg base A7 "tally_of" 3 ["self", "loop"] (Bp (X0 A7 AG))) (V7:AA P w K mg base "course_of" 11 ["row", "log"] (Bp (Vd A7 AG))) (B0:Bf K A7) (DZ:BK K A7 "tallies") :
  AA P w K mg base "tallied" 12 ["row", "log", "loop"] (Bp TY):=by
 refine AA.mk F (F.binds (by walk_at "bD3")) m (F.Az (k:=11) d4 (fun vs H Q E h=>Fz.He gf h) (fun Aa A outer s H vs Q E hr h=>?_))
 refine ⟨_,(AB rfl (Ar 3 d4.nd (AZ V7 hr (A0 (qv 0) (A0 (qv 1) A3))))
   (AB rfl (Ag (Mn (Ax hr) (qv 2) (CT (qv 3))) (AD rfl GJ) Ah)
   (AD rfl (AY (FR SM hr (by decide) (qv 3) (A0 (qv 2) A3)))))),?_⟩
 refine Fz.HL h gf ?_
 rintro _ _ ⟨tp,ns,es,s,x,q,rfl,hr,hs,hz,hR,hx,hq,rfl⟩
 show Ws [_,_,_,.any] _ _ _
 refine Am (X9 (sO (FV (AO rfl (FV (AO rfl (IS ⟨_,⟨tp,ns,es,s,rfl,hr,hs,hz,hR,rfl⟩,fun u hu=>?_⟩)))))))
 obtain ⟨a,dx,aL,aS,us,BC,rfl⟩:=hu
 show Ws [_,_,_,.ow false (BV s A7 a dx aL aS us)] _ _ _
 have ok:=Qx (NW hr) hR
 refine Am (CH (EV (QL (i:=3) (AO rfl (O3 rfl B0 DZ ⟨Ab s.sn,aS,us,.inr x,rfl,rfl,_,rfl,?_⟩)))))
 rw [HM,decide_eq_true hx]
 refine B8 (by decide) (B7 ?_)
 obtain ⟨u,hu,e,b,rfl⟩:=BC.get hq
 refine FK (dO (i:=3) (C2 rfl ⟨dx,Fp,a,_,rfl,by decide +kernel,aR (AO rfl (ZA ⟨_,⟨s,us.map OV.pv,x,q,congrArg (fun p=>[Slot.is p,.is (.str x)]) aB,ok.l1,hx,?_,rfl⟩,?_⟩))⟩))
 ·rw [BF,hu]
  show some _=_
  rw [OV.pv,RE]
 ·rintro _ rfl
  exact ⟨rfl,rfl⟩
theorem kW:Au ["found"] ["found"] (Ae VX):=⟨rfl,rfl,rfl,by decide +kernel,rfl,by decide +kernel,by decide +kernel⟩
theorem Yl  : ∀ ss R,VM ss R->ss.length=1:=by rintro _ _ ⟨i,rfl,rfl⟩;rfl
theorem yc (F:AK K "_law_whole" "_law_whole" VX f fd) (m:mg "_law_whole" = some (.ref f)) (UR:mg "bool" = none) (Ge:mg "int" = none) (Kn:mg "isinstance" = none) :
  AA P w K mg base "_law_whole" 1 ["found"] (Bp VM):=by
 refine AA.mk F (F.binds (by walk_at "bD1")) m (F.Az (k:=0) kW (fun vs H Q E h=>Fz.He Yl h) (fun Aa A outer s H vs Q E hr h=>?_))
 refine ⟨_,(AD rfl (AY (Nc (B2 UY Kn (A0 (qv 0) (A0 (TQ "int" Ge) A3))) (Ko (vF (B2 UY Kn (A0 (qv 0) (A0 (TQ "bool" UR) A3)))))))),?_⟩
 refine Fz.HL h Yl ?_
 rintro _ _ ⟨i,rfl,rfl⟩
 show Ws [_] _ _ _
 refine FK (Z8 (fR (AO rfl ⟨true,Yz _ _,_,rfl,Jc ?_⟩)))
 exact fJ (fR (AO rfl ⟨false,lU _,_,rfl,rfl⟩))
theorem Fu:Au ["script", "first", "log", "wrong", "state", "handed", "turn", "name", "given", "left", "due", "found"] ["script"] (Ae Jn):=⟨rfl,rfl,rfl,by decide +kernel,rfl,by decide +kernel,by decide +kernel⟩
noncomputable def tI:Scope:={ kind:=.function,names:=[(".0", .local),("one", .local),("_law_whole", .globalImplicit)],isGenerator:=false,isCoroutine:=false,more:=[] }
theorem p8:Dd ["script", "first", "log", "wrong", "state", "handed", "turn", "name", "given", "left", "due", "found"] (Ae Jn) tI "one" [] []:=⟨rfl,by decide +kernel,by decide +kernel,rfl,rfl,by decide +kernel,by decide +kernel,by decide +kernel,by decide +kernel⟩
theorem o3 (F:AK K "law" "law" Jn f fd) (m:mg "law" = some (.ref f)) (UJ:AA P w K mg base "_law_log" 6 ["script", "rate"] (Bp (Xt K))) (Y0:AA P w K mg base "_law_whole" 1 ["found"] (Bp VM)) (W0:AA P w K mg base "tallied" 12 ["row", "log", "loop"] (Bp TY)) (IF:mg "all" = none) (MK:mg "enumerate" = none) (Kn:mg "isinstance" = none) (Ad:mg "len" = none) (Bs:mg "list" = none) (CA:mg "tuple" = none) :
  DD P w K mg base Ft 14 f fd ["script"] (ON K):=by
 refine (F.Az (k:=13) Fu (fun vs H Q E h=>by obtain ⟨a,ns,rfl,_⟩:=h;rfl) (fun Aa A outer s H vs Q E hr h=>?_))
 refine ⟨_,(AB rfl (Iq (AZ UJ hr (A0 (qv 0) (A0 A4 A3))) (Jk rfl (DP (CL 1 Fu.nd) (DP (CL 2 Fu.nd) (DP (CL 3 Fu.nd) (DP (CL 4 Fu.nd) Jd))))))
   (AB rfl (Ar 5 Fu.nd (CY KP Bs (A0 (qv 2) A3)))
   (AB rfl (CO (JW Ih rfl (Z6 rfl MK (A0 (Ea Ir (CY (RS rfl) Bs (A0 (BO (Ax hr) (qv 4) AW (fun _ _=>rfl)) A3)) GQ (Dj A4)) A3)) (Jk rfl (DP (CL 6 Fu.nd) (DP (CL 7 Fu.nd) Jd))) (AD rfl (JW Ih rfl (Gi (Ea Fz.rC (BZ (A0 (qv 1) (A0 (CY HJ CA (A0 (qv 1) A3)) A3))) (Dj (Ap Hh (qv 6) A4)) (Dj (Ap D2 (Ap Hh (qv 6) A4) A4)))) (CL 8 Fu.nd) (AB rfl (Ar 9 Fu.nd A4)
   (AB rfl (CO (Ag (XY (Ax hr) (qv 7) (BO (Ax hr) (qv 4) AW (fun _ _=>rfl))) (AD rfl (Ar 9 Fu.nd (B2 Cu Ad (A0 (AH AL (BO (Ax hr) (BO (Ax hr) (qv 4) AW (fun _ _=>rfl)) (qv 7) (fun _ _=>rfl)) A4) A3)))) Ah))
   (AB rfl (Ar 10 Fu.nd (CY HJ CA (A0 (Ap Im (BO (Ax hr) (BO (Ax hr) (qv 4) AW (fun _ _=>rfl)) (qv 7) (fun _ _=>rfl)) (Gd (A0 (qv 9) A3))) A3)))
   (AB rfl (Ar 11 Fu.nd (AZ W0 hr (A0 (qv 8) (A0 (qv 5) (A0 (qv 7) A3)))))
   (AB rfl (Ag (Ee (FP (HQ (B2 UY Kn (A0 (qv 11) (A0 (TQ "tuple" CA) A3))))) (Ee (FP (HQ (B2 (WG rfl) IF (A0 (IV rfl p8 (Gi (qv 11)) (fun _ _ _ _=>by exact Wv) (fun _ _ _ _=>by exact (AZ Y0 hr (A0 (qv 0) A3)))) A3)))) (Gu (AX (kM hr.units) (qv 11) (qv 10))))).pt (AD rfl (AY D9)) Ah)
   (AD rfl (Ag (AX J5 (Ap D2 (AH AL (qv 11) A4) (AH AL (qv 11) A4)) (Ap D2 (Ap D2 (AH AL (qv 11) A4) (AH AL (qv 11) A4)) (AH AL (qv 11) A4))) (AD rfl (AY D9)) Ah)))))))))))
   (AD rfl (AY (Gh (xp hr.units) (qv 5) (qv 2))))))),?_⟩
 refine Fz.wb h ?_
 intro sc Pp
 show Ws [_,.any,.any,.any,.any,.any,.any,.any,.any,.any,.any,.any] _ _ _
 refine Am (dr (wp_call (qP rfl (FV (Bg (IS ⟨_,⟨sc,rfl,Pp,rfl⟩,?_⟩))))))
 rintro _ ⟨ns,es,s,rfl,hr,hs,hz,hR⟩
 refine kK ⟨_,_,_,_,rfl,?_⟩
 have ok:=Qx (NW hr) hR
 have sl:=SG hR
 have rK:(CK ns).sn.length=0:=rfl
 refine Am (P5 (Nj rfl (Vz (i:=2) rfl ?_)))
 refine O6 5 rfl ?_
 show Ws [.raw (DW K sc),.is (.lst (ns.map .str)),.is (.lst (es.map LE.P)),.is .AF,.is (FC s),.is (.lst (es.map LE.P)),.any,.any,.any,.any,.any,.any] _ _ _
 refine Am (ES (Km (fun _ i AQ=>∃ s6 s7 s8 s9 D5 Hi:Slot,AQ=[.raw (DW K sc),.is (.lst (ns.map .str)),.is (.lst (es.map LE.P)),.is .AF,.is (FC s),.is (.lst (es.map LE.P)),s6,s7,s8,s9,D5,Hi]) (cZ (Hx (EJ (Zk ?_))))))
 refine BD (EJ (i4 (FO (AO rfl ⟨k3,_,rfl,EW ⟨.inr "sums", _,rfl,rfl,Ab s.sn,_,rfl,by unfold Ab;rw [AV];omega,_,.inl ⟨rfl,rfl,?_⟩⟩⟩))))
 rw [Rf]
 walk_at "ww"
 refine ⟨⟨_,_,_,_,_,_,rfl⟩,?_,?_⟩
 ·rintro i p AQ hp ⟨s6,s7,s8,s9,D5,Hi,rfl⟩
  obtain ⟨x0,lR,rfl⟩:=ak hp
  obtain ⟨x,hx,rfl⟩:∃ x,x∈s.sn/\x0=.str x:=by
   have h1:=ZP (CG lR)
   obtain ⟨x,h2,h3⟩:=List.mem_map.mp h1
   exact ⟨x,h2,h3.symm⟩
  obtain ⟨q,eq⟩:∃ q,s.sq[s.sn.idxOf x]?=some q:=⟨_,B1 (by have:=List.idxOf_lt_length_iff.mpr hx;have:=ok.l2;omega)⟩
  refine av ⟨_,_,rfl,?_⟩
  show Ws [.raw (DW K sc),.is (.lst (ns.map .str)),.is (.lst (es.map LE.P)),.is .AF,.is (FC s),.is (.lst (es.map LE.P)),.is (.int i),.is (.str x),s8,s9,D5,Hi] _ _ _
  refine Km (fun _ i2 AQ=>∃ s8 s9 D5 Hi:Slot,AQ=[.raw (DW K sc),.is (.lst (ns.map .str)),.is (.lst (es.map LE.P)),.is .AF,.is (FC s),.is (.lst (es.map LE.P)),.is (.int i),.is (.str x),s8,s9,D5,Hi]) ?_
  walk_at "ww"
  refine ⟨by show 2<=100000;decide,_,.inr ⟨rfl,?_⟩⟩
  walk_at "ww"
  refine ⟨by decide,?_⟩
  walk_at "ww"
  refine ⟨by decide,?_⟩
  walk_at "ww"
  refine ⟨⟨_,_,_,_,rfl⟩,?_,?_⟩
  ·rintro i2 p AQ EK ⟨s8,s9,D5,Hi,rfl⟩
   refine OL ?_
   obtain ⟨tp,rfl⟩:∃ tp:Bool,p=JX tp (ns.map .str):=by
    have h1:=ZP (CG EK)
    rcases List.mem_cons.mp h1 with h | h
    ·exact ⟨false,h⟩
    ·exact ⟨true,List.mem_singleton.mp h⟩
   refine Am (G2 (Bg ?_))
   refine bu (fun AQ=>AQ=[.raw (DW K sc),.is (.lst (ns.map .str)),.is (.lst (es.map LE.P)),.is .AF,.is (FC s),.is (.lst (es.map LE.P)),.is (.int i),.is (.str x),.is (JX tp (ns.map .str)),.is (.int (BR s x).length),D5,Hi]) ?_ ?_
   ·refine ES (CH (EV (yG (AO rfl (FO (AO rfl ⟨k3,_,rfl,EW ⟨.inr "live", _,rfl,rfl,Ab s.ln,_,.inr x,rfl,rfl,_,rfl,?_⟩⟩))))))
    rw [HM]
    refine Af (fun c=>?_) (fun c=>?_)
    ·have xm:=of_decide_eq_true c
     obtain ⟨i3,l,h1,h2,h3⟩:=Qn ok xm
     refine G2 (CU (BD (EH (BD (FO (FO (AO rfl ⟨k3,_,rfl,EW ⟨.inr "live", _,rfl,rfl,Ab s.ln,_,rfl,AO rfl ⟨.inr x,l.P,rfl,LF xm (by rw [GY ok.n1 h1,BF,h2];rfl),_,.inr ⟨rfl,rfl,Bg ⟨_,_,rfl,rfl,_,.inr ⟨rfl,?_⟩⟩⟩⟩⟩⟩)))))))
     rw [AV,h3];rfl
    ·rw [Hg ok.l1 fun h=>c (decide_eq_true h)]
     exact B7 rfl
   rintro _ rfl
   refine Am (G2 (Xf rfl (BD (EJ (fD (BD (FO (FO (AO rfl ⟨k3,_,rfl,EW ⟨.inr "sums", _,rfl,rfl,Ab s.sn,_,rfl,AO rfl ⟨.inr x,.lst (Dc q),rfl,LF hx (by rw [BF,eq];rfl),_,.inl ⟨rfl,rfl,?_⟩⟩⟩⟩)))))))))
   refine BD (EJ (aT (Fh (AO rfl (IM ⟨by show 1<=100000;decide,_,.inl ⟨rfl,rfl,by show 5<=100000;decide,_,.inl ⟨rfl,?_⟩⟩⟩)))))
   have b:=tU (NW hr) (tW ns) hR _ x q (Ei hx) eq
   refine Am (G2 (wp_call (FV (AO rfl (FV (AO rfl (FV (AO rfl (IS ⟨_,⟨tp,ns,es,s,x,q,rfl,hr,hs,hz,hR,hx,eq,rfl⟩,?_⟩)))))))))
   rintro _ rfl
   rw [vP]
   generalize hn:(BR s x).length=n at b ⊢
   show Ws [.raw (DW K sc),.is (.lst (ns.map .str)),.is (.lst (es.map LE.P)),.is .AF,.is (FC s),.is (.lst (es.map LE.P)),.is (.int i),.is (.str x),.is (JX tp (ns.map .str)),.is (.int n),.is (.tup ((Lu q n).map .int)),.is (.tup ((Lu q n).map .int))] _ _ _
   refine Am (CH (Gn (KR (EV (nI (FH (i:=11) rfl ⟨true,Yz _ _,_,rfl,B8 (by decide) ?_⟩))))))
   refine Gn (KR (EV (gM rfl (BD (EJ (iA PV.int (fun _=>true) (fun _=>.bl true) (NS (Hx (AO rfl ⟨_,.inr ⟨rfl,Lu q n,rfl,by show 5<=100000;decide,fun z hz=>dF rfl,fun z hz _=>?_,?_⟩⟩))) zy))))))
   ·exact wp_call (FV (AO rfl (IS ⟨_,⟨z,rfl,rfl⟩,fun _ h=>h⟩)))
   refine ⟨_,.inl ⟨rfl,rfl,(Lu q n).map fun _=>true,by rw [List.filter_eq_self.mpr fun _ _=>rfl,HD];rfl,_,rfl,B8 (by simp [Lu]) ?_⟩⟩
   refine DT (zb (AO rfl (AO rfl ⟨rfl,_,rfl,wV _,_,rfl,B8 (by decide) (B7 ?_)⟩)))
   walk_at "ww"
   have e5:alike (.int ((q.stood:Int)+q.joined)) (.int ((q.told:Int)+q.taken+n))=true:=decide_eq_true (show (q.stood:Int)+q.joined=(q.told:Int)+q.taken+n by omega)
   rw [e5]
   exact Cv (B7 ⟨_,_,_,_,rfl⟩)
  ·rintro AQ ⟨s8,s9,D5,Hi,rfl⟩
   exact ⟨_,_,_,_,_,_,rfl⟩
 ·rintro AQ ⟨s6,s7,s8,s9,D5,Hi,rfl⟩
  exact FK (ZAf (AO rfl (AO rfl ⟨rfl,_,rfl,pQ _,rfl⟩)))
theorem all_mk {l:PySem.W.OpenLaw}{w:World}{K:ZCy}{h:Heap}{mg:ZD0}{fa f1 f2 f3 f4 f5 f6 f7 f8 f9 bS eN dR bh fe cq bP bx fq d5 dS iD RL RX R9 PU cJ eR Zt Po Yn cb iB QJ Qg gX aE gz bw fX i6 Qi ZK Yw hX h7 gc ba c7 ao Ov Pb Zr gW ZC Yg:Addr}{g1 g2 g3 g4 g5 g6 g7 g8 g9 zA jt vM pC g14 jy pF va zU x9 k8 zI j7 lS vk uQ xv g27 xc qt g30 pq oO wN g34 vt mP wX u3 nL wR x6 zc z5 mr zG vK z7 x5 yd xW yU vY zg yI tV:FuncData}(X:K.In h) (G:h.Ns mainGlobals mg) (tZ:mg "law" = some (.ref fa))
  {SH:Tok}{T8:Tok}{UN:Tok}{FT:Addr}
  {A7:Addr}(xI:PySem.W.nsIn K mainGlobals "Course" = some (some (.ref A7)))
  (tJ:PySem.W.plainGet K A7 Str.empty=true)
  (oB:PySem.W.hasDictIn K A7=true)
  (ux:PySem.W.plainOver K A7=true)
  (mB:PySem.W.findIn K (.ref A7) "__setattr__" = some (some (.builtin "object.__setattr__")))
  (rb:PySem.W.makesIn K A7=true)
  (lC:PySem.W.keepIn K (.ref A7)=true)
  {AG:Addr}(qY:PySem.W.nsIn K mainGlobals "Tally" = some (some (.ref AG)))
  (uA:PySem.W.plainGet K AG Str.empty=true)
  (kS:PySem.W.hasDictIn K AG=true)
  (ZBd:PySem.W.plainOver K AG=true)
  (ZAG:PySem.W.findIn K (.ref AG) "__setattr__" = some (some (.builtin "object.__setattr__")))
  (ZA3:PySem.W.makesIn K AG=true)
  (rO:PySem.W.keepIn K (.ref AG)=true)
  (CV:PySem.W.findIn K (.ref A7) "running" = some none)
  (Df:PySem.W.findIn K (.ref A7) "standing" = some none)
  (DZ:PySem.W.findIn K (.ref A7) "tallies" = some none)
  (IP:PySem.W.findIn K (.ref AG) "joined" = some none)
  (M7:PySem.W.findIn K (.ref AG) "stood" = some none)
  (IY:PySem.W.findIn K (.ref AG) "taken" = some none)
  (Hn:PySem.W.findIn K (.ref AG) "told" = some none)
  (a1:nS K "_law_pot" (.ref f1)) (F1:AK K "_law_pot" "_law_pot" VJ f1 g1)
  (a2:nS K "_law_take" (.ref f2)) (F2:AK K "_law_take" "_law_take" Sb f2 g2)
  (a3:nS K "_law_letters" (.ref f3)) (F3:AK K "_law_letters" "_law_letters" Xr f3 g3)
  (a4:nS K "_law_name" (.ref f4)) (F4:AK K "_law_name" "_law_name" WI f4 g4)
  (a5:nS K "_law_names" (.ref f5)) (F5:AK K "_law_names" "_law_names" Vs f5 g5)
  (a6:nS K "_law_row" (.ref f6)) (F6:AK K "_law_row" "_law_row" SI f6 g6)
  (a7:nS K "_law_deed" (.ref f7)) (F7:AK K "_law_deed" "_law_deed" V4 f7 g7)
  (a8:nS K "_law_rule" (.ref f8)) (F8:AK K "_law_rule" "_law_rule" WC f8 g8)
  (a9:nS K "_law_step" (.ref f9)) (F9:AK K "_law_step" "_law_step" Np f9 g9)
  (mT:nS K "_law_good_entry" (.ref bS)) (jD:AK K "_law_good_entry" "_law_good_entry" Y4 bS zA)
  (si:nS K "_law_done" (.ref eN)) (yV:AK K "_law_done" "_law_done" Pa eN jt)
  (oH:nS K "_law_is_name" (.ref dR)) (yZ:AK K "_law_is_name" "_law_is_name" QH dR vM)
  (xu:nS K "_law_deed_right" (.ref bh)) (F13:AK K "_law_deed_right" "_law_deed_right" Tf bh pC)
  (jG:nS K "_law_gap" (.ref fe)) (qe:AK K "_law_gap" "_law_gap" Ue fe g14)
  (sP:nS K "_law_led" (.ref cq)) (lB:AK K "_law_led" "_law_led" Py cq jy)
  (a16:nS K "_law_counted" (.ref bP)) (oE:AK K "_law_counted" "_law_counted" VI bP pF)
  (vo:nS K "_law_stirred" (.ref bx)) (F17:AK K "_law_stirred" "_law_stirred" XU bx va)
  (vZ:nS K "_law_begun" (.ref fq)) (u4:AK K "_law_begun" "_law_begun" Xv fq zU)
  (tE:nS K "_law_begins" (.ref d5)) (yO:AK K "_law_begins" "_law_begins" X3 d5 x9)
  (sY:nS K "_law_goes" (.ref dS)) (pM:AK K "_law_goes" "_law_goes" RZ dS k8)
  (ql:nS K "_law_log" (.ref iD)) (ja:AK K "_law_log" "_law_log" UE iD zI)
  (wD:PySem.W.findIn K (.ref A7) "coming" = some (some (.ref RL))) (eF:AK K "coming" "Course.coming" Tc RL j7)
  (vy:PySem.W.isFn K (.ref RL)=true)
  (a23:PySem.W.findIn K (.ref A7) "tally_of" = some (some (.ref RX))) (Ye:AK K "tally_of" "Course.tally_of" Xb RX lS)
  (oK:PySem.W.isFn K (.ref RX)=true)
  (yq:PySem.W.findIn K (.ref A7) "__init__" = some (some (.ref R9))) (yy:AK K "__init__" "Course.__init__" U9 R9 vk)
  (zu:PySem.W.isFn K (.ref R9)=true)
  (yf:PySem.W.findIn K (.ref AG) "__init__" = some (some (.ref PU))) (jm:AK K "__init__" "Tally.__init__" SX PU uQ)
  (rg:PySem.W.isFn K (.ref PU)=true)
  (zF:nS K "check_rule" (.ref cJ)) (vB:AK K "check_rule" "check_rule" Xy cJ xv)
  (pT:nS K "begun" (.ref eR)) (og:AK K "begun" "begun" Ux eR g27)
  (jg:nS K "is_name" (.ref Zt)) (uN:AK K "is_name" "is_name" Oq Zt xc)
  (uw:PySem.W.findIn K (.ref A7) "follows_begin" = some (some (.ref Po))) (cE:AK K "follows_begin" "Course.follows_begin" W8 Po qt)
  (mh:PySem.W.isFn K (.ref Po)=true)
  (mq:nS K "coming_without" (.ref Yn)) (sN:AK K "coming_without" "coming_without" Qp Yn g30)
  (kT:nS K "place_of" (.ref cb)) (lx:AK K "place_of" "place_of" XQ cb pq)
  (a32:nS K "loop_telling" (.ref iB)) (wZ:AK K "loop_telling" "loop_telling" U5 iB oO)
  (u9:PySem.W.findIn K (.ref A7) "follows_tell" = some (some (.ref QJ))) (dH:AK K "follows_tell" "Course.follows_tell" XT QJ wN)
  (mi:PySem.W.isFn K (.ref QJ)=true)
  (qS:PySem.W.findIn K (.ref A7) "follows_over" = some (some (.ref Qg))) (bT:AK K "follows_over" "Course.follows_over" U2 Qg g34)
  (nO:PySem.W.isFn K (.ref Qg)=true)
  (yD:nS K "gap_behind_put" (.ref gX)) (nZ:AK K "gap_behind_put" "gap_behind_put" TR gX vt)
  (a36:nS K "gap_behind_take" (.ref aE)) (pd:AK K "gap_behind_take" "gap_behind_take" Vl aE mP)
  (a37:nS K "gap_led" (.ref gz)) (xZ:AK K "gap_led" "gap_led" U0 gz wX)
  (xR:nS K "joins" (.ref bw)) (F38:AK K "joins" "joins" Wu bw u3)
  (oF:nS K "coming_behind" (.ref fX)) (qO:AK K "coming_behind" "coming_behind" SY fX nL)
  (a40:nS K "loop_led" (.ref i6)) (F40:AK K "loop_led" "loop_led" VU i6 wR)
  (jN:PySem.W.findIn K (.ref A7) "lead" = some (some (.ref Qi))) (dY:AK K "lead" "Course.lead" Th Qi x6)
  (mS:PySem.W.isFn K (.ref Qi)=true)
  (qx:nS K "check_put" (.ref ZK)) (uT:AK K "check_put" "check_put" VN ZK zc)
  (rR:nS K "check_move" (.ref Yw)) (jI:AK K "check_move" "check_move" XX Yw z5)
  (pR:nS K "check_turn" (.ref hX)) (kH:AK K "check_turn" "check_turn" VW hX mr)
  (vw:nS K "check_deed" (.ref h7)) (F45:AK K "check_deed" "check_deed" WQ h7 zG)
  (mH:nS K "row_turned" (.ref gc)) (ka:AK K "row_turned" "row_turned" U1 gc vK)
  (vQ:nS K "row_with" (.ref ba)) (qp:AK K "row_with" "row_with" Uw ba z7)
  (jJ:nS K "row_without" (.ref c7)) (xw:AK K "row_without" "row_without" RQ c7 x5)
  (xn:nS K "done" (.ref ao)) (F49:AK K "done" "done" Uq ao yd)
  (uY:PySem.W.findIn K (.ref A7) "follows_deed" = some (some (.ref Ov))) (di:AK K "follows_deed" "Course.follows_deed" UP Ov xW)
  (oU:PySem.W.isFn K (.ref Ov)=true)
  (uz:PySem.W.findIn K (.ref A7) "follows" = some (some (.ref Pb))) (fE:AK K "follows" "Course.follows" XG Pb yU)
  (rB:PySem.W.isFn K (.ref Pb)=true)
  (wq:nS K "course_of" (.ref Zr)) (nK:AK K "course_of" "course_of" VO Zr vY)
  (kJ:nS K "tallied" (.ref gW)) (xt:AK K "tallied" "tallied" Sk gW zg)
  (jO:nS K "_law_whole" (.ref ZC)) (xU:AK K "_law_whole" "_law_whole" VX ZC yI)
  (aM:nS K "law" (.ref Yg)) (dm:AK K "law" "law" Jn Yg tV)
  (qI:nN K "all")
  (o5:nN K "bool")
  (qJ:nN K "enumerate")
  (ZBG:nN K "int")
  (nc:nN K "isinstance")
  (mJ:nN K "len")
  (ZBV:nN K "list")
  (lY:nN K "max")
  (ZAU:nN K "min")
  (jZ:nN K "range")
  (pY:nN K "reversed")
  (xH:nN K "sorted")
  (yo:nN K "tuple")
  (jT:nS K "LETTERS" (.str "abcdefghijklmnopqrstuvwxyz" SH))
  (zM:nS K "MOST_LETTERS" (.int 8 T8))
  (lN:nS K "MOST_THINGS" (.int 40 UN))
  (pJ:nS K "RULES" (.ref FT))
  {xG:Option Addr}{ZAp:Array (Option Value)}{ZAW:Nat}{ZBA qR ZA1:Tok}(sg:K.lookup FT=some ⟨.type "tuple", xG,.seq #[.str "none" ZBA,.str "ahead" qR,.str "all" ZA1] ZAW,ZAp⟩)
  {N2:Addr}(uO:nS K "StirError" (.ref N2))
  : ∃ fd:FuncData,(∀ (s:Shared) (v:Value),BindsTo s fd ⟨[v],[]⟩ [("script", v)])/\∀ base:Heap,K.In base->base.Ns mainGlobals mg->DD l.prog w K mg base Ft 14 fa fd ["script"] (ON K):=by
 have e:=tZ.symm.trans (B5 X G aM)
 cases e
 have B0:Bf K A7:=⟨tJ,oB,ux,mB⟩
 have DH:Bf K AG:=⟨uA,kS,ZBd,ZAG⟩
 have xT:Meth K A7 "coming" RL:=⟨wD,vy,eF.kp⟩
 have jL:Meth K A7 "tally_of" RX:=⟨a23,oK,Ye.kp⟩
 have xA:Mk K A7 R9:=⟨rb,yq,zu,lC⟩
 have ZAA:Mk K AG PU:=⟨ZA3,yf,rg,rO⟩
 have ZBU:Meth K A7 "follows_begin" Po:=⟨uw,mh,cE.kp⟩
 have vL:Meth K A7 "follows_tell" QJ:=⟨u9,mi,dH.kp⟩
 have vD:Meth K A7 "follows_over" Qg:=⟨qS,nO,bT.kp⟩
 have ZB4:Meth K A7 "lead" Qi:=⟨jN,mS,dY.kp⟩
 have rM:Meth K A7 "follows_deed" Ov:=⟨uY,oU,di.kp⟩
 have ot:Meth K A7 "follows" Pb:=⟨uz,rB,fE.kp⟩
 have IF:=GV X G qI
 have UR:=GV X G o5
 have MK:=GV X G qJ
 have Ge:=GV X G ZBG
 have Kn:=GV X G nc
 have Ad:=GV X G mJ
 have Bs:=GV X G ZBV
 have Ts:=GV X G lY
 have TF:=GV X G ZAU
 have Kx:=GV X G jZ
 have LR:=GV X G pY
 have Eb:=GV X G xH
 have CA:=GV X G yo
 have To:=B5 X G jT
 have Ta:=B5 X G zM
 have UT:=B5 X G lN
 have MF:=B5 X G pJ
 have ME:∀ H,A9 K H FT [.str "none", .str "ahead", .str "all"]:=fun H=>.inr ⟨_,_,_,sg,rfl,rfl,(by show 3<=sizeLine;decide +kernel),(.cons ⟨_,rfl⟩ (.cons ⟨_,rfl⟩ (.cons ⟨_,rfl⟩ .nil)))⟩
 have T2:=B5 X G xI
 have Xu:=B5 X G uO
 have WL:=B5 X G qY
 obtain ⟨_,_,kV,dc,pm,an,cd,ct,_,rfl,_,_⟩:=id dm.ex
 refine ⟨PySem.W.fnOf "law" "law" (NC Jn) (Jy Jn) (Ae Jn) .none kV dc pm an cd ct,fun s v=>.of_eq rfl,fun base _ _=>?_⟩
 have PQ:=vA (P:=l.prog) (w:=w) (base:=base)  F1  (B5 X G a1) Ad
 have BW:=ZBJ (P:=l.prog) (w:=w) (base:=base)  F2  (B5 X G a2)
 have Ma:=um (P:=l.prog) (w:=w) (base:=base)  F3  (B5 X G a3)
 have Hy:=yC (P:=l.prog) (w:=w) (base:=base)  F4  (B5 X G a4) Ma BW Ad
 have UH:=vJ (P:=l.prog) (w:=w) (base:=base)  F5  (B5 X G a5) Hy Kx
 have Xo:=ZBD (P:=l.prog) (w:=w) (base:=base)  F6  (B5 X G a6) UH BW
 have WJ:=ZBH (P:=l.prog) (w:=w) (base:=base)  F7  (B5 X G a7) Hy BW Ad
 have Uc:=ZB5 (P:=l.prog) (w:=w) (base:=base)  F8  (B5 X G a8) BW
 have Ua:=wL (P:=l.prog) (w:=w) (base:=base)  F9  (B5 X G a9) CA
 have Y9:=mm (P:=l.prog) (w:=w) (base:=base)  jD  (B5 X G mT) WJ Hy Uc Ua BW Ad Bs Eb
 have Xm:=xh (P:=l.prog) (w:=w) (base:=base)  yV  (B5 X G si) Bs LR
 have L9:=ZBK (P:=l.prog) (w:=w) (base:=base)  yZ  (B5 X G oH) IF Ad
 have XB:=rT (P:=l.prog) (w:=w) (base:=base)  F13  (B5 X G xu) L9 Ad
 have WZ:=ZAi (P:=l.prog) (w:=w) (base:=base)  qe  (B5 X G jG) Ge
 have XZ:=yN (P:=l.prog) (w:=w) (base:=base)  lB  (B5 X G sP) WZ Eb CA
 have Jp:=oZ (P:=l.prog) (w:=w) (base:=base)  oE  (B5 X G a16)
 have XE:=rL (P:=l.prog) (w:=w) (base:=base)  F17  (B5 X G vo) Jp XB Xm XZ Ad Bs
 have Y7:=wt (P:=l.prog) (w:=w) (base:=base)  u4  (B5 X G vZ) Eb CA
 have WD:=yu (P:=l.prog) (w:=w) (base:=base)  yO  (B5 X G tE) Y7 L9 Ad
 have VA:=mK (P:=l.prog) (w:=w) (base:=base)  pM  (B5 X G sY) WD Jp XE CA
 have UJ:=mx (P:=l.prog) (w:=w) (base:=base)  ja  (B5 X G ql) VA Y9 PQ Xo BW Ge Ad Bs Ts TF Kx
 have Eo:=vb (P:=l.prog) (w:=w) (mg:=mg) (base:=base) (A7:=A7) eF  xT B0 CV
 have SM:=mW (P:=l.prog) (w:=w) (mg:=mg) (base:=base) (A7:=A7) (AG:=AG) Ye  jL Eo Ad B0 DH DZ IP M7 IY Hn
 have WM:=wC (P:=l.prog) (w:=w) (mg:=mg) (base:=base) (A7:=A7) (AG:=AG) yy  xA Bs B0 CV Df DZ
 have WR:=vI (P:=l.prog) (w:=w) (mg:=mg) (base:=base) (AG:=AG) jm  ZAA DH IP M7 IY Hn
 have TL:=uu (P:=l.prog) (w:=w) (base:=base)  vB  (B5 X G zF) MF ME
 have Vt:=ur (P:=l.prog) (w:=w) (base:=base)  og  (B5 X G pT) TL Eb CA
 have Ly:=kj (P:=l.prog) (w:=w) (base:=base)  uN  (B5 X G jg) IF Ad To Ta
 have Te:=xY (P:=l.prog) (w:=w) (mg:=mg) (base:=base) (A7:=A7) (AG:=AG) cE  ZBU WR Vt Ly Ad MF ME WL B0 CV Df DZ
 have LX:=rF (P:=l.prog) (w:=w) (base:=base)  sN  (B5 X G mq) CA
 have Fd:=oV (P:=l.prog) (w:=w) (base:=base)  lx  (B5 X G kT)
 have TM:=oS (P:=l.prog) (w:=w) (base:=base)  wZ  (B5 X G a32) LX Fd
 have Um:=mf (P:=l.prog) (w:=w) (mg:=mg) (base:=base) (A7:=A7) (AG:=AG) dH  vL Eo TM B0 DH CV Df DZ Hn
 have Vu:=tP (P:=l.prog) (w:=w) (mg:=mg) (base:=base) (A7:=A7) (AG:=AG) bT  vD Eo Ad B0 CV
 have Q3:=zd (P:=l.prog) (w:=w) (base:=base)  nZ  (B5 X G yD)
 have Ph:=pV (P:=l.prog) (w:=w) (base:=base)  pd  (B5 X G a36)
 have T1:=qK (P:=l.prog) (w:=w) (base:=base)  xZ  (B5 X G a37) Q3 Ph Fd
 have SK:=yp (P:=l.prog) (w:=w) (base:=base)  F38  (B5 X G xR)
 have SU:=jw (P:=l.prog) (w:=w) (base:=base)  qO  (B5 X G oF) LX SK Eb CA
 have UG:=ZB0 (P:=l.prog) (w:=w) (base:=base)  F40  (B5 X G a40) SU T1
 have Sd:=ZAk (P:=l.prog) (w:=w) (mg:=mg) (base:=base) (A7:=A7) (AG:=AG) dY  ZB4 Eo UG Ad B0 DH CV Df DZ IP IY
 have Sl:=zk (P:=l.prog) (w:=w) (base:=base)  uT  (B5 X G qx) Ly Ad UT
 have TU:=j6 (P:=l.prog) (w:=w) (base:=base)  jI  (B5 X G rR) Fd Ad
 have Vm:=ZAJ (P:=l.prog) (w:=w) (base:=base)  kH  (B5 X G pR) Ad
 have Uk:=ZBb (P:=l.prog) (w:=w) (base:=base)  F45  (B5 X G vw) TU Sl Vm Fd
 have Tt:=jo (P:=l.prog) (w:=w) (base:=base)  ka  (B5 X G mH) Bs LR
 have Ra:=yL (P:=l.prog) (w:=w) (base:=base)  qp  (B5 X G vQ) Bs
 have QX:=pI (P:=l.prog) (w:=w) (base:=base)  xw  (B5 X G jJ)
 have Uu:=yE (P:=l.prog) (w:=w) (base:=base)  F49  (B5 X G xn) Uk Tt Ra QX
 have Tb:=wz (P:=l.prog) (w:=w) (mg:=mg) (base:=base) (A7:=A7) (N2:=N2) (AG:=AG) di  rM Sd Uu Bs Xu B0 CV Df
 have Vw:=lM (P:=l.prog) (w:=w) (mg:=mg) (base:=base) (A7:=A7) (AG:=AG) fE  ot Te Tb Vu Um B0
 have V7:=nP (P:=l.prog) (w:=w) (base:=base) (A7:=A7) (AG:=AG) nK  (B5 X G wq) WM Vw MK T2
 have W0:=ZBc (P:=l.prog) (w:=w) (base:=base) (A7:=A7) (AG:=AG) xt  (B5 X G kJ) SM V7 B0 DZ
 have Y0:=yc (P:=l.prog) (w:=w) (base:=base)  xU  (B5 X G jO) UR Ge Kn
 exact o3 (P:=l.prog) (w:=w) (base:=base)  dm  (B5 X G aM) UJ Y0 W0 IF MK Kn Ad Bs CA
theorem walk {l:PySem.W.OpenLaw}{q:Program}{loose:List Str}{XP:(ZD0)->Heap->Prop}{YP:World->Heap->Prop}{d:DefRec}{K:Params->ZCy}(hn:l.most=some 63) (MU:d.params.defaults=[])
  (hY:∀ (w:World) (h:Heap),YP w h->(K w.params).In h)
  (F:∀ (w:World) (mg:ZD0) (fa:Addr) (h:Heap),(K w.params).In h->h.Ns mainGlobals mg->mg d.name=some (.ref fa)->
   ∃ fd:FuncData,(∀ (s:Shared) (u:Value),BindsTo s fd ⟨[u],[]⟩ [("script", u)])/\∀ base:Heap,(K w.params).In base->base.Ns mainGlobals mg->DD l.prog w (K w.params) mg base Ft 14 fa fd ["script"] (ON (K w.params))) :
  PySem.W.WalkO q loose XP YP l.row.toRowW d [] (fun f vs=>PySem.call f vs):=
 L2.pN (n:=63) (k:=14) (x := "script") (CX:=fun _=>Ft) (sp:=fun w=>ON (K w.params)) hn (by decide) MU ⟨rfl,by decide,by decide⟩ hY F (fun _ _ a ns hl _ hS=>⟨a,ns,rfl,hS,hl,fun _=>rfl⟩) fun _ _ _ _ _ z=>z
end Pf
open PySem.W
local macro_rules | `(tactic| walk_at "kF")=>`(tactic| (refine' L2.w8 ?_ ?_ ?_;all_goals try k_is;all_goals k_is))
set_option maxRecDepth 100000 in
set_option maxHeartbeats 0 in
theorem PySem.Challenge.cw_stirround_k23_tallies_holds : PySem.Challenge.rw_stirround_k23_tallies.Holds := by
 w_on;o_law;k_head;(case hw=>w_witness2)
 k_fill
 refine Pf.walk (l:=PySem.Challenge.rw_stirround_k23_tallies) rfl rfl (fun w h Y=>PySem.W.kIn_of Y) ?F
 case F=>
  intro w mg fa h KX G N4
  refine' Pf.all_mk KX G N4 ?_ ?_ ?_ ?_ ?_ ?_ ?_ ?_ ?_ ?_ ?_ ?_ ?_ ?_ ?_ ?_ ?_ ?_ ?_ ?_ ?_ ?_ ?_ ?_ ?_ ?_ ?_ ?_ ?_ ?_ ?_ ?_ ?_ ?_ ?_ ?_ ?_ ?_ ?_ ?_ ?_ ?_ ?_ ?_ ?_ ?_ ?_ ?_ ?_ ?_ ?_ ?_ ?_ ?_ ?_ ?_ ?_ ?_ ?_ ?_ ?_ ?_ ?_ ?_ ?_ ?_ ?_ ?_ ?_ ?_ ?_ ?_ ?_ ?_ ?_ ?_ ?_ ?_ ?_ ?_ ?_ ?_ ?_ ?_ ?_ ?_ ?_ ?_ ?_ ?_ ?_ ?_ ?_ ?_ ?_ ?_ ?_ ?_ ?_ ?_ ?_ ?_ ?_ ?_ ?_ ?_ ?_ ?_ ?_ ?_ ?_ ?_ ?_ ?_ ?_ ?_ ?_ ?_ ?_ ?_ ?_ ?_ ?_ ?_ ?_ ?_ ?_ ?_ ?_ ?_ ?_ ?_ ?_ ?_ ?_ ?_ ?_ ?_ ?_ ?_ ?_ ?_ ?_ ?_ ?_ ?_ ?_ ?_ ?_ ?_ ?_ ?_ ?_ ?_ ?_ ?_ ?_ ?_ ?_ ?_
  any_goals first | k_is | (show _=_;k_is) | kernel_rfl | walk_at "kF"
#print axioms PySem.Challenge.cw_stirround_k23_tallies_holds
