import PyProof.Rows.All
import Wide.All
import OpenK.AllK
import Wide.FinOn
import Lean
import PyProof.EqAt
import PyProof.EqKinds
import PyProof.TupleCall
import KE.KRevIter
import PyProof.CallType
import PyProof.EnumMake
import PyProof.EnumFor
import PyProof.Rows.SortStr
import PyProof.Rows.TupAdd
import KE.KLcPair
import PyProof.Draws
import PyProof.TupleIter
import PyProof.IsRules
import PyProof.ListRange
import PyProof.Rows.Range3
import PyProof.Rows.ChunkLeaf
import PyProof.NeKinds
import KE.KTryMore
import OpenK.KOwn
import PyProof.ExcInit
import PyProof.FString
import PyProof.ReprStr
import PyProof.StrLawsRepr
import PyProof.CallStr
import OpenK.KCls
import PyProof.ExcArgsOwn
import PyProof.Rows.StrJoin2
import PyProof.ZipIter
import PyProof.Rows.ZipGen
import PySem.Challenge.RW_stirround_k51_trials_judged
open PySem PySem.Spec PyProof.Rows
namespace PySem.W.Fast
def tw6294862010211059789:=0
def tw4640094653708744741:=0
def tw15731078005807227473:=0
def tw563955327735925904:=0
def tw11049742566677650144:=0
def tw9033324127438966750:=0
def tw13455972862028010581:=0
def tw4192860160272925983:=0
def tw5055782051759843909:=0
def tw7252685481063372514:=0
def tw7602312766452551675:=0
def tw8716335248979864821:=0
def tw11452445466143350147:=0
def tw4748531781082483961:=0
def tw18405452519978472667:=0
def tw1648688160235883757:=0
def tw133276176901997490:=0
def tw413566058988112403:=0
def tw9231774840797917473:=0
def tw13942935856756456301:=0
def tw16024450925430152139:=0
def tw755362742106153582:=0
def tw14537958217862884246:=0
def tw2330439745267838549:=0
def tw7248789880143791062:=0
def tw3972390665477544598:=0
def tw3218421119493856639:=0
def tw13391298018681837151:=0
def tw2501735505880210536:=0
def tw14193930418511478440:=0
def tw5358788425054058208:=0
def tw9019637858150976818:=0
def tw832947513843213501:=0
def tw5060888429262175010:=0
def tw4921337605032921687:=0
def tw17168725025494270853:=0
def tw6270169092205225737:=0
def tw8907763112740105915:=0
def tw4763527161598548229:=0
def tw5378898078096338550:=0
def tw10127853562912420127:=0
def tw7497748359975053025:=0
def tw16144082783255233533:=0
def tw16994297833221584598:=0
def tw4687243004230557785:=0
def tw3915729823068327056:=0
def tw4945814074409931095:=0
def tw15057423571010293363:=0
def tw2575721346798120620:=0
def tw10463553098725211319:=0
def tw2129023166970728124:=0
def tw14222675571579845016:=0
def tw15390854978085999605:=0
def tw2664377111514816689:=0
def tw1862103975965918147:=0
def tw18263973403682576836:=0
def tw16320751816704141522:=0
def tw13596681722013999619:=0
def tw14878275829650274980:=0
def tw16953311385803187992:=0
def tw15288711857866964991:=0
def tw16318279605475067750:=0
def tw6428712081774009755:=0
def tw1551420858910021285:=0
def tw6648672989001844551:=0
def tw17754151832908071455:=0
def tw11229137584224651335:=0
def tw1760208455192617917:=0
def tw14242240661439412914:=0
def tw2655291928029383694:=0
def tw285637549305962460:=0
def tw15085572726679629091:=0
def tw1747685580129747568:=0
def tw9387547586727344602:=0
def tw13697064552525997455:=0
def tw11885255038126282160:=0
def tw10877785418150681005:=0
def tw3686099275499703776:=0
def tw14417473399326064256:=0
def tw4300030351486989404:=0
def tw2270184795005430201:=0
def tw8756741164097364840:=0
def tw12784679272376738713:=0
def tw17319443776506528100:=0
def tw17050999310338671983:=0
def tw3190614249808048586:=0
def tw12466528196184842454:=0
def tw14488455972844808596:=0
def tw12590468164188378598:=0
def tw13359659963511939773:=0
def tw863468742157091070:=0
def tw7864120073008219196:=0
def tw17251571192939391934:=0
def tw5869734289716456696:=0
def tw5782305159557928478:=0
def tw4402835753264395240:=0
def tw9747108116566987698:=0
def tw7022489496669448361:=0
def tw10680403912430542916:=0
def tw14922679948204711622:=0
def tw525338388645139376:=0
def tw17723927903568281170:=0
def tw13181209129746582601:=0
def tw2425737190088061043:=0
def tw15444573954586525514:=0
def tw1442780807667051362:=0
def tw11043407169534940013:=0
def tw5674802295799166553:=0
def tw16858107893181070065:=0
def tw17101330777519003122:=0
def tw6323715967021672513:=0
def tw509715139790960614:=0
def tw13231584272057298152:=0
def tw8625608147018288993:=0
def tw13368097643452066974:=0
def tw13972126865697008510:=0
def tw12630911793213439422:=0
def tw1956791915589879293:=0
def tw13646319277963122919:=0
def tw17150733293873066494:=0
def tw12925758159513258469:=0
def tw13899629615755742582:=0
def tw13646909284135418377:=0
def tw788815301733328312:=0
def tw6115432990074529717:=0
def tw6832467741448646293:=0
def tw17736134147633489010:=0
def tw12502204862976626628:=0
def tw12338396434878951789:=0
def tw14169891701639445192:=0
def tw14018521709231889573:=0
def tw8305480942520400351:=0
def tw17478773087833460377:=0
end PySem.W.Fast
set_option Elab.async false
set_option linter.all false
set_option maxRecDepth 100000
namespace L2
abbrev Key:=Sum Int Str
def ZUy:Key->Value->Bool
 | .inl k,v=>Value.isInt k v
 | .inr x,v=>Value.isStrOf x v
def ZXl (w:World):Key->Int
 | .inl k=>hashInt k
 | .inr x=>hashStr w x
theorem ZBY:∀ {k:Key}{v:Value},ZUy k v=true->(∃ i t,k=Sum.inl i/\v=Value.int i t)∨(∃ x t,k=Sum.inr x/\v=Value.str x t)
 | .inl i,v,h=>by
  obtain ⟨t,e⟩:=Value.isInt_shape (k:=i) (v:=v) h
  exact .inl ⟨i,t,rfl,e⟩
 | .inr x,v,h=>by
  obtain ⟨t,e⟩:=Value.isStrOf_shape (x:=x) (v:=v) h
  exact .inr ⟨x,t,rfl,e⟩
theorem ZV7 (a b:Int):decide ((Sum.inl a:Key)=Sum.inl b)=(a == b):=by
 by_cases e:a=b
 ·subst e;simp
 ·have h:¬ (Sum.inl a:Key)=Sum.inl b:=fun q=>e (Sum.inl.inj q)
  rw [decide_eq_false h]
  exact (beq_eq_false_iff_ne.mpr e).symm
theorem ZUb (a b:Str):decide ((Sum.inr a:Key)=Sum.inr b)=decide (a=b):=by
 by_cases e:a=b
 ·subst e;simp
 ·have h:¬ (Sum.inr a:Key)=Sum.inr b:=fun q=>e (Sum.inr.inj q)
  rw [decide_eq_false h,decide_eq_false e]
theorem ZVz (a:Int) (b:Str):decide ((Sum.inl a:Key)=Sum.inr b)=false:=decide_eq_false (fun q=>nomatch q)
theorem ZVo (a:Str) (b:Int):decide ((Sum.inr a:Key)=Sum.inl b)=false:=decide_eq_false (fun q=>nomatch q)
def ZQ1 (prog:Program) (w:World):PySem.KeyKind prog w Key where
 is:=ZUy
 hash:=ZXl w
 inj:=fun v a b ha hb=>by
  rcases ZBY ha with ⟨i,t,rfl,rfl⟩ | ⟨x,t,rfl,rfl⟩
  ·rcases ZBY hb with ⟨j,u,rfl,e⟩ | ⟨y,u,rfl,e⟩
   ·injection e with e1 _;rw [e1]
   ·exact nomatch e
  ·rcases ZBY hb with ⟨j,u,rfl,e⟩ | ⟨y,u,rfl,e⟩
   ·exact nomatch e
   ·injection e with e1 _;rw [e1]
 byValue:=fun k v h=>by
  rcases ZBY h with ⟨i,t,rfl,rfl⟩ | ⟨x,t,rfl,rfl⟩ <;> rfl
 pyHash:=fun hv h=>by
  rcases ZBY hv with ⟨i,t,rfl,rfl⟩ | ⟨x,t,rfl,rfl⟩
  ·exact wpAny_pyHash_int h
  ·exact wpAny_pyHash_str h
 eqBool:=fun hu hv h=>by
  rcases ZBY hu with ⟨i,t,rfl,rfl⟩ | ⟨x,t,rfl,rfl⟩
  ·rcases ZBY hv with ⟨j,u,rfl,rfl⟩ | ⟨y,u,rfl,rfl⟩
   ·rw [ZV7] at h;exact wpAny_eqBool_int h
   ·rw [ZVz] at h;exact SeqAt.EqAt.int_str i t y u _ _ _ _ h
  ·rcases ZBY hv with ⟨j,u,rfl,rfl⟩ | ⟨y,u,rfl,rfl⟩
   ·rw [ZVo] at h;exact SeqAt.EqAt.str_int x t j u _ _ _ _ h
   ·rw [ZUb] at h;exact wpAny_eqBool_str h
 «strs»:=fun k x t v h=>by
  rcases ZBY h with ⟨i,u,rfl,e⟩ | ⟨y,u,rfl,e⟩
  ·exact nomatch e
  ·injection e with e1 _
   subst e1
   cases v <;> rfl
end L2
namespace L2
inductive V where
 | non | bl (b:Bool) | int (i:Int) | str (x:Str) | byt (b:Array UInt8) | flt (b:UInt64) | ref (a:Addr) | ty (n:String)
 deriving DecidableEq
def RelV:V->Value->Prop
 | .non,u=>u=Value.none
 | .bl b,u=>u=Value.bool b
 | .int i,u=>∃ t,u=Value.int i t
 | .str x,u=>∃ t,u=Value.str x t
 | .byt b,u=>∃ t,u=Value.bytes b t
 | .flt b,u=>∃ t,u=Value.float b t
 | .ref a,u=>u=Value.ref a
 | .ty n,u=>u=Value.type n
abbrev Vals:List V->List Value->Prop:=Paired RelV
theorem Vals.length {xs:List V}{us:List Value}(r:Vals xs us):xs.length=us.length:=Paired.length r
theorem Vals.get:∀ {xs:List V}{us:List Value}{i:Nat}{x:V},Vals xs us->xs[i]?=some x->∃ u,us[i]?=some u/\RelV x u
 | _,_,_,_,.nil,e=>by simp at e
 | _,_,0,_,.cons r _,e=>by simp at e;subst e;exact ⟨_,rfl,r⟩
 | _,_,i+1,x,.cons _ t,e=>by
  obtain ⟨u,h1,h2⟩:=Vals.get (i:=i) (x:=x) t (by simpa using e)
  exact ⟨u,by simpa using h1,h2⟩
theorem Vals.set {x:V}{u:Value}(r:RelV x u):∀ {xs:List V}{us:List Value}(i:Nat),Vals xs us->Vals (xs.set i x) (us.set i u)
 | _,_,_,.nil=>.nil
 | _,_,0,.cons _ t=>.cons r t
 | _,_,i+1,.cons q t=>.cons q (Vals.set r i t)
theorem Vals.append:∀ {xs ys:List V}{us ws:List Value},Vals xs us->Vals ys ws->Vals (xs++ys) (us++ws)
 | _,_,_,_,.nil,s=>s
 | _,_,_,_,.cons r t,s=>.cons r (Vals.append t s)
theorem Vals.take:∀ {xs:List V}{us:List Value}(n:Nat),Vals xs us->Vals (xs.take n) (us.take n)
 | _,_,0,_=>.nil
 | _,_,_+1,.nil=>.nil
 | _,_,n+1,.cons r t=>.cons r (Vals.take n t)
theorem Vals.drop:∀ {xs:List V}{us:List Value}(n:Nat),Vals xs us->Vals (xs.drop n) (us.drop n)
 | _,_,0,r=>r
 | _,_,_+1,.nil=>.nil
 | _,_,n+1,.cons _ t=>Vals.drop n t
def ZX0:Option V->Option Value->Prop
 | some v,some u=>RelV v u
 | none,none=>True
 | _,_=>False
def KV {κ:Type}:List (κ×V)->List (κ×Value)->Prop:=Paired fun (p:κ×V) (q:κ×Value)=>p.1=q.1/\RelV p.2 q.2
def kV:Key->V
 | .inl i=>.int i
 | .inr x=>.str x
inductive HO where
 /-- a list -/
 | lst (xs:List V)
 /-- a tuple (never changes) -/
 | tup (xs:List V)
 /-- a dict whose keys are ints and texts;one whose keys are tuples of ints and texts (the empty one is both) -/
 | dK (kvs:List (Key×V)) | dT (kvs:List (List Key×V))
 /-- a set of ints: its members,its size -/
 | set (S:Int->Bool) (n:Nat)
 /-- an instance of the class at C,its dict at dx,its attributes -/
 | ins (C dx:Addr) (fs:List (Str×V))
 /-- the dict of the instance at x -/
 | own (x:Addr)
 /-- the dict of an exception -/
 | xd (fs:List (Str×V))
 /-- a bound method,f of x -/
 | met (f x:Addr)
 /-- a range object lo,lo+1,.. below hi -/
 | rng (lo hi:Int)
 /-- a thing that is known to the object (the script;a dict while a loop walks it): read,never written while it is so -/
 | frz (o:Obj) (u:HO)
 /-- a code object's table -/
 | tbl (ps:Array Value)
 /-- any other thing,by what is true of its one object (a def of one's own: ZWA a S n:=HO.ext fun h=>..) -/
 | ext (φ:Heap->Prop)
abbrev Hp:=Addr->Option HO
def upd (H:Hp) (a:Addr) (o:HO):Hp:=fun b=>if b=a then some o else H b
theorem ZA6 {H:Hp}{a:Addr}{o:HO}:upd H a o a=some o:=by unfold upd;rw [if_pos rfl]
theorem ZAT {H:Hp}{a b:Addr}{o:HO}(h:b≠a):upd H a o b=H b:=by unfold upd;rw [if_neg h]
theorem ZAg {H:Hp}{a b:Addr}{o:HO}(h:H a=some o) (h':H b=none):a≠b:=by
 intro e;subst e;rw [h] at h';cases h'
section
variable (P:Program) (w:World)
def ZCr (H:Hp) (h:Heap) (a:Addr):HO->Prop
 | .lst xs=>xs.length<=sizeLine/\∃ (its:List Value) (n:Nat),Vals xs its/\h.get? a=some { cls:=.type "list", data:=.seq its.toArray n }
 | .tup xs=>xs.length<=sizeLine/\∃ its:List Value,Vals xs its/\(IsTup h a its.toArray/\∀ ob,h.get? a=some ob->ob.dict=none)
 | .dK kvs=>kvs.length<=sizeLine/\(a == sysModules)=false/\∃ vs,KV kvs vs/\h.DictOf (ZQ1 P w) a vs
 | .dT kvs=>kvs.length<=sizeLine/\(a == sysModules)=false/\∃ xs:List (List Key×Addr×Value),
   Paired (fun (p:List Key×V) (q:List Key×Addr×Value)=>p.1=q.1/\H q.2.1=some (.tup (p.1.map kV))/\RelV p.2 q.2.2) kvs xs/\
   ∃ o es ep,h.get? a=some o/\o.ExactDict/\o.data=.dict es ep/\es.toList=xs.map (entryOfKey (tupleKind (ZQ1 P w)))/\(xs.map (·.1)).Nodup
 | .set S n=>h.SetOf (intKind P w) a S n
 | .ins C dx fs=>H dx=some (.own a)/\fs.length<=1000/\dx≠a/\h.get? a=some (PySem.W.instObj C dx)/\
   ∃ mA,h.Ns1 dx mA/\(∀ f,ZX0 (fs.lookup f) (mA f))/\PySem.Within mA (fs.map (·.1))
 | .own _=>∃ o,h.get? a=some o
 | .xd fs=>∃ mA,h.Ns1 a mA/\∀ f,ZX0 (fs.lookup f) (mA f)
 | .rng lo hi=>∃ t u v,h.get? a=some { cls:=.type "range", data:=.fields #[.int lo t,.int hi u,.int 1 v] }
 | .frz o u=>h.get? a=some o/\ZCr H h a u
 | .tbl ps=>h.get? a=some { cls:=.none,data:=.fields ps }
 | .met f x=>h.get? a=some (PySem.W.methodObj (.ref f) (.ref x))
 | .ext φ=>φ h/\(∃ o,h.get? a=some o)/\∀ h1 h2:Heap,φ h1->(∀ o,h1.get? a=some o->h2.get? a=some o)->φ h2
def HOk (H:Hp) (h:Heap):Prop:=∀ a o,H a=some o->ZCr P w H h a o
end
section
variable {P:Program}{w:World}{H H':Hp}{h h':Heap}{a:Addr}{o:HO}
theorem ZCr.lt (x:ZCr P w H h a o):a < h.objs.size:=by
 cases o with
 | lst xs=>obtain ⟨_,_,_,_,e⟩:=x;exact Heap.lt_size e
 | tup xs=>obtain ⟨_,_,_,p⟩:=x;exact p.1.lt
 | dK kvs=>obtain ⟨_,_,_,_,o,_,_,e,_⟩:=x;exact Heap.lt_size e
 | dT kvs=>obtain ⟨_,_,_,_,o,_,_,e,_⟩:=x;exact Heap.lt_size e
 | set S n=>obtain ⟨o,_,_,_,e,_⟩:=x;exact Heap.lt_size e
 | ins C dx fs=>obtain ⟨_,_,_,e,_⟩:=x;exact Heap.lt_size e
 | own y=>obtain ⟨_,e⟩:=x;exact Heap.lt_size e
 | xd fs=>obtain ⟨_,⟨_,_,_,e,_⟩,_⟩:=x;exact Heap.lt_size e
 | rng lo hi=>obtain ⟨_,_,_,e⟩:=x;exact Heap.lt_size e
 | frz ob u=>obtain ⟨e,_⟩:=x;exact Heap.lt_size e
 | tbl ps=>exact Heap.lt_size (show h.get? a=some _ from x)
 | met f y=>exact Heap.lt_size (show h.get? a=some _ from x)
 | ext φ=>obtain ⟨_,⟨_,e⟩,_⟩:=x;exact Heap.lt_size e
theorem Paired.ZXM {α β:Type} {F G:α->β->Prop}:∀ {l₁:List α}{l₂:List β},Paired F l₁ l₂->(∀ a b,F a b->G a b)->Paired G l₁ l₂
 | _,_,.nil,_=>.nil
 | _,_,.cons r t,f=>.cons (f _ _ r) (Paired.ZXM t f)
theorem ZCr.ZSa (x:ZCr P w H h a o) (k:∀ b u,(b=a∨H b=some (.own a))->h.get? b=some u->h'.get? b=some u)
  (ho:∀ b,H b=some (.own a)->H' b=some (.own a)) (ht:∀ b xs,H b=some (.tup xs)->H' b=some (.tup xs)):ZCr P w H' h' a o:=by
 induction o with
 | lst xs=>obtain ⟨z,its,n,r,e⟩:=x;exact ⟨z,its,n,r,k _ _ (.inl rfl) e⟩
 | tup xs=>obtain ⟨z,its,r,⟨ob,e,c⟩,dn⟩:=x;exact ⟨z,its,r,⟨ob,k _ _ (.inl rfl) e,c⟩,fun ob' e'=>by rw [k _ _ (.inl rfl) e] at e';cases e';exact dn _ e⟩
 | dK kvs=>obtain ⟨z,y,vs,r,ob,es,ep,e,c⟩:=x;exact ⟨z,y,vs,r,ob,es,ep,k _ _ (.inl rfl) e,c⟩
 | dT kvs=>
  obtain ⟨z,y,xs,r,ob,es,ep,e,c⟩:=x
  exact ⟨z,y,xs,Paired.ZXM r fun p q z=>⟨z.1,ht _ _ z.2.1,z.2.2⟩,ob,es,ep,k _ _ (.inl rfl) e,c⟩
 | set S n=>obtain ⟨ob,es,ep,t,e,c⟩:=x;exact ⟨ob,es,ep,t,k _ _ (.inl rfl) e,c⟩
 | ins C dx fs=>
  obtain ⟨d,z,ne,e,mA,⟨od,es,ep,e2,c⟩,r⟩:=x
  exact ⟨ho _ d,z,ne,k _ _ (.inl rfl) e,mA,⟨od,es,ep,k _ _ (.inr d) e2,c⟩,r⟩
 | own y=>obtain ⟨ob,e⟩:=x;exact ⟨ob,k _ _ (.inl rfl) e⟩
 | xd fs=>obtain ⟨mA,⟨od,es,ep,e,c⟩,r⟩:=x;exact ⟨mA,⟨od,es,ep,k _ _ (.inl rfl) e,c⟩,r⟩
 | rng lo hi=>obtain ⟨t,u,v,e⟩:=x;exact ⟨t,u,v,k _ _ (.inl rfl) e⟩
 | frz ob u ih=>obtain ⟨e,q⟩:=x;exact ⟨k _ _ (.inl rfl) e,ih q⟩
 | tbl ps=>
  have e:h.get? a=some { cls:=.none,data:=.fields ps }:=x
  show h'.get? a=some { cls:=.none,data:=.fields ps }
  exact k a _ (.inl rfl) e
 | met f y=>
  have e:h.get? a=some (PySem.W.methodObj (.ref f) (.ref y)):=x
  show h'.get? a=some (PySem.W.methodObj (.ref f) (.ref y))
  exact k a _ (.inl rfl) e
 | ext φ=>obtain ⟨p,⟨o,e⟩,st⟩:=x;exact ⟨st _ _ p fun o q=>k _ _ (.inl rfl) q,⟨o,k _ _ (.inl rfl) e⟩,st⟩
theorem HOk.lt (x:HOk P w H h) (e:H a=some o):a < h.objs.size:=(x a o e).lt
theorem HOk.fresh (x:HOk P w H h) (e:h.objs.size<=a):H a=none:=by
 cases q:H a with
 | none=>rfl
 | some u=>exact absurd (Nat.lt_of_lt_of_le (x.lt q) e) (Nat.lt_irrefl _)
theorem HOk.kept (x:HOk P w H h) (k:∀ b u,h.get? b=some u->h'.get? b=some u):HOk P w H h':=fun a o e=>
 (x a o e).ZSa (fun b u _ q=>k b u q) (fun _ q=>q) fun _ _ q=>q
theorem HOk.laid (x:HOk P w H h) (k:∀ b u,h.get? b=some u->h'.get? b=some u) (hp:h.objs.size<=a) (new:ZCr P w (upd H a o) h' a o):HOk P w (upd H a o) h':=fun b u e=>by
 have hn:=x.fresh hp
 by_cases hb:b=a
 ·subst hb;rw [ZA6] at e;cases e;exact new
 ·rw [ZAT hb] at e
  exact (x b u e).ZSa (fun c v _ q=>k c v q) (fun c q=>by rw [ZAT (ZAg q hn)];exact q) fun c xs q=>by rw [ZAT (ZAg q hn)];exact q
end
def Rd (H:Hp) (a:Addr) (u:HO):Prop:=H a=some u∨∃ o,H a=some (.frz o u)
theorem Rd.ok {P:Program}{w:World}{H:Hp}{h:Heap}{a:Addr}{u:HO}(r:Rd H a u) (x:HOk P w H h):ZCr P w H h a u:=by
 rcases r with r | ⟨o,r⟩
 ·exact x a u r
 ·obtain ⟨_,q⟩:=x a _ r
  exact q
def Mut:Option HO->Prop
 | some (.lst _)=>True
 | some (.dK _)=>True
 | some (.dT _)=>True
 | some (.set _ _)=>True
 | some (.ins _ _ _)=>True
 | some (.ext _)=>True
 | _=>False
section
variable {P:Program}{w:World}{H:Hp}{h h':Heap}{x e:Addr}{o':HO}
theorem HOk.write (ok:HOk P w H h) (mu:Mut (H x)) (he:e=x∨H e=some (.own x)) (k:∀ b u,b≠e->h.get? b=some u->h'.get? b=some u) (heo:∃ u,h'.get? e=some u)
  (new:ZCr P w (upd H x o') h' x o'):HOk P w (upd H x o') h':=fun b u q=>by
 have nown:∀ c y,H c=some (.own y)->c≠x:=fun c y r z=>by subst z;rw [r] at mu;exact mu
 have ntup:∀ c xs,H c=some (.tup xs)->c≠x:=fun c xs r z=>by subst z;rw [r] at mu;exact mu
 by_cases hb:b=x
 ·subst hb;rw [ZA6] at q;cases q;exact new
 ·rw [ZAT hb] at q
  by_cases hbe:b=e
  ·have q':H b=some (.own x):=by
    rcases he with z | z
    ·exact absurd (hbe.trans z) hb
    ·rw [hbe];exact z
   rw [q] at q';cases q'
   obtain ⟨v,hv⟩:=heo
   exact ⟨v,by rw [hbe];exact hv⟩
  ·refine (ok b u q).ZSa (fun c v hc r=>k c v ?_ r) (fun c r=>by rw [ZAT (nown c b r)];exact r) fun c xs r=>by rw [ZAT (ntup c xs r)];exact r
   rcases hc with rfl | hc
   ·exact hbe
   ·rintro rfl
    rcases he with z | z
    ·exact nown c b hc z
    ·rw [hc] at z;cases z;exact hb rfl
end
structure Un (fs ex:List Addr) (H H':Hp) (h h':Heap):Prop where
 keep:∀ b o,h.get? b=some o->H b=none->b∉fs->b∉ex->h'.get? b=some o
 slot:∀ b o,h.get? b=some o->H b=none->b∈fs->b∉ex->∃ sl,h'.get? b=some { o with slots:=sl }
 free:∀ b o,h.get? b=some o->H b=none->b∉ex->H' b=none
 there:∀ b o,h.get? b=some o->b∉ex->∃ o',h'.get? b=some o'
 tups:∀ b xs,H b=some (.tup xs)->H' b=some (.tup xs)
 frzs:∀ b o u,H b=some (.frz o u)->H' b=some (.frz o u)
 tbls:∀ b ps,H b=some (.tbl ps)->∃ more,H' b=some (.tbl (ps++more))
section
variable {fs fs' ex ex':List Addr}{H H1 H2:Hp}{h h1 h2 h':Heap}{a x e:Addr}{o:HO}
theorem Un.any (u:Un fs ex H H1 h h1){b:Addr}{ob:Obj}(q:h.get? b=some ob) (n:H b=none) (hx:b∉ex):∃ sl,h1.get? b=some { ob with slots:=sl }:=by
 by_cases hb:b∈fs
 ·exact u.slot b ob q n hb hx
 ·exact ⟨ob.slots,u.keep b ob q n hb hx⟩
theorem Un.kept (k:∀ b u,h.get? b=some u->h'.get? b=some u):Un fs ex H H h h':=
 ⟨fun b ob q _ _ _=>k b ob q,fun b ob q _ _ _=>⟨ob.slots,k b ob q⟩,fun _ _ _ n _=>n,fun b ob q _=>⟨ob,k b ob q⟩,fun _ _ q=>q,fun _ _ _ q=>q,fun _ ps q=>⟨#[],by rw [q];simp⟩⟩
theorem Un.refl:Un fs ex H H h h:=Un.kept fun _ _ q=>q
theorem Un.laid (k:∀ b u,h.get? b=some u->h'.get? b=some u) (hp:h.objs.size<=a) (hn:H a=none):Un fs ex H (upd H a o) h h' where
 keep:=fun b u q _ _ _=>k b u q
 slot:=fun b u q _ _ _=>⟨u.slots,k b u q⟩
 free:=fun b u q n _=>by rw [ZAT (Nat.ne_of_lt (Nat.lt_of_lt_of_le (Heap.lt_size q) hp))];exact n
 there:=fun b u q _=>⟨u,k b u q⟩
 tups:=fun b xs q=>by rw [ZAT (ZAg q hn)];exact q
 frzs:=fun b u xs q=>by rw [ZAT (ZAg q hn)];exact q
 tbls:=fun b ps q=>⟨#[],by rw [ZAT (ZAg q hn),q];simp⟩
theorem Un.write (mu:Mut (H x)) (he:e=x∨H e=some (.own x)) (k:∀ b u,b≠e->h.get? b=some u->h'.get? b=some u) (heo:∃ u,h'.get? e=some u):Un fs ex H (upd H x o) h h':=by
 have hx:∀ b,H b=none->b≠x:=fun b n z=>by subst z;rw [n] at mu;exact mu
 have hb:∀ b,H b=none->b≠e:=fun b n z=>by
  subst z
  rcases he with r | r
  ·exact hx b n r
  ·rw [n] at r;cases r
 have hm:∀ b u,H b=some u->¬ Mut (some u)->b≠x:=fun b u q nm z=>by subst z;rw [q] at mu;exact nm mu
 refine ⟨fun b u q n _ _=>k b u (hb b n) q,fun b u q n _ _=>⟨u.slots,k b u (hb b n) q⟩,fun b u q n _=>by rw [ZAT (hx b n)];exact n,fun b u q _=>?_,
  fun b xs q=>by rw [ZAT (hm b _ q fun z=>z)];exact q,fun b u xs q=>by rw [ZAT (hm b _ q fun z=>z)];exact q,fun b ps q=>⟨#[],by rw [ZAT (hm b _ q fun z=>z),q];simp⟩⟩
 by_cases hbe:b=e
 ·subst hbe;exact heo
 ·exact ⟨u,k b u hbe q⟩
end
def trk (h:Heap) (H:Hp):List Addr:=(List.range h.objs.size).filter fun a=>(H a).isSome
def ZRt (h:Heap) (H:Hp):Heap:=PySem.W.hideAll h (trk h H)
theorem ZPi (h:Heap) (H:Hp):(ZRt h H).objs.size=h.objs.size:=PySem.W.hideAll_size _ _
theorem ZR6 {h:Heap}{H:Hp}{b:Addr}{o:Obj}(e:h.get? b=some o) (n:H b=none):(ZRt h H).get? b=some o:=
 PySem.W.hideAll_get _ e fun hm=>by
  have q:(H b).isSome=true:=(List.mem_filter.mp hm).2
  rw [n] at q;simp at q
theorem ZUC {h:Heap}{H:Hp}{b:Addr}{o:Obj}(e:(ZRt h H).get? b=some o):h.get? b=some o/\H b=none:=by
 have e':h.get? b=some o:=PySem.W.of_hideAll (trk h H) e
 refine ⟨e',?_⟩
 cases q:H b with
 | none=>rfl
 | some x=>
  have hm:b∈trk h H:=List.mem_filter.mpr ⟨List.mem_range.mpr (Heap.lt_size e'),by simp [q]⟩
  have z:(ZRt h H).get? b=none:=PySem.W.hideAll_none (trk h H) hm
  rw [z] at e;cases e
def ZU1 (g h:Heap) (L:Addr):List (Addr×Obj):=(List.range h.objs.size).filterMap fun a=>if a=L∨(g.get? a).isSome=true then none else (h.get? a).map fun o=>(a,o)
def rest (g h:Heap) (L d:Addr):List (Addr×Obj):=(ZU1 g h L).filter fun p=>decide (p.1≠d)
end L2
namespace L2
structure Mod (K:PySem.W.Frag) (mg:Str->Option Value) (base:Heap):Prop where
 kin:K.In base
 glob:base.Ns mainGlobals mg
 blt:∃ mb,base.Ns builtinsNs mb/\∀ x:Str,x ≠ "__name__" -> mb x=bootBuiltins x
 nolimit:base.NoLimit
structure Cx where
 prog:Program
 w:World
 K:PySem.W.Frag
 mg:Str->Option Value
 base:Heap
 A:Around
 N:List Str
 s₀:Shared
 H₀:Hp
 env:Env
 outer:List Env
 stack:List Env
 ex:List Addr
 fn:Str->Bool
 calm:Bool
 pn:List (Addr×Obj)
 xe:Value->Shared->Prop
def frs (l:List Env):List Addr:=l.filterMap (·.frame)
abbrev Cx.fs (X:Cx):List Addr:=frs X.outer
def Vis (sc:Scope) (x:Str):Prop:=sc.names.lookup x=some .local∨sc.names.lookup x=some .cell∨sc.names.lookup x=some .free
def Loc (sc:Scope) (x:Str):Prop:=sc.names.lookup x=some .local∨sc.names.lookup x=some .cell
def Look (env:Env) (h:Heap) (m:Str->Option Value) (x:Str) (u:Value):Prop:=
 (env.kindOf x=some .local/\m x=some u)∨((env.kindOf x=some .cell∨env.kindOf x=some .free)/\∃ c,env.cells.lookup x=some c/\h.IsCell c (some u))
structure Cx.Ok (X:Cx):Prop where
 mod:Mod X.K X.mg X.base
 kind:X.env.scope.kind=.function
 glob:X.env.globals=mainGlobals
 blt:X.env.builtins=builtinsNs
 above:X.s₀.heap.objs.size<=X.env.locals
 inj:∀ x y c,X.env.cells.lookup x=some c->X.env.cells.lookup y=some c->x=y
 has:∀ x,(X.env.kindOf x=some .cell∨X.env.kindOf x=some .free)->∃ c,X.env.cells.lookup x=some c
 cab:∀ x c,X.fn x=true->X.env.cells.lookup x=some c->X.s₀.heap.objs.size<=c
 hd:X.calm=true->X.A.handled=none
 frames:X.A.frames=some X.stack
 stk:X.stack=X.outer∨(X.stack=X.env :: X.outer/\X.env.frame=some X.env.locals)
 exf:∀ b∈X.ex,b≠X.env.locals/\∀ x c,X.env.cells.lookup x=some c->c≠b
 bs:∀ b o,X.base.get? b=some o->X.s₀.heap.get? b=some o/\X.H₀ b=none
 bsz:X.base.objs.size<=X.s₀.heap.objs.size
 noex:∀ b o,X.base.get? b=some o->b∉X.ex
 exfs:∀ b∈X.ex,b∉X.fs
 ZMQ:X.s₀.heap.FunFrames X.base X.outer
 frf:∀ b∈X.fs,X.H₀ b=none
structure Inv (X:Cx) (pins:List (Addr×Obj)) (σ:List (Option V)) (H:Hp) (s:Shared):Prop where
 ok:X.Ok
 os:s.os=X.s₀.os
 bare:AllBare s.gens
 base:Un X.fs X.ex X.H₀ H X.s₀.heap s.heap
 loc:∃ m,s.heap.Ns X.env.locals m/\∀ (i:Nat) (x:Str) (v:V),X.N[i]?=some x->σ[i]?=some (some v)->Vis X.env.scope x->∃ u,RelV v u/\Look X.env s.heap m x u
 cell:∀ x c,X.env.cells.lookup x=some c->∃ v,s.heap.IsCell c v
 free:H X.env.locals=none
 freeC:∀ x c,X.env.cells.lookup x=some c->H c=none
 pin:∀ p∈X.pn++pins,s.heap.get? p.1=some p.2/\H p.1=none/\p.1≠X.env.locals/\p.1∉X.fs/\∀ v,p.2.data≠.cell v
 hok:HOk X.prog X.w H s.heap
 len:σ.length=X.N.length
section
variable {X:Cx}{pins:List (Addr×Obj)}{σ:List (Option V)} {H H':Hp}{s:Shared}{h':Heap}
theorem Cx.Ok.ZXY (ok:X.Ok){b:Addr}{o:Obj}(e:X.base.get? b=some o):b∉X.fs:=fun hb=>by
 have:=(ok.ZMQ.mem hb).1
 rw [e] at this;cases this
theorem Inv.bs (I:Inv X pins σ H s):∀ b o,X.base.get? b=some o->s.heap.get? b=some o/\H b=none:=fun b o e=>
 ⟨I.base.keep b o (I.ok.bs b o e).1 (I.ok.bs b o e).2 (I.ok.ZXY e) (I.ok.noex b o e),I.base.free b o (I.ok.bs b o e).1 (I.ok.bs b o e).2 (I.ok.noex b o e)⟩
theorem Inv.bk (I:Inv X pins σ H s):∀ b o,X.base.get? b=some o->s.heap.get? b=some o:=fun b o e=>(I.bs b o e).1
theorem Inv.mod (I:Inv X pins σ H s):Mod X.K X.mg X.base:=I.ok.mod
theorem Inv.kIn (I:Inv X pins σ H s):X.K.In s.heap:=I.ok.mod.kin.keeps I.bk
theorem Inv.lt (I:Inv X pins σ H s):X.env.locals < s.heap.objs.size:=let ⟨_,hn,_⟩:=I.loc;hn.lt
theorem Inv.sz (I:Inv X pins σ H s):X.s₀.heap.objs.size<=s.heap.objs.size:=Nat.le_trans I.ok.above (Nat.le_of_lt I.lt)
theorem Inv.ZXe (I:Inv X pins σ H s){a:Addr}(h:s.heap.objs.size<=a):a∉X.fs:=fun hb=>by
 obtain ⟨_,o,ho,_⟩:=I.ok.ZMQ.mem hb
 exact absurd (Nat.lt_of_lt_of_le (Heap.lt_size ho) (Nat.le_trans I.sz h)) (Nat.lt_irrefl _)
theorem Inv.cne (I:Inv X pins σ H s):∀ x c,X.env.cells.lookup x=some c->c≠X.env.locals:=fun x c e z=>by
 obtain ⟨v,o,ho,hd⟩:=I.cell x c e
 obtain ⟨m,⟨o',es,ep,ho',hd',_⟩,_⟩:=I.loc
 rw [z,ho'] at ho;cases ho;rw [hd'] at hd;cases hd
theorem Inv.ZMQ (I:Inv X pins σ H s):s.heap.FunFrames X.base X.outer:=by
 have all:∀ (l:List Env),(∀ b∈frs l,b∈X.fs)->X.s₀.heap.FunFrames X.base l->s.heap.FunFrames X.base l:=by
  intro l
  induction l with
  | nil=>intro _ _;trivial
  | cons env r ih=>
   intro hs hl
   obtain ⟨hk,⟨L,o,hf,hn,ho,hd⟩,hr⟩:=hl
   have hL:L∈X.fs:=hs L (by unfold frs;rw [List.filterMap_cons,hf];exact List.mem_cons_self)
   obtain ⟨sl,e⟩:=I.base.slot L o ho (I.ok.frf L hL) hL fun z=>I.ok.exfs L z hL
   exact ⟨hk,⟨L,_,hf,hn,e,hd⟩,ih (fun b hb=>hs b (by unfold frs;rw [List.filterMap_cons,hf];exact List.mem_cons_of_mem _ hb)) hr⟩
 exact all X.outer (fun _ hb=>hb) I.ok.ZMQ
theorem Inv.stack (I:Inv X pins σ H s):s.heap.FunFrames X.base X.stack:=by
 rcases I.ok.stk with e | ⟨e,hf⟩
 ·rw [e];exact I.ZMQ
 ·rw [e]
  obtain ⟨m,hn,_⟩:=I.loc
  refine .cons (by rw [I.ok.kind];decide) hf hn ?_ I.ZMQ
  exact Heap.get?_none_of_le (Nat.le_trans I.ok.bsz I.ok.above)
theorem Inv.ZLJ (I:Inv X pins σ H s):∀ b∈frs X.stack,b∈X.env.locals :: X.fs:=fun b hb=>by
 rcases I.ok.stk with e | ⟨e,hf⟩
 ·rw [e] at hb;exact List.mem_cons_of_mem _ hb
 ·rw [e] at hb
  unfold frs at hb
  rw [List.filterMap_cons,hf] at hb
  exact hb
theorem Inv.ZKn (I:Inv X pins σ H s):∀ b∈frs X.stack,H b=none:=fun b hb=>by
 rcases List.mem_cons.mp (I.ZLJ b hb) with e | hb
 ·rw [e];exact I.free
 ·obtain ⟨_,o,ho,_⟩:=I.ok.ZMQ.mem hb
  exact I.base.free b o ho (I.ok.frf b hb) fun z=>I.ok.exfs b z hb
theorem Inv.step {g':Array GenState}{t':Nat}{d':Drawn}{ch:List Addr}(I:Inv X pins σ H s)
  (hch:∀ b∈ch,(b∈X.ex∨X.s₀.heap.objs.size<=b)/\b≠X.env.locals/\(∀ x c,X.env.cells.lookup x=some c->c≠b)/\∀ p∈X.pn++pins,p.1≠b)
  (keep:∀ b o,b≠X.env.locals->b∉X.fs->b∉ch->s.heap.get? b=some o->H b=none->h'.get? b=some o)
  (slot:∀ b o,b≠X.env.locals->b∈X.fs->b∉ch->s.heap.get? b=some o->H b=none->∃ sl,h'.get? b=some { o with slots:=sl }) (free:∀ b o,b∉ch->s.heap.get? b=some o->H b=none->H' b=none)
  (there:∀ b o,b∉ch->s.heap.get? b=some o->∃ o',h'.get? b=some o')
  (tups:∀ b xs,H b=some (.tup xs)->H' b=some (.tup xs)) (frzs:∀ b o u,H b=some (.frz o u)->H' b=some (.frz o u)) (tbls:∀ b ps,H b=some (.tbl ps)->∃ more,H' b=some (.tbl (ps++more)))
  (ns:∀ m,s.heap.Ns X.env.locals m->h'.Ns X.env.locals m) (hok:HOk X.prog X.w H' h') (hg:AllBare g') :
  Inv X pins σ H' { s with heap:=h',gens:=g',drawn:=d',toks:=t' }:=by
 have neL:∀ b o,X.s₀.heap.get? b=some o->b≠X.env.locals:=fun b o e=>Nat.ne_of_lt (Nat.lt_of_lt_of_le (Heap.lt_size e) I.ok.above)
 have neC:∀ b o,X.s₀.heap.get? b=some o->b∉X.ex->b∉ch:=fun b o e hx hb=>by
  rcases (hch b hb).1 with z | z
  ·exact hx z
  ·exact absurd (Nat.lt_of_lt_of_le (Heap.lt_size e) z) (Nat.lt_irrefl _)
 have cellK:∀ x c,X.env.cells.lookup x=some c->∀ v,s.heap.IsCell c v->h'.IsCell c v:=fun x c e v ⟨o,ho,hd⟩=>by
  have nch:c∉ch:=fun z=>(hch c z).2.2.1 x c e rfl
  by_cases hc:c∈X.fs
  ·obtain ⟨sl,q⟩:=slot c o (I.cne x c e) hc nch ho (I.freeC x c e)
   exact ⟨_,q,hd⟩
  ·exact ⟨o,keep c o (I.cne x c e) hc nch ho (I.freeC x c e),hd⟩
 refine ⟨I.ok,I.os,hg,⟨fun b o e n hb hx=>?_,fun b o e n hb hx=>?_,fun b o e n hx=>?_,fun b o e hx=>?_,fun b xs e=>tups b xs (I.base.tups b xs e),fun b o xs e=>frzs b o xs (I.base.frzs b o xs e),fun b ps e=>?_⟩,?_,fun x c e=>?_,?_,fun x c e=>?_,fun p hp=>?_,hok,I.len⟩
 ·exact keep b o (neL b o e) hb (neC b o e hx) (I.base.keep b o e n hb hx) (I.base.free b o e n hx)
 ·obtain ⟨sl,e1⟩:=I.base.slot b o e n hb hx
  obtain ⟨sl',e2⟩:=slot b _ (neL b o e) hb (neC b o e hx) e1 (I.base.free b o e n hx)
  exact ⟨sl',e2⟩
 ·obtain ⟨o',e1⟩:=I.base.there b o e hx
  exact free b o' (neC b o e hx) e1 (I.base.free b o e n hx)
 ·obtain ⟨o',e1⟩:=I.base.there b o e hx
  exact there b o' (neC b o e hx) e1
 ·obtain ⟨m1,e1⟩:=I.base.tbls b ps e
  obtain ⟨m2,e2⟩:=tbls b _ e1
  exact ⟨m1++m2,by rw [e2,Array.append_assoc]⟩
 ·obtain ⟨m,hn,hl⟩:=I.loc
  refine ⟨m,ns m hn,fun i x v e1 e2 e3=>?_⟩
  obtain ⟨u,r,l⟩:=hl i x v e1 e2 e3
  refine ⟨u,r,?_⟩
  rcases l with l | ⟨k,c,e,z⟩
  ·exact .inl l
  ·exact .inr ⟨k,c,e,cellK x c e _ z⟩
 ·obtain ⟨v,z⟩:=I.cell x c e
  exact ⟨v,cellK x c e v z⟩
 ·obtain ⟨m,⟨o,_,_,ho,_⟩,_⟩:=I.loc
  exact free _ o (fun z=>(hch _ z).2.1 rfl) ho I.free
 ·obtain ⟨v,o,ho,hd⟩:=I.cell x c e
  exact free c o (fun z=>(hch c z).2.2.1 x c e rfl) ho (I.freeC x c e)
 ·obtain ⟨e,n,ne,nf,d⟩:=I.pin p hp
  have nch:p.1∉ch:=fun z=>(hch p.1 z).2.2.2 p hp rfl
  exact ⟨keep p.1 p.2 ne nf nch e n,free p.1 p.2 nch e n,ne,nf,d⟩
theorem Inv.un {t':Nat}(I:Inv X pins σ H s) (u:Un X.fs [] H H' s.heap h') (hok:HOk X.prog X.w H' h'):Inv X pins σ H' { s with heap:=h',toks:=t' }:=by
 obtain ⟨m,⟨o,es,ep,ho,r⟩,_⟩:=id I.loc
 obtain ⟨sl,hL⟩:=u.any ho I.free (by simp)
 exact I.step (g':=s.gens) (d':=s.drawn) (ch:=[]) (fun _ z=>nomatch z) (fun b o _ hb _ e n=>u.keep b o e n hb (by simp)) (fun b o _ hb _ e n=>u.slot b o e n hb (by simp)) (fun b o _ e n=>u.free b o e n (by simp)) (fun b o _ e=>u.there b o e (by simp)) u.tups u.frzs u.tbls (fun m' hm=>by
  obtain ⟨o',es',ep',ho',r'⟩:=hm
  rw [ho] at ho';cases ho'
  exact ⟨_,es',ep',hL,r'⟩) hok I.bare
theorem Inv.call {g':Array GenState}{t':Nat}{d':Drawn}{ch:List Addr}(I:Inv X pins σ H s) (u:Un (frs X.stack) ch H H' s.heap h') (hok:HOk X.prog X.w H' h') (hg:AllBare g')
  (hch:∀ b∈ch,(b∈X.ex∨X.s₀.heap.objs.size<=b)/\b≠X.env.locals/\(∀ x c,X.env.cells.lookup x=some c->c≠b)/\∀ p∈X.pn++pins,p.1≠b) :
  Inv X pins σ H' { s with heap:=h',gens:=g',drawn:=d',toks:=t' }:=by
 obtain ⟨m,⟨o,es,ep,ho,r⟩,_⟩:=id I.loc
 obtain ⟨sl,hL⟩:=u.any ho I.free fun z=>(hch _ z).2.1 rfl
 exact I.step (ch:=ch) hch (fun b o hL hb hc e n=>u.keep b o e n (fun z=>(List.mem_cons.mp (I.ZLJ b z)).elim hL hb) hc) (fun b o _ _ hc e n=>u.any e n hc) (fun b o hc e n=>u.free b o e n hc) (fun b o hc e=>u.there b o e hc) u.tups u.frzs u.tbls (fun m' hm=>by
  obtain ⟨o',es',ep',ho',r'⟩:=hm
  rw [ho] at ho';cases ho'
  exact ⟨_,es',ep',hL,r'⟩) hok hg
theorem Inv.turned {t':Nat}{it:Addr}(I:Inv X pins σ H s) (k:∀ b o,b≠it->s.heap.get? b=some o->h'.get? b=some o) (hn:H it=none) (hL:it≠X.env.locals)
  (h1:it∈X.ex∨X.s₀.heap.objs.size<=it) (h2:∀ x c,X.env.cells.lookup x=some c->c≠it) (h3:∀ p∈X.pn++pins,p.1≠it):Inv X pins σ H { s with heap:=h',toks:=t' }:=by
 have nit:∀ b u,H b=some u->b≠it:=fun b u e z=>by rw [z,hn] at e;cases e
 refine I.step (g':=s.gens) (d':=s.drawn) (ch:=[it]) (fun b hb=>?_) (fun b o _ _ hc e _=>k b o (fun z=>hc (by simp [z])) e) (fun b o _ _ hc e _=>⟨o.slots,k b o (fun z=>hc (by simp [z])) e⟩) (fun _ _ _ _ n=>n)
  (fun b o hc e=>⟨o,k b o (fun z=>hc (by simp [z])) e⟩) (fun _ _ e=>e) (fun _ _ _ e=>e) (fun b ps e=>⟨#[],by rw [e];simp⟩) (fun m hm=>?_) (fun b u e=>?_) I.bare
 ·have e:b=it:=by simpa using hb
  subst e
  exact ⟨h1,hL,h2,h3⟩
 ·obtain ⟨o,es,ep,ho,r⟩:=hm
  exact ⟨o,es,ep,k _ o (Ne.symm hL) ho,r⟩
 ·refine (I.hok b u e).ZSa (fun c v hc q=>k c v ?_ q) (fun _ q=>q) fun _ _ q=>q
  rcases hc with z | z
  ·rw [z];exact nit b u e
  ·exact nit c _ z
theorem Inv.tok (I:Inv X pins σ H s) (t:Nat):Inv X pins σ H { s with toks:=t }:=I.un (h':=s.heap) (t':=t) Un.refl I.hok
theorem Inv.kept {t':Nat}(I:Inv X pins σ H s) (k:∀ b u,s.heap.get? b=some u->h'.get? b=some u):Inv X pins σ H { s with heap:=h',toks:=t' }:=I.un (Un.kept k) (I.hok.kept k)
theorem Inv.laid {a:Addr}{o:HO}{t':Nat}(I:Inv X pins σ H s) (k:∀ b u,s.heap.get? b=some u->h'.get? b=some u) (hp:s.heap.objs.size<=a) (new:ZCr X.prog X.w (upd H a o) h' a o) :
  Inv X pins σ (upd H a o) { s with heap:=h',toks:=t' }:=I.un (Un.laid k hp (I.hok.fresh hp)) (I.hok.laid k hp new)
theorem Inv.write {x e:Addr}{o:HO}{t':Nat}(I:Inv X pins σ H s) (mu:Mut (H x)) (he:e=x∨H e=some (.own x)) (k:∀ b u,b≠e->s.heap.get? b=some u->h'.get? b=some u) (heo:∃ u,h'.get? e=some u)
  (new:ZCr X.prog X.w (upd H x o) h' x o):Inv X pins σ (upd H x o) { s with heap:=h',toks:=t' }:=I.un (Un.write mu he k heo) (I.hok.write mu he k heo new)
theorem Inv.ZQj {pins':List (Addr×Obj)}(I:Inv X pins σ H s) (h:∀ p∈pins',s.heap.get? p.1=some p.2/\H p.1=none/\p.1≠X.env.locals/\p.1∉X.fs/\∀ v,p.2.data≠.cell v):Inv X pins' σ H s:=
 ⟨I.ok,I.os,I.bare,I.base,I.loc,I.cell,I.free,I.freeC,fun p hp=>(List.mem_append.mp hp).elim (fun z=>I.pin p (List.mem_append_left _ z)) (h p),I.hok,I.len⟩
theorem ZNg {N:List Str}(hN:N.Nodup){i j:Nat}{x:Str}(a:N[i]?=some x) (b:N[j]?=some x):i=j:=by
 obtain ⟨h1,e1⟩:=List.getElem?_eq_some_iff.mp a
 obtain ⟨h2,e2⟩:=List.getElem?_eq_some_iff.mp b
 exact (List.getElem_inj hN).mp (e1.trans e2.symm)
theorem ZLb {M:Model}{A:Around}{E:Value->Shared->Prop}{i:Nat}{x:Str}{v:V}{u:Value}{Q:Unit->Shared->Prop}(I:Inv X pins σ H s) (hN:X.N.Nodup) (hi:X.N[i]?=some x) (hx:Loc X.env.scope x) (r:RelV v u)
  (h:∀ s',Inv X pins (σ.set i (some v)) H s'->(∃ a,Heap.SameBut a s.heap s'.heap/\(a=X.env.locals∨X.env.cells.lookup x=some a))->Q () s') (hf:X.fn x=true∨X.env.scope.names.lookup x=some .local:=by first | exact .inl rfl | exact .inr rfl | assumption):wpAny M A (storeName X.env x u) Q E s:=by
 obtain ⟨m,hn,hl⟩:=id I.loc
 have hcls:(X.env.scope.kind == .class || (X.env.scope.kind == .module && X.env.locals != X.env.globals))=false:=by rw [I.ok.kind];rfl
 have hiσ:i < σ.length:=by rw [I.len];exact (List.getElem?_eq_some_iff.mp hi).1
 have cne:=I.cne
 have tracked:∀ {a:Addr}{h':Heap},(∃ o,s.heap.get? a=some o/\H a=none)->Heap.SameBut a s.heap h'->HOk X.prog X.w H h':=fun {a h'} ha hs b ob e=>by
  obtain ⟨_,_,hfree⟩:=ha
  refine (I.hok b ob e).ZSa (fun c w' hc q=>(hs.2 c ?_).trans q) (fun _ q=>q) fun _ _ q=>q
  rintro rfl
  rcases hc with rfl | hc
  ·rw [hfree] at e;cases e
  ·rw [hfree] at hc;cases hc
 rcases hx with hk | hk
 ·refine wpAny_storeName_local hk hn (fun h' hn' hs=>?_) hcls
  obtain ⟨oL,_,_,hoL,_⟩:=id hn
  refine h _ ⟨I.ok,I.os,I.bare,⟨fun b o e n hb hx=>?_,fun b o e n hb hx=>?_,I.base.free,fun b o e hx=>?_,I.base.tups,I.base.frzs,I.base.tbls⟩,⟨_,hn',fun j y v' e1 e2 e3=>?_⟩,fun y c e=>?_,I.free,I.freeC,fun p hp=>?_,tracked ⟨oL,hoL,I.free⟩ hs,by simpa using I.len⟩ ⟨_,hs,.inl rfl⟩
  ·exact (hs.2 b (Nat.ne_of_lt (Nat.lt_of_lt_of_le (Heap.lt_size e) I.ok.above))).trans (I.base.keep b o e n hb hx)
  ·obtain ⟨sl,e1⟩:=I.base.slot b o e n hb hx
   exact ⟨sl,(hs.2 b (Nat.ne_of_lt (Nat.lt_of_lt_of_le (Heap.lt_size e) I.ok.above))).trans e1⟩
  ·obtain ⟨o',e1⟩:=I.base.there b o e hx
   exact ⟨o',(hs.2 b (Nat.ne_of_lt (Nat.lt_of_lt_of_le (Heap.lt_size e) I.ok.above))).trans e1⟩
  ·by_cases hj:j=i
   ·subst hj
    rw [hi] at e1;cases e1
    rw [List.getElem?_set_self hiσ] at e2
    cases e2
    exact ⟨u,r,.inl ⟨hk,by simp⟩⟩
   ·rw [List.getElem?_set_ne (Ne.symm hj)] at e2
    obtain ⟨u',r',q⟩:=hl j y v' e1 e2 e3
    refine ⟨u',r',?_⟩
    rcases q with ⟨k,e⟩ | ⟨k,c,e,z⟩
    ·refine .inl ⟨k,?_⟩
     have:y≠x:=fun e=>hj (ZNg hN e1 (e▸hi))
     simp [this,e]
    ·exact .inr ⟨k,c,e,z.sameBut hs (cne y c e)⟩
  ·obtain ⟨w',z⟩:=I.cell y c e
   exact ⟨w',z.sameBut hs (cne y c e)⟩
  ·obtain ⟨e,n,ne,nf,d⟩:=I.pin p hp
   exact ⟨(hs.2 p.1 ne).trans e,n,ne,nf,d⟩
 ·have hfn:X.fn x=true:=by
   rcases hf with z | z
   ·exact z
   ·rw [z] at hk;cases hk
  obtain ⟨c,hc⟩:=I.ok.has x (.inl hk)
  obtain ⟨w',z⟩:=I.cell x c hc
  refine wpAny_storeName_cell I.ok.kind hk hc z (fun h' hc' hs=>?_)
  obtain ⟨oc,hoc,hocd⟩:=id z
  refine h { s with heap:=h' } ⟨I.ok,I.os,I.bare,⟨fun b o e n hb hx=>?_,fun b o e n hb hx=>?_,I.base.free,fun b o e hx=>?_,I.base.tups,I.base.frzs,I.base.tbls⟩,⟨m,hn.sameBut hs (Ne.symm (cne x c hc)),fun j y v' e1 e2 e3=>?_⟩,fun y c' e=>?_,I.free,I.freeC,fun p hp=>?_,tracked ⟨oc,hoc,I.freeC x c hc⟩ hs,by simpa using I.len⟩ ⟨c,hs,.inr hc⟩
  ·exact (hs.2 b (Nat.ne_of_lt (Nat.lt_of_lt_of_le (Heap.lt_size e) (I.ok.cab x c hfn hc)))).trans (I.base.keep b o e n hb hx)
  ·obtain ⟨sl,e1⟩:=I.base.slot b o e n hb hx
   exact ⟨sl,(hs.2 b (Nat.ne_of_lt (Nat.lt_of_lt_of_le (Heap.lt_size e) (I.ok.cab x c hfn hc)))).trans e1⟩
  ·obtain ⟨o',e1⟩:=I.base.there b o e hx
   exact ⟨o',(hs.2 b (Nat.ne_of_lt (Nat.lt_of_lt_of_le (Heap.lt_size e) (I.ok.cab x c hfn hc)))).trans e1⟩
  ·by_cases hj:j=i
   ·subst hj
    rw [hi] at e1;cases e1
    rw [List.getElem?_set_self hiσ] at e2
    cases e2
    exact ⟨u,r,.inr ⟨.inl hk,c,hc,hc'⟩⟩
   ·rw [List.getElem?_set_ne (Ne.symm hj)] at e2
    obtain ⟨u',r',q⟩:=hl j y v' e1 e2 e3
    refine ⟨u',r',?_⟩
    rcases q with q | ⟨k,c',e,z'⟩
    ·exact .inl q
    ·refine .inr ⟨k,c',e,z'.sameBut hs ?_⟩
     rintro rfl
     exact hj (ZNg hN e1 (I.ok.inj _ _ _ e hc▸hi))
  ·by_cases hcc:c'=c
   ·subst hcc;exact ⟨_,hc'⟩
   ·obtain ⟨w2,z2⟩:=I.cell y c' e
    exact ⟨w2,z2.sameBut hs hcc⟩
  ·obtain ⟨e,n,ne,nf,d⟩:=I.pin p hp
   refine ⟨(hs.2 p.1 ?_).trans e,n,ne,nf,d⟩
   intro q
   rw [q,hoc] at e
   have q':oc=p.2:=Option.some.inj e
   exact d w' (by rw [<- q'];exact hocd)
theorem ZNe {M:Model}{A:Around}{E:Value->Shared->Prop}{i:Nat}{x:Str}{v:V}{u:Value}{Q:Unit->Shared->Prop}(I:Inv X pins σ H s) (hN:X.N.Nodup) (hi:X.N[i]?=some x) (hx:Loc X.env.scope x) (r:RelV v u)
  (h:∀ s',Inv X pins (σ.set i (some v)) H s'->Q () s') (hf:X.fn x=true∨X.env.scope.names.lookup x=some .local:=by first | exact .inl rfl | exact .inr rfl | assumption):wpAny M A (storeName X.env x u) Q E s:=
 ZLb I hN hi hx r (fun s' I' _=>h s' I') hf
theorem Inv.ZWV {s':Shared}{ch:List Addr}(I:Inv X pins σ H s) (ho:s'.os=s.os) (u:Un (frs X.stack) ch H H' s.heap s'.heap) (hok:HOk X.prog X.w H' s'.heap) (hg:AllBare s'.gens)
  (hch:∀ b∈ch,(b∈X.ex∨X.s₀.heap.objs.size<=b)/\b≠X.env.locals/\(∀ x c,X.env.cells.lookup x=some c->c≠b)/\∀ p∈X.pn++pins,p.1≠b):Inv X pins σ H' s':=by
 obtain ⟨h',g',d',t',o'⟩:=s'
 have e:o'=s.os:=ho
 subst e
 exact I.call (g':=g') (t':=t') (d':=d') u hok hg hch
end
abbrev XK:=Value->Option Addr->Hp->Prop
abbrev St:=List (Option V)
abbrev VK:=V->Hp->Prop
abbrev TE:=St->Hp->VK->Prop
abbrev TT:=St->Hp->(Bool->Hp->Prop)->Prop
abbrev TA:=St->Hp->(List V->Hp->Prop)->Prop
structure Ends where
 nx:St->Hp->Prop
 rt:VK
 bk:St->Hp->Prop:=fun _ _=>False
 ct:St->Hp->Prop:=fun _ _=>False
abbrev TS:=Ends->St->Hp->Prop
def EP (X:Cx) (pins:List (Addr×Obj)) (σ:St) (Q:VK) (u:Value) (s':Shared):Prop:=∃ v H',Inv X pins σ H' s'/\RelV v u/\Q v H'
def TP (X:Cx) (pins:List (Addr×Obj)) (σ:St) (Q:Bool->Hp->Prop) (b:Bool) (s':Shared):Prop:=∃ H',Inv X pins σ H' s'/\Q b H'
def AP (X:Cx) (pins:List (Addr×Obj)) (σ:St) (Q:List V->Hp->Prop) (us:List Value) (s':Shared):Prop:=∃ vs H',Inv X pins σ H' s'/\Vals vs us/\Q vs H'
def SP (X:Cx) (pins:List (Addr×Obj)) (D:Ends) (f:Flow) (s':Shared):Prop:=
 match f with
 | .next=>∃ σ' H',Inv X pins σ' H' s'/\D.nx σ' H'
 | .brk=>∃ σ' H',Inv X pins σ' H' s'/\D.bk σ' H'
 | .cont=>∃ σ' H',Inv X pins σ' H' s'/\D.ct σ' H'
 | .ret u=>∃ v σ' H',Inv X pins σ' H' s'/\RelV v u/\D.rt v H'
def PE (X:Cx) (e:Expr) (t:TE):Prop:=
 ∀ (pins:List (Addr×Obj)) (s:Shared) (σ:St) (H:Hp) (Q:VK),Inv X pins σ H s->t σ H Q->wpAny (model X.prog X.w) X.A (eval e X.env) (EP X pins σ Q) X.xe s
def PT (X:Cx) (e:Expr) (t:TT):Prop:=
 ∀ (pins:List (Addr×Obj)) (s:Shared) (σ:St) (H:Hp) (Q:Bool->Hp->Prop),Inv X pins σ H s->t σ H Q->wpAny (model X.prog X.w) X.A (isTrue e X.env (eval e X.env)) (TP X pins σ Q) X.xe s
def PW (X:Cx) (e:Expr) (t:TT):Prop:=
 ∀ (whole:Sem Value) (pins:List (Addr×Obj)) (s:Shared) (σ:St) (H:Hp) (Q:Bool->Hp->Prop),Inv X pins σ H s->t σ H Q->wpAny (model X.prog X.w) X.A (isTrue e X.env whole) (TP X pins σ Q) X.xe s
theorem PW.pt {X:Cx}{e:Expr}{t:TT}(h:PW X e t):PT X e t:=h _
def PA (X:Cx) (es:List Expr) (t:TA):Prop:=
 ∀ (pos:Pos) (pins:List (Addr×Obj)) (s:Shared) (σ:St) (H:Hp) (Q:List V->Hp->Prop),Inv X pins σ H s->t σ H Q->wpAny (model X.prog X.w) X.A (spliced (backTo pos (starEach es X.env))) (AP X pins σ Q) X.xe s
def PS (X:Cx) (st:Stmt) (t:TS):Prop:=
 ∀ (pins:List (Addr×Obj)) (s:Shared) (σ:St) (H:Hp) (D:Ends),Inv X pins σ H s->t D σ H->wpAny (model X.prog X.w) X.A (exec st X.env) (SP X pins D) X.xe s
def PSs (X:Cx) (st:List Stmt) (t:TS):Prop:=
 ∀ (pins:List (Addr×Obj)) (s:Shared) (σ:St) (H:Hp) (D:Ends),Inv X pins σ H s->t D σ H->wpAny (model X.prog X.w) X.A (execs st X.env) (SP X pins D) X.xe s
theorem thn {α:Type} {t:Sem α}{Q Q':α->Shared->Prop}{M:Model}{A:Around}{E:Value->Shared->Prop}{s:Shared}(h:wpAny M A t Q E s) (hQ:∀ a s,Q a s->Q' a s):wpAny M A t Q' E s:=wpAny_mono h hQ fun _ _ x=>x
end L2
namespace L2
section
variable {X:Cx}
def ZFG (i:Nat):TE:=fun σ H Q=>∃ v,σ[i]?=some (some v)/\Q v H
def tC (v:V):TE:=fun _ H Q=>Q v H
theorem ZSG {i:Nat}{x:Str}{pos:Pos}(hN:X.N[i]?=some x) (hv:Vis X.env.scope x) (hd:(x == ("__debug__" : Str))=false:=by decide) (hcd:(x == ("__classdict__" : Str))=false:=by decide):PE X (.Name x pos) (ZFG i):=by
 intro pins s σ H Q I h
 obtain ⟨v,e,h⟩:=h
 obtain ⟨m,hn,hl⟩:=I.loc
 obtain ⟨u,r,l⟩:=hl i x v hN e hv
 have fin:EP X pins σ Q u s:=⟨v,H,I,r,h⟩
 rcases l with ⟨hk,hm⟩ | ⟨hk,c,hc,hcell⟩
 ·exact wpAny_Name (wpAny_loadName_local I.ok.kind hk hn hm fin) hd
 ·rcases hk with hk | hk
  ·exact wpAny_Name (wpAny_loadName_cell I.ok.kind hk hc hcell fin) hd
  ·exact wpAny_Name (wpAny_loadName_free I.ok.kind hk hc hcell fin hcd) hd
theorem ZUo {i j pos}:PE X (.Constant (.int i) j pos) (tC (.int i)):=fun _ _ _ H _ I h=>wpAny_Constant_int ⟨.int i,H,I.tok _,⟨_,rfl⟩,h⟩
theorem ZWl {b j pos}:PE X (.Constant (.bool b) j pos) (tC (.bl b)):=fun _ _ _ H _ I h=>Constant_bool ⟨.bl b,H,I,rfl,h⟩
theorem ZVa {j pos}:PE X (.Constant .none j pos) (tC .non):=fun _ _ _ H _ I h=>Constant_none ⟨.non,H,I,rfl,h⟩
theorem ZVi {x j pos}:PE X (.Constant (.str x) j pos) (tC (.str x)):=fun _ _ _ H _ I h=>Calls.Constant_str ⟨.str x,H,I.tok _,⟨_,rfl⟩,h⟩
def Gl (X:Cx) (x:Str):Prop:=X.env.kindOf x=some .globalImplicit
theorem ZFc {E:Value->Shared->Prop}{pins:List (Addr×Obj)}{s:Shared}{σ:St} {H:Hp}{x:Str}{u:Value}{pos:Pos}{Q:Value->Shared->Prop}(I:Inv X pins σ H s) (hg:Gl X x) (hm:X.mg x=some u) (h:Q u s)
  (hd:(x == ("__debug__" : Str))=false:=by decide):wpAny (model X.prog X.w) X.A (eval (.Name x pos) X.env) Q E s:=
 Calls.Name_function_global I.ok.kind hg (Calls.loadGlobal_global (by rw [I.ok.glob];exact I.mod.glob.keeps I.bk) hm h) hd
theorem ZJT {E:Value->Shared->Prop}{pins:List (Addr×Obj)}{s:Shared}{σ:St} {H:Hp}{x:Str}{u:Value}{pos:Pos}{Q:Value->Shared->Prop}(I:Inv X pins σ H s) (hg:Gl X x) (hm:X.mg x=none) (hv:bootBuiltins x=some u) (h:Q u s)
  (hn:x ≠ "__name__" := by decide) (hd:(x == ("__debug__" : Str))=false:=by decide):wpAny (model X.prog X.w) X.A (eval (.Name x pos) X.env) Q E s:=by
 obtain ⟨mb,h1,h2⟩:=I.mod.blt
 exact Calls.Name_function_global I.ok.kind hg (Calls.loadGlobal_builtin (by rw [I.ok.glob];exact I.mod.glob.keeps I.bk) hm (by rw [I.ok.blt];exact h1.keeps I.bk) ((h2 x hn).trans hv) h) hd
theorem ZTU {x:Str}{v:V}{u:Value}{pos:Pos}(hg:Gl X x) (hm:X.mg x=some u) (r:RelV v u) (hd:(x == ("__debug__" : Str))=false:=by decide):PE X (.Name x pos) (tC v):=
 fun _ _ _ H _ I h=>ZFc I hg hm ⟨v,H,I,r,h⟩ hd
theorem ZUF {x:Str}{v:V}{u:Value}{pos:Pos}(hg:Gl X x) (hm:X.mg x=none) (hv:bootBuiltins x=some u) (r:RelV v u) (hn:x ≠ "__name__" := by decide) (hd:(x == ("__debug__" : Str))=false:=by decide):PE X (.Name x pos) (tC v):=
 fun _ _ _ H _ I h=>ZJT I hg hm hv ⟨v,H,I,r,h⟩ hn hd
variable {a b:Expr}{ta tb:TE}{pos:Pos}
def tB (t:TE):TT:=fun σ H Q=>t σ H fun x H1=>∃ c,x=.bl c/\Q c H1
theorem ZUT {e:Expr}{t:TE}(h:PE X e t) (he:∀ whole,isTrue e X.env whole=(do let v <- whole;standAt e.pos;holding [v] (truthy v)):=by intro _;rfl):PT X e (tB t):=by
 intro pins s σ H Q I hw
 refine isTrue_plain (thn (h pins s σ H _ I hw) fun v s1 ⟨x,H1,I1,r1,q1⟩=>?_) (he _)
 obtain ⟨d,rfl,q⟩:=q1
 cases r1
 exact wpAny_truthy_bool ⟨H1,I1,q⟩
variable {tA tB':TT}{rest:List Expr}
def ZWO (t u:TT):TT:=fun σ H Q=>t σ H fun c H1=>if c=true then u σ H1 Q else Q false H1
def tOr (t u:TT):TT:=fun σ H Q=>t σ H fun c H1=>if c=true then Q true H1 else u σ H1 Q
def ZWj (t:TT):TT:=fun σ H Q=>t σ H fun c H1=>Q (!c) H1
theorem ZU7 (ha:PT X a tA):PW X (.BoolOp .And [a] pos) tA:=by
 intro wh pins s σ H Q I h
 refine isTrue_and (thn (ha pins s σ H Q I h) fun c s1 e=>?_)
 cases c with
 | true=>exact isTrue_and_nil e
 | false=>exact e
theorem ZW0 (ha:PT X a tA):PW X (.BoolOp .Or [a] pos) tA:=by
 intro wh pins s σ H Q I h
 refine isTrue_or (thn (ha pins s σ H Q I h) fun c s1 e=>?_)
 cases c with
 | false=>exact isTrue_or_nil e
 | true=>exact e
theorem ZVl (ha:PT X a tA) (hb:PW X (.BoolOp .And (b :: rest) pos) tB'):PW X (.BoolOp .And (a :: b :: rest) pos) (ZWO tA tB'):=by
 intro wh pins s σ H Q I h
 refine isTrue_and (thn (ha pins s σ H _ I h) fun c s1 ⟨H1,I1,q1⟩=>?_)
 cases c with
 | true=>exact hb wh pins s1 σ H1 Q I1 q1
 | false=>exact ⟨H1,I1,q1⟩
theorem ZX6 (ha:PT X a tA) (hb:PW X (.BoolOp .Or (b :: rest) pos) tB'):PW X (.BoolOp .Or (a :: b :: rest) pos) (tOr tA tB'):=by
 intro wh pins s σ H Q I h
 refine isTrue_or (thn (ha pins s σ H _ I h) fun c s1 ⟨H1,I1,q1⟩=>?_)
 cases c with
 | true=>exact ⟨H1,I1,q1⟩
 | false=>exact hb wh pins s1 σ H1 Q I1 q1
theorem ZVp (ha:PT X a tA):PT X (.UnaryOp .Not a pos) (ZWj tA):=by
 intro pins s σ H Q I h
 exact isTrue_not (ha pins s σ H (fun c H1=>Q (!c) H1) I h)
def ZTI (ta tb:TE):TE:=fun σ H Q=>ta σ H fun x H1=>∃ c,x=.bl c/\if c=true then tb σ H1 Q else Q (.bl false) H1
def ZXA (ta tb:TE):TE:=fun σ H Q=>ta σ H fun x H1=>∃ c,x=.bl c/\if c=true then Q (.bl true) H1 else tb σ H1 Q
def ZWS (ta:TE):TE:=fun σ H Q=>ta σ H fun x H1=>∃ c,x=.bl c/\Q (.bl (!c)) H1
theorem ZV8 {op} {t:TE}(h:PE X a t):PE X (.BoolOp op [a] pos) t:=fun pins s σ H Q I hw=>BoolOp_one (h pins s σ H Q I hw)
theorem ZVJ (ha:PE X a ta) (hb:PE X (.BoolOp .And (b :: rest) pos) tb):PE X (.BoolOp .And (a :: b :: rest) pos) (ZTI ta tb):=by
 intro pins s σ H Q I h
 refine BoolOp_and (thn (ha pins s σ H _ I h) fun v s1 ⟨x,H1,I1,r1,q1⟩=>?_)
 obtain ⟨c,rfl,q1⟩:=q1
 cases r1
 refine wpAny_truthy_bool ?_
 cases c with
 | true=>exact hb pins s1 σ H1 Q I1 q1
 | false=>exact ⟨.bl false,H1,I1,rfl,q1⟩
theorem ZXF (ha:PE X a ta) (hb:PE X (.BoolOp .Or (b :: rest) pos) tb):PE X (.BoolOp .Or (a :: b :: rest) pos) (ZXA ta tb):=by
 intro pins s σ H Q I h
 refine BoolOp_or (thn (ha pins s σ H _ I h) fun v s1 ⟨x,H1,I1,r1,q1⟩=>?_)
 obtain ⟨c,rfl,q1⟩:=q1
 cases r1
 refine wpAny_truthy_bool ?_
 cases c with
 | false=>exact hb pins s1 σ H1 Q I1 q1
 | true=>exact ⟨.bl true,H1,I1,rfl,q1⟩
end
end L2
namespace L2
def SqL (K:PySem.W.Frag) (H:Hp) (a:Addr) (xs:List V):Prop:=
 Rd H a (.lst xs)∨
  ∃ (o:Obj) (its:Array Value) (n:Nat),K.lookup a=some o/\o.cls=.type "list" /\ o.dict=none/\o.data=.seq its n/\its.size<=sizeLine/\Vals xs its.toList
def SqT (K:PySem.W.Frag) (H:Hp) (a:Addr) (xs:List V):Prop:=
 Rd H a (.tup xs)∨
  ∃ (o:Obj) (its:Array Value) (n:Nat),K.lookup a=some o/\o.cls=.type "tuple" /\ o.data=.seq its n/\its.size<=sizeLine/\Vals xs its.toList
def ZXh:Value->Option V
 | .none=>some .non
 | .bool b=>some (.bl b)
 | .int i _=>some (.int i)
 | .str x _=>some (.str x)
 | .bytes b _=>some (.byt b)
 | .float b _=>some (.flt b)
 | .ref a=>some (.ref a)
 | .type n=>some (.ty n)
 | _=>none
theorem RelV.abs {x:V}{u:Value}(r:RelV x u):ZXh u=some x:=by
 cases x with
 | non=>cases r;rfl
 | bl _=>cases r;rfl
 | int _=>obtain ⟨t,rfl⟩:=r;rfl
 | str _=>obtain ⟨t,rfl⟩:=r;rfl
 | byt _=>obtain ⟨t,rfl⟩:=r;rfl
 | flt _=>obtain ⟨t,rfl⟩:=r;rfl
 | ref _=>cases r;rfl
 | ty _=>cases r;rfl
theorem RelV.inj {x y:V}{u:Value}(r:RelV x u) (q:RelV y u):x=y:=Option.some.inj (r.abs.symm.trans q.abs)
theorem Vals.inj:∀ {xs ys:List V}{us:List Value},Vals xs us->Vals ys us->xs=ys
 | _,_,_,.nil,.nil=>rfl
 | _,_,_,.cons r t,.cons r' t'=>by rw [r.inj r',Vals.inj t t']
section
variable {X:Cx}{pins:List (Addr×Obj)}{σ:St} {H:Hp}{s:Shared}{a:Addr}{xs ys:List V}
theorem SqL.of {K:PySem.W.Frag}(h:H a=some (.lst xs)):SqL K H a xs:=.inl (.inl h)
theorem SqT.of {K:PySem.W.Frag}(h:H a=some (.tup xs)):SqT K H a xs:=.inl (.inl h)
theorem Inv.list (I:Inv X pins σ H s) (h:SqL X.K H a xs):∃ its:List Value,Vals xs its/\PlainL s.heap a its.toArray/\xs.length<=sizeLine:=by
 rcases h with h | ⟨o,its,n,hk,hc,hd,hs,hz,r⟩
 ·obtain ⟨z,its,n,r,e⟩:=h.ok I.hok
  exact ⟨its,r,⟨_,n,e,rfl,rfl,rfl⟩,z⟩
 ·refine ⟨its.toList,r,⟨o,n,I.kIn a o hk,hc,hd,by simpa using hs⟩,?_⟩
  have e:=r.length
  simp only [Array.length_toList] at e
  omega
theorem Inv.tuple (I:Inv X pins σ H s) (h:SqT X.K H a xs):∃ its:List Value,Vals xs its/\IsTup s.heap a its.toArray/\xs.length<=sizeLine:=by
 rcases h with h | ⟨o,its,n,hk,hc,hs,hz,r⟩
 ·obtain ⟨z,its,r,p⟩:=h.ok I.hok
  exact ⟨its,r,p.1,z⟩
 ·refine ⟨its.toList,r,⟨o,I.kIn a o hk,hc,n,by simpa using hs⟩,?_⟩
  have e:=r.length
  simp only [Array.length_toList] at e
  omega
theorem Inv.ZNS (I:Inv X pins σ H s) (h:SqL X.K H a xs) (h':SqL X.K H a ys):xs=ys:=by
 obtain ⟨its,r,⟨o,n,e,_,_,d⟩,_⟩:=I.list h
 obtain ⟨its',r',⟨o',n',e',_,_,d'⟩,_⟩:=I.list h'
 rw [e] at e';cases e'
 rw [d] at d'
 injection d' with d1 _
 have:its=its':=by simpa using congrArg Array.toList d1
 subst this
 exact r.inj r'
theorem Inv.ZEr (I:Inv X pins σ H s) (h:SqT X.K H a xs) (h':SqT X.K H a ys):xs=ys:=by
 obtain ⟨its,r,⟨o,e,_,n,d⟩,_⟩:=I.tuple h
 obtain ⟨its',r',⟨o',e',_,n',d'⟩,_⟩:=I.tuple h'
 rw [e] at e';cases e'
 rw [d] at d'
 injection d' with d1 _
 have:its=its':=by simpa using congrArg Array.toList d1
 subst this
 exact r.inj r'
end
abbrev Cx.ZQt (X:Cx) (E:Value->Shared->Prop):Cx:={ X with xe:=E }
abbrev Cx.nox (X:Cx):Cx:=X.ZQt fun _ _=>False
theorem Cx.Ok.ZQt {X:Cx}(ok:X.Ok) (E:Value->Shared->Prop):(X.ZQt E).Ok:=
 ⟨ok.mod,ok.kind,ok.glob,ok.blt,ok.above,ok.inj,ok.has,ok.cab,ok.hd,ok.frames,ok.stk,ok.exf,ok.bs,ok.bsz,ok.noex,ok.exfs,ok.ZMQ,ok.frf⟩
theorem Cx.Ok.ZH8 {X:Cx}{E:Value->Shared->Prop}(ok:(X.ZQt E).Ok):X.Ok:=
 ⟨ok.mod,ok.kind,ok.glob,ok.blt,ok.above,ok.inj,ok.has,ok.cab,ok.hd,ok.frames,ok.stk,ok.exf,ok.bs,ok.bsz,ok.noex,ok.exfs,ok.ZMQ,ok.frf⟩
section
variable {X:Cx}{pins:List (Addr×Obj)}{σ:St} {H:Hp}{s:Shared}{E:Value->Shared->Prop}
theorem Inv.ZQt (I:Inv X pins σ H s) (E:Value->Shared->Prop):Inv (X.ZQt E) pins σ H s:=⟨I.ok.ZQt E,I.os,I.bare,I.base,I.loc,I.cell,I.free,I.freeC,I.pin,I.hok,I.len⟩
theorem Inv.ZH8 (I:Inv (X.ZQt E) pins σ H s):Inv X pins σ H s:=⟨I.ok.ZH8,I.os,I.bare,I.base,I.loc,I.cell,I.free,I.freeC,I.pin,I.hok,I.len⟩
theorem SP.ZH8 {D:Ends}{f:Flow}{s':Shared}(h:SP (X.ZQt E) pins D f s'):SP X pins D f s':=by
 cases f with
 | next=>obtain ⟨σ',H',I,q⟩:=h;exact ⟨σ',H',I.ZH8,q⟩
 | brk=>obtain ⟨σ',H',I,q⟩:=h;exact ⟨σ',H',I.ZH8,q⟩
 | cont=>obtain ⟨σ',H',I,q⟩:=h;exact ⟨σ',H',I.ZH8,q⟩
 | ret u=>obtain ⟨v,σ',H',I,r,q⟩:=h;exact ⟨v,σ',H',I.ZH8,r,q⟩
theorem PSs.nox {st:List Stmt}{t:TS}(h:PSs X.nox st t):PSs X st t:=fun pins s σ H D I hw=>
 wpAny_mono (h pins s σ H D (I.ZQt _) hw) (fun _ _ q=>q.ZH8) fun _ _ z=>False.elim z
end
section
variable {X:Cx}{st:Stmt}{rest:List Stmt}{t u:TS}{e:Expr}{te:TE}{pos:Pos}
def ZRB:TS:=fun D σ H=>D.nx σ H
def ZTs (t u:TS):TS:=fun D σ H=>t { D with nx:=u D } σ H
theorem ZIW:PSs X [] ZRB:=fun _ _ σ H _ I h=>wpAny_execs_nil ⟨σ,H,I,h⟩
theorem ZCy (h1:PS X st t) (h2:PSs X rest u):PSs X (st :: rest) (ZTs t u):=by
 intro pins s σ H D I h
 refine wpAny_execs_cons (thn (h1 pins s σ H { D with nx:=u D } I h) fun f s1 q=>?_)
 cases f with
 | next=>
  obtain ⟨σ',H',I',q⟩:=q
  exact h2 pins s1 σ' H' D I' q
 | ret v=>exact q
 | brk=>exact q
 | cont=>exact q
theorem ZTm (h1:PS X st t):PSs X [st] t:=by
 intro pins s σ H D I h
 refine wpAny_execs_cons (thn (h1 pins s σ H D I h) fun f s1 q=>?_)
 cases f with
 | next=>exact wpAny_execs_nil q
 | ret v=>exact q
 | brk=>exact q
 | cont=>exact q
theorem Inv.quiet {pins:List (Addr×Obj)}{σ:St} {H:Hp}{s:Shared}(I:Inv X pins σ H s):interactive X.env=false:=by simp [interactive,I.ok.kind]
def ZKm (te:TE):TS:=fun D σ H=>te σ H fun _ H1=>D.nx σ H1
theorem ZIV (he:PE X e te) (hs:swapsWith e none pos.line X.env=pure false:=by rfl):PS X (.Expr e pos) (ZKm te):=by
 intro pins s σ H D I h
 exact wpAny_Expr_any (thn (he pins s σ H _ I h) fun v s1 ⟨x,H1,I1,r1,q1⟩=>⟨σ,H1,I1,q1⟩) I.quiet hs
def ZVV (te:TE):TS:=fun D σ H=>te σ H D.rt
theorem ZVy (he:PE X e te):PS X (.Return (some e) pos) (ZVV te):=by
 intro pins s σ H D I h
 exact wpAny_Return_some (thn (he pins s σ H _ I h) fun v s1 ⟨x,H1,I1,r1,q1⟩=>⟨x,σ,H1,I1,r1,q1⟩)
def ZX8 (c:TT) (t u:TS):TS:=fun D σ H=>c σ H fun b H1=>if b=true then t D σ H1 else u D σ H1
theorem ZXB {c:Expr}{a b:List Stmt}{tc:TT}(hc:PT X c tc) (ha:PSs X a t) (hb:PSs X b u):PS X (.If c a b pos) (ZX8 tc t u):=by
 intro pins s σ H D I h
 refine wpAny_If (thn (hc pins s σ H _ I h) fun d s1 ⟨H1,I1,q1⟩=>?_)
 cases d with
 | true=>exact ha pins s1 σ H1 D I1 q1
 | false=>exact hb pins s1 σ H1 D I1 q1
def ZSM:TS:=fun _ _ _=>False
theorem ZRJ:PS X st ZSM:=fun _ _ _ _ _ _ h=>h.elim
end
abbrev TG:=V->St->Hp->(St->Hp->Prop)->Prop
abbrev TGs:=List V->St->Hp->(St->Hp->Prop)->Prop
def PG (X:Cx) (target:Expr) (t:TG):Prop:=
 ∀ (pins:List (Addr×Obj)) (s:Shared) (σ:St) (H:Hp) (v:V) (u:Value) (Q:St->Hp->Prop),Inv X pins σ H s->RelV v u->t v σ H Q->
  wpAny (model X.prog X.w) X.A (assign target X.env u) (fun _ s'=>∃ σ' H',Inv X pins σ' H' s'/\Q σ' H') X.xe s
def PGs (X:Cx) (ts:List Expr) (t:TGs):Prop:=
 ∀ (pins:List (Addr×Obj)) (s:Shared) (σ:St) (H:Hp) (vs:List V) (us:List Value) (Q:St->Hp->Prop),Inv X pins σ H s->Vals vs us->t vs σ H Q->
  wpAny (model X.prog X.w) X.A (assignInOrder ((assignEach ts X.env).map (·.2)) us) (fun _ s'=>∃ σ' H',Inv X pins σ' H' s'/\Q σ' H') X.xe s
abbrev ZWD:=V->V->V->Hp->(Hp->Prop)->Prop
def ZX9 (X:Cx) (t:ZWD):Prop:=
 ∀ (pins:List (Addr×Obj)) (s:Shared) (σ:St) (H:Hp) (o i v:V) (ov iv u:Value) (Q:Hp->Prop),Inv X pins σ H s->RelV o ov->RelV i iv->RelV v u->t o i v H Q->
  wpAny (model X.prog X.w) X.A (setItem ov iv u) (fun _ s'=>∃ H',Inv X pins σ H' s'/\Q H') X.xe s
section
variable {X:Cx}{pos:Pos}
def ZHU (i:Nat):TG:=fun v σ H Q=>Q (σ.set i (some v)) H
theorem ZP7 {i:Nat}{x:Str}(hN:X.N.Nodup) (hi:X.N[i]?=some x) (hx:Loc X.env.scope x) (hf:X.fn x=true∨X.env.scope.names.lookup x=some .local:=by first | exact .inl rfl | exact .inr rfl | assumption):PG X (.Name x pos) (ZHU i):=by
 intro pins s σ H v u Q I r h
 exact wpAny_assign_Name (ZNe I hN hi hx r (fun s' I'=>⟨_,H,I',h⟩) hf)
def ZWv:TGs:=fun vs σ H Q=>vs=[]/\Q σ H
def ZR4 (t:TG) (u:TGs):TGs:=fun vs σ H Q=>∃ v r,vs=v :: r/\t v σ H fun σ' H'=>u r σ' H' Q
theorem ZSz:PGs X [] ZWv:=by
 intro pins s σ H vs us Q I r h
 obtain ⟨e,h⟩:=h
 subst e
 cases r
 exact assignInOrder_nil ⟨σ,H,I,h⟩
theorem ZRk {e:Expr}{es:List Expr}{t:TG}{u:TGs}(h1:PG X e t) (h2:PGs X es u)
  (hs:(assignEach (e :: es) X.env).map (·.2)=assign e X.env :: (assignEach es X.env).map (·.2):=by rfl):PGs X (e :: es) (ZR4 t u):=by
 intro pins s σ H vs us Q I r h
 obtain ⟨v,vr,e1,h⟩:=h
 subst e1
 cases r with
 | cons r rr=>
  rw [hs]
  refine assignInOrder_cons (thn (h1 pins s σ H _ _ _ I r h) fun _ s1 ⟨σ1,H1,I1,q1⟩=>?_)
  exact h2 pins s1 σ1 H1 _ _ Q I1 rr q1
def ZWP (K:PySem.W.Frag) (n:Nat) (t:TGs):TG:=fun v σ H Q=>∃ a xs,v=.ref a/\SqT K H a xs/\xs.length=n/\t xs σ H Q
theorem ZVA {es:List Expr}{k:Nat}{t:TGs}{n:Nat}(hc:X.calm=true) (h:PGs X es t)
  (hn:(assignEach es X.env).length=n:=by rfl) (hst:(assignEach es X.env).findIdx? (·.1)=none:=by rfl):PG X (.Tuple es k pos) (ZWP X.K n t):=by
 intro pins s σ H v u Q I r hw
 obtain ⟨a,xs,e1,hq,hl,hw⟩:=hw
 subst e1
 cases r
 obtain ⟨its,rv,ht,hz⟩:=I.tuple hq
 refine assign_Tuple_tuple (I.ok.hd hc) ht (by simp [hn,<- hl,rv.length]) hst fun h' hx=>?_
 have I1:Inv X pins σ H { s with heap:=h' }:=I.kept (t':=s.toks) fun b o e=>hx b o (Nat.ne_of_lt (Heap.lt_size e)) e
 exact h pins _ σ H xs _ Q I1 (by simpa using rv) hw
def ZWU (to ti:TE) (t:ZWD):TG:=fun v σ H Q=>to σ H fun o H1=>ti σ H1 fun i H2=>t o i v H2 fun H3=>Q σ H3
theorem ZVg {o i:Expr}{to ti:TE}{t:ZWD}(ho:PE X o to) (hi:PE X i ti) (hs:ZX9 X t)
  (ha:∀ v,assign (.Subscript o i pos) X.env v=(do
   let ov <- holding [v] (eval o X.env)
   let iv <- holding [v,ov] (eval i X.env)
   standAt pos
   holding [v,ov,iv] (setItem ov iv v)
   release [v,ov,iv] []):=by intro _;rfl):PG X (.Subscript o i pos) (ZWU to ti t):=by
 intro pins s σ H v u Q I r h
 rw [ha]
 refine wpAny_bind (wpAny_holding (thn (ho pins s σ H _ I h) fun ov s1 ⟨x,H1,I1,r1,q1⟩=>?_))
 refine wpAny_bind (wpAny_holding (thn (hi pins s1 σ H1 _ I1 q1) fun iv s2 ⟨y,H2,I2,r2,q2⟩=>?_))
 refine wpAny_bind (wpAny_standAt (wpAny_bind (wpAny_holding (thn (hs pins s2 σ H2 x y v ov iv u _ I2 r1 r2 r q2) fun _ s3 ⟨H3,I3,q3⟩=>?_))))
 exact wpAny_release ⟨σ,H3,I3,q3⟩
def ZPW (te:TE) (g:TG):TS:=fun D σ H=>te σ H fun x H1=>g x σ H1 D.nx
theorem ZUX {tg e:Expr}{te:TE}{g:TG}(he:PE X e te) (hg:PG X tg g) (hs:swapsWithSole [tg] e pos.line X.env=pure false:=by rfl) (hw:swappedStores [tg] e X.env=pure none:=by rfl)
  (h1:(assignEach [tg] X.env).map (·.2)=[assign tg X.env]:=by rfl):PS X (.Assign [tg] e pos) (ZPW te g):=by
 intro pins s σ H D I h
 refine wpAny_Assign_stores (thn (he pins s σ H _ I h) fun v s1 ⟨x,H1,I1,r1,q1⟩=>?_) hs hw
 rw [h1]
 exact thn (hg pins s1 σ H1 x v _ I1 r1 q1) fun _ s2 q=>q
theorem ZVP {i:Nat}{x:Str}{e:Expr}{te:TE}{pos':Pos}(hN:X.N.Nodup) (hi:X.N[i]?=some x) (hx:Loc X.env.scope x) (he:PE X e te) (hs:swapsWith e (some (.Name x pos')) pos.line X.env=pure false:=by rfl) (hf:X.fn x=true∨X.env.scope.names.lookup x=some .local:=by first | exact .inl rfl | exact .inr rfl | assumption) :
  PS X (.Assign [.Name x pos'] e pos) (ZPW te (ZHU i)):=by
 intro pins s σ H D I h
 refine wpAny_Assign_Name (thn (he pins s σ H _ I h) fun v s1 ⟨y,H1,I1,r1,q1⟩=>?_) hs
 exact ZNe I1 hN hi hx r1 (fun s2 I2=>⟨_,H1,I2,q1⟩) hf
end
section
variable {X:Cx}{pos:Pos}
def ZSO (c:TT) (tb:TS):TS:=fun D σ H=>∃ W:Nat->St->Hp->Prop,(∃ m,W m σ H)/\∀ m σ H,W m σ H->
 c σ H fun b H1=>if b=true then ∃ N:St->Hp->Prop,(∀ σ' H',N σ' H'->∃ m',m' < m/\W m' σ' H')/\tb { D with nx:=N,ct:=N,bk:=D.nx } σ H1 else D.nx σ H1
theorem ZRK {c:Expr}{body:List Stmt}{tc:TT}{tb:TS}(hp:PassesOwn (model X.prog X.w) X.A X.env X.xe) (hc:PT X c tc) (hb:PSs X body tb):PS X (.While c body [] pos) (ZSO tc tb):=by
 intro pins s σ H D I h
 obtain ⟨W,⟨m0,w0⟩,turn⟩:=h
 refine wpAny_While (codeAny_whileLoop (fun n s'=>∃ σ' H',Inv X pins σ' H' s'/\W n σ' H') ?_ m0 ⟨σ,H,I,w0⟩)
 rintro n s1 ⟨σ1,H1,I1,w1⟩
 refine wpAny_passesOwn hp (thn (hc pins s1 σ1 H1 _ I1 (turn n σ1 H1 w1)) fun b s2 ⟨H2,I2,q2⟩=>?_)
 cases b with
 | true=>
  obtain ⟨N,hN,q2⟩:=q2
  rw [if_pos rfl]
  refine wpAny_passesOwn hp (thn (hb pins s2 σ1 H2 _ I2 q2) fun f s3 q3=>?_)
  cases f with
  | next=>
   obtain ⟨σ3,H3,I3,n3⟩:=q3
   obtain ⟨m',hm,w3⟩:=hN σ3 H3 n3
   exact ⟨m',hm,σ3,H3,I3,w3⟩
  | cont=>
   obtain ⟨σ3,H3,I3,n3⟩:=q3
   obtain ⟨m',hm,w3⟩:=hN σ3 H3 n3
   exact ⟨m',hm,σ3,H3,I3,w3⟩
  | brk=>exact q3
  | ret v=>exact q3
 | false=>
  rw [if_neg Bool.false_ne_true]
  exact wpAny_execs_nil ⟨σ1,H2,I2,q2⟩
end
structure It where
 go:Nat->Hp->Prop
 yld:Nat->Hp->V->Hp->Prop
 stop:Nat->Hp->Prop
def ZNR (X:Cx) (pins:List (Addr×Obj)) (H:Hp) (b:Addr):Prop:=
 H b=none/\b≠X.env.locals/\b∉X.fs/\(b∈X.ex∨X.s₀.heap.objs.size<=b)/\(∀ x c,X.env.cells.lookup x=some c->c≠b)/\∀ p∈X.pn++pins,p.1≠b
theorem Inv.ZW9 {X:Cx}{pins:List (Addr×Obj)}{σ:St} {H H':Hp}{s:Shared}{b:Addr}(I:Inv X pins σ H s) (hb:s.heap.objs.size<=b) (hn:H' b=none):ZNR X pins H' b:=by
 refine ⟨hn,Nat.ne_of_gt (Nat.lt_of_lt_of_le I.lt hb),I.ZXe hb,.inr (Nat.le_trans I.sz hb),fun x c e z=>?_,fun p hp z=>?_⟩
 ·obtain ⟨v,q⟩:=I.cell x c e
  exact absurd (Nat.lt_of_lt_of_le q.lt (by rw [z];exact hb)) (Nat.lt_irrefl _)
 ·exact absurd (Nat.lt_of_lt_of_le (Heap.lt_size (I.pin p hp).1) (by rw [z];exact hb)) (Nat.lt_irrefl _)
structure Turn (P:Program) (w:World) (K:PySem.W.Frag) (tg:Expr) (J:It) (fp:List Addr) (it:Addr) (tn:Nat->Heap->Prop):Prop where
 mem:it∈fp
 obj:∀ i h,tn i h->∀ b∈fp,∃ o,h.get? b=some o/\∀ v,o.data≠.cell v
 keep:∀ i h h',tn i h->(∀ b∈fp,∀ o,h.get? b=some o->h'.get? b=some o)->tn i h'
 item:∀ (X:Cx),X.prog=P->X.w=w->X.K=K->X.calm=true->∀ (i:Nat) (pins:List (Addr×Obj)) (s:Shared) (σ:St) (H:Hp) (E:Value->Shared->Prop),Inv X pins σ H s->(∀ b∈fp,ZNR X pins H b)->tn i s.heap->J.go i H->
  wpAny (model P w) X.A (pyNext (.ref it)) (fun r s1=>∃ u,r=some u/\
   wpAny (model P w) X.A (letOwnedTupleGo tg (.ref it) u) (fun _ s2=>∃ x H',Inv X pins σ H' s2/\RelV x u/\J.yld i H x H'/\tn (i+1) s2.heap/\∀ b∈fp,H' b=none) E s1) E s
 done:∀ (X:Cx),X.prog=P->X.w=w->X.K=K->X.calm=true->∀ (i:Nat) (pins:List (Addr×Obj)) (s:Shared) (σ:St) (H:Hp) (E:Value->Shared->Prop),Inv X pins σ H s->(∀ b∈fp,ZNR X pins H b)->tn i s.heap->J.stop i H->
  wpAny (model P w) X.A (pyNext (.ref it)) (fun r s1=>r=none/\Inv X pins σ H s1) E s
 self:∀ (A:Around) (i:Nat) (s:Shared) (Q:Value->Shared->Prop) (E:Value->Shared->Prop),tn i s.heap->Q (.ref it) s->wpAny (model P w) A (pyIter (.ref it)) Q E s
abbrev TI:=St->Hp->(It->Hp->Prop)->Prop
def PIE (X:Cx) (pins:List (Addr×Obj)) (σ:St) (tg:Expr) (R:It->Hp->Prop) (itv:Value) (s2:Shared):Prop:=
 ∃ (it:Addr) (fp:List Addr) (tn:Nat->Heap->Prop) (J:It) (H':Hp),itv=.ref it/\Inv X pins σ H' s2/\Turn X.prog X.w X.K tg J fp it tn/\tn 0 s2.heap/\(∀ b∈fp,ZNR X pins H' b)/\R J H'
def PI (X:Cx) (tg iter:Expr) (wi:TI):Prop:=
 ∀ (pins:List (Addr×Obj)) (s:Shared) (σ:St) (H:Hp) (R:It->Hp->Prop),Inv X pins σ H s->wi σ H R->
  wpAny (model X.prog X.w) X.A (eval iter X.env) (fun v s1=>wpAny (model X.prog X.w) X.A (pyIter v) (PIE X pins σ tg R) X.xe s1) X.xe s
theorem ZS8 {M:Model}{A:Around}{E:Value->Shared->Prop}{s:Shared}{tg:Expr}{it:Addr}{u:Value}{o:Obj}{n:String}{vs:Array Value}{Q:Unit->Shared->Prop}(ho:s.heap.get? it=some o) (hc:o.cls=.type n) (hd:o.data=.fields vs)
  (hn:["enumerate", "zip", "dict_itemiterator", "dict_reverseitemiterator", "odict_iterator", "itertools.zip_longest", "itertools.pairwise"].contains n=false) (hQ:Q () s):wpAny M A (letOwnedTupleGo tg (.ref it) u) Q E s:=by
 unfold letOwnedTupleGo
 cases tg <;> first
  | exact wpAny_pure hQ
  | (cases u <;> first
    | exact wpAny_pure hQ
    | (
      refine wpAny_bind (wpAny_load ho ?_)
      rw [hc,hd]
      show wpAny M A (if (["enumerate", "zip", "dict_itemiterator", "dict_reverseitemiterator", "odict_iterator", "itertools.zip_longest", "itertools.pairwise"].contains n && vs[0]? == some (rawInt _))=true then _ else _) Q E s
      rw [if_neg (by intro h;rw [hn,Bool.false_and] at h;cases h)]
      exact wpAny_pure hQ))
def Itl (K:PySem.W.Frag) (a:Addr):It:=
 ⟨fun i H=>∃ xs x,SqL K H a xs/\xs[i]?=some x,fun i H x H'=>H'=H/\∀ xs,SqL K H a xs->xs[i]?=some x,fun i H=>∃ xs,SqL K H a xs/\xs.length<=i⟩
def Itt (K:PySem.W.Frag) (a:Addr):It:=
 ⟨fun i H=>∃ xs x,SqT K H a xs/\xs[i]?=some x,fun i H x H'=>H'=H/\∀ xs,SqT K H a xs->xs[i]?=some x,fun i H=>∃ xs,SqT K H a xs/\xs.length<=i⟩
def Itr (lo:Int) (n:Nat):It:=⟨fun i _=>i < n,fun i H x H'=>H'=H/\x=.int (lo+i),fun i _=>n<=i⟩
theorem ZEg {P:Program}{w:World}{K:PySem.W.Frag}{tg:Expr}(a it:Addr):Turn P w K tg (Itl K a) [it] it (fun i h=>h.IsListIter it a i) where
 mem:=by simp
 obj:=fun i h st b hb=>by
  have e:b=it:=by simpa using hb
  subst e
  obtain ⟨o,e,c,d⟩:=st
  exact ⟨o,e,fun v z=>by rw [d] at z;cases z⟩
 keep:=fun i h h' st k=>st.at fun o e=>k it (by simp) o e
 item:=by
  intro X hP hw hK hc i pins s σ H E I hf st hg
  subst hP hw hK
  obtain ⟨xs,x,hq,hx⟩:=hg
  obtain ⟨its,rv,p,hz⟩:=I.list hq
  obtain ⟨u,hu,ru⟩:=rv.get hx
  obtain ⟨f0,f1,f2,f3,f4,f5⟩:=hf it (by simp)
  refine wpAny_pyNext_list_item st p.isList (x:=u) (by simpa using hu) fun h' st' sb=>?_
  have I1:Inv X pins σ H { s with heap:=h' }:=I.turned (t':=s.toks) (fun b o hb e=>(sb.2 b hb).trans e) f0 f1 f3 f4 f5
  obtain ⟨o,e,c,d⟩:=id st'
  exact ⟨u,rfl,ZS8 (s:={ s with heap:=h' }) e c d (by decide) ⟨x,H,I1,ru,⟨rfl,fun ys hy=>by rw [I.ZNS hy hq];exact hx⟩,st',fun b hb=>(hf b hb).1⟩⟩
 done:=by
  intro X hP hw hK hc i pins s σ H E I hf st hg
  subst hP hw hK
  obtain ⟨xs,hq,hx⟩:=hg
  obtain ⟨its,rv,p,hz⟩:=I.list hq
  obtain ⟨f0,f1,f2,f3,f4,f5⟩:=hf it (by simp)
  have hl:=rv.length
  exact wpAny_pyNext_list_end (I.ok.hd hc) st p.isList (by simp;omega) fun h' eb=>⟨rfl,I.turned (t':=s.toks) (fun b o hb e=>eb b o hb e) f0 f1 f3 f4 f5⟩
 self:=fun _ _ _ _ _ st h=>wpAny_pyIter_listiter st h
theorem ZDv {P:Program}{w:World}{K:PySem.W.Frag}{tg:Expr}(a it:Addr):Turn P w K tg (Itt K a) [it] it (fun i h=>h.IsTupleIter it a i) where
 mem:=by simp
 obj:=fun i h st b hb=>by
  have e:b=it:=by simpa using hb
  subst e
  obtain ⟨o,e,c,d⟩:=st
  exact ⟨o,e,fun v z=>by rw [d] at z;cases z⟩
 keep:=fun i h h' st k=>st.at fun o e=>k it (by simp) o e
 item:=by
  intro X hP hw hK hc i pins s σ H E I hf st hg
  subst hP hw hK
  obtain ⟨xs,x,hq,hx⟩:=hg
  obtain ⟨its,rv,p,hz⟩:=I.tuple hq
  obtain ⟨u,hu,ru⟩:=rv.get hx
  obtain ⟨f0,f1,f2,f3,f4,f5⟩:=hf it (by simp)
  refine wpAny_pyNext_tuple_item st (show s.heap.IsTuple a its.toArray from p) (x:=u) (by simpa using hu) fun h' st' sb=>?_
  have I1:Inv X pins σ H { s with heap:=h' }:=I.turned (t':=s.toks) (fun b o hb e=>(sb.2 b hb).trans e) f0 f1 f3 f4 f5
  obtain ⟨o,e,c,d⟩:=id st'
  exact ⟨u,rfl,ZS8 (s:={ s with heap:=h' }) e c d (by decide) ⟨x,H,I1,ru,⟨rfl,fun ys hy=>by rw [I.ZEr hy hq];exact hx⟩,st',fun b hb=>(hf b hb).1⟩⟩
 done:=by
  intro X hP hw hK hc i pins s σ H E I hf st hg
  subst hP hw hK
  obtain ⟨xs,hq,hx⟩:=hg
  obtain ⟨its,rv,p,hz⟩:=I.tuple hq
  obtain ⟨f0,f1,f2,f3,f4,f5⟩:=hf it (by simp)
  have hl:=rv.length
  exact wpAny_pyNext_tuple_end (I.ok.hd hc) st (show s.heap.IsTuple a its.toArray from p) (by simp;omega) fun h' eb=>⟨rfl,I.turned (t':=s.toks) (fun b o hb e=>eb b o hb e) f0 f1 f3 f4 f5⟩
 self:=fun _ _ _ _ _ st h=>wpAny_pyIter_tupleiter st h
theorem ZOc {P:Program}{w:World}{K:PySem.W.Frag}{tg:Expr}(it:Addr) (lo:Int) (n:Nat):Turn P w K tg (Itr lo n) [it] it (fun i h=>IsRangeIter h it (lo+(i:Nat) * 1) ((n:Int) - (i:Nat)) 1) where
 mem:=by simp
 obj:=fun i h st b hb=>by
  have e:b=it:=by simpa using hb
  subst e
  exact ⟨_,st,fun v z=>by
   have z':Data.fields _=Data.cell v:=z
   cases z'⟩
 keep:=fun i h h' st k=>k it (by simp) _ st
 item:=by
  intro X hP hw hK hc i pins s σ H E I hf st hg
  subst hP hw hK
  obtain ⟨f0,f1,f2,f3,f4,f5⟩:=hf it (by simp)
  have W:=Walks.range (prog:=X.prog) (w:=X.w) (I.ok.hd hc) it lo 1 n
  refine W.item i s _ _ hg st fun v h' tk hv st' kk=>?_
  obtain ⟨t,rfl⟩:=hv
  have I1:Inv X pins σ H { s with heap:=h',toks:=tk }:=I.turned (fun b o hb e=>kk b o (by simpa using hb) e) f0 f1 f3 f4 f5
  refine ⟨_,rfl,ZS8 (s:={ s with heap:=h',toks:=tk }) (n := "range_iterator") st' rfl rfl (by decide) ⟨.int (lo+i),H,I1,⟨t,?_⟩,⟨rfl,rfl⟩,st',fun b hb=>(hf b hb).1⟩⟩
  rw [Int.mul_one]
 done:=by
  intro X hP hw hK hc i pins s σ H E I hf st hg
  subst hP hw hK
  obtain ⟨f0,f1,f2,f3,f4,f5⟩:=hf it (by simp)
  exact wpAny_pyNext_range_end (I.ok.hd hc) st (by have:n<=i:=hg;omega) fun h' eb=>⟨rfl,I.turned (t':=s.toks) (fun b o hb e=>eb b o hb e) f0 f1 f3 f4 f5⟩
 self:=fun _ _ _ _ _ st h=>wpAny_pyIter_rangeiter st h
end L2
namespace L2
section
variable {X:Cx}{tg:Expr}
theorem ZRx {pins:List (Addr×Obj)}{σ:St} {H:Hp}{s:Shared}{R:It->Hp->Prop}{E:Value->Shared->Prop}{lo hi:Int}{t u v:Tok}{tk:Nat}(I:Inv X pins σ H s) (h1:-(2 ^ 62)<=lo) (h2:lo < 2 ^ 62) (h3:-(2 ^ 62)<=hi) (h4:hi < 2 ^ 62)
  (q:R (Itr lo (hi - lo).toNat) H):wpAny (model X.prog X.w) X.A (pyIter (.ref s.heap.objs.size)) (PIE X pins σ tg R) E { s with heap:=s.heap.push { cls:=.type "range", data:=.fields #[.int lo t,.int hi u,.int 1 v] },toks:=tk }:=by
 refine wpAny_pyIter_range (IsRange.new ..) (small_one h1 h2 h3 h4) ?_
 have I1:Inv X pins σ H { s with heap:=s.heap.push { cls:=.type "range", data:=.fields #[.int lo t,.int hi u,.int 1 v] },toks:=tk }:=I.kept fun b o e=>Heap.get?_push_of_some _ e
 refine ⟨(s.heap.push { cls:=.type "range", data:=.fields #[.int lo t,.int hi u,.int 1 v] }).objs.size,[(s.heap.push { cls:=.type "range", data:=.fields #[.int lo t,.int hi u,.int 1 v] }).objs.size],_,_,H,rfl,
  I1.kept (t':=tk) fun b o e=>Heap.get?_push_of_some _ e,ZOc _ lo (hi - lo).toNat,?_,fun b hb=>?_,q⟩
 ·have e1:lo+((0:Nat):Int) * 1=lo:=by simp
  have e2:(((hi - lo).toNat:Nat):Int) - ((0:Nat):Int)=Builtin.Range.rangeSize lo hi 1:=by rw [rangeSize_one];split <;> omega
  show IsRangeIter _ _ (lo+((0:Nat):Int) * 1) ((((hi - lo).toNat:Nat):Int) - ((0:Nat):Int)) 1
  rw [e1,e2]
  exact Heap.get?_push_size _ rfl
 ·have e:b=(s.heap.push { cls:=.type "range", data:=.fields #[.int lo t,.int hi u,.int 1 v] }).objs.size:=by simpa using hb
  subst e
  exact I1.ZW9 (Nat.le_refl _) (I1.hok.fresh (Nat.le_refl _))
def ZU0 (ta:TA):TI:=fun σ H R=>ta σ H fun vs H1=>∃ j:Int,vs=[.int j]/\-(2 ^ 62)<=j/\j < 2 ^ 62/\R (Itr 0 j.toNat) H1
def ZWW (ta:TA):TI:=fun σ H R=>ta σ H fun vs H1=>∃ i j:Int,vs=[.int i,.int j]/\(-(2 ^ 62)<=i/\i < 2 ^ 62/\-(2 ^ 62)<=j/\j < 2 ^ 62)/\R (Itr i (j - i).toNat) H1
theorem ZPp {a:Expr}{ta:TA}{p pos:Pos}(hg:Gl X "range") (hm:X.mg "range" = none) (ha:PA X [a] ta) (hs:starEach [a] X.env=[(false,eval a X.env)]:=by rfl):PI X tg (.Call (.Name "range" p) [a] [] pos) (ZU0 ta):=by
 intro pins s σ H R I h
 refine Call_ (ZJT I hg hm boot_range (PyProof.Rows.callWith_type1 (thn (ha pos pins s σ H _ I h) fun us s1 ⟨vs,H1,I1,r1,q1⟩=>?_) hs rfl))
 obtain ⟨j,e,q1,q2,q⟩:=q1
 subst e
 cases r1 with
 | cons r rr=>
  cases rr
  obtain ⟨t,rfl⟩:=r
  exact call_range_1 (ZRx I1 (by omega) (by omega) q1 q2 (by simpa using q))
def ZXE (wi:TI) (g:TG) (tb:TS):TS:=fun D σ H=>wi σ H fun J H1=>∃ W:Nat->Nat->St->Hp->Prop,(∃ m,W 0 m σ H1)/\∀ i m σ H,W i m σ H->
 (J.stop i H/\D.nx σ H)∨(J.go i H/\∃ N:St->Hp->Prop,(∀ σ' H',N σ' H'->∃ m',m' < m/\W (i+1) m' σ' H')/\∀ x H',J.yld i H x H'->g x σ H' fun σ2 H2=>tb { D with nx:=N,ct:=N,bk:=D.nx } σ2 H2)
def ZM6 (fp:List Addr) (h:Heap):List (Addr×Obj):=fp.filterMap fun b=>(h.get? b).map fun o=>(b,o)
theorem ZFE {fp:List Addr}{h:Heap}{b:Addr}{o:Obj}(hb:b∈fp) (e:h.get? b=some o):(b,o)∈ZM6 fp h:=List.mem_filterMap.mpr ⟨b,hb,by rw [e];rfl⟩
theorem ZOo {fp:List Addr}{h:Heap}{p:Addr×Obj}(hp:p∈ZM6 fp h):p.1∈fp/\h.get? p.1=some p.2:=by
 obtain ⟨b,hb,e⟩:=List.mem_filterMap.mp hp
 cases q:h.get? b with
 | none=>rw [q] at e;cases e
 | some o=>
  rw [q] at e
  have e':(b,o)=p:=Option.some.inj e
  subst e'
  exact ⟨hb,q⟩
theorem Inv.pinned {pins:List (Addr×Obj)}{σ:St} {H:Hp}{s:Shared}{fp:List Addr}(I:Inv X pins σ H s) (hf:∀ b∈fp,ZNR X pins H b) (ho:∀ b∈fp,∃ o,s.heap.get? b=some o/\∀ v,o.data≠.cell v):Inv X (pins++ZM6 fp s.heap) σ H s:=
 I.ZQj fun p hp=>(List.mem_append.mp hp).elim (fun z=>I.pin p (List.mem_append_right _ z)) fun z=>by
  obtain ⟨hb,e⟩:=ZOo z
  obtain ⟨f0,f1,f2,_⟩:=hf p.1 hb
  obtain ⟨o,e',d⟩:=ho p.1 hb
  rw [e] at e';cases e'
  exact ⟨e,f0,f1,f2,d⟩
theorem Inv.ZG7 {pins pl:List (Addr×Obj)}{σ:St} {H:Hp}{s:Shared}(I:Inv X (pins++pl) σ H s):Inv X pins σ H s:=I.ZQj fun p hp=>I.pin p (List.mem_append_right _ (List.mem_append_left _ hp))
theorem ZVT {iter:Expr}{body:List Stmt}{wi:TI}{g:TG}{tb:TS}{pos:Pos}(hp:PassesOwn (model X.prog X.w) X.A X.env X.xe) (hc:X.calm=true) (hi:PI X tg iter wi) (hg:PG X tg g) (hb:PSs X body tb)
  (hs:∀ x,foldedSetIterable iter X.env x=pure x:=by intro _;rfl):PS X (.For tg iter body [] pos) (ZXE wi g tb):=by
 intro pins s σ H D I h
 refine wpAny_For (thn (hi pins s σ H _ I h) fun v s1 h1=>thn h1 fun itv s2 h2=>?_) hs
 obtain ⟨it,fp,tn,J,H2,e,I2,T,st2,f2,W,⟨m0,w0⟩,turn⟩:=h2
 subst e
 -- what stays true of the iterator's objects through the loop
 have stat:∀ {H':Hp},(∀ b∈fp,H' b=none)->∀ b∈fp,ZNR X pins H' b:=fun hn b hb=>⟨hn b hb,(f2 b hb).2⟩
 refine codeAny_forLoop_any (fun n s'=>∃ i σ' H',Inv X pins σ' H' s'/\tn i s'.heap/\(∀ b∈fp,H' b=none)/\W i n σ' H') ?_ m0 ⟨0,σ,H2,I2,st2,fun b hb=>(f2 b hb).1,w0⟩
 rintro n s3 ⟨i,σ3,H3,I3,st3,fr3,w3⟩
 rcases turn i n σ3 H3 w3 with ⟨stop,qn⟩ | ⟨go,N,hN,step⟩
 ·refine wpAny_passesOwn hp (thn (T.done X rfl rfl rfl hc i pins s3 σ3 H3 X.xe I3 (stat fr3) st3 stop) fun r s4 ⟨hr,I4⟩=>?_)
  subst hr
  exact wpAny_execs_nil ⟨σ3,H3,I4,qn⟩
 ·refine wpAny_passesOwn hp (thn (T.item X rfl rfl rfl hc i pins s3 σ3 H3 X.xe I3 (stat fr3) st3 go) fun r s4 ⟨u,hr,h4⟩=>?_)
  subst hr
  refine wpAny_passesOwn hp (thn h4 fun _ s5 ⟨x,H5,I5,r5,y5,st5,fr5⟩=>?_)
  have I5':=I5.pinned (stat fr5) (T.obj _ _ st5)
  refine wpAny_passesOwn hp (thn (hg _ s5 σ3 H5 x u _ I5' r5 (step x H5 y5)) fun _ s6 ⟨σ6,H6,I6,q6⟩=>?_)
  refine wpAny_passesOwn hp (thn (hb _ s6 σ6 H6 _ I6 q6) fun f s7 q7=>?_)
  have again:∀ {σ7:St} {H7:Hp},Inv X (pins++ZM6 fp s5.heap) σ7 H7 s7->N σ7 H7->∃ m,m < n/\∃ i σ' H',Inv X pins σ' H' s7/\tn i s7.heap/\(∀ b∈fp,H' b=none)/\W i m σ' H':=fun {σ7 H7} I7 n7=>by
   obtain ⟨m',hm,w7⟩:=hN σ7 H7 n7
   refine ⟨m',hm,i+1,σ7,H7,I7.ZG7,T.keep _ _ _ st5 fun b hb o e=>(I7.pin (b,o) (List.mem_append_right _ (List.mem_append_right _ (ZFE hb e)))).1,fun b hb=>?_,w7⟩
   obtain ⟨o,e,d⟩:=T.obj _ _ st5 b hb
   exact (I7.pin (b,o) (List.mem_append_right _ (List.mem_append_right _ (ZFE hb e)))).2.1
  cases f with
  | next=>obtain ⟨σ7,H7,I7,n7⟩:=q7;exact again I7 n7
  | cont=>obtain ⟨σ7,H7,I7,n7⟩:=q7;exact again I7 n7
  | brk=>obtain ⟨σ7,H7,I7,q7⟩:=q7;exact ⟨σ7,H7,I7.ZG7,q7⟩
  | ret v=>obtain ⟨x7,σ7,H7,I7,r7,q7⟩:=q7;exact ⟨x7,σ7,H7,I7.ZG7,r7,q7⟩
end
theorem ZP5 {lo:Int}{n:Nat}{g:TG}{tb:TS}{D:Ends}{σ:St} {H:Hp}(Pv:Nat->St->Hp->Prop) (h0:Pv 0 σ H)
  (hs:∀ i σ H,i < n->Pv i σ H->g (.int (lo+i)) σ H fun σ2 H2=>tb { D with nx:=Pv (i+1),ct:=Pv (i+1),bk:=D.nx } σ2 H2) (hd:∀ σ H,Pv n σ H->D.nx σ H) :
  ∃ W:Nat->Nat->St->Hp->Prop,(∃ m,W 0 m σ H)/\∀ i m σ H,W i m σ H->
   ((Itr lo n).stop i H/\D.nx σ H)∨((Itr lo n).go i H/\∃ N:St->Hp->Prop,(∀ σ' H',N σ' H'->∃ m',m' < m/\W (i+1) m' σ' H')/\∀ x H',(Itr lo n).yld i H x H'->g x σ H' fun σ2 H2=>tb { D with nx:=N,ct:=N,bk:=D.nx } σ2 H2):=by
 refine ⟨fun i m σ H=>m=n - i/\i<=n/\Pv i σ H,⟨n,by simp,Nat.zero_le _,h0⟩,?_⟩
 rintro i m σ H ⟨rfl,hi,p⟩
 by_cases hlt:i < n
 ·refine .inr ⟨hlt,Pv (i+1),fun σ' H' p'=>⟨n - (i+1),by omega,rfl,hlt,p'⟩,fun x H' y=>?_⟩
  obtain ⟨e,y⟩:=y
  subst e y
  exact hs i σ _ hlt p
 ·have e:i=n:=by omega
  subst e
  exact .inl ⟨Nat.le_refl _,hd σ H p⟩
end L2
namespace L2
abbrev R2:=V->V->Hp->VK->Prop
def OpR (X:Cx) (f:Value->Value->Sem Value) (r:R2):Prop:=
 ∀ (pins:List (Addr×Obj)) (s:Shared) (σ:St) (H:Hp) (x y:V) (v u:Value) (Q:VK),Inv X pins σ H s->RelV x v->RelV y u->r x y H Q->
  wpAny (model X.prog X.w) X.A (f v u) (EP X pins σ Q) X.xe s
def UnR (X:Cx) (f:Value->Sem Value) (r:V->Hp->VK->Prop):Prop:=
 ∀ (pins:List (Addr×Obj)) (s:Shared) (σ:St) (H:Hp) (x:V) (v:Value) (Q:VK),Inv X pins σ H s->RelV x v->r x H Q->
  wpAny (model X.prog X.w) X.A (f v) (EP X pins σ Q) X.xe s
def ZFH (X:Cx) (f:Value) (r:List V->Hp->VK->Prop):Prop:=
 ∀ (pins:List (Addr×Obj)) (s:Shared) (σ:St) (H:Hp) (xs:List V) (us:List Value) (Q:VK),Inv X pins σ H s->Vals xs us->r xs H Q->
  wpAny (model X.prog X.w) X.A (call f us) (EP X pins σ Q) X.xe s
def tOp (r:R2) (ta tb:TE):TE:=fun σ H Q=>ta σ H fun x H1=>tb σ H1 fun y H2=>r x y H2 Q
def tUn (r:V->Hp->VK->Prop) (ta:TE):TE:=fun σ H Q=>ta σ H fun x H1=>r x H1 Q
def rI (C:Int->Int->Prop) (g:Int->Int->V):R2:=fun x y H Q=>∃ i j,x=.int i/\y=.int j/\C i j/\Q (g i j) H
def rI0 (g:Int->Int->V):R2:=fun x y H Q=>∃ i j,x=.int i/\y=.int j/\Q (g i j) H
def rU (g:Int->V):V->Hp->VK->Prop:=fun x H Q=>∃ i,x=.int i/\Q (g i) H
section
variable {X:Cx}{a b c:Expr}{ta tb tc:TE}{pos:Pos}
theorem ZWm (ha:PE X a ta) (hb:PE X b tb){pins:List (Addr×Obj)}{s:Shared}{σ:St} {H:Hp}{R:V->V->Hp->Prop}(I:Inv X pins σ H s)
  (h:ta σ H fun x H1=>tb σ H1 fun y H2=>R x y H2){Q:Value->Shared->Prop}{f:Value->Value->Sem Value}
  (hf:∀ v u s2 x y H2,Inv X pins σ H2 s2->RelV x v->RelV y u->R x y H2->wpAny (model X.prog X.w) X.A (f v u) Q X.xe s2) :
  wpAny (model X.prog X.w) X.A (eval a X.env) (fun v s₁=>wpAny (model X.prog X.w) X.A (eval b X.env) (fun u s₂=>wpAny (model X.prog X.w) X.A (f v u) Q X.xe s₂) X.xe s₁) X.xe s:=by
 refine thn (ha pins s σ H _ I h) fun v s1 ⟨x,H1,I1,r1,q1⟩=>?_
 refine thn (hb pins s1 σ H1 _ I1 q1) fun u s2 ⟨y,H2,I2,r2,q2⟩=>?_
 exact hf v u s2 x y H2 I2 r1 r2 q2
theorem ZWX {op:Operator}{r:R2}(ho:OpR X (binaryOp op) r) (ha:PE X a ta) (hb:PE X b tb):PE X (.BinOp a op b pos) (tOp r ta tb):=by
 intro pins s σ H Q I h
 exact wpAny_BinOp (ZWm ha hb I h fun v u s2 x y H2 I2 rx ry q=>ho pins s2 σ H2 x y v u Q I2 rx ry q)
theorem ZWQ {op:UnaryOp}{r:V->Hp->VK->Prop}(ho:UnR X (unaryOp op) r) (ha:PE X a ta):PE X (.UnaryOp op a pos) (tUn r ta):=by
 intro pins s σ H Q I h
 exact UnaryOp_ (thn (ha pins s σ H _ I h) fun v s1 ⟨x,H1,I1,r1,q1⟩=>ho pins s1 σ H1 x v Q I1 r1 q1)
theorem opI {f:Value->Value->Sem Value}{C:Int->Int->Prop}{g:Int->Int->Int}
  (rule:∀ (i j:Int) (t u:Tok) (s:Shared) (Q:Value->Shared->Prop) (E:Value->Shared->Prop),C i j->Q (.int (g i j) s.toks) { s with toks:=s.toks+1 }->wpAny (model X.prog X.w) X.A (f (.int i t) (.int j u)) Q E s) :
  OpR X f (rI C fun i j=>.int (g i j)):=by
 intro pins s σ H x y v u Q I rx ry h
 obtain ⟨i,j,rfl,rfl,hc,q⟩:=h
 obtain ⟨t,rfl⟩:=rx
 obtain ⟨t',rfl⟩:=ry
 exact rule i j t t' s _ _ hc ⟨.int (g i j),H,I.tok _,⟨_,rfl⟩,q⟩
theorem ZXS {f:Value->Value->Sem Value}{g:Int->Int->Int}
  (rule:∀ (i j:Int) (t u:Tok) (s:Shared) (Q:Value->Shared->Prop) (E:Value->Shared->Prop),Q (.int (g i j) s.toks) { s with toks:=s.toks+1 }->wpAny (model X.prog X.w) X.A (f (.int i t) (.int j u)) Q E s) :
  OpR X f (rI0 fun i j=>.int (g i j)):=by
 intro pins s σ H x y v u Q I rx ry h
 obtain ⟨i,j,rfl,rfl,q⟩:=h
 obtain ⟨t,rfl⟩:=rx
 obtain ⟨t',rfl⟩:=ry
 exact rule i j t t' s _ _ ⟨.int (g i j),H,I.tok _,⟨_,rfl⟩,q⟩
theorem ZWG {f:Value->Value->Sem Value}{g:Int->Int->Bool}
  (rule:∀ (i j:Int) (t u:Tok) (s:Shared) (Q:Value->Shared->Prop) (E:Value->Shared->Prop),Q (.bool (g i j)) s->wpAny (model X.prog X.w) X.A (f (.int i t) (.int j u)) Q E s) :
  OpR X f (rI0 fun i j=>.bl (g i j)):=by
 intro pins s σ H x y v u Q I rx ry h
 obtain ⟨i,j,rfl,rfl,q⟩:=h
 obtain ⟨t,rfl⟩:=rx
 obtain ⟨t',rfl⟩:=ry
 exact rule i j t t' s _ _ ⟨.bl (g i j),H,I,rfl,q⟩
def ZWT (i j:Int):Prop:=0<=j/\j<=1000000/\i.natAbs < 2 ^ 64
theorem ZBc:OpR X (binaryOp .Add) (rI0 fun i j=>.int (i+j)):=ZXS fun _ _ _ _ _ _ _ q=>add_int q
theorem ZFP:OpR X (binaryOp .Sub) (rI0 fun i j=>.int (i - j)):=ZXS fun _ _ _ _ _ _ _ q=>sub_int q
theorem ZHN:OpR X (binaryOp .Mod) (rI (fun _ j=>0 < j) fun i j=>.int (i % j)):=opI fun i j _ _ _ _ _ hc q=>by
 have h1:(0:Int) < j:=hc
 exact mod_int' (by omega) (by rw [Int.fmod_eq_emod_of_nonneg i (by omega)];exact q)
theorem ZHK:OpR X (binaryOp .Pow) (rI ZWT fun i j=>.int (i ^ j.toNat)):=opI fun _ _ _ _ _ _ _ hc q=>pow_int_small hc.1 hc.2.1 hc.2.2 q
theorem unI {f:Value->Sem Value}{g:Int->Int}
  (rule:∀ (i:Int) (t:Tok) (s:Shared) (Q:Value->Shared->Prop) (E:Value->Shared->Prop),Q (.int (g i) s.toks) { s with toks:=s.toks+1 }->wpAny (model X.prog X.w) X.A (f (.int i t)) Q E s) :
  UnR X f (rU fun i=>.int (g i)):=by
 intro pins s σ H x v Q I rx h
 obtain ⟨i,rfl,q⟩:=h
 obtain ⟨t,rfl⟩:=rx
 exact rule i t s _ _ ⟨.int (g i),H,I.tok _,⟨_,rfl⟩,q⟩
theorem ZEz:UnR X (unaryOp .USub) (rU fun i=>.int (-i)):=unI fun _ _ _ _ _ q=>neg_int q
end
def ZW8:V->V->Bool
 | .non,.non=>true | .non,.int _=>true | .int _,.non=>true | .non,.bl _=>true | .bl _,.non=>true | .non,.str _=>true | .str _,.non=>true
 | .int _,.int _=>true | .bl _,.bl _=>true | .str _,.str _=>true | .byt _,.byt _=>true
 | .int _,.str _=>true | .str _,.int _=>true | .bl _,.str _=>true | .str _,.bl _=>true
 | _,_=>false
def rEq:R2:=fun x y H Q=>ZW8 x y=true/\Q (.bl (decide (x=y))) H
def rNe:R2:=fun x y H Q=>ZW8 x y=true/\Q (.bl (!decide (x=y))) H
theorem ZQo {i j:Int}:decide (V.int i=V.int j)=(i == j):=by
 rw [Bool.eq_iff_iff]
 simp
theorem ZSR {i j:Bool}:decide (V.bl i=V.bl j)=(i == j):=by
 rw [Bool.eq_iff_iff]
 simp
theorem ZP8 {i j:Str}:decide (V.str i=V.str j)=(i == j):=by
 rw [Bool.eq_iff_iff]
 simp
theorem ZQF {i j:Array UInt8}:decide (V.byt i=V.byt j)=(i.toList == j.toList):=by
 rw [Bool.eq_iff_iff]
 cases i
 cases j
 simp
section
variable {X:Cx}{a b c:Expr}{ta tb tc:TE}{pos:Pos}
theorem ZAw {pins:List (Addr×Obj)}{σ:St} {H:Hp}{s:Shared}{Q:VK}{k k':Bool}(I:Inv X pins σ H s) (q:Q (.bl k) H) (e:k=k'):EP X pins σ Q (.bool k') s:=by
 subst e
 exact ⟨.bl k,H,I,rfl,q⟩
theorem ZBG:OpR X (compareOp .Eq) rEq:=by
 intro pins s σ H x y v u Q I rx ry h
 obtain ⟨hs,q⟩:=h
 cases x with
 | non=>
  cases rx
  cases y with
  | non=>cases ry;exact PySem.EqNone.eq_none_none (ZAw I q (by simp))
  | bl j=>cases ry;exact PySem.EqNone.eq_none_bool (ZAw I q (by simp))
  | int j=>obtain ⟨t',rfl⟩:=ry;exact PySem.EqNone.eq_none_int (ZAw I q (by simp))
  | str j=>obtain ⟨t',rfl⟩:=ry;exact PySem.EqNone.eq_none_str (ZAw I q (by simp))
  | _=>exact absurd (show false=true from hs) Bool.false_ne_true
 | bl i=>
  cases rx
  cases y with
  | non=>cases ry;exact PySem.EqNone.eq_bool_none (ZAw I q (by simp))
  | bl j=>cases ry;exact eq_bool (ZAw I q ZSR)
  | str j=>obtain ⟨t',rfl⟩:=ry;exact PySem.EqMixed.eq_bool_str (ZAw I q (by simp))
  | _=>exact absurd (show false=true from hs) Bool.false_ne_true
 | int i=>
  obtain ⟨t,rfl⟩:=rx
  cases y with
  | non=>cases ry;exact PySem.EqNone.eq_int_none (ZAw I q (by simp))
  | int j=>obtain ⟨t',rfl⟩:=ry;exact eq_int (ZAw I q ZQo)
  | str j=>obtain ⟨t',rfl⟩:=ry;exact PySem.EqMixed.eq_int_str (ZAw I q (by simp))
  | _=>exact absurd (show false=true from hs) Bool.false_ne_true
 | str i=>
  obtain ⟨t,rfl⟩:=rx
  cases y with
  | non=>cases ry;exact PySem.EqNone.eq_str_none (ZAw I q (by simp))
  | bl j=>cases ry;exact PySem.EqMixed.eq_str_bool (ZAw I q (by simp))
  | int j=>obtain ⟨t',rfl⟩:=ry;exact PySem.EqMixed.eq_str_int (ZAw I q (by simp))
  | str j=>obtain ⟨t',rfl⟩:=ry;exact eq_str (ZAw I q ZP8)
  | _=>exact absurd (show false=true from hs) Bool.false_ne_true
 | byt i=>
  obtain ⟨t,rfl⟩:=rx
  cases y with
  | byt j=>obtain ⟨t',rfl⟩:=ry;exact PySem.W.eq_bytes (ZAw I q ZQF)
  | _=>exact absurd (show false=true from hs) Bool.false_ne_true
 | _=>cases y <;> exact absurd (show false=true from hs) Bool.false_ne_true
theorem ZLf:OpR X (compareOp .NotEq) rNe:=by
 intro pins s σ H x y v u Q I rx ry h
 obtain ⟨hs,q⟩:=h
 cases x with
 | non=>
  cases rx
  cases y with
  | non=>cases ry;exact PySem.EqNone.ne_none_none (ZAw I q (by simp))
  | bl j=>cases ry;exact PySem.EqNone.ne_none_bool (ZAw I q (by simp))
  | int j=>obtain ⟨t',rfl⟩:=ry;exact PySem.EqNone.ne_none_int (ZAw I q (by simp))
  | str j=>obtain ⟨t',rfl⟩:=ry;exact PySem.EqNone.ne_none_str (ZAw I q (by simp))
  | _=>exact absurd (show false=true from hs) Bool.false_ne_true
 | bl i=>
  cases rx
  cases y with
  | non=>cases ry;exact PySem.EqNone.ne_bool_none (ZAw I q (by simp))
  | bl j=>cases ry;exact ne_bool (ZAw I q (congrArg not ZSR))
  | str j=>obtain ⟨t',rfl⟩:=ry;exact PySem.EqMixed.ne_bool_str (ZAw I q (by simp))
  | _=>exact absurd (show false=true from hs) Bool.false_ne_true
 | int i=>
  obtain ⟨t,rfl⟩:=rx
  cases y with
  | non=>cases ry;exact PySem.EqNone.ne_int_none (ZAw I q (by simp))
  | int j=>obtain ⟨t',rfl⟩:=ry;exact ne_int (ZAw I q (congrArg not ZQo))
  | str j=>obtain ⟨t',rfl⟩:=ry;exact PySem.EqMixed.ne_int_str (ZAw I q (by simp))
  | _=>exact absurd (show false=true from hs) Bool.false_ne_true
 | str i=>
  obtain ⟨t,rfl⟩:=rx
  cases y with
  | non=>cases ry;exact PySem.EqNone.ne_str_none (ZAw I q (by simp))
  | bl j=>cases ry;exact PySem.EqMixed.ne_str_bool (ZAw I q (by simp))
  | int j=>obtain ⟨t',rfl⟩:=ry;exact PySem.EqMixed.ne_str_int (ZAw I q (by simp))
  | str j=>obtain ⟨t',rfl⟩:=ry;exact ne_str (ZAw I q (congrArg not ZP8))
  | _=>exact absurd (show false=true from hs) Bool.false_ne_true
 | byt i=>
  obtain ⟨t,rfl⟩:=rx
  cases y with
  | byt j=>obtain ⟨t',rfl⟩:=ry;exact PySem.W.ne_bytes (ZAw I q (congrArg not ZQF))
  | _=>exact absurd (show false=true from hs) Bool.false_ne_true
 | _=>cases y <;> exact absurd (show false=true from hs) Bool.false_ne_true
theorem ZI8:OpR X (compareOp .Lt) (rI0 fun i j=>.bl (decide (i < j))):=ZWG fun _ _ _ _ _ _ _ q=>lt_int q
theorem ZDT:OpR X (compareOp .LtE) (rI0 fun i j=>.bl (decide (i<=j))):=ZWG fun _ _ _ _ _ _ _ q=>le_int q
theorem ZPo:OpR X (compareOp .Gt) (rI0 fun i j=>.bl (decide (j < i))):=ZWG fun _ _ _ _ _ _ _ q=>gt_int q
theorem ZOI:OpR X (compareOp .GtE) (rI0 fun i j=>.bl (decide (j<=i))):=ZWG fun _ _ _ _ _ _ _ q=>ge_int q
theorem ZL8:OpR X (compareOp .In) (fun x y H Q=>∃ i j,x=.str i/\y=.str j/\Q (.bl (!(Builtin.Str.occurrences j i 0 j.length 1).isEmpty)) H):=by
 intro pins s σ H x y v u Q I rx ry h
 obtain ⟨i,j,rfl,rfl,q⟩:=h
 obtain ⟨t,rfl⟩:=rx
 obtain ⟨t',rfl⟩:=ry
 exact in_str (ZAw I q rfl)
theorem ZSP:OpR X (compareOp .Is) (fun x y H Q=>y=.non/\Q (.bl (decide (x=.non))) H):=by
 intro pins s σ H x y v u Q I rx ry h
 obtain ⟨rfl,q⟩:=h
 cases ry
 refine is_none_gen (ZAw I q ?_)
 cases x <;> first
  | (cases rx;rfl)
  | (obtain ⟨t,rfl⟩:=rx;rfl)
theorem ZMW:OpR X (compareOp .IsNot) (fun x y H Q=>y=.non/\Q (.bl (!decide (x=.non))) H):=by
 intro pins s σ H x y v u Q I rx ry h
 obtain ⟨rfl,q⟩:=h
 cases ry
 refine isnot_none_gen (ZAw I q ?_)
 cases x <;> first
  | (cases rx;rfl)
  | (obtain ⟨t,rfl⟩:=rx;rfl)
theorem ZAI (b:Expr){op:CmpOp}(h:op≠.In:=by decide) (h2:op≠.NotIn:=by decide):behindInMarks op b=false:=by
 have e1:(op == CmpOp.In)=false:=by cases op <;> first | rfl | exact absurd rfl h
 have e2:(op == CmpOp.NotIn)=false:=by cases op <;> first | rfl | exact absurd rfl h2
 cases b <;> simp [behindInMarks,e1,e2]
theorem ZTt {op:CmpOp}{r:R2}(ho:OpR X (compareOp op) r) (ha:PE X a ta) (hb:PE X b tb) (hm:behindInMarks op b=false):PE X (.Compare a [op] [b] pos) (tOp r ta tb):=by
 intro pins s σ H Q I h
 exact wpAny_Compare1 (ZWm ha hb I h fun v u s2 x y H2 I2 rx ry q=>ho pins s2 σ H2 x y v u Q I2 rx ry q) hm
def ZPk (t:TE):TT:=fun σ H Q=>t σ H fun x H'=>∃ k,x=.bl k/\Q k H'
theorem ZTv {op:CmpOp}{r:R2}(ho:OpR X (compareOp op) r) (ha:PE X a ta) (hb:PE X b tb) (hm:behindInMarks op b=false):PT X (.Compare a [op] [b] pos) (ZPk (tOp r ta tb)):=by
 intro pins s σ H Q I h
 refine wpAny_isTrue_Compare1 (thn (ha pins s σ H _ I h) fun v s1 ⟨x,H1,I1,r1,q1⟩=>thn (hb pins s1 σ H1 _ I1 q1) fun u s2 ⟨y,H2,I2,r2,q2⟩=>
  thn (ho pins s2 σ H2 x y v u _ I2 r1 r2 q2) fun c s3 ⟨z,H3,I3,r3,k,e,q3⟩=>?_) hm
 subst e
 cases r3
 exact wpAny_truthy_bool ⟨H3,I3,q3⟩
def ZLU (r r':R2) (ta tb tc:TE):TE:=fun σ H Q=>ta σ H fun x H1=>tb σ H1 fun y H2=>r x y H2 fun z H3=>∃ k,z=.bl k/\
 (if k=true then tc σ H3 fun w' H4=>r' y w' H4 Q else Q (.bl false) H3)
theorem ZRW {op op':CmpOp}{r r':R2}(ho:OpR X (compareOp op) r) (ho':OpR X (compareOp op') r') (ha:PE X a ta) (hb:PE X b tb) (hc:PE X c tc)
  (hm:lastMarks [op,op'] [b,c]=false:=by with_unfolding_all rfl):PE X (.Compare a [op,op'] [b,c] pos) (ZLU r r' ta tb tc):=by
 intro pins s σ H Q I h
 refine Compare_chain (thn (ha pins s σ H _ I h) fun v s1 ⟨x,H1,I1,r1,q1⟩=>chain_link (thn (hb pins s1 σ H1 _ I1 q1) fun u s2 ⟨y,H2,I2,r2,q2⟩=>
  thn (ho pins s2 σ H2 x y v u _ I2 r1 r2 q2) fun d s3 ⟨z,H3,I3,r3,k,e,q3⟩=>?_)) hm
 subst e
 cases r3
 refine wpAny_truthy_bool ?_
 cases k with
 | false=>exact ite_ff ⟨.bl false,H3,I3,rfl,q3⟩
 | true=>exact ite_tt (chain_last (thn (hc pins s3 σ H3 _ I3 q3) fun w' s4 ⟨z',H4,I4,r4,q4⟩=>ho' pins s4 σ H4 y z' u w' Q I4 r2 r4 q4))
theorem ZRu {op op':CmpOp}{r r':R2}(ho:OpR X (compareOp op) r) (ho':OpR X (compareOp op') r') (ha:PE X a ta) (hb:PE X b tb) (hc:PE X c tc)
  (hm:lastMarks [op,op'] [b,c]=false:=by with_unfolding_all rfl):PT X (.Compare a [op,op'] [b,c] pos) (ZPk (ZLU r r' ta tb tc)):=by
 intro pins s σ H Q I h
 refine isTrue_chain (thn (ha pins s σ H _ I h) fun v s1 ⟨x,H1,I1,r1,q1⟩=>test_link (thn (hb pins s1 σ H1 _ I1 q1) fun u s2 ⟨y,H2,I2,r2,q2⟩=>
  thn (ho pins s2 σ H2 x y v u _ I2 r1 r2 q2) fun d s3 ⟨z,H3,I3,r3,k,e,q3⟩=>?_)) hm
 subst e
 cases r3
 refine wpAny_truthy_bool ?_
 cases k with
 | false=>
  obtain ⟨k',e',q'⟩:=q3
  cases e'
  exact ite_ff ⟨H3,I3,q'⟩
 | true=>
  refine ite_tt (test_last (thn (hc pins s3 σ H3 _ I3 q3) fun w' s4 ⟨z',H4,I4,r4,q4⟩=>thn (ho' pins s4 σ H4 y z' u w' _ I4 r2 r4 q4) fun d' s5 ⟨z2,H5,I5,r5,k2,e2,q5⟩=>?_))
  subst e2
  cases r5
  exact wpAny_truthy_bool ⟨H5,I5,q5⟩
theorem ZFN:(sizeLine:Nat) < 2 ^ 63:=by rw [sizeLine_eq];decide
theorem ZF7:OpR X (binaryOp .Add) (fun x y H Q=>∃ i j,x=.str i/\y=.str j/\i.length+j.length<=sizeLine/\Q (.str (i++j)) H):=by
 intro pins s σ H x y v u Q I rx ry h
 obtain ⟨i,j,rfl,rfl,hz,q⟩:=h
 obtain ⟨t,rfl⟩:=rx
 obtain ⟨t',rfl⟩:=ry
 exact add_str (fun t' tk=>⟨.str (i++j),H,I.tok _,⟨_,rfl⟩,q⟩) hz
theorem vals1 {x:V}{us:List Value}(r:Vals [x] us):∃ u,us=[u]/\RelV x u:=by
 cases r with
 | cons r1 r2=>cases r2;exact ⟨_,rfl,r1⟩
theorem vals2 {x y:V}{us:List Value}(r:Vals [x,y] us):∃ u w',us=[u,w']/\RelV x u/\RelV y w':=by
 cases r with
 | cons r1 r2=>
  cases r2 with
  | cons r3 r4=>cases r4;exact ⟨_,_,rfl,r1,r3⟩
theorem ZFp:ZFH X (.type "int") (fun xs H Q=>(∃ i,xs=[.int i]/\Q (.int i) H)∨∃ k,xs=[.bl k]/\Q (.int (if k then 1 else 0)) H):=by
 intro pins s σ H xs us Q I r h
 rcases h with ⟨i,rfl,q⟩ | ⟨k,rfl,q⟩
 ·obtain ⟨u,rfl,t,rfl⟩:=vals1 r
  exact call_int_int ⟨.int i,H,I,⟨_,rfl⟩,q⟩
 ·obtain ⟨u,rfl,r1⟩:=vals1 r
  cases r1
  exact call_int_bool ⟨.int (if k then 1 else 0),H,I.tok _,⟨_,rfl⟩,q⟩
end
end L2
namespace L2
structure ZWh (h:Heap) (x dx C:Addr) (mA:Str->Option Value):Prop where
 obj:h.get? x=some (PySem.W.instObj C dx)
 ns:h.Ns1 dx mA
 ne:dx≠x
theorem ZQd {h:Heap}{dx:Addr}{mA:Str->Option Value}(n:h.Ns1 dx mA):∃ od,h.get? dx=some od/\∀ name,PySem.W.lookIn name od=some (mA name):=by
 obtain ⟨o,es,ep,ho,hd,hk,_,hm⟩:=n
 refine ⟨o,ho,fun name=>?_⟩
 have e:=hm name
 unfold nsFind findBy at e
 rw [<- Array.find?_toList] at e
 unfold PySem.W.lookIn
 rw [hd]
 dsimp only
 split
 ·rename_i y q
  rw [q] at e
  exact congrArg some e
 ·rename_i q
  rw [q] at e
  have a:es.toList.any (·.refKey)=false:=by
   rw [List.any_eq_false]
   intro y hy
   obtain ⟨z,t,hkey⟩:=hk y (Array.mem_toList_iff.mp hy)
   simp [DictEntry.refKey,hkey]
  have a':¬ es.toList.any (·.refKey)=true:=by rw [a];exact Bool.false_ne_true
  rw [if_neg a']
  exact congrArg some e
theorem ZWh.look {h:Heap}{x dx C:Addr}{mA:Str->Option Value}(I:ZWh h x dx C mA):∃ od,PySem.W.InstAt h x (PySem.W.instObj C dx) C (some od)/\∀ name,PySem.W.lookIn name od=some (mA name):=
 let ⟨od,ho,hl⟩:=ZQd I.ns
 ⟨od,⟨I.obj,rfl,rfl,ho⟩,hl⟩
section
variable {prog:Program}{w:World}{A:Around}{E:Value->Shared->Prop}{s:Shared}{K:PySem.W.Frag}{x dx C f:Addr}{mA:Str->Option Value}{name:Str}{v:Value}
end
section
variable {P:Program}{w:World}{H H':Hp}{h h':Heap}{a C dx:Addr}{fs fs':List (Str×V)}
theorem ZTN (hok:HOk P w H h) (e:H a=some (.ins C dx fs)):∃ mA,ZWh h a dx C mA/\(∀ f,ZX0 (fs.lookup f) (mA f))/\PySem.Within mA (fs.map (·.1))/\fs.length<=1000/\H dx=some (.own a):=by
 obtain ⟨d,z,ne,ob,mA,n,r,q⟩:=(show ZCr P w H h a (.ins C dx fs) from hok a _ e)
 exact ⟨mA,⟨ob,n,ne⟩,r,q,z,d⟩
end
structure Cls (K:PySem.W.Frag) (C:Addr):Prop where
 pg:PySem.W.plainGet K C Str.empty=true
 hd:PySem.W.hasDictIn K C=true
 po:PySem.W.plainOver K C=true
 sa:PySem.W.findIn K (.ref C) "__setattr__" = some (some (.builtin "object.__setattr__"))
theorem Cls.get {K:PySem.W.Frag}{C:Addr}(c:Cls K C) (f:Str):PySem.W.plainGet K C f=true:=c.pg
structure Con (K:PySem.W.Frag) (C:Addr) (f:Str) (v:V) (u:Value):Prop where
 at_:PySem.W.findIn K (.ref C) f=some (some u)
 rel:RelV v u
 get:PySem.W.specialIn K u "__get__" = some none
 cp:PySem.W.copiedNames.contains f=false
section
variable {X:Cx}{pins:List (Addr×Obj)}{σ:St} {H:Hp}{s:Shared}{a C dx:Addr}{fs:List (Str×V)}{f:Str}{v:V}{A:Around}{E:Value->Shared->Prop}
end
section
variable {X:Cx}{o e value:Expr}{f:Str}{pos pos' tpos:Pos}{ta tv:TE}
end
section
variable {X:Cx}{pins:List (Addr×Obj)}{σ:St} {H:Hp}{s:Shared}{A:Around}{E:Value->Shared->Prop}{Q:Value->Shared->Prop}{c:Value}{b:Bool}
inductive ZMX (K:PySem.W.Frag) (H:Hp):V->Value->Prop where
 | non:ZMX K H .non (.type "NoneType")
 | bl (x:Bool):ZMX K H (.bl x) (.type "bool")
 | int (i:Int):ZMX K H (.int i) (.type "int")
 | str (x:Str):ZMX K H (.str x) (.type "str")
 | flt (x:UInt64):ZMX K H (.flt x) (.type "float")
 | lst {a:Addr}{xs:List V}(e:H a=some (.lst xs)):ZMX K H (.ref a) (.type "list")
 | frz {a:Addr}{o:Obj}{xs:List V}(e:H a=some (.frz o (.lst xs))):ZMX K H (.ref a) (.type "list")
 | tup {a:Addr}{xs:List V}(e:H a=some (.tup xs)):ZMX K H (.ref a) (.type "tuple")
 | dK {a:Addr}{kvs:List (Key×V)}(e:H a=some (.dK kvs)):ZMX K H (.ref a) (.type "dict")
 | dT {a:Addr}{kvs:List (List Key×V)}(e:H a=some (.dT kvs)):ZMX K H (.ref a) (.type "dict")
 | ins {a C dx:Addr}{fs:List (Str×V)}(e:H a=some (.ins C dx fs)) (cl:Cls K C) (ha:PySem.W.findIn K (.ref C) "__class__" = some (some (.builtin "object.__class__")))
   (hn:PySem.W.specialIn K (.builtin "object.__class__") "__get__" = some (some (.builtin "getset_descriptor.__get__"))) (htk:PySem.W.takesIn K (.builtin "object.__class__")=some true)
   (hm:PySem.W.mroIn K C (.type "object")=some true):ZMX K H (.ref a) (.ref C)
theorem ZPf {x:V}{u t:Value}(I:Inv X pins σ H s) (rx:RelV x u) (ty:ZMX X.K H x t) (e:PySem.W.kitOne X.K t c=some b) (h:∀ tk,Q (.bool b) { s with toks:=tk }) :
  wpAny (model X.prog X.w) A (call (.builtin "isinstance") [u,c]) Q E s:=by
 cases ty with
 | non=>cases (show u=Value.none from rx);exact PySem.W.kia_one PySem.W.kitx_none I.kIn True.intro e (fun z=>nomatch z) h
 | bl y=>cases (show u=Value.bool y from rx);exact PySem.W.kia_one PySem.W.kitx_bool I.kIn True.intro e (fun z=>nomatch z) h
 | int i=>obtain ⟨t,q⟩:=(show ∃ t,u=Value.int i t from rx);cases q;exact PySem.W.kia_one PySem.W.kitx_int I.kIn True.intro e (fun z=>nomatch z) h
 | str y=>obtain ⟨t,q⟩:=(show ∃ t,u=Value.str y t from rx);cases q;exact PySem.W.kia_one PySem.W.kitx_str I.kIn True.intro e (fun z=>nomatch z) h
 | flt y=>obtain ⟨t,q⟩:=(show ∃ t,u=Value.float y t from rx);cases q;exact PySem.W.kia_one PySem.W.kitx_float I.kIn True.intro e (fun z=>nomatch z) h
 | @lst a xs ea=>
  cases (show u=Value.ref a from rx)
  obtain ⟨_,_,n,_,h1⟩:=(show ZCr X.prog X.w H s.heap a (.lst xs) from I.hok a _ ea)
  exact PySem.W.kia_one PySem.W.kitx_list I.kIn ⟨_,h1,rfl⟩ e (fun z=>nomatch z) h
 | @frz a ob xs ea=>
  cases (show u=Value.ref a from rx)
  obtain ⟨_,_,_,n,_,h1⟩:=(show ZCr X.prog X.w H s.heap a (.frz ob (.lst xs)) from I.hok a _ ea)
  exact PySem.W.kia_one PySem.W.kitx_list I.kIn ⟨_,h1,rfl⟩ e (fun z=>nomatch z) h
 | @tup a xs ea=>
  cases (show u=Value.ref a from rx)
  obtain ⟨_,_,_,p⟩:=(show ZCr X.prog X.w H s.heap a (.tup xs) from I.hok a _ ea)
  obtain ⟨o,h1,h2,_⟩:=p.1
  exact PySem.W.kia_one PySem.W.kitx_tuple I.kIn ⟨o,h1,h2⟩ e (fun z=>nomatch z) h
 | @dK a kvs ea=>
  cases (show u=Value.ref a from rx)
  obtain ⟨_,_,vs,_,p⟩:=(show ZCr X.prog X.w H s.heap a (.dK kvs) from I.hok a _ ea)
  obtain ⟨o,es,ep,h1,h2,_⟩:=p
  exact PySem.W.kia_one PySem.W.kitx_dict I.kIn ⟨o,h1,h2.1⟩ e (fun z=>nomatch z) h
 | @dT a kvs ea=>
  cases (show u=Value.ref a from rx)
  obtain ⟨_,_,xs,_,o,es,ep,h1,h2,_⟩:=(show ZCr X.prog X.w H s.heap a (.dT kvs) from I.hok a _ ea)
  exact PySem.W.kia_one PySem.W.kitx_dict I.kIn ⟨o,h1,h2.1⟩ e (fun z=>nomatch z) h
 | @ins a C dx fs ea cl ha hn htk hm=>
  cases (show u=Value.ref a from rx)
  obtain ⟨mA,O,_⟩:=ZTN I.hok ea
  obtain ⟨od,J,_⟩:=O.look
  exact PySem.W.kia_one (PySem.W.kitx_own (cl.get _) cl.hd ha hn htk hm) I.kIn J e (fun z=>nomatch z) h
end
end L2
namespace L2
structure ZFW (k:Nat) (A:Around):Prop where
 hd:A.handled=none
 dp:A.depth+3 * k+5 < recursionLimit
 un:A.units+16 * k+200 < cLine
theorem ZFW.mono {j k:Nat}{A:Around}(r:ZFW k A) (h:j<=k):ZFW j A:=⟨r.hd,by have:=r.dp;omega,by have:=r.un;omega⟩
theorem ZFW.deeper {k:Nat}{A:Around}(r:ZFW (k+1) A) (env:Env):ZFW k (A.deeper env):=
 ⟨r.hd,by have:=r.dp;show A.depth+1+3 * k+5 < _;omega,by have:=r.un;show A.units+3+16 * k+200 < _;omega⟩
theorem ZOB {A:Around}{C:Addr}{us:List Value}{kw:List (Str×Value)}:(A.under (.builtin "type.__call__" ⟨.ref C :: us,kw⟩)).depth=A.depth+1:=by
 first | rfl | simp [Around.under,Code.weight,Code.isCreation,Code.isGuard,Code.isCaller,Code.frames,Code.isFrame,guardIds]
theorem ZOZ {A:Around}{C:Addr}{us:List Value}{kw:List (Str×Value)}:(A.under (.builtin "type.__call__" ⟨.ref C :: us,kw⟩)).units=A.units+1:=by
 first | rfl | simp [Around.under,Code.cUnits,Code.frames,Code.isFrame]
theorem ZFW.make {k:Nat}{A:Around}(r:ZFW (k+1) A) (C:Addr) (us:List Value) (kw:List (Str×Value)):ZFW k (A.under (.builtin "type.__call__" ⟨.ref C :: us,kw⟩)):=
 ⟨r.hd,by have:=r.dp;rw [ZOB];omega,by have:=r.un;rw [ZOZ];omega⟩
theorem ZFW.depth {k:Nat}{A:Around}(r:ZFW k A):A.depth < recursionLimit:=by have:=r.dp;omega
theorem ZFW.units {k:Nat}{A:Around}(r:ZFW k A):A.units+64 < cLine:=by have:=r.un;omega
theorem ZFW.ZEn {k:Nat}{A:Around}(r:ZFW k A):A.units < cLine:=by have:=r.un;omega
def ZCq:TA:=fun _ H Q=>Q [] H
def ZAe (ta:TE) (tr:TA):TA:=fun σ H Q=>ta σ H fun x H1=>tr σ H1 fun xs H2=>Q (x :: xs) H2
section
variable {X:Cx}{e:Expr}{es:List Expr}{te:TE}{t:TA}{pos:Pos}
theorem ZL2:PA X [] ZCq:=fun _ _ _ _ H Q I h=>Calls.spliced_nil ⟨[],H,I,.nil,h⟩
theorem ZE8 (ha:PE X e te) (hr:PA X es t) (hs:starEach (e :: es) X.env=(false,eval e X.env) :: starEach es X.env:=by rfl):PA X (e :: es) (ZAe te t):=by
 intro pos pins s σ H Q I h
 rw [hs]
 show wpAny _ _ (spliced ((false,eval e X.env) :: backTo pos (starEach es X.env))) _ _ s
 refine Calls.spliced_cons (thn (ha pins s σ H _ I h) fun u s1 ⟨x,H1,I1,r1,q1⟩=>?_)
 exact thn (hr pos pins s1 σ H1 _ I1 q1) fun us s2 ⟨xs,H2,I2,r2,q2⟩=>⟨x :: xs,H2,I2,.cons r1 r2,q2⟩
def ZX2 (t:TA):TE:=fun σ H Q=>t σ H fun xs H1=>xs.length<=sizeLine/\∀ p,H1 p=none->Q (.ref p) (upd H1 p (.tup xs))
def ZWR (t:TA):TE:=fun σ H Q=>t σ H fun xs H1=>xs.length<=sizeLine/\∀ p,H1 p=none->Q (.ref p) (upd H1 p (.lst xs))
theorem ZVD {x1} (h:PA X es t):PE X (.Tuple es x1 pos) (ZX2 t):=by
 intro pins s σ H Q I hq
 refine wpAny_Tuple_spliced (thn (h pos pins s σ H _ I hq) fun us s1 ⟨xs,H1,I1,r,z,q⟩=>⟨by rw [<- r.length];exact z,?_⟩)
 have hf:H1 s1.heap.objs.size=none:=I1.hok.fresh (Nat.le_refl _)
 refine ⟨.ref s1.heap.objs.size,upd H1 s1.heap.objs.size (.tup xs),I1.laid (t':=s1.toks) (fun b u e=>Heap.get?_push_of_some _ e) (Nat.le_refl _) ?_,rfl,q _ hf⟩
 exact ⟨z,us,r,⟨_,Heap.get?_push_size _ rfl,rfl,_,rfl⟩,fun ob' e'=>by rw [Heap.get?_push_size _ rfl] at e';cases e';rfl⟩
theorem ZVS (h:PA X es t):PE X (.List es pos) (ZWR t):=by
 intro pins s σ H Q I hq
 refine wpAny_List_spliced (thn (h pos pins s σ H _ I hq) fun us s1 ⟨xs,H1,I1,r,z,q⟩=>⟨by rw [<- r.length];exact z,?_⟩)
 have hf:H1 s1.heap.objs.size=none:=I1.hok.fresh (Nat.le_refl _)
 refine ⟨.ref s1.heap.objs.size,upd H1 s1.heap.objs.size (.lst xs),I1.laid (t':=s1.toks) (fun b u e=>Heap.get?_push_of_some _ e) (Nat.le_refl _) ?_,rfl,q _ hf⟩
 exact ⟨z,us,0,r,Heap.get?_push_size _ rfl⟩
end
abbrev Sp:=List V->Hp->VK->XK->Prop
abbrev CXT:=List Env->Hp->Shared->XK->Value->Shared->Prop
structure ZT4 (P:Program) (w:World) (K:PySem.W.Frag) (mg:Str->Option Value) (base:Heap) (A:Around) (outer:List Env) (s:Shared) (H:Hp):Prop where
 frames:A.frames=some outer
 mod:Mod K mg base
 bs:∀ b o,base.get? b=some o->s.heap.get? b=some o/\H b=none
 bsz:base.objs.size<=s.heap.objs.size
 ZMQ:s.heap.FunFrames base outer
 frf:∀ b∈frs outer,H b=none
 hok:HOk P w H s.heap
 bare:AllBare s.gens
def CE (outer:List Env) (P:Program) (w:World) (H:Hp) (s:Shared) (Q:VK) (u:Value) (s':Shared):Prop:=
 ∃ v H',s'.os=s.os/\AllBare s'.gens/\Un (frs outer) [] H H' s.heap s'.heap/\HOk P w H' s'.heap/\RelV v u/\Q v H'
def CR (CX:CXT) (outer:List Env) (P:Program) (w:World) (H:Hp) (s:Shared) (Q:VK) (E:XK) (r:Result) (s':Shared):Prop:=
 match r with
 | .ok (.ret u)=>CE outer P w H s Q u s'
 | .ok _=>False
 | .error e=>CX outer H s E e s'
structure ZJ2 (P:Program) (w:World) (K:PySem.W.Frag) (mg:Str->Option Value) (base:Heap) (CX:CXT) (k:Nat) (f:Addr) (fd:FuncData) (ps:List Str) (sp:Sp):Prop where
 len:∀ vs H Q E,sp vs H Q E->vs.length=ps.length
 run:∀ (A:Around) (outer:List Env) (s:Shared) (H:Hp) (args:Args) (us:List Value) (vs:List V) (Q:VK) (E:XK),ZFW k A->ZT4 P w K mg base A outer s H->BindsTo s fd args (ps.zip us)->Vals vs us->sp vs H Q E->
  codeAny (model P w) A (.call (.ref f) args) (CR CX outer P w H s Q E) s
theorem ZJ2.mono {P:Program}{w:World}{K:PySem.W.Frag}{mg:Str->Option Value}{base:Heap}{CX:CXT}{j k:Nat}{f:Addr}{fd:FuncData}{ps:List Str}{sp:Sp}(F:ZJ2 P w K mg base CX j f fd ps sp) (h:j<=k) :
  ZJ2 P w K mg base CX k f fd ps sp:=⟨F.len,fun A outer s H args us vs Q E hr=>F.run A outer s H args us vs Q E (hr.mono h)⟩
theorem ZT4.make {P:Program}{w:World}{K:PySem.W.Frag}{mg:Str->Option Value}{base:Heap}{A:Around}{outer:List Env}{s:Shared}{H:Hp}(e:ZT4 P w K mg base A outer s H) (C:Addr) (us:List Value) (kw:List (Str×Value)) :
  ZT4 P w K mg base (A.under (.builtin "type.__call__" ⟨.ref C :: us,kw⟩)) outer s H:=⟨by first | exact e.frames | (simpa [Around.under,Code.envs,Code.isFrame,pushEnvs] using e.frames),e.mod,e.bs,e.bsz,e.ZMQ,e.frf,e.hok,e.bare⟩
section
variable {X:Cx}{pins:List (Addr×Obj)}{σ:St} {H:Hp}{s s':Shared}
theorem Inv.ZWz (I:Inv X pins σ H s):ZT4 X.prog X.w X.K X.mg X.base X.A X.stack s H:=
 ⟨I.ok.frames,I.ok.mod,I.bs,Nat.le_trans I.ok.bsz I.sz,I.stack,I.ZKn,I.hok,I.bare⟩
theorem Inv.after {Q:VK}{u:Value}(I:Inv X pins σ H s) (h:CE X.stack X.prog X.w H s Q u s'):EP X pins σ Q u s':=by
 obtain ⟨v,H',os,bare,un,hok,r,q⟩:=h
 obtain ⟨hh,g,d,t,os'⟩:=s'
 obtain rfl:os'=s.os:=os
 exact ⟨v,H',I.call (h':=hh) (g':=g) (d':=d) (t':=t) (ch:=[]) un hok bare (fun b z=>absurd z (by simp)),r,q⟩
end
def ZDr (sp:Sp) (dvs:List V) (E:XK) (t:TA):TE:=fun σ H Q=>t σ H fun vs H1=>sp (vs++dvs) H1 Q E
def Binds (K:PySem.W.Frag) (fd:FuncData) (ps:List Str) (ds:List Value):Prop:=
 ∀ (s:Shared) (us:List Value),K.In s.heap->(us++ds).length=ps.length->BindsTo s fd ⟨us,[]⟩ (ps.zip (us++ds))
theorem Binds.all {K:PySem.W.Frag}{fd:FuncData}{ps:List Str}(h:∀ us:List Value,us.length=ps.length->bindArgs fd ⟨us,[]⟩=pure (ps.zip us)):Binds K fd ps []:=fun s us _ hl=>by
 rw [List.append_nil] at hl ⊢
 exact .of_eq (h us hl)
def Passes (CX:CXT) (X:Cx) (E:XK):Prop:=∀ (pins:List (Addr×Obj)) (σ:St) (H:Hp) (s:Shared) (e:Value) (s':Shared),Inv X pins σ H s->CX X.stack H s E e s'->X.xe e s'
section
variable {X:Cx}{CX:CXT}{k:Nat}{f C:Addr}{fd:FuncData}{ps:List Str}{sp:Sp}{dvs:List V}{ds:List Value}{E:XK}{x m:Str}{p pos apos:Pos}{e o:Expr}{es:List Expr}{ta:TE}{t:TA}
theorem ZV6 {pins:List (Addr×Obj)}{σ:St} {H:Hp}{s:Shared}{Q:VK}{us:List Value}{vs:List V}(F:ZJ2 X.prog X.w X.K X.mg X.base CX k f fd ps sp) (hr:ZFW k X.A) (hb:Binds X.K fd ps ds) (hd:Vals dvs ds) (hx:Passes CX X E)
  (I:Inv X pins σ H s) (r:Vals vs us) (h:sp (vs++dvs) H Q E):wpAny (model X.prog X.w) X.A (call (.ref f) us) (EP X pins σ Q) X.xe s:=by
 have r2:Vals (vs++dvs) (us++ds):=r.append hd
 have hl:(us++ds).length=ps.length:=by rw [<- r2.length];exact F.len _ _ _ _ h
 refine wpAny_call (codeAny_mono (F.run X.A X.stack s H ⟨us,[]⟩ (us++ds) (vs++dvs) Q E hr I.ZWz (hb s us I.kIn hl) r2 h) fun r s' hq=>?_)
 cases r with
 | error e=>exact hx pins σ H s e s' I hq
 | ok fl=>
  cases fl with
  | ret u=>exact I.after hq
  | next=>exact False.elim hq
  | brk=>exact False.elim hq
  | cont=>exact False.elim hq
theorem ZUM (F:ZJ2 X.prog X.w X.K X.mg X.base CX k f fd ps sp) (hr:ZFW k X.A) (hg:Gl X x) (hm:X.mg x=some (.ref f)) (hk:PySem.W.keepIn X.K (.ref f)=true) (hb:Binds X.K fd ps ds) (hd:Vals dvs ds) (hx:Passes CX X E)
  (ha:PA X (e :: es) t) (hdb:(x == ("__debug__" : Str))=false:=by decide) (he:starEach (e :: es) X.env=(false,eval e X.env) :: starEach es X.env:=by rfl) (hpl:(backTo pos (starEach es X.env)).any (·.1)=false:=by rfl) :
  PE X (.Call (.Name x p) (e :: es) [] pos) (ZDr sp dvs E t):=by
 intro pins s σ H Q I h
 refine wpAny_Call_Name_kw (ZFc I hg hm ?_ hdb)
 refine PySem.W.callWith_K (h₀:=X.base) I.ok.mod.kin hk (thn (ha pos pins s σ H _ I h) fun us s1 ⟨vs,H1,I1,r,q⟩=>⟨I1.kIn,?_⟩) he hpl
 exact ZV6 F hr hb hd hx I1 r q
end
section
variable {X:Cx}{CX:CXT}{k:Nat}{f C:Addr}{fd:FuncData}{ps ks:List Str}{sp:Sp}{E:XK}{x m:Str}{p pos apos kpos:Pos}{e o:Expr}{es:List Expr}{kws:List Keyword}{te ta:TE}{t tk:TA}{nm:Option Str}
variable {g:List Value->List Value->List Value}{gV:List V->List V->List V}
end
structure ZAP (N P:List Str) (sc:Scope):Prop where
 kind:sc.kind=.function
 co:sc.isCoroutine=false
 gen:sc.isGenerator=false
 nd:N.Nodup
 pre:N.take P.length=P
 par:∀ x∈P,sc.names.lookup x=some .local∨sc.names.lookup x=some .cell
 nofree:∀ y∈sc.names,y.2≠.free
theorem ZLt {kindOf:Str->Option NameKind}{x:Str}:∀ {binds:List (Str×Value)}{m:Str->Option Value},(∀ v,(x,v)∉binds)->bindL kindOf binds m x=m x
 | [],_,_=>rfl
 | (n,v) :: r,m,h=>by
  unfold bindL
  rw [ZLt fun w hw=>h w (List.mem_cons_of_mem _ hw)]
  split
  ·have:x≠n:=by rintro rfl;exact h v List.mem_cons_self
   simp [this]
  ·rfl
theorem ZL3 {kindOf:Str->Option NameKind}{x:Str}:∀ {binds:List (Str×Value)}{m:Str->Option Value},(∀ v,(x,v)∉binds)->bindC kindOf binds m x=m x
 | [],_,_=>rfl
 | (n,v) :: r,m,h=>by
  unfold bindC
  rw [ZL3 fun w hw=>h w (List.mem_cons_of_mem _ hw)]
  split
  ·rfl
  ·have:x≠n:=by rintro rfl;exact h v List.mem_cons_self
   simp [this]
theorem ZLz {kindOf:Str->Option NameKind}{x:Str}{v:Value}:∀ {P:List Str}{vs:List Value}{i:Nat}{m:Str->Option Value},P.Nodup->P[i]?=some x->vs[i]?=some v->kindOf x=some .local->
  bindL kindOf (P.zip vs) m x=some v
 | [],_,_,_,_,h,_,_=>by simp at h
 | _ :: _,[],_,_,_,_,h,_=>by simp at h
 | p :: P,w :: vs,0,m,nd,h1,h2,hk=>by
  simp at h1 h2;subst h1;subst h2
  show bindL kindOf ((p,w) :: P.zip vs) m p=_
  unfold bindL
  rw [ZLt fun v hv=>(List.nodup_cons.mp nd).1 (List.of_mem_zip hv).1,if_pos hk]
  simp
 | p :: P,w :: vs,i+1,m,nd,h1,h2,hk=>by
  show bindL kindOf ((p,w) :: P.zip vs) m x=_
  unfold bindL
  exact ZLz (i:=i) (List.nodup_cons.mp nd).2 (by simpa using h1) (by simpa using h2) hk
theorem ZL7 {kindOf:Str->Option NameKind}{x:Str}{v:Value}:∀ {P:List Str}{vs:List Value}{i:Nat}{m:Str->Option Value},P.Nodup->P[i]?=some x->vs[i]?=some v->kindOf x≠some .local->
  bindC kindOf (P.zip vs) m x=some v
 | [],_,_,_,_,h,_,_=>by simp at h
 | _ :: _,[],_,_,_,_,h,_=>by simp at h
 | p :: P,w :: vs,0,m,nd,h1,h2,hk=>by
  simp at h1 h2;subst h1;subst h2
  show bindC kindOf ((p,w) :: P.zip vs) m p=_
  unfold bindC
  rw [ZL3 fun v hv=>(List.nodup_cons.mp nd).1 (List.of_mem_zip hv).1,if_neg hk]
  simp
 | p :: P,w :: vs,i+1,m,nd,h1,h2,hk=>by
  show bindC kindOf ((p,w) :: P.zip vs) m x=_
  unfold bindC
  exact ZL7 (i:=i) (List.nodup_cons.mp nd).2 (by simpa using h1) (by simpa using h2) hk
def start (N:List Str) (vs:List V):St:=vs.map some++List.replicate (N.length - vs.length) none
def ZLH (CX:CXT) (P:Program) (w:World) (K:PySem.W.Frag) (mg:Str->Option Value) (base:Heap) (N:List Str) (qual:Str) (scope:Scope) (f:Addr) (cd:Value) (A:Around) (outer:List Env) (s:Shared) (H:Hp) (E:XK):Cx where
 prog:=P
 w:=w
 K:=K
 mg:=mg
 base:=base
 A:=A.deeper (envOfC qual scope s.heap.objs.size f cd)
 N:=N
 s₀:=s
 H₀:=H
 env:=envOfC qual scope s.heap.objs.size f cd
 outer:=outer
 stack:=envOfC qual scope s.heap.objs.size f cd :: outer
 ex:=[]
 calm:=true
 fn:=fun _=>true
 pn:=[]
 xe:=fun e s'=>wpAny (model P w) (A.deeper (envOfC qual scope s.heap.objs.size f cd)) (leaving (envOfC qual scope s.heap.objs.size f cd) e) (fun _ s''=>CX outer H s E e s'') (fun e' s''=>CX outer H s E e' s'') s'
theorem ZNw {sc:Scope}{n:Nat}{x:Str}(h:sc.names.lookup x=some .cell):∃ c,(cellsFrom n sc.names []).lookup x=some c:=by
 have q:=PySem.W.cellsFrom_some sc.names n [] (.inl h)
 exact Option.isSome_iff_exists.mp q
theorem ZPV {CX:CXT}{P:Program}{w:World}{K:PySem.W.Frag}{mg:Str->Option Value}{base:Heap}{N ps:List Str}{qual:Str}{scope:Scope}{f:Addr}{cd:Value}{A:Around}{outer:List Env}{s s1:Shared}{H:Hp}{E:XK}{us:List Value}{vs:List V}
  (S:ZAP N ps scope) (hd:A.handled=none) (e0:ZT4 P w K mg base A outer s H) (hl:vs.length=ps.length) (r:Vals vs us)
  (x:InCallC s s.heap.objs.size (bindL (envOfC qual scope s.heap.objs.size f cd).kindOf (ps.zip us) fun _=>none) (cellsFrom (s.heap.objs.size+1) scope.names []) (bindC (envOfC qual scope s.heap.objs.size f cd).kindOf (ps.zip us) fun _=>none) s1) :
  Inv (ZLH CX P w K mg base N qual scope f cd A outer s H E) [] (start N vs) H s1:=by
 have hpl:ps.length<=N.length:=by have:=congrArg List.length S.pre;rw [List.length_take] at this;omega
 obtain ⟨h1,tk,rfl,hk⟩:=x.done
 have noA:∀ b:Addr,b∉(ZLH CX P w K mg base N qual scope f cd A outer s H E).ex:=fun b z=>absurd (show b∈([]:List Addr) from z) (by simp)
 refine ⟨⟨e0.mod,S.kind,rfl,rfl,Nat.le_refl _,fun y z c h1 h2=>?_,fun y hy=>?_,fun y c _ h=>?_,fun _=>hd,Around.frames_deeper e0.frames,.inr ⟨rfl,rfl⟩,fun b z=>absurd z (noA b),e0.bs,e0.bsz,fun b _ _=>noA b,fun b z=>absurd z (noA b),e0.ZMQ,e0.frf⟩,
  rfl,e0.bare,Un.kept hk,⟨_,x.toInCall.ns,fun i y v h1 h2 h3=>?_⟩,fun y c h=>⟨_,x.cell y c h⟩,e0.hok.fresh (Nat.le_refl _),fun y c h=>?_,fun p hp=>absurd (show p∈([]:List (Addr×Obj)) from hp) (by simp),e0.hok.kept hk,?_⟩
 ·exact name_of_addr x.apart (PySem.mem_of_lookup h1) (PySem.mem_of_lookup h2)
 ·have hy:scope.names.lookup y=some .cell∨scope.names.lookup y=some .free:=hy
  rcases hy with hy | hy
  ·exact ZNw hy
  ·exact absurd rfl (S.nofree _ (PySem.mem_of_lookup hy))
 ·exact Nat.le_of_lt (x.above y c (PySem.mem_of_lookup h))
 ·have hi:i < vs.length:=by
   unfold start at h2
   by_cases hi:i < vs.length
   ·exact hi
   ·rw [List.getElem?_append_right (by simpa using hi)] at h2
    rw [List.getElem?_replicate] at h2
    split at h2 <;> cases h2
  have ha:vs[i]?=some v:=by
   unfold start at h2
   rw [List.getElem?_append_left (by simpa using hi),List.getElem?_map] at h2
   cases e:vs[i]? with
   | none=>rw [e] at h2;cases h2
   | some a=>rw [e] at h2;cases h2;rfl
  obtain ⟨u,hu,rv⟩:=r.get ha
  have hp:ps[i]?=some y:=by
   rw [<- S.pre,List.getElem?_take_of_lt (by omega)];exact h1
  have ndP:ps.Nodup:=by rw [<- S.pre];exact S.nd.sublist (List.take_sublist _ _)
  refine ⟨u,rv,?_⟩
  rcases S.par y (List.mem_of_getElem? hp) with k | k
  ·exact .inl ⟨k,ZLz ndP hp hu k⟩
  ·obtain ⟨c,e⟩:=ZNw (n:=s.heap.objs.size+1) k
   refine .inr ⟨.inl k,c,e,?_⟩
   have q:=x.cell y c e
   rw [ZL7 ndP hp hu (by show scope.names.lookup y≠_;rw [k];decide)] at q
   exact q
 ·exact e0.hok.fresh (Nat.le_of_lt (x.above y c (PySem.mem_of_lookup h)))
 ·unfold start
  show _=N.length
  rw [List.length_append,List.length_map,List.length_replicate]
  omega
theorem ZV0 {CX:CXT}{P:Program}{w:World}{K:PySem.W.Frag}{mg:Str->Option Value}{base:Heap}{k:Nat}{f:Addr}{name qual:Str}{params:Arguments}{body:List Stmt}{scope:Scope}{dV kV doc pm cdv ct oc:Value}{an od:Option Addr}
  {osl:Array (Option Value)}{N ps:List Str}{sp:Sp}(lk:K.lookup f=some ⟨oc,od,.func (PySem.W.fnOf name qual params body scope dV kV doc pm an cdv ct),osl⟩) (hcd:PySem.W.codeIn K cdv qual=true) (S:ZAP N ps scope)
  (len:∀ vs H Q E,sp vs H Q E->vs.length=ps.length)
  (hbody:∀ (A:Around) (outer:List Env) (s:Shared) (H:Hp) (vs:List V) (Q:VK) (E:XK),ZFW k (A.deeper (envOfC qual scope s.heap.objs.size f cdv))->sp vs H Q E->
   ∃ t,PSs (ZLH CX P w K mg base N qual scope f cdv A outer s H E) body t/\t { nx:=fun _ H'=>Q .non H',rt:=Q } (start N vs) H) :
  ZJ2 P w K mg base CX (k+1) f (PySem.W.fnOf name qual params body scope dV kV doc pm an cdv ct) ps sp:=by
 refine ⟨len,fun A outer s H args us vs Q E hr e0 hb r hsp=>?_⟩
 have hl:=len _ _ _ _ hsp
 have KX:K.In s.heap:=e0.mod.kin.keeps fun b o e=>(e0.bs b o e).1
 have lim:s.heap.NoLimit:=e0.mod.nolimit.keeps fun b o e=>(e0.bs b o e).1
 have hkind:∀ y∈ps.zip us,scope.names.lookup y.1=some .local∨(scope.names.lookup y.1=some .cell/\((cellsFrom (s.heap.objs.size+1) scope.names []).lookup y.1).isSome=true):=fun ⟨n,v⟩ hy=>by
  rcases S.par n (List.of_mem_zip hy).1 with q | q
  ·exact .inl q
  ·exact .inr ⟨q,PySem.W.cellsFrom_some _ _ _ (.inl q)⟩
 refine codeAny_call_function hr.depth (KX _ _ lk) rfl S.co S.gen rfl (PySem.W.codeRec_of KX hcd) (hb _ _ _ _ ?_)
 refine wpAny_newFunctionEnv_cells S.kind hkind fun env he s1 x=>?_
 subst he
 refine ⟨lim.keeps x.toInCall.keep,codeAny_func ?_⟩
 obtain ⟨t,ht,hq⟩:=hbody A outer s H vs Q E (hr.deeper _) hsp
 have I:Inv (ZLH CX P w K mg base N qual scope f cdv A outer s H E) [] (start N vs) H s1:=ZPV S hr.hd e0 hl r x
 refine wpAny_mono (ht [] s1 (start N vs) H _ I hq) (fun fl s' hs=>?_) fun e s' hs=>hs
 have fin:∀ {σ':St} {H':Hp}{v:V}{u:Value},Inv (ZLH CX P w K mg base N qual scope f cdv A outer s H E) [] σ' H' s'->RelV v u->Q v H'->CE outer P w H s Q u s':=
  fun {σ' H' v u} J rv q=>⟨v,H',J.os,J.bare,J.base,J.hok,rv,q⟩
 cases fl with
 | ret u=>
  obtain ⟨v,σ',H',J,rv,q⟩:=hs
  exact fin J rv q
 | next=>
  obtain ⟨σ',H',J,q⟩:=hs
  exact fin (v:=V.non) (u:=Value.none) J rfl q
 | brk=>
  obtain ⟨_,_,_,q⟩:=hs
  exact False.elim q
 | cont=>
  obtain ⟨_,_,_,q⟩:=hs
  exact False.elim q
end L2
namespace L2
section
variable {X:Cx}{x:Str}{p pos:Pos}{e:Expr}{es:List Expr}{t:TA}{id T:String}{r:List V->Hp->VK->Prop}
def tCB (r:List V->Hp->VK->Prop) (t:TA):TE:=fun σ H Q=>t σ H fun vs H1=>r vs H1 Q
theorem ZR3 (hc:ZFH X (.builtin id) r) (hg:Gl X x) (hm:X.mg x=none) (hv:bootBuiltins x=some (.builtin id)) (ha:PA X (e :: es) t) (hn:x ≠ "__name__" := by decide) (hdb:(x == ("__debug__" : Str))=false:=by decide)
  (he:starEach (e :: es) X.env=(false,eval e X.env) :: starEach es X.env:=by rfl) (hpl:(backTo pos (starEach es X.env)).any (·.1)=false:=by rfl):PE X (.Call (.Name x p) (e :: es) [] pos) (tCB r t):=by
 intro pins s σ H Q I h
 refine wpAny_Call_Name_kw (ZJT I hg hm hv ?_ hn hdb)
 exact PyProof.Rows.callWith_builtin1 (thn (ha pos pins s σ H _ I h) fun us s1 ⟨vs,H1,I1,r1,q1⟩=>hc pins s1 σ H1 vs us Q I1 r1 q1) he hpl
theorem ZP1 (hc:ZFH X (.type T) r) (hg:Gl X x) (hm:X.mg x=none) (hv:bootBuiltins x=some (.type T)) (ha:PA X (e :: es) t) (hn:x ≠ "__name__" := by decide) (hdb:(x == ("__debug__" : Str))=false:=by decide)
  (he:starEach (e :: es) X.env=(false,eval e X.env) :: starEach es X.env:=by rfl) (hpl:(backTo pos (starEach es X.env)).any (·.1)=false:=by rfl):PE X (.Call (.Name x p) (e :: es) [] pos) (tCB r t):=by
 intro pins s σ H Q I h
 refine wpAny_Call_Name_kw (ZJT I hg hm hv ?_ hn hdb)
 exact PyProof.Rows.callWith_type1 (thn (ha pos pins s σ H _ I h) fun us s1 ⟨vs,H1,I1,r1,q1⟩=>hc pins s1 σ H1 vs us Q I1 r1 q1) he hpl
end
end L2
namespace HT
open PySem PyProof.Rows
section
open PySem.SeqAt
open PySem.AutoSeq1 (wpAny_loadPart')
open PySem.MeetsSeq PySem.MeetsSeq2 PySem.MeetsSeq3
end
section
variable {prog:Program}{w:World}{A:Around}{E:Value->Shared->Prop}{s:Shared}
theorem ZTx {t b:Addr}{vs ws:List Value}{Q:Value->Shared->Prop}(ht:IsTup s.heap t vs.toArray) (hb:IsTup s.heap b ws.toArray) (hv:vs≠[])
  (h1:ws=[]->Q (.ref t) s) (h2:ws≠[]->Q (.ref s.heap.objs.size) { s with heap:=s.heap.push { cls:=.type "tuple", data:=.seq (vs++ws).toArray } })
  (hsz:vs.length+ws.length<=sizeLine):wpAny (model prog w) A (binaryOp .Add (.ref t) (.ref b)) Q E s:=by
 obtain ⟨⟨cls,dd,data,sl⟩,ho,hc,n,hd⟩:=id ht
 obtain ⟨⟨cls2,dd2,data2,sl2⟩,ho2,hc2,n2,hd2⟩:=id hb
 simp only at hc hd hc2 hd2
 subst hc hd hc2 hd2
 have e:vs.toArray++ws.toArray=(vs++ws).toArray:=by simp
 by_cases hw:ws=[]
 ·exact concat_meets ⟨_,ho,rfl⟩ ⟨_,ho2,rfl⟩ noFill_tuple_add seq_tuple_add PySem.F.slot_tuple_add PySem.F.entry_tuple_add (PySem.F.args_tuple_add_2 _ _)
   (tuple_addW1 t b vs.toArray ws.toArray n n2 dd dd2 sl sl2 (by simpa using hv) (by simp [hw])) ⟨ho,ho2,h1 hw⟩
 ·refine concat_meets ⟨_,ho,rfl⟩ ⟨_,ho2,rfl⟩ noFill_tuple_add seq_tuple_add PySem.F.slot_tuple_add PySem.F.entry_tuple_add (PySem.F.args_tuple_add_2 _ _)
   (tuple_addW2 t b vs.toArray ws.toArray n n2 dd dd2 sl sl2 (by simpa using hv) (by simpa using hw) (by rw [List.size_toArray,List.size_toArray];exact hsz)) ⟨ho,ho2,?_⟩
  rw [e]
  exact h2 hw
def sIx (n d:Nat):Option Int->Nat
 | none=>d
 | some v=>if v < 0 then (v+(n:Int)).toNat else min v.toNat n
theorem ZHj (n d:Nat):sIx n d none=d:=rfl
theorem ZEh (n d k:Nat):sIx n d (some (k:Int))=min k n:=by
 show (if (k:Int) < 0 then ((k:Int)+(n:Int)).toNat else min (k:Int).toNat n)=min k n
 rw [if_neg (by omega),Int.toNat_natCast]
theorem ZVN (n d:Nat) (hd:d<=n) (o:Option Int):sIx n d o<=n:=by
 cases o with
 | none=>exact hd
 | some v=>
  show (if v < 0 then (v+(n:Int)).toNat else min v.toNat n)<=n
  by_cases hv:v < 0
  ·rw [if_pos hv];omega
  ·rw [if_neg hv];exact Nat.min_le_right _ _
theorem ZQY (v:Int) (n d:Nat):(if v < 0 then max (v+(n:Int)) 0 else min v (n:Int))=((sIx n d (some v):Nat):Int):=by
 show (if v < 0 then max (v+(n:Int)) 0 else min v (n:Int))=(((if v < 0 then (v+(n:Int)).toNat else min v.toNat n):Nat):Int)
 by_cases hv:v < 0
 ·simp only [if_pos hv];omega
 ·simp only [if_neg hv];omega
theorem ZOQ (lo hi:Option Int) (n:Nat):Builtin.Slice.sliceAdjust lo hi 1 (n:Int)=(((sIx n 0 lo:Nat):Int),((sIx n n hi:Nat):Int)):=by
 have h1:¬ ((1:Int) < 0):=by omega
 unfold Builtin.Slice.sliceAdjust
 simp only [h1,if_false]
 refine Prod.ext ?_ ?_
 ·cases lo with
  | none=>rfl
  | some v=>exact ZQY v n 0
 ·cases hi with
  | none=>rfl
  | some v=>exact ZQY v n n
theorem ZO7 (i j:Nat):Builtin.Slice.slicePlaces (i:Int) (j:Int) 1=j - i:=by
 unfold Builtin.Slice.slicePlaces
 have h1:(1:Int) > 0:=by omega
 simp only [h1,if_true,Int.ediv_one]
 split <;> omega
theorem ZJU {v:Value}{o:Option Int}{Q:Option Int->Shared->Prop}(p:IsPart v o) (h:Q o s):wpAny (model prog w) A (Builtin.Slice.slicePartIndex v) Q E s:=by
 cases p with
 | none=>exact slicePart_none h
 | int i t=>exact slicePart_int h
theorem ZEP {sl:Addr}{vl vu:Value}{lo hi:Option Int}{n:Nat}{Q:Int×Int×Nat->Shared->Prop}(hs:s.heap.IsSliceOf sl vl vu .none) (pl:IsPart vl lo) (pu:IsPart vu hi)
  (h:Q (((sIx n 0 lo:Nat):Int),1,sIx n n hi - sIx n 0 lo) s):wpAny (model prog w) A (Builtin.Slice.sliceApplied (.ref sl) (pure (n:Int))) Q E s:=by
 obtain ⟨os,hos,hcs,hds⟩:=id hs
 unfold Builtin.Slice.sliceApplied Builtin.Slice.sliceFields
 refine wpAny_bind (wpAny_bind (wpAny_field hos hds (x:=vl) rfl (wpAny_bind (wpAny_field hos hds (x:=vu) rfl (wpAny_bind (wpAny_field hos hds (x:=.none) rfl (wpAny_pure ?_)))))))
 refine wpAny_bind (slicePart_none ?_)
 show wpAny _ _ (if ((1:Int) == 0)=true then _ else _) _ _ s
 rw [if_neg (by decide)]
 refine wpAny_bind (ZJU pl (wpAny_bind (ZJU pu (wpAny_bind (wpAny_pure ?_)))))
 show wpAny _ _ (match Builtin.Slice.sliceAdjust lo hi 1 (n:Int) with | (lo,hi)=>pure (lo,(1:Int),Builtin.Slice.slicePlaces lo hi 1)) _ _ s
 rw [ZOQ lo hi n]
 show wpAny _ _ (pure (((sIx n 0 lo:Nat):Int),(1:Int),Builtin.Slice.slicePlaces ((sIx n 0 lo:Nat):Int) ((sIx n n hi:Nat):Int) 1)) _ _ s
 rw [ZO7]
 exact wpAny_pure h
theorem ZRf (xs:Array Value) (i k:Nat):((List.range k).filterMap fun (m:Nat)=>xs[((i:Int)+(m:Int) * 1).toNat]?).toArray=((xs.toList.drop i).take k).toArray:=by
 have e:(fun (m:Nat)=>xs[((i:Int)+(m:Int) * 1).toNat]?)=fun m=>xs[i+m]?:=by
  funext m
  have:((i:Int)+(m:Int) * 1).toNat=i+m:=by omega
  rw [this]
 rw [e]
 have:=pick_run xs i k
 rw [List.filterMap_map] at this
 have e2:((fun x=>xs[x]?) ∘ fun x=>i+x)=fun m=>xs[i+m]?:=rfl
 rw [e2] at this
 rw [this]
theorem ZGl {t sl:Addr}{items:Array Value}{vl vu:Value}{lo hi:Option Int}{Q:Value->Shared->Prop}(ht:IsTup s.heap t items) (hs:s.heap.IsSliceOf sl vl vu .none) (pl:IsPart vl lo) (pu:IsPart vu hi)
  (hw:¬ (sIx items.size 0 lo=0/\sIx items.size items.size hi=items.size))
  (h:Q (.ref s.heap.objs.size) { s with heap:=s.heap.push { cls:=.type "tuple", data:=.seq ((items.toList.drop (sIx items.size 0 lo)).take (sIx items.size items.size hi - sIx items.size 0 lo)).toArray } })
  (hsz:items.size<=sizeLine):wpAny (model prog w) A (getItem (.ref t) (.ref sl)) Q E s:=by
 have htake:sizeOk (.seq ((items.toList.drop (sIx items.size 0 lo)).take (sIx items.size items.size hi - sIx items.size 0 lo)).toArray):=by
  show ((items.toList.drop (sIx items.size 0 lo)).take (sIx items.size items.size hi - sIx items.size 0 lo)).toArray.size<=sizeLine
  rw [List.size_toArray,List.length_take,List.length_drop,Array.length_toList]
  omega
 have hj:sIx items.size items.size hi<=items.size:=ZVN _ _ (Nat.le_refl _) hi
 obtain ⟨os,hos,hcs,hds⟩:=id hs
 have hTs:s.TypeIs (.ref sl) "slice" := ⟨os,hos,hcs⟩
 unfold getItem
 try with_reducible refine wpAny_holding ?_
 first | refine wpAny_bind (wpAny_pure ?_) | skip
 refine wpAny_bind (wpAny_sequenceKey ht.typeIs (by decide) ?_)
 refine wpAny_bind (wpAny_callSpecial?_slot (name:=Str.ofString "__getitem__") ht.typeIs PyProof.Rows.slot_tuple_getitem
  (wpAny_call_entry PyProof.Rows.slot_tuple_getitem ht.typeIs entry_tuple_getitem ?_ (args_tuple_getitem _ _)))
 show wpAny _ _ (Builtin.Tuple.tupleItemsOf (.ref t) >>= _) _ _ s
 refine wpAny_bind (tupleItemsOf_ ht ?_)
 refine wpAny_bind (wpAny_typeOf hTs ?_)
 rw [if_pos (by decide)]
 refine wpAny_bind (ZEP hs pl pu ?_)
 have hno:¬ ((((sIx items.size 0 lo:Nat):Int) == 0 && (1:Int) == 1 && (sIx items.size items.size hi - sIx items.size 0 lo) == items.size)=true):=by
  intro q
  rw [Bool.and_eq_true,Bool.and_eq_true] at q
  have q1:((sIx items.size 0 lo:Nat):Int)=0:=eq_of_beq q.1.1
  have q2:sIx items.size items.size hi - sIx items.size 0 lo=items.size:=eq_of_beq q.2
  exact hw ⟨by omega,by omega⟩
 show wpAny _ _ (if (((sIx items.size 0 lo:Nat):Int) == 0 && (1:Int) == 1 && (sIx items.size items.size hi - sIx items.size 0 lo) == items.size)=true then _ else _) _ _ s
 rw [if_neg hno,ZRf]
 first
  | exact wpAny_bind (m:=Builtin.Tuple.tupleExact _) (wpAny_newObj_type (wpAny_pure ⟨_,rfl,wpAny_pure h⟩) htake)
  | exact wpAny_bind (m:=Builtin.Tuple.tupleExact _) (wpAny_newObj_type (wpAny_bind (wpAny_pure (wpAny_pure ⟨_,rfl,wpAny_pure h⟩))) htake)
  | exact wpAny_bind (wpAny_bind (m:=Builtin.Tuple.tupleExact _) (wpAny_newObj_type (wpAny_pure (wpAny_pure ⟨_,rfl,wpAny_pure h⟩)) htake))
  | exact wpAny_bind (wpAny_bind (m:=Builtin.Tuple.tupleExact _) (wpAny_newObj_type (wpAny_pure ⟨_,rfl,wpAny_pure h⟩) htake))
end
end HT
namespace L2
abbrev TO:=St->Hp->(Option Int->Hp->Prop)->Prop
def PO (X:Cx) (e:Option Expr) (t:TO):Prop:=
 ∀ (pins:List (Addr×Obj)) (s:Shared) (σ:St) (H:Hp) (Q:Option Int->Hp->Prop),Inv X pins σ H s->t σ H Q->
  wpAny (model X.prog X.w) X.A (evalPart e X.env) (fun u s'=>∃ o H',Inv X pins σ H' s'/\IsPart u o/\Q o H') X.xe s
def ZMT:TO:=fun _ H Q=>Q none H
def ZTr (t:TE):TO:=fun σ H Q=>t σ H fun x H1=>∃ i,x=.int i/\Q (some i) H1
section
variable {X:Cx}{e:Expr}{te:TE}{lo hi:Option Expr}{tl th:TO}{pos p2:Pos}
theorem ZTz:PO X none ZMT:=by
 intro pins s σ H Q I h
 rw [evalPart_none]
 exact wpAny_pure ⟨none,H,I,.none,h⟩
theorem ZTG (h:PE X e te):PO X (some e) (ZTr te):=by
 intro pins s σ H Q I hw
 rw [evalPart_some]
 refine thn (h pins s σ H _ I hw) fun u s1 ⟨x,H1,I1,r1,q1⟩=>?_
 obtain ⟨i,rfl,q⟩:=q1
 obtain ⟨t,rfl⟩:=r1
 exact ⟨some i,H1,I1,.int i t,q⟩
def SlR (X:Cx) (r:V->Option Int->Option Int->Hp->VK->Prop):Prop:=
 ∀ (pins:List (Addr×Obj)) (s:Shared) (σ:St) (H:Hp) (x:V) (v vl vu:Value) (lo hi:Option Int) (sl:Addr) (Q:VK),Inv X pins σ H s->RelV x v->s.heap.IsSliceOf sl vl vu .none->IsPart vl lo->IsPart vu hi->r x lo hi H Q->
  ∃ T id,typeLookup (.type T) "__getitem__" = pure (some (.builtin id))/\s.TypeIs v T/\wpAny (model X.prog X.w) X.A (getItem v (.ref sl)) (EP X pins σ Q) X.xe s
def tSl (r:V->Option Int->Option Int->Hp->VK->Prop) (te:TE) (tl th:TO):TE:=fun σ H Q=>te σ H fun x H1=>tl σ H1 fun l H2=>th σ H2 fun u H3=>r x l u H3 Q
theorem ZS1 {r:V->Option Int->Option Int->Hp->VK->Prop}(hr:SlR X r) (he:PE X e te) (hl:PO X lo tl) (hu:PO X hi th):PE X (.Subscript e (.Slice lo hi none p2) pos) (tSl r te tl th):=by
 intro pins s σ H Q I h
 refine Subscript_ (thn (he pins s σ H _ I h) fun v s1 ⟨x,H1,I1,r1,q1⟩=>?_)
 refine wpAny_Slice (thn (hl pins s1 σ H1 _ I1 q1) fun vl s2 ⟨l,H2,I2,pl,q2⟩=>thn (hu pins s2 σ H2 _ I2 q2) fun vu s3 ⟨u,H3,I3,pu,q3⟩=>?_)
 rw [evalPart_none]
 refine wpAny_pure ?_
 have I4:Inv X pins σ H3 { s3 with heap:=s3.heap.push { cls:=.type "slice", data:=.fields #[vl,vu,.none] } }:=I3.kept (t':=s3.toks) fun b ob q=>Heap.get?_push_of_some _ q
 obtain ⟨T,id,hT,ht,hg⟩:=hr pins { s3 with heap:=s3.heap.push { cls:=.type "slice", data:=.fields #[vl,vu,.none] } } σ H3 x v vl vu l u s3.heap.objs.size Q I4 r1 (Heap.IsSliceOf.new ..) pl pu q3
 show wpAny (model X.prog X.w) X.A (subscriptTail e (.Slice lo hi none p2) v (.ref s3.heap.objs.size)) (EP X pins σ Q) X.xe { s3 with heap:=s3.heap.push { cls:=.type "slice", data:=.fields #[vl,vu,.none] } }
 exact tail_any (ops:=[.ref s3.heap.objs.size,v]) ht hT hg (by with_unfolding_all rfl)
def ZHA (xs:List V) (lo hi:Option Int):List V:=(xs.drop (HT.sIx xs.length 0 lo)).take (HT.sIx xs.length xs.length hi - HT.sIx xs.length 0 lo)
theorem ZIl (xs:List V) (lo hi:Option Int):(ZHA xs lo hi).length<=xs.length:=by
 unfold ZHA
 rw [List.length_take,List.length_drop]
 omega
def ZXf (K:PySem.W.Frag):V->Option Int->Option Int->Hp->VK->Prop:=fun x lo hi H Q=>∃ a xs,x=.ref a/\SqT K H a xs/\
 ¬ (HT.sIx xs.length 0 lo=0/\HT.sIx xs.length xs.length hi=xs.length)/\∀ p,H p=none->Q (.ref p) (upd H p (.tup (ZHA xs lo hi)))
theorem ZSS:SlR X (ZXf X.K):=by
 intro pins s σ H x v vl vu lo hi sl Q I rx hs pl pu h
 obtain ⟨a,xs,rfl,hx,hw,q⟩:=h
 cases rx
 obtain ⟨its,r,ht,hz⟩:=I.tuple hx
 have hlen:its.toArray.size=xs.length:=by rw [List.size_toArray];exact r.length.symm
 refine ⟨"tuple", _,PyProof.Rows.slot_tuple_getitem.lookup,ht.typeIs,?_⟩
 refine HT.ZGl ht hs pl pu (by rw [hlen];exact hw) ?_ (by rw [hlen];exact hz)
 rw [hlen]
 refine ⟨.ref s.heap.objs.size,_,I.laid (t':=s.toks) (o:=.tup (ZHA xs lo hi)) (fun b ob q=>Heap.get?_push_of_some _ q) (Nat.le_refl _) ?_,rfl,q _ (I.hok.fresh (Nat.le_refl _))⟩
 exact ⟨Nat.le_trans (ZIl xs lo hi) hz,_,(r.drop (HT.sIx xs.length 0 lo)).take (HT.sIx xs.length xs.length hi - HT.sIx xs.length 0 lo),⟨IsTup.new _ _,fun ob' e'=>by rw [Heap.get?_push_size _ rfl] at e';cases e';rfl⟩⟩
def ZWo (K:PySem.W.Frag):R2:=fun x y H Q=>∃ a b xs ys,x=.ref a/\y=.ref b/\SqT K H a xs/\SqT K H b ys/\xs≠[]/\xs.length+ys.length<=sizeLine/\
 (ys=[]->Q (.ref a) H)/\(ys≠[]->∀ p,H p=none->Q (.ref p) (upd H p (.tup (xs++ys))))
theorem Vals.ZKF {xs:List V}{us:List Value}(r:Vals xs us):us=[]↔xs=[]:=by
 cases r with
 | nil=>simp
 | cons _ _=>simp
theorem ZTQ:OpR X (binaryOp .Add) (ZWo X.K):=by
 intro pins s σ H x y v u Q I rx ry h
 obtain ⟨a,b,xs,ys,rfl,rfl,ha,hb,hx,hz,q1,q2⟩:=h
 cases rx
 cases ry
 obtain ⟨its,r1,p1,_⟩:=I.tuple ha
 obtain ⟨its2,r2,p2,_⟩:=I.tuple hb
 refine HT.ZTx p1 p2 (fun z=>hx (r1.ZKF.mp z)) (fun z=>⟨.ref a,H,I,rfl,q1 (r2.ZKF.mp z)⟩) (fun z=>?_) (by rw [<- r1.length,<- r2.length];exact hz)
 refine ⟨.ref s.heap.objs.size,_,I.laid (t':=s.toks) (o:=.tup (xs++ys)) (fun b ob q=>Heap.get?_push_of_some _ q) (Nat.le_refl _) ?_,rfl,q2 (fun w=>z (r2.ZKF.mpr w)) _ (I.hok.fresh (Nat.le_refl _))⟩
 exact ⟨by rw [List.length_append];exact hz,_,r1.append r2,⟨IsTup.new _ _,fun ob' e'=>by rw [Heap.get?_push_size _ rfl] at e';cases e';rfl⟩⟩
end
end L2
namespace L2
def ixN (n:Nat) (i:Int):Option Nat:=if 0<=i then (if i < n then some i.toNat else none) else if -(n:Int)<=i then some (i+n).toNat else none
def atI {α:Type} (xs:List α) (i:Int):Option α:=(ixN xs.length i).bind fun j=>xs[j]?
theorem ZML {n:Nat}{i:Int}{j:Nat}(h:ixN n i=some j):seqIndex? i n=some j/\j < n/\-(n:Int)<=i/\i < n:=by
 unfold ixN at h
 by_cases h0:0<=i
 ·rw [if_pos h0] at h
  by_cases h1:i < n
  ·rw [if_pos h1] at h
   have e:i.toNat=j:=Option.some.inj h
   exact ⟨by rw [seqIndex_of h0 h1,e],by omega,by omega,h1⟩
  ·rw [if_neg h1] at h;cases h
 ·rw [if_neg h0] at h
  by_cases h1:-(n:Int)<=i
  ·rw [if_pos h1] at h
   have e:(i+n).toNat=j:=Option.some.inj h
   exact ⟨by rw [seqIndex_neg (by omega) h1,e],by omega,h1,by omega⟩
  ·rw [if_neg h1] at h;cases h
theorem ZM9 {α:Type} {xs:List α}{i:Int}{v:α}(h:atI xs i=some v):∃ j,seqIndex? i xs.length=some j/\xs[j]?=some v/\j < xs.length/\-(xs.length:Int)<=i/\i < xs.length:=by
 unfold atI at h
 cases e:ixN xs.length i with
 | none=>rw [e] at h;cases h
 | some j=>
  rw [e] at h
  obtain ⟨h1,h2,h3,h4⟩:=ZML e
  exact ⟨j,h1,h,h2,h3,h4⟩
theorem ZFT {α:Type} {xs:List α}{j:Nat}{v:α}(h:xs[j]?=some v):atI xs (j:Int)=some v:=by
 have hj:j < xs.length:=(List.getElem?_eq_some_iff.mp h).1
 have e:ixN xs.length (j:Int)=some j:=by
  unfold ixN
  rw [if_pos (by omega),if_pos (by omega)];simp
 unfold atI;rw [e];exact h
theorem ZNs {α:Type} (xs:List α) (v:α):atI (xs++[v]) (-1)=some v:=by
 have hl:(xs++[v]).length=xs.length+1:=by simp
 have e:ixN (xs++[v]).length (-1)=some xs.length:=by
  unfold ixN
  rw [hl,if_neg (by decide),if_pos (by omega)]
  congr 1
  omega
 unfold atI
 rw [e]
 show (xs++[v])[xs.length]?=some v
 simp
def ZPg (b:Expr):Prop:=∀ o i,subscripted b false o i=operate [o,i] (getItem o i)
def IxR (X:Cx) (r:R2):Prop:=
 ∀ (value slice:Expr) (pins:List (Addr×Obj)) (s:Shared) (σ:St) (H:Hp) (x y:V) (v u:Value) (Q:VK),Inv X pins σ H s->RelV x v->RelV y u->r x y H Q->
  subscripted slice false v u=operate [v,u] (getItem v u)->wpAny (model X.prog X.w) X.A (subscriptTail value slice v u) (EP X pins σ Q) X.xe s
def MtR (X:Cx) (id:String) (r:V->List V->Hp->VK->Prop):Prop:=
 ∀ (pins:List (Addr×Obj)) (s:Shared) (σ:St) (H:Hp) (x:V) (xs:List V) (v:Value) (us:List Value) (Q:VK),Inv X pins σ H s->RelV x v->Vals xs us->r x xs H Q->
  wpAny (model X.prog X.w) X.A (call (.builtin id) (v :: us)) (EP X pins σ Q) X.xe s
section
variable {X:Cx}{a b:Expr}{ta tb:TE}{pos:Pos}
theorem ZX7 {r:R2}(hr:IxR X r) (ha:PE X a ta) (hb:PE X b tb) (hs:ZPg b):PE X (.Subscript a b pos) (tOp r ta tb):=by
 intro pins s σ H Q I h
 exact Subscript_ (ZWm ha hb I h fun v u s2 x y H2 I2 rx ry q=>hr a b pins s2 σ H2 x y v u Q I2 rx ry q (hs _ _))
def ZVr (K:PySem.W.Frag):R2:=fun x y H Q=>∃ p xs i v,x=.ref p/\y=.int i/\SqL K H p xs/\atI xs i=some v/\Q v H
def ZTW (K:PySem.W.Frag):R2:=fun x y H Q=>∃ p xs i v,x=.ref p/\y=.int i/\SqT K H p xs/\atI xs i=some v/\Q v H
def ZXj:R2:=fun x y H Q=>∃ z i c,x=.str z/\y=.int i/\z.length<=sizeLine/\atI z.cps.toList i=some c/\Q (.str ⟨#[c]⟩) H
theorem ZAz:IxR X (ZVr X.K):=by
 intro value slice pins s σ H x y v u Q I rx ry h hs
 obtain ⟨p,xs,i,z,rfl,rfl,hq,he,q⟩:=h
 cases rx
 obtain ⟨t,rfl⟩:=ry
 obtain ⟨its,r,pl,hz⟩:=I.list hq
 obtain ⟨j,h1,h2,h3,h4,h5⟩:=ZM9 he
 obtain ⟨w,ew,rw'⟩:=r.get h2
 have hl:=r.length
 have hn:=ZFN
 have fin:EP X pins σ Q w s:=⟨z,H,I,rw',q⟩
 by_cases h0:0<=i
 ·have hj:i.toNat=j:=by
   rw [seqIndex_of h0 h5] at h1
   exact Option.some.inj h1
  exact item_listR pl.isList h0 (by omega) (by rw [hj];simpa using ew) fin hs
 ·have hj:(i+(its.toArray.size:Int)).toNat=j:=by
   rw [seqIndex_neg (by omega) h4] at h1
   rw [List.size_toArray,<- hl]
   exact Option.some.inj h1
  exact subscriptTail_builtinR (x:=w) pl.isList.typeIs slot_list_getitem.lookup
   (wpAny_getItem_list_neg (Q:=fun r s'=>r=w/\EP X pins σ Q r s') pl.isList (by omega) (by rw [List.size_toArray] <;> omega) (by omega) (by rw [hj];simpa using ew) ⟨rfl,fin⟩) hs
theorem ZAA:IxR X (ZTW X.K):=by
 intro value slice pins s σ H x y v u Q I rx ry h hs
 obtain ⟨p,xs,i,z,rfl,rfl,hq,he,q⟩:=h
 cases rx
 obtain ⟨t,rfl⟩:=ry
 obtain ⟨its,r,pl,hz⟩:=I.tuple hq
 obtain ⟨j,h1,h2,h3,h4,h5⟩:=ZM9 he
 obtain ⟨w,ew,rw'⟩:=r.get h2
 have hl:=r.length
 have hn:=ZFN
 have fin:EP X pins σ Q w s:=⟨z,H,I,rw',q⟩
 exact subscriptTail_builtinR (x:=w) pl.typeIs slot_tuple_getitem.lookup
  (getItem_tuple (j:=j) (Q:=fun r s'=>r=w/\EP X pins σ Q r s') pl (by omega) (by omega) (by rw [List.size_toArray,<- hl];exact h1) (by simpa using ew) ⟨rfl,fin⟩) hs
theorem ZUk:IxR X ZXj:=by
 intro value slice pins s σ H x y v u Q I rx ry h hs
 obtain ⟨z,i,c,rfl,rfl,hz,he,q⟩:=h
 obtain ⟨t,rfl⟩:=rx
 obtain ⟨t',rfl⟩:=ry
 obtain ⟨j,h1,h2,h3,h4,h5⟩:=ZM9 he
 have hl:z.cps.toList.length=z.length:=by simp [Str.length]
 rw [hl] at h1 h4 h5
 have hn:=ZFN
 exact tail_any (typeIs_str s z t) slot_str_getitem.lookup (getItem_str (c:=c) (by
  have e1:decide (i < -(2 ^ 63:Int))=false:=decide_eq_false (by omega)
  have e2:decide (i>=2 ^ 63)=false:=decide_eq_false (by omega)
  rw [e1,e2,Bool.or_false]) (by rw [h1];simpa using h2) ⟨.str ⟨#[c]⟩,H,I.tok _,⟨_,rfl⟩,q⟩) hs
theorem ZOD (its:List Value) (n j:Nat) (u:Value):Obj.mapSeq (·.setIfInBounds j u) { cls:=.type "list", data:=.seq its.toArray n }={ cls:=.type "list", data:=.seq (its.set j u).toArray n }:=by
 simp [Obj.mapSeq]
theorem Inv.lst {pins:List (Addr×Obj)}{σ:St} {H:Hp}{s:Shared}{p:Addr}{xs:List V}(I:Inv X pins σ H s) (h:H p=some (.lst xs)) :
  ∃ (its:List Value) (n:Nat),Vals xs its/\s.heap.get? p=some { cls:=.type "list", data:=.seq its.toArray n }/\xs.length<=sizeLine:=by
 obtain ⟨z,its,n,r,e⟩:=I.hok p _ h
 exact ⟨its,n,r,e,z⟩
theorem Inv.ZW1 {pins:List (Addr×Obj)}{σ:St} {H:Hp}{s:Shared}{p:Addr}{xs ys:List V}{its its':List Value}{n n':Nat}{f:Obj->Obj}(I:Inv X pins σ H s) (h:H p=some (.lst xs))
  (ho:s.heap.get? p=some { cls:=.type "list", data:=.seq its.toArray n }) (hf:f { cls:=.type "list", data:=.seq its.toArray n }={ cls:=.type "list", data:=.seq its'.toArray n' }) (r:Vals ys its') (hz:ys.length<=sizeLine) (t:Nat) :
  Inv X pins σ (upd H p (.lst ys)) { s with heap:=s.heap.update p f,toks:=t }:=by
 have e:(s.heap.update p f).get? p=some { cls:=.type "list", data:=.seq its'.toArray n' }:=by
  rw [Heap.get?_update_self f ho (by rw [hf] <;> rfl),hf]
 refine I.write (x:=p) (e:=p) (by rw [h];trivial) (.inl rfl) (fun b u hb q=>(Heap.get?_update_other _ _ (Ne.symm hb)).trans q) ⟨_,e⟩ ?_
 exact ⟨hz,its',n',r,e⟩
def ZVY:V->V->V->Hp->(Hp->Prop)->Prop:=fun o i v H Q=>∃ p xs k j,o=.ref p/\i=.int k/\H p=some (.lst xs)/\ixN xs.length k=some j/\Q (upd H p (.lst (xs.set j v)))
theorem set_list:ZX9 X ZVY:=by
 intro pins s σ H o i v ov iv u Q I ro ri rv h
 obtain ⟨p,xs,k,j,rfl,rfl,hp,hj,q⟩:=h
 cases ro
 obtain ⟨t,rfl⟩:=ri
 obtain ⟨its,n,r,ho,hz⟩:=I.lst hp
 obtain ⟨h1,h2,h3,h4⟩:=ZML hj
 have hl:=r.length
 have hn:=ZFN
 have I':Inv X pins σ (upd H p (.lst (xs.set j v))) { s with heap:=s.heap.update p (Obj.mapSeq (·.setIfInBounds j u)) }:=
  I.ZW1 hp ho (ZOD its n j u) (r.set rv j) (by rw [List.length_set];exact hz) s.toks
 by_cases h0:0<=k
 ·have hk:k.toNat=j:=by
   rw [seqIndex_of h0 h4] at h1
   exact Option.some.inj h1
  exact PySem.W.ki_setAt ho h0 (by omega) (by rw [List.size_toArray,<- hl];exact h4) (by rw [hk];exact ⟨_,I',q⟩)
 ·have hk:(k+(its.toArray.size:Int)).toNat=j:=by
   rw [seqIndex_neg (by omega) h3] at h1
   rw [List.size_toArray,<- hl]
   exact Option.some.inj h1
  exact PySem.W.ki_setBack ho (by omega) (by rw [List.size_toArray,<- hl];exact h3) (by omega) (by rw [hk];exact ⟨_,I',q⟩)
theorem ZLF (lo hi:Option Int) (n:Nat):(sliceBounds lo hi none n).1=((HT.sIx n 0 lo:Nat):Int)/\(sliceBounds lo hi none n).2.1=((HT.sIx n n hi:Nat):Int)/\(sliceBounds lo hi none n).2.2=1:=by
 refine ⟨?_,?_,rfl⟩
 ·cases lo with
  | none=>simp [sliceBounds,HT.sIx]
  | some i=>
   simp only [sliceBounds,HT.sIx,Option.getD_none,show (1:Int) > 0 by decide,if_true]
   by_cases h:i < 0
   ·simp only [h,if_true] <;> omega
   ·simp only [h,if_false] <;> omega
 ·cases hi with
  | none=>simp [sliceBounds,HT.sIx]
  | some i=>
   simp only [sliceBounds,HT.sIx,Option.getD_none,show (1:Int) > 0 by decide,if_true]
   by_cases h:i < 0
   ·simp only [h,if_true] <;> omega
   ·simp only [h,if_false] <;> omega
theorem ZKI (its:List Value) (lo hi:Option Int):slicePick its.toArray lo hi none=((its.drop (HT.sIx its.length 0 lo)).take (HT.sIx its.length its.length hi - HT.sIx its.length 0 lo)).toArray:=by
 obtain ⟨h1,h2,h3⟩:=ZLF lo hi its.toArray.size
 unfold slicePick
 rw [h1,h2,h3]
 simp only [sliceRange_one,pick_run,List.size_toArray] <;> rfl
def ZWI (K:PySem.W.Frag):V->Option Int->Option Int->Hp->VK->Prop:=fun x lo hi H Q=>∃ a xs,x=.ref a/\SqL K H a xs/\∀ p,H p=none->Q (.ref p) (upd H p (.lst (ZHA xs lo hi)))
theorem ZCs:SlR X (ZWI X.K):=by
 intro pins s σ H x v vl vu lo hi sl Q I rx hs pl pu h
 obtain ⟨a,xs,rfl,hx,q⟩:=h
 cases rx
 obtain ⟨its,r,ht,hz⟩:=I.list hx
 have hlen:=r.length
 refine ⟨"list", _,slot_list_getitem.lookup,ht.isList.typeIs,?_⟩
 refine wpAny_getItem_list_slice ht.isList hs pl pu .none (by simp) ?_ (by rw [List.size_toArray] <;> omega)
 rw [ZKI,<- hlen]
 refine ⟨.ref s.heap.objs.size,_,I.laid (t':=s.toks) (o:=.lst (ZHA xs lo hi)) (fun b ob q=>Heap.get?_push_of_some _ q) (Nat.le_refl _) ?_,rfl,q _ (I.hok.fresh (Nat.le_refl _))⟩
 exact ⟨Nat.le_trans (ZIl xs lo hi) hz,_,0,(r.drop (HT.sIx xs.length 0 lo)).take (HT.sIx xs.length xs.length hi - HT.sIx xs.length 0 lo),Heap.get?_push_size _ rfl⟩
def ZEA:V->Bool
 | .non=>true
 | .bl _=>true
 | .int _=>true
 | .str _=>true
 | _=>false
def eqV:V->V->Bool
 | .non,.non=>true
 | .bl a,.bl b=>a == b
 | .bl a,.int b=>(if a then 1 else 0) == b
 | .int a,.bl b=>a == (if b then 1 else 0)
 | .int a,.int b=>a == b
 | .str a,.str b=>a == b
 | _,_=>false
theorem ZNT {A:Around}{s:Shared}{y x:V}{u v:Value}(ry:RelV y u) (rx:RelV x v) (fy:ZEA y=true) (fx:ZEA x=true):SeqAt.EqAt A s u v (eqV y x):=by
 cases y with
 | non=>
  cases ry
  cases x with
  | non=>cases rx;exact SeqAt.EqAt.same _
  | bl b=>cases rx;exact SeqAt.EqAt.none_bool b
  | int b=>obtain ⟨t,rfl⟩:=rx;exact SeqAt.EqAt.none_int b t
  | str b=>obtain ⟨t,rfl⟩:=rx;exact SeqAt.EqAt.none_str b t
  | _=>exact absurd (show false=true from fx) Bool.false_ne_true
 | bl a=>
  cases ry
  cases x with
  | non=>cases rx;exact SeqAt.EqAt.bool_none a
  | bl b=>cases rx;exact SeqAt.EqAt.bool_bool a b
  | int b=>obtain ⟨t,rfl⟩:=rx;exact SeqAt.EqAt.bool_int a b t
  | str b=>obtain ⟨t,rfl⟩:=rx;exact SeqAt.EqAt.bool_str a b t
  | _=>exact absurd (show false=true from fx) Bool.false_ne_true
 | int a=>
  obtain ⟨t',rfl⟩:=ry
  cases x with
  | non=>cases rx;exact SeqAt.EqAt.int_none a t'
  | bl b=>cases rx;exact SeqAt.EqAt.int_bool a t' b
  | int b=>obtain ⟨t,rfl⟩:=rx;exact SeqAt.EqAt.int_int a t' b t
  | str b=>obtain ⟨t,rfl⟩:=rx;exact SeqAt.EqAt.int_str a t' b t
  | _=>exact absurd (show false=true from fx) Bool.false_ne_true
 | str a=>
  obtain ⟨t',rfl⟩:=ry
  cases x with
  | non=>cases rx;exact SeqAt.EqAt.str_none a t'
  | bl b=>cases rx;exact SeqAt.EqAt.str_bool a t' b
  | int b=>obtain ⟨t,rfl⟩:=rx;exact SeqAt.EqAt.str_int a t' b t
  | str b=>obtain ⟨t,rfl⟩:=rx;exact SeqAt.EqAt.str_str a t' b t
  | _=>exact absurd (show false=true from fx) Bool.false_ne_true
 | _=>exact absurd (show false=true from fy) Bool.false_ne_true
def eqU (x:V) (u:Value):Bool:=match u with
 | .none=>eqV .non x
 | .bool b=>eqV (.bl b) x
 | .int i _=>eqV (.int i) x
 | .str z _=>eqV (.str z) x
 | _=>false
theorem ZSN {x y:V}{u:Value}(r:RelV y u) (f:ZEA y=true):eqU x u=eqV y x:=by
 cases y with
 | non=>cases r;rfl
 | bl b=>cases r;rfl
 | int i=>obtain ⟨t,rfl⟩:=r;rfl
 | str z=>obtain ⟨t,rfl⟩:=r;rfl
 | _=>exact absurd (show false=true from f) Bool.false_ne_true
theorem ZI9 {x:V}:∀ {xs:List V}{us:List Value},Vals xs us->xs.all ZEA=true->us.any (eqU x)=xs.any fun y=>eqV y x
 | _,_,.nil,_=>rfl
 | y :: xs,u :: us,.cons r t,f=>by
  rw [List.all_cons,Bool.and_eq_true] at f
  rw [List.any_cons,List.any_cons,ZSN r f.1,ZI9 t f.2]
theorem ZEM {A:Around}{s:Shared}{x:V}{v:Value}(rx:RelV x v) (fx:ZEA x=true):∀ {xs:List V}{us:List Value},Vals xs us->xs.all ZEA=true->∀ u∈us,SeqAt.EqAt A s u v (eqU x u)
 | _,_,.nil,_=>fun u hu=>by cases hu
 | y :: xs,u :: us,.cons r t,f=>fun u' hu=>by
  rw [List.all_cons,Bool.and_eq_true] at f
  rcases List.mem_cons.mp hu with rfl | hu
  ·rw [ZSN r f.1];exact ZNT r rx f.1 fx
  ·exact ZEM rx fx t f.2 u' hu
def inV (x:V) (xs:List V):Bool:=xs.any fun y=>eqV y x
def rIn (K:PySem.W.Frag) (neg:Bool):R2:=fun x y H Q=>∃ p xs,y=.ref p/\(SqL K H p xs∨SqT K H p xs)/\ZEA x=true/\xs.all ZEA=true/\Q (.bl (if neg then !inV x xs else inV x xs)) H
theorem ZC2:OpR X (compareOp .In) (rIn X.K false):=by
 intro pins s σ H x y v u Q I rx ry h
 obtain ⟨p,xs,rfl,hq,fx,fs,q⟩:=h
 cases ry
 rcases hq with hq | hq
 ·obtain ⟨its,r,pl,hz⟩:=I.list hq
  refine SeqAt.in_listAt (eqU x) pl.isList (fun w hw=>ZEM rx fx r fs w (by simpa using hw)) ⟨.bl _,H,I,rfl,?_⟩
  rw [show its.toArray.any (eqU x)=its.any (eqU x) by simp,ZI9 r fs]
  exact q
 ·obtain ⟨its,r,pl,hz⟩:=I.tuple hq
  refine SeqAt.in_tupleAt (eqU x) pl (fun w hw=>ZEM rx fx r fs w (by simpa using hw)) ⟨.bl _,H,I,rfl,?_⟩
  rw [show its.toArray.any (eqU x)=its.any (eqU x) by simp,ZI9 r fs]
  exact q
theorem ZEk:OpR X (compareOp .NotIn) (rIn X.K true):=by
 intro pins s σ H x y v u Q I rx ry h
 obtain ⟨p,xs,rfl,hq,fx,fs,q⟩:=h
 cases ry
 rcases hq with hq | hq
 ·obtain ⟨its,r,pl,hz⟩:=I.list hq
  refine SeqAt.notIn_listAt (eqU x) pl.isList (fun w hw=>ZEM rx fx r fs w (by simpa using hw)) ⟨.bl _,H,I,rfl,?_⟩
  rw [show its.toArray.any (eqU x)=its.any (eqU x) by simp,ZI9 r fs]
  exact q
 ·obtain ⟨its,r,pl,hz⟩:=I.tuple hq
  refine SeqAt.notIn_tupleAt (eqU x) pl (fun w hw=>ZEM rx fx r fs w (by simpa using hw)) ⟨.bl _,H,I,rfl,?_⟩
  rw [show its.toArray.any (eqU x)=its.any (eqU x) by simp,ZI9 r fs]
  exact q
theorem ZAu:ZFH X (.builtin "len") (fun xs H Q=>∃ p ys,xs=[.ref p]/\(SqL X.K H p ys∨SqT X.K H p ys)/\Q (.int ys.length) H):=by
 intro pins s σ H xs us Q I r h
 obtain ⟨p,ys,rfl,hq,q⟩:=h
 obtain ⟨u,rfl,rx⟩:=vals1 r
 cases rx
 have hn:=ZFN
 rcases hq with hq | hq
 ·obtain ⟨its,r',pl,hz⟩:=I.list hq
  have hlen:=r'.length
  exact Calls.call_len_list pl.isList (by simp only [List.size_toArray] <;> omega) ⟨.int ys.length,H,I.tok _,⟨s.toks+1,by rw [List.size_toArray,hlen]⟩,q⟩
 ·obtain ⟨its,r',pl,hz⟩:=I.tuple hq
  have hlen:=r'.length
  exact len_tuple pl (by simp only [List.size_toArray] <;> omega) ⟨.int ys.length,H,I.tok _,⟨s.toks+1,by rw [List.size_toArray,hlen]⟩,q⟩
theorem ZEZ:ZFH X (.builtin "len") (fun xs H Q=>∃ z,xs=[.str z]/\z.length<=sizeLine/\Q (.int z.length) H):=by
 intro pins s σ H xs us Q I r h
 obtain ⟨z,rfl,hz,q⟩:=h
 obtain ⟨u,rfl,t,rfl⟩:=vals1 r
 have hn:=ZFN
 exact len_str (by omega) ⟨.int z.length,H,I.tok _,⟨_,rfl⟩,q⟩
theorem ZB8:ZFH X (.type "list") (fun xs H Q=>∃ p ys,xs=[.ref p]/\(SqL X.K H p ys∨SqT X.K H p ys)/\∀ l,H l=none->Q (.ref l) (upd H l (.lst ys))):=by
 intro pins s σ H xs us Q I r h
 obtain ⟨p,ys,rfl,hq,q⟩:=h
 obtain ⟨u,rfl,rx⟩:=vals1 r
 cases rx
 have fin:∀ (its:List Value),Vals ys its->ys.length<=sizeLine->∀ (h':Heap) (c':Nat),(∀ b o',s.heap.get? b=some o'->h'.get? b=some o')->
   h'.get? s.heap.objs.size=some { cls:=.type "list", dict:=none,data:=.seq its.toArray c',slots:=#[] }->EP X pins σ Q (.ref s.heap.objs.size) { s with heap:=h' }:=fun its r' hz h' c' kp e=>
  ⟨.ref s.heap.objs.size,_,I.laid (t':=s.toks) kp (Nat.le_refl _) (show ZCr X.prog X.w _ h' _ (.lst ys) from ⟨hz,its,c',r',e⟩),rfl,q _ (I.hok.fresh (Nat.le_refl _))⟩
 rcases hq with hq | hq
 ·obtain ⟨its,r',pl,hz⟩:=I.list hq
  have hlen:=r'.length
  obtain ⟨o,ho,hc,n,hd⟩:=pl.isList
  exact call_list_seq p (.inl rfl) ho hc hd (fun h' c' kp e=>fin its r' hz h' c' kp e) (by simp only [List.size_toArray] <;> omega)
 ·obtain ⟨its,r',pl,hz⟩:=I.tuple hq
  have hlen:=r'.length
  obtain ⟨o,ho,hc,n,hd⟩:=pl
  exact call_list_seq p (.inr rfl) ho hc hd (fun h' c' kp e=>fin its r' hz h' c' kp e) (by simp only [List.size_toArray] <;> omega)
theorem ZBL:ZFH X (.type "tuple") (fun xs H Q=>∃ p ys,xs=[.ref p]/\((SqL X.K H p ys/\∀ l,H l=none->Q (.ref l) (upd H l (.tup ys)))∨(SqT X.K H p ys/\Q (.ref p) H))):=by
 intro pins s σ H xs us Q I r h
 obtain ⟨p,ys,rfl,h⟩:=h
 obtain ⟨u,rfl,rx⟩:=vals1 r
 cases rx
 rcases h with ⟨hq,q⟩ | ⟨hq,q⟩
 ·obtain ⟨its,r',pl,hz⟩:=I.list hq
  have hlen:=r'.length
  refine call_tuple_list pl.isList (fun h' kp=>?_) (by simp only [List.size_toArray] <;> omega)
  have I1:Inv X pins σ H { s with heap:=h' }:=I.kept (t':=s.toks) kp
  have I2:Inv X pins σ (upd H h'.objs.size (.tup ys)) { s with heap:=h'.push { cls:=.type "tuple", data:=.seq its.toArray } }:=
   I1.laid (t':=s.toks) (fun b o e=>Heap.get?_push_of_some _ e) (Nat.le_refl _) (show ZCr X.prog X.w _ _ _ (.tup ys) from ⟨hz,its,r',⟨IsTup.new _ _,fun ob' e'=>by rw [Heap.get?_push_size _ rfl] at e';cases e';rfl⟩⟩)
  exact ⟨.ref h'.objs.size,_,I2,rfl,q _ (I1.hok.fresh (Nat.le_refl _))⟩
 ·obtain ⟨its,r',pl,hz⟩:=I.tuple hq
  exact call_tuple_same pl ⟨.ref p,H,I,rfl,q⟩
def tyV (K:PySem.W.Frag) (T:String) (x:V) (H:Hp):Prop:=match x with
 | .str _=>T = "str"
 | .int _=>T = "int"
 | .ref p=>(T = "list" /\ ∃ xs,SqL K H p xs)∨(T = "tuple" /\ ∃ o,K.lookup p=some o/\o.cls=.type "tuple" /\ o.dict=none)∨
   (T = "dict" /\ ((∃ kvs,H p=some (.dK kvs))∨∃ kvs,H p=some (.dT kvs)))∨(T = "set" /\ ∃ S n,H p=some (.set S n))∨(T = "tuple" /\ ∃ xs,H p=some (.tup xs))
 | _=>False
theorem ZUc {pins:List (Addr×Obj)}{σ:St} {H:Hp}{s:Shared}{T:String}{x:V}{v:Value}(I:Inv X pins σ H s) (r:RelV x v) (ty:tyV X.K T x H) :
  s.TypeIs v T/\∀ a,v=.ref a->∃ ob,s.heap.get? a=some ob/\ob.dict=none:=by
 cases x with
 | str z=>
  obtain ⟨t,rfl⟩:=r
  cases (show T = "str" from ty)
  exact ⟨typeIs_str s z t,fun _ e=>nomatch e⟩
 | int i=>
  obtain ⟨t,rfl⟩:=r
  cases (show T = "int" from ty)
  exact ⟨typeIs_int s i t,fun _ e=>nomatch e⟩
 | ref p=>
  cases r
  rcases ty with ⟨rfl,xs,hq⟩ | ⟨rfl,o,hk,hc,hd⟩ | ⟨rfl,hk⟩ | ⟨rfl,S,n,hk⟩ | ⟨rfl,xs,hk⟩
  ·obtain ⟨its,_,pl,_⟩:=I.list hq
   refine ⟨pl.isList.typeIs,fun a e=>?_⟩
   cases e
   obtain ⟨o,n,e,c,hd,_⟩:=pl
   exact ⟨o,e,hd⟩
  ·refine ⟨⟨o,I.kIn p o hk,hc⟩,fun a e=>?_⟩
   cases e
   exact ⟨o,I.kIn _ o hk,hd⟩
  ·have z:∃ o,s.heap.get? p=some o/\o.ExactDict:=by
    rcases hk with ⟨kvs,hk⟩ | ⟨kvs,hk⟩
    ·obtain ⟨_,_,_,_,o,_,_,e,ex,_⟩:=I.hok p _ hk
     exact ⟨o,e,ex⟩
    ·obtain ⟨_,_,_,_,o,_,_,e,ex,_⟩:=I.hok p _ hk
     exact ⟨o,e,ex⟩
   obtain ⟨o,e,ex⟩:=z
   refine ⟨⟨o,e,ex.1⟩,fun a e2=>?_⟩
   cases e2
   exact ⟨o,e,ex.2.1⟩
  ·obtain ⟨o,_,_,_,e,ex,_⟩:=I.hok p _ hk
   refine ⟨⟨o,e,ex.1⟩,fun a e2=>?_⟩
   cases e2
   exact ⟨o,e,ex.2.1⟩
  ·obtain ⟨_,its,_,⟨o,e,c,_⟩,dn⟩:=I.hok p _ hk
   refine ⟨⟨o,e,c⟩,fun a e2=>?_⟩
   cases e2
   exact ⟨o,e,dn o e⟩
 | _=>exact False.elim ty
def ZXk (K:PySem.W.Frag) (T:String) (r:V->List V->Hp->VK->Prop) (to:TE):TE:=fun σ H Q=>to σ H fun x H1=>tyV K T x H1/\r x [] H1 Q
def tBM (K:PySem.W.Frag) (T:String) (r:V->List V->Hp->VK->Prop) (to:TE) (t:TA):TE:=fun σ H Q=>to σ H fun x H1=>tyV K T x H1/\t σ H1 fun xs H2=>r x xs H2 Q
variable {o e:Expr}{es:List Expr}{to:TE}{t:TA}{name:Str}{apos cpos:Pos}{T id:String}{r:V->List V->Hp->VK->Prop}
theorem ZWJ (pa:PlainAttrs T) (slot:Slot T name id) (hty:typeOf (.builtin id)=pure (.type "method_descriptor")) (hm:MtR X id r) (ho:PE X o to) (ha:PA X (e :: es) t)
  (hbase:attributeBase o name X.env (eval o X.env)=eval o X.env:=by rfl)
  (hfew:((backTo cpos (starEach (e :: es) X.env)).all (fun x=>!x.1) && (backToKw cpos (keywordEach [] X.env)).all (fun x=>x.1.isSome)
   && decide ((e :: es).length+([]:List Keyword).length+(if ([]:List Keyword).isEmpty then 0 else 1) < 30))=true:=by rfl)
  (hline:(apos.endLine == cpos.line)=true:=by rfl) (hs:starEach (e :: es) X.env=(false,eval e X.env) :: starEach es X.env:=by rfl) (hplain:(backTo cpos (starEach es X.env)).any (·.1)=false:=by rfl) :
  PE X (.Call (.Attribute o name apos) (e :: es) [] cpos) (tBM X.K T r to t):=by
 intro pins s σ H Q I h
 refine wpAny_Call_method_late hbase hfew hline rfl (thn (ho pins s σ H _ I h) fun v s1 ⟨x,H1,I1,r1,ty,q1⟩=>?_)
 obtain ⟨h1,h2⟩:=ZUc I1 r1 ty
 refine ⟨T,id,pa,slot,hty,h1,h2,?_⟩
 have hA:=ha cpos pins s1 σ H1 _ I1 q1
 rw [hs] at hA ⊢
 refine Calls.callWith_builtin (by show (false || (backTo cpos (starEach es X.env)).any (·.1))=false;rw [hplain] <;> rfl) (Calls.evalArgs_plain ?_)
 exact thn hA fun us s2 ⟨vs,H2,I2,r2,q2⟩=>hm pins s2 σ H2 x vs v us Q I2 r1 r2 q2
end
end L2
namespace L2
def MtM (X:Cx) (id:String) (r:V->List V->Hp->VK->Prop):Prop:=
 ∀ (pins:List (Addr×Obj)) (s:Shared) (σ:St) (H:Hp) (x:V) (xs:List V) (v:Value) (us:List Value) (Q:VK),Inv X pins σ H s->RelV x v->Vals xs us->r x xs H Q->
  wpAny (model X.prog X.w) X.A (call (.builtin id) (v :: us)) (EP X pins σ Q) X.xe s
theorem Vals.one:∀ {x:V}{us:List Value},Vals [x] us->∃ u,us=[u]/\RelV x u
 | _,_,.cons r .nil=>⟨_,rfl,r⟩
theorem Vals.two:∀ {x y:V}{us:List Value},Vals [x,y] us->∃ u v,us=[u,v]/\RelV x u/\RelV y v
 | _,_,_,.cons r (.cons q .nil)=>⟨_,_,rfl,r,q⟩
theorem Vals.eraseIdx:∀ {xs:List V}{us:List Value}(i:Nat),Vals xs us->Vals (xs.eraseIdx i) (us.eraseIdx i)
 | _,_,_,.nil=>.nil
 | _,_,0,.cons _ t=>t
 | _,_,i+1,.cons r t=>.cons r (Vals.eraseIdx i t)
theorem Vals.reverse {xs:List V}{us:List Value}(h:Vals xs us):Vals xs.reverse us.reverse:=by
 induction h with
 | nil=>exact .nil
 | cons r t ih=>rw [List.reverse_cons,List.reverse_cons];exact Vals.append ih (.cons r .nil)
theorem Vals.rep {xs:List V}{us:List Value}(h:Vals xs us):∀ k:Nat,Vals (List.replicate k xs).flatten (List.replicate k us).flatten
 | 0=>.nil
 | k+1=>by
  rw [List.replicate_succ,List.replicate_succ,List.flatten_cons,List.flatten_cons]
  exact Vals.append h (Vals.rep h k)
theorem ZLW {α:Type}:∀ (l:List α) (i:Nat),(l.eraseIdx i).length<=l.length
 | [],_=>Nat.le_refl _
 | _ :: _,0=>Nat.le_succ _
 | _ :: r,i+1=>Nat.succ_le_succ (ZLW r i)
theorem foldl_rep (its:List Value):∀ (k:Nat) (acc:List Value),
  List.foldl (fun x1 x2=>x1++x2) acc.toArray (List.replicate k its.toArray)=(acc++(List.replicate k its).flatten).toArray
 | 0,acc=>by simp
 | k+1,acc=>by
  have e:acc.toArray++its.toArray=(acc++its).toArray:=by simp
  have e2:(acc++its)++(List.replicate k its).flatten=acc++(List.replicate (k+1) its).flatten:=by
   rw [List.replicate_succ,List.flatten_cons,List.append_assoc]
  rw [<- e2,<- foldl_rep its k (acc++its),<- e,List.replicate_succ,List.foldl_cons]
section
variable {X:Cx}{pins:List (Addr×Obj)}{σ:St} {H:Hp}{s:Shared}{l b:Addr}{xs ys zs:List V}
theorem Inv.ZWC {its its':List Value}{n:Nat}{f:Array Value->Array Value}{t':Nat}(I:Inv X pins σ H s) (hH:H l=some (.lst xs))
  (e:s.heap.get? l=some { cls:=.type "list", data:=.seq its.toArray n }) (hf:f its.toArray=its'.toArray) (hv:Vals ys its') (hz:ys.length<=sizeLine) :
  Inv X pins σ (upd H l (.lst ys)) { s with heap:=s.heap.update l (Obj.mapSeq f),toks:=t' }:=by
 have q:=PySem.IsL.update e f
 rw [hf] at q
 refine I.write (x:=l) (e:=l) (by rw [hH];exact trivial) (.inl rfl) (fun b' u hb hu=>(Heap.get?_update_other s.heap (Obj.mapSeq f) (Ne.symm hb)).trans hu) ⟨_,q⟩ ?_
 exact ⟨hz,its',_,hv,q⟩
theorem Inv.ZWZ {its:List Value}{t':Nat}(I:Inv X pins σ H s) (hv:Vals ys its) (hz:ys.length<=sizeLine) :
  Inv X pins σ (upd H s.heap.objs.size (.lst ys)) { s with heap:=s.heap.push { cls:=.type "list", data:=.seq its.toArray },toks:=t' }:=
 I.laid (fun _ _ q=>Heap.get?_push_of_some _ q) (Nat.le_refl _) ⟨hz,its,0,hv,Heap.get?_push_size _ rfl⟩
theorem Inv.fresh (I:Inv X pins σ H s):H s.heap.objs.size=none:=I.hok.fresh (Nat.le_refl _)
theorem Inv.ZSZ (I:Inv X pins σ H s) (hH:H l=some (.lst xs)):xs.length<=sizeLine/\∃ (its:List Value) (n:Nat),Vals xs its/\xs.length=its.length/\s.heap.get? l=some { cls:=.type "list", data:=.seq its.toArray n }:=by
 obtain ⟨z,its,n,r,e⟩:=I.hok l _ hH
 exact ⟨z,its,n,r,r.length,e⟩
theorem ZNj {n:Nat}(h:n<=sizeLine):Builtin.List.listTooLong n=false:=by
 unfold Builtin.List.listTooLong
 exact decide_eq_false (by omega)
end
section
variable {X:Cx}
def ZMb:V->List V->Hp->VK->Prop:=fun x vs H Q=>∃ l xs y,x=.ref l/\vs=[y]/\H l=some (.lst xs)/\xs.length < sizeLine/\Q .non (upd H l (.lst (xs++[y])))
theorem ZLw:MtM X "list.append" ZMb:=by
 intro pins s σ H x vs v us Q I rx rv h
 obtain ⟨l,xs,y,rfl,rfl,hH,hz,q⟩:=h
 cases rx
 obtain ⟨u,rfl,ru⟩:=rv.one
 obtain ⟨z,its,n,r,hl,e⟩:=I.ZSZ hH
 refine call_meets F.slot_list_append ⟨_,e,rfl⟩ F.entry_list_append (F.args_list_append_2 _ _) (PySem.list_append l its.toArray n u (by rw [List.size_toArray];omega)) ⟨e,?_⟩
 refine ⟨.non,_,I.ZWC (its':=its++[u]) hH e (by simp) (r.append (.cons ru .nil)) ?_,rfl,q⟩
 rw [List.length_append,List.length_singleton]
 omega
def ZMl:V->List V->Hp->VK->Prop:=fun x vs H Q=>∃ l b xs zs,x=.ref l/\vs=[.ref b]/\H l=some (.lst xs)/\H b=some (.lst zs)/\xs.length+zs.length<=sizeLine/\Q .non (upd H l (.lst (xs++zs)))
theorem ZQK:MtM X "list.extend" ZMl:=by
 intro pins s σ H x vs v us Q I rx rv h
 obtain ⟨l,b,xs,zs,rfl,rfl,hH,hB,hz,q⟩:=h
 cases rx
 obtain ⟨u,rfl,ru⟩:=rv.one
 cases ru
 obtain ⟨z,its,n,r,hl,e⟩:=I.ZSZ hH
 obtain ⟨z2,its2,n2,r2,hl2,e2⟩:=I.ZSZ hB
 have hsz:its.toArray.size+its2.toArray.size<=sizeLine:=by rw [List.size_toArray,List.size_toArray];omega
 have hlong:¬ (!its.toArray.isEmpty && Builtin.List.listTooLong (its.toArray.size+its2.toArray.size))=true:=by
  rw [ZNj hsz,Bool.and_false]
  exact Bool.false_ne_true
 refine call_meets F.slot_list_extend ⟨_,e,rfl⟩ F.entry_list_extend (F.args_list_extend_2 _ _)
  (AutoSeq1.list_extend_list_list_0 l its.toArray n b its2.toArray n2 hlong (by rw [List.size_toArray];omega) (by omega)) ⟨e,e2,?_⟩
 refine ⟨.non,_,I.ZWC (its':=its++its2) hH e (by simp) (r.append r2) ?_,rfl,q⟩
 rw [List.length_append]
 omega
def ZQJ:V->List V->Hp->VK->Prop:=fun x vs H Q=>∃ l xs i k y,x=.ref l/\vs=[.int i]/\H l=some (.lst xs)/\-(2 ^ 63)<=i/\i < 2 ^ 63/\seqIndex? i xs.length=some k/\xs[k]?=some y/\Q y (upd H l (.lst (xs.eraseIdx k)))
theorem ZRY:MtM X "list.pop" ZQJ:=by
 intro pins s σ H x vs v us Q I rx rv h
 obtain ⟨l,xs,i,k,y,rfl,rfl,hH,h1,h2,hk,hy,q⟩:=h
 cases rx
 obtain ⟨u,rfl,ru⟩:=rv.one
 obtain ⟨t,rfl⟩:=ru
 obtain ⟨z,its,n,r,hl,e⟩:=I.ZSZ hH
 obtain ⟨w,hw,rw'⟩:=r.get hy
 refine call_meets F.slot_list_pop ⟨_,e,rfl⟩ F.entry_list_pop (F.args_list_pop_2 _ _)
  (MeetsSeq.list_pop_at l its.toArray n i t k w (fitsIndex_both h1 h2) (by rw [List.size_toArray,<- hl];exact hk) (by rw [<- Array.getElem?_toList];exact hw) (by rw [List.size_toArray];omega)) ⟨e,?_⟩
 refine ⟨y,_,I.ZWC (its':=its.eraseIdx k) hH e ?_ (r.eraseIdx k) ?_,rw',q⟩
 ·show its.toArray.eraseIdxIfInBounds k=(its.eraseIdx k).toArray
  rw [List.eraseIdxIfInBounds_toArray]
 ·have:=ZLW xs k
  omega
def ZRp:V->List V->Hp->VK->Prop:=fun x vs H Q=>∃ l xs,x=.ref l/\vs=[]/\H l=some (.lst xs)/\Q .non (upd H l (.lst xs.reverse))
def ZXW:R2:=fun x y H Q=>∃ l b xs zs,x=.ref l/\y=.ref b/\H l=some (.lst xs)/\H b=some (.lst zs)/\xs.length+zs.length<=sizeLine/\∀ p,H p=none->Q (.ref p) (upd H p (.lst (xs++zs)))
theorem ZFw:OpR X (binaryOp .Add) ZXW:=by
 intro pins s σ H x y v u Q I rx ry h
 obtain ⟨l,b,xs,zs,rfl,rfl,hH,hB,hz,q⟩:=h
 cases rx
 cases ry
 obtain ⟨z,its,n,r,hl,e⟩:=I.ZSZ hH
 obtain ⟨z2,its2,n2,r2,hl2,e2⟩:=I.ZSZ hB
 refine PySem.P.add_list e e2 ?_ (by rw [List.size_toArray,List.size_toArray];omega)
 have ea:its.toArray++its2.toArray=(its++its2).toArray:=by simp
 rw [ea]
 exact ⟨.ref _,_,I.ZWZ (t':=s.toks) (r.append r2) (by rw [List.length_append];omega),rfl,q _ I.fresh⟩
def ZXX:R2:=fun x y H Q=>∃ l k xs,x=.ref l/\y=.int k/\H l=some (.lst xs)/\-(2 ^ 63)<=k/\k < 2 ^ 63/\xs.length * k.toNat<=sizeLine/\
 ∀ p,H p=none->Q (.ref p) (upd H p (.lst (List.replicate k.toNat xs).flatten))
theorem len_rep {α:Type} (xs:List α) (k:Nat):(List.replicate k xs).flatten.length=k * xs.length:=by
 induction k with
 | zero=>simp
 | succ k ih=>rw [List.replicate_succ,List.flatten_cons,List.length_append,ih,Nat.succ_mul,Nat.add_comm]
theorem ZSA:OpR X (binaryOp .Mult) ZXX:=by
 intro pins s σ H x y v u Q I rx ry h
 obtain ⟨l,k,xs,rfl,rfl,hH,h1,h2,hz,q⟩:=h
 cases rx
 obtain ⟨t,rfl⟩:=ry
 obtain ⟨z,its,n,r,hl,e⟩:=I.ZSZ hH
 have hlen:its.toArray.size * k.toNat<=sizeLine:=by rw [List.size_toArray,<- hl];exact hz
 have hcap:¬ its.toArray.size * k.toNat > (2 ^ 63 - 1) / 8:=by
  have:(sizeLine:Nat)<=(2 ^ 63 - 1) / 8:=by decide
  omega
 have hfit:¬ (!Builtin.List.listFitsIndex k)=true:=by
  rw [fitsIndex_both h1 h2]
  exact Bool.false_ne_true
 have hlong:¬ Builtin.List.listTooLong (its.toArray.size * k.toNat)=true:=by
  rw [ZNj hlen]
  exact Bool.false_ne_true
 have hnew:List.foldl (fun x1 x2=>x1++x2) #[] (List.replicate (if its.toArray.isEmpty=true then 0 else k.toNat) its.toArray)=(List.replicate k.toNat its).flatten.toArray:=by
  have f0:∀ m:Nat,List.foldl (fun x1 x2=>x1++x2) #[] (List.replicate m its.toArray)=(List.replicate m its).flatten.toArray:=fun m=>by
   have:=foldl_rep its m []
   rw [List.nil_append] at this
   exact this
  rw [f0]
  cases its with
  | nil=>simp
  | cons a r'=>rw [if_neg (by simp)]
 refine wpAny_binaryOp_repeat_ref (T := "list") (U := "int") (by decide) ⟨_,e,rfl⟩ (fun s'=>typeIs_int s' k t) noFill_list_mul F.fills_int_mul F.slot_int_rmul repeat_list F.slot_int_index.lookup
  (call_meets F.slot_int_rmul (typeIs_int s k t) F.entry_int_rmul (F.args_int_rmul_2 _ _) (int___rmul___int_list k t l its.toArray n)
   ⟨e,rfl,⟨_,e,rfl⟩,call_meets F.slot_list_mul ⟨_,e,rfl⟩ F.entry_list_mul (F.args_list_mul_2 _ _) (AutoListH.list___mul___list_int_3 l its.toArray n k t hfit hcap hlong) ⟨e,?_⟩⟩)
 rw [hnew]
 exact ⟨.ref _,_,I.ZWZ (t':=s.toks) (r.rep k.toNat) (by rw [len_rep,Nat.mul_comm];exact hz),rfl,q _ I.fresh⟩
end
section
variable {prog:Program}{w:World}{A:Around}{E:Value->Shared->Prop}{s:Shared}
set_option maxRecDepth 100000 in
end
section
variable {X:Cx}
end
end L2
namespace Att
open PySem PySem.W PySem.Calls PyProof.Rows
theorem ZIG {P:Params}{h:Heap}:∀ (ns:List Int) (vs:List Value),WellAll P h vs (ns.map WData.int)->IntsAre vs ns:=by
 intro ns
 induction ns with
 | nil=>
  intro vs w
  rw [List.map_nil] at w
  cases w
  exact .nil
 | cons n ns ih=>
  intro vs w
  rw [List.map_cons] at w
  cases w with
  | cons a b=>
   cases a
   exact .cons _ _ (ih _ b)
theorem ZQh {l:OpenLaw}{n:Nat}(hn:l.most=some n){P:Params}{h:Heap}{args:List WData}{vals:List Value}
  (hpre:l.row.toRowW.claim.pre args=true) (hwl:WellAll P h vals args) :
  ∃ a vs ns,vals=[Value.ref a]/\args=[WData.list (ns.map WData.int)]/\h.get? a=some { cls:=.type "list", data:=.seq vs.toArray }/\IntsAre vs ns/\ns.length<=n:=by
 have hsh:WShape.hasAll [] args [.list .int]=true:=(pre_splitW hpre).1
 have hc:l.pre.holds [] { args:=args }=true:=(pre_splitW hpre).2
 obtain ⟨d,r,rfl,h1,h2⟩:=hasAllW_cons hsh
 obtain rfl:=hasAllW_nil h2
 obtain ⟨xs,rfl,h3⟩:=hasW_list h1
 obtain ⟨ns,rfl⟩:=items_int h3
 have hlen:ns.length<=n:=by
  unfold OpenLaw.pre at hc
  have h4:(WTm.not (.lt (.lit (.int (n:Int))) (.len (.arg 0)))).holds [] { args:=[.list (ns.map .int)] }=true:=by
   have h4:=(holds_andW hc).1
   rw [hn] at h4
   exact h4
  have h5:=condW_of h4 (w_not (w_lt w_lit (w_len_list (w_arg rfl))))
  rw [List.length_map] at h5
  refine Nat.le_of_not_lt fun q=>?_
  have q':(n:Int) < ((ns.length:Nat):Int):=by omega
  first
   | (rw [decide_eq_true q'] at h5;exact absurd h5 (by decide))
   | (simp at h5;omega)
 cases hwl with
 | cons w1 w2=>
  cases w2
  cases w1 with
  | list ho hall=>exact ⟨_,_,ns,rfl,rfl,ho,ZIG ns _ hall,hlen⟩
theorem ZPI (l:OpenLaw) (args:List WData):l.row.toRowW.claim.post args (.bool true) args=true:=
 postW_of (r:=l.row.toRowW) (X:=(true == true))
  (show WShape.has [] (.bool true) .bool=true by first | rfl | decide | simp [WShape.has,WShape.arms,WShape.armsAll])
  (show (WTm.eq .res (.lit (.bool true))).value [] { args:=args,res:=some (.bool true),after:=args }=some (.bool (true == true)) from w_eq_bool (w_res rfl) w_lit) rfl
theorem ZMa {l:OpenLaw}{n:Nat}{q:Program}{loose:List Str}{XP:(Str->Option Value)->Heap->Prop}{YP:World->Heap->Prop}{d:DefRec}
  (hn:l.most=some n) (hdf:d.params.defaults=[])
  (call:∀ (w:World) (s₀ s₁:Shared) (mg mb:Str->Option Value) (fa:Addr) (o:Obj) (pm cd doc:Value) (a:Addr) (vs:List Value) (ns:List Int),
   Ground q loose [] XP w s₀ mg mb s₁.heap->YP w s₁.heap->
   s₁.heap.get? fa=some o->o.data=.func (docDef d.name d.params d.body d.scope pm cd doc)->s₁.heap.CodeRec cd d.name->mg d.name=some (.ref fa)->
   s₁.heap.get? a=some { cls:=.type "list", data:=.seq vs.toArray }->IntsAre vs ns->ns.length<=n->s₁.gens=#[]->
   codeAny (model l.prog w) callerA (.call (.ref fa) ⟨[.ref a],[]⟩) (fun r s'=>r=.ok (.ret (.bool true))/\OldK s₁.heap s'.heap/\s'.os=s₁.os/\AllBare s'.gens) s₁) :
  WalkO q loose XP YP l.row.toRowW d [] (fun f vs=>PySem.call f vs):=by
 intro w s₀ s₁ mg mb G Y fa o pm cd doc dV kV ho hd hcd hD hmg hg args vals as hpre hlay hrd hwl hlo
 obtain rfl:dV=.none:=Dflts.none hD hdf
 obtain rfl:kV=.none:=Dflts.noKw hD
 obtain ⟨a,vs,ns,rfl,rfl,hobj,hints,hlen⟩:=ZQh hn hpre hwl
 refine enter_call (codeAny_mono (call w s₀ s₁ mg mb fa o pm cd doc a vs ns G Y ho (fd_plain hd) hcd hmg hobj hints hlen hg) fun r s' hq=>?_)
 obtain ⟨rfl,h2,h3,h4⟩:=hq
 exact ⟨.inl ⟨.bool true,.bool true,[],rfl,fun _=>rfl,.bool true,ZPI l _,fun _=>⟨List.Pairwise.nil,fun _ hm=>(nomatch hm)⟩⟩,h2,h3,h4⟩
section
variable {prog:Program}{w:World}{A:Around}{E:Value->Shared->Prop}{s:Shared}{K:Frag}
end
end Att
namespace L2
theorem ZLE:∀ {vs:List Value}{ns:List Int},IntsAre vs ns->Vals (ns.map V.int) vs
 | _,_,.nil=>.nil
 | _,_,.cons n t h=>.cons ⟨t,rfl⟩ (ZLE h)
def ZWM (H:Hp):Prop:=∀ b,H b=none∨∃ o xs,H b=some (.frz o (.lst xs))
theorem ZRQ {P:Program}{w:World}{K:PySem.W.Frag}{mg mb:Str->Option Value}{CX:CXT}{k:Nat}{fa a:Addr}{fd:FuncData}{x:Str}{sp:Sp}{s₁:Shared}{vs:List Value}{ns:List Int}
  (KX:K.In s₁.heap) (hns:s₁.heap.Ns mainGlobals mg) (hb:s₁.heap.Ns builtinsNs mb) (hbb:∀ x:Str,x ≠ "__name__" -> mb x=bootBuiltins x) (hlim:s₁.heap.NoLimit) (hg:s₁.gens=#[])
  (ha:s₁.heap.get? a=some { cls:=.type "list", data:=.seq vs.toArray }) (hi:IntsAre vs ns) (hl:ns.length<=sizeLine) (hr:ZFW k callerA)
  (F:∀ base:Heap,K.In base->base.Ns mainGlobals mg->ZJ2 P w K mg base CX k fa fd [x] sp) (hbind:∀ (s:Shared) (u:Value),BindsTo s fd ⟨[u],[]⟩ [(x,u)])
  (hsp:∀ H:Hp,ZWM H->SqL K H a (ns.map V.int)->sp [.ref a] H (fun v _=>v=.bl true) fun _ _ _=>False)
  (hCX:∀ H e s',CX [] H s₁ (fun _ _ _=>False) e s'->False) :
  codeAny (model P w) callerA (.call (.ref fa) ⟨[.ref a],[]⟩) (fun r s'=>r=.ok (.ret (.bool true))/\OldK s₁.heap s'.heap/\s'.os=s₁.os/\AllBare s'.gens) s₁:=by
 have rv:=ZLE hi
 have lenV:=hi.length
 -- from an abstract heap in which nothing but the script may be tracked
 have core:∀ H:Hp,ZWM H->SqL K H a (ns.map V.int)->HOk P w H s₁.heap->(∀ b,H b≠none->b=a)->(H a≠none->K.lookup a=none)->
   codeAny (model P w) callerA (.call (.ref fa) ⟨[.ref a],[]⟩) (fun r s'=>r=.ok (.ret (.bool true))/\OldK s₁.heap s'.heap/\s'.os=s₁.os/\AllBare s'.gens) s₁:=by
  intro H hO hS hok hA hK
  have base_of:∀ {b:Addr}{o:Obj},s₁.heap.get? b=some o->H b=none->(ZRt s₁.heap H).get? b=some o:=fun e n=>ZR6 e n
  have noA:∀ {b:Addr}{o:Obj}{es:Array DictEntry}{ep:Nat},s₁.heap.get? b=some o->o.data=.dict es ep->H b=none:=fun {b o es ep} e d=>by
   cases q:H b with
   | none=>rfl
   | some u=>
    have e':b=a:=hA b (by rw [q];simp)
    subst e'
    rw [ha] at e;cases e
    have d':Data.seq vs.toArray _=Data.dict es ep:=d
    cases d'
  have nsK:∀ {b:Addr}{m:Str->Option Value},s₁.heap.Ns b m->(ZRt s₁.heap H).Ns b m:=fun {b m} ⟨o,es,ep,e,d,r⟩=>⟨o,es,ep,base_of e (noA e d),d,r⟩
  have hKb:K.In (ZRt s₁.heap H):=fun b o e=>base_of (KX b o e) (by
   cases q:H b with
   | none=>rfl
   | some u=>
    have e':b=a:=hA b (by rw [q];simp)
    subst e'
    rw [hK (by rw [q];simp)] at e;cases e)
  have hM:Mod K mg (ZRt s₁.heap H):=⟨hKb,nsK hns,⟨mb,nsK hb,hbb⟩,let ⟨mc,h1,h2⟩:=hlim;⟨mc,nsK h1,h2⟩⟩
  have e0:ZT4 P w K mg (ZRt s₁.heap H) callerA [] s₁ H:=⟨rfl,hM,fun b o e=>ZUC e,Nat.le_of_eq (ZPi _ _),trivial,fun b hb=>absurd (show b∈([]:List Addr) from hb) (by simp),hok,.of_eq hg⟩
  refine codeAny_mono ((F _ hKb (nsK hns)).run callerA [] s₁ H ⟨[.ref a],[]⟩ [.ref a] [.ref a] _ _ hr e0 (hbind s₁ (.ref a)) (.cons rfl .nil) (hsp H hO hS)) fun r s' h=>?_
  cases r with
  | error e=>exact (hCX H e s' h).elim
  | ok fl=>
   cases fl with
   | next=>exact False.elim h
   | brk=>exact False.elim h
   | cont=>exact False.elim h
   | ret u=>
    obtain ⟨v,H',os,bare,un,hok',r',q⟩:=h
    have q':v=.bl true:=q
    subst q'
    obtain rfl:u=Value.bool true:=r'
    refine ⟨rfl,OldK.of_keep fun b o e=>?_,os,bare⟩
    cases q:H b with
    | none=>exact un.keep b o e q (by intro z;exact absurd (show b∈([]:List Addr) from z) (by simp)) (by simp)
    | some u=>
     rcases hO b with z | ⟨ob,xs,z⟩
     ·rw [q] at z;cases z
     ·have z2:=un.frzs b ob _ z
      obtain ⟨e1,_⟩:=hok b _ z
      obtain ⟨e2,_⟩:=hok' b _ z2
      rw [e] at e1;cases e1
      exact e2
 cases hk:K.lookup a with
 | some o=>
  -- the script is one of the module's own objects
  have e:=KX a o hk
  rw [ha] at e
  cases e
  refine core (fun _=>none) (fun _=>.inl rfl) (.inr ⟨_,vs.toArray,_,hk,rfl,rfl,rfl,by rw [List.size_toArray,lenV];exact hl,by simpa using rv⟩) (fun b u z=>by have z':(none:Option HO)=some u:=z;cases z') (fun b z=>absurd rfl z) fun z=>absurd rfl z
 | none=>
  refine core (fun b=>if b=a then some (.frz { cls:=.type "list", data:=.seq vs.toArray } (.lst (ns.map V.int))) else none) (fun b=>?_) (.inl (.inr ⟨{ cls:=.type "list", data:=.seq vs.toArray },if_pos rfl⟩)) (fun b u z=>?_) (fun b z=>?_) fun _=>hk
  ·by_cases hb:b=a
   ·exact .inr ⟨_,_,if_pos hb⟩
   ·exact .inl (if_neg hb)
  ·by_cases hb:b=a
   ·have z':=(if_pos hb).symm.trans z
    cases z'
    subst hb
    exact ⟨ha,by rw [List.length_map];exact hl,vs,_,rv,ha⟩
   ·have z':=(if_neg hb).symm.trans z
    cases z'
  ·by_cases hb:b=a
   ·exact hb
   ·exact absurd (if_neg hb) z
end L2
namespace L2
theorem ZU6 {l:PySem.W.OpenLaw}{n k:Nat}{q:Program}{loose:List Str}{XP:(Str->Option Value)->Heap->Prop}{YP:World->Heap->Prop}{d:DefRec}{K:Params->PySem.W.Frag}{CX:World->CXT}{sp:World->Sp}{x:Str}
  (hn:l.most=some n) (hn2:n<=sizeLine) (hdf:d.params.defaults=[]) (hr:ZFW k callerA)
  (hY:∀ (w:World) (h:Heap),YP w h->(K w.params).In h)
  (F:∀ (w:World) (mg:Str->Option Value) (fa:Addr) (h:Heap),(K w.params).In h->h.Ns mainGlobals mg->mg d.name=some (.ref fa)->
   ∃ fd:FuncData,(∀ (s:Shared) (u:Value),BindsTo s fd ⟨[u],[]⟩ [(x,u)])/\
    ∀ base:Heap,(K w.params).In base->base.Ns mainGlobals mg->ZJ2 l.prog w (K w.params) mg base (CX w) k fa fd [x] (sp w))
  (hsp:∀ (w:World) (H:Hp) (a:Addr) (ns:List Int),ns.length<=n->ZWM H->SqL (K w.params) H a (ns.map V.int)->sp w [.ref a] H (fun v _=>v=.bl true) fun _ _ _=>False)
  (hCX:∀ (w:World) (H:Hp) (s:Shared) (e:Value) (s':Shared),CX w [] H s (fun _ _ _=>False) e s'->False) :
  PySem.W.WalkO q loose XP YP l.row.toRowW d [] (fun f vs=>PySem.call f vs):=by
 refine Att.ZMa hn hdf fun w s₀ s₁ mg mb fa o pm cd doc a vs ns G Y ho hd hcd hmg hobj hints hlen hg=>?_
 have KX:=hY w _ Y
 obtain ⟨fd,hb,hF⟩:=F w mg fa _ KX G.T.g hmg
 exact ZRQ KX G.T.g G.T.b G.T.builtins G.T.nolimit hg hobj hints (Nat.le_trans hlen hn2) hr hF hb (fun H hO hS=>hsp w H a ns hlen hO hS) fun H e s'=>hCX w H s₁ e s'
end L2
namespace L2
def ZAO (s:Stmt):Arguments:=match s with
 | .FunctionDef _ a _ _ _ _ _ _ _ _=>a
 | _=>{ posonlyargs:=[],args:=[],vararg:=none,kwonlyargs:=[],kw_defaults:=[],kwarg:=none,defaults:=[] }
def ZAN (s:Stmt):List Stmt:=match s with
 | .FunctionDef _ _ b _ _ _ _ _ _ _=>b
 | _=>[]
def ZA4 (s:Stmt):Scope:=match s with
 | .FunctionDef _ _ _ _ _ _ sc _ _ _=>sc
 | _=>{ kind:=.function,names:=[],isGenerator:=false,isCoroutine:=false }
abbrev CX0:CXT:=fun _ _ _ _ _ _=>False
abbrev E0:XK:=fun _ _ _=>False
theorem ZWr {X:Cx}:Passes CX0 X E0:=fun _ _ _ _ _ _ _ h=>h.elim
structure Fun (K:PySem.W.Frag) (x qual:Str) (st:Stmt) (f:Addr) (fd:FuncData):Prop where
 ex:∃ (oc:Value) (od:Option Addr) (kV doc pm:Value) (an:Option Addr) (cdv ct:Value) (osl:Array (Option Value)),
  fd=PySem.W.fnOf x qual (ZAO st) (ZAN st) (ZA4 st) .none kV doc pm an cdv ct/\K.lookup f=some ⟨oc,od,.func fd,osl⟩/\PySem.W.codeIn K cdv qual=true
 kp:PySem.W.keepIn K (.ref f)=true
section
variable {P:Program}{w:World}{K:PySem.W.Frag}{mg:Str->Option Value}{base:Heap}
theorem Fun.ok {x qual:Str}{st:Stmt}{f:Addr}{fd:FuncData}{N ps:List Str}{k:Nat}{sp:Sp}(F:Fun K x qual st f fd) (S:ZAP N ps (ZA4 st)) (len:∀ vs H Q E,sp vs H Q E->vs.length=ps.length)
  (hbody:∀ (cdv:Value) (A:Around) (outer:List Env) (s:Shared) (H:Hp) (vs:List V) (Q:VK) (E:XK),ZFW k (A.deeper (envOfC qual (ZA4 st) s.heap.objs.size f cdv))->sp vs H Q E->
   ∃ t,PSs (ZLH CX0 P w K mg base N qual (ZA4 st) f cdv A outer s H E).nox (ZAN st) t/\t { nx:=fun _ H'=>Q .non H',rt:=Q } (start N vs) H):ZJ2 P w K mg base CX0 (k+1) f fd ps sp:=by
 obtain ⟨oc,od,kV,doc,pm,an,cdv,ct,osl,rfl,lk,hcd⟩:=F.ex
 refine ZV0 lk hcd S len fun A outer s H vs Q E hr hsp=>?_
 obtain ⟨t,h,q⟩:=hbody cdv A outer s H vs Q E hr hsp
 exact ⟨t,h.nox,q⟩
theorem Fun.binds {x qual:Str}{st:Stmt}{f:Addr}{fd:FuncData}{ps:List Str}(F:Fun K x qual st f fd)
  (h:∀ (kV doc pm:Value) (an:Option Addr) (cdv ct:Value) (us:List Value),us.length=ps.length->bindArgs (PySem.W.fnOf x qual (ZAO st) (ZAN st) (ZA4 st) .none kV doc pm an cdv ct) ⟨us,[]⟩=pure (ps.zip us)):Binds K fd ps []:=by
 obtain ⟨oc,od,kV,doc,pm,an,cdv,ct,osl,rfl,lk,hcd⟩:=F.ex
 exact .all (h kV doc pm an cdv ct)
theorem ZAY {x qual:Str}{st:Stmt}{f:Addr}{oc:Value}{od an:Option Addr}{osl:Array (Option Value)}{kV doc pm cdv ct:Value}(l:K.lookup f=some ⟨oc,od,.func (PySem.W.fnOf x qual (ZAO st) (ZAN st) (ZA4 st) .none kV doc pm an cdv ct),osl⟩)
  (c:PySem.W.codeIn K cdv qual=true) (k:PySem.W.keepIn K (.ref f)=true):Fun K x qual st f (PySem.W.fnOf x qual (ZAO st) (ZAN st) (ZA4 st) .none kV doc pm an cdv ct):=⟨⟨oc,od,kV,doc,pm,an,cdv,ct,osl,rfl,l,c⟩,k⟩
end
section
variable {X:Cx}
theorem pv (i:Nat){x:Str}{pos:Pos}(hN:X.N[i]?=some x:=by rfl) (hv:Vis X.env.scope x:=by first | exact Or.inl rfl | exact Or.inr (Or.inl rfl) | exact Or.inr (Or.inr rfl)) (hd:(x == ("__debug__" : Str))=false:=by decide)
  (hcd:(x == ("__classdict__" : Str))=false:=by decide):PE X (.Name x pos) (ZFG i):=ZSG hN hv hd hcd
end
theorem ZMM {A B:Prop}(h:B):if false=true then A else B:=by
 rw [if_neg Bool.false_ne_true]
 exact h
theorem ZWy {A B:Prop}(h:A):if true=true then A else B:=by
 rw [if_pos rfl]
 exact h
theorem ZB4 {c A B:Prop} [Decidable c] (h1:c->A) (h2:¬ c->B):if c then A else B:=by
 by_cases h:c
 ·rw [if_pos h]
  exact h1 h
 ·rw [if_neg h]
  exact h2 h
def ZAk (H H':Hp):Prop:=∀ b o,H b=some o->H' b=some o
theorem ZAk.refl (H:Hp):ZAk H H:=fun _ _ h=>h
theorem ZAk.trans {H H1 H2:Hp}(a:ZAk H H1) (b:ZAk H1 H2):ZAk H H2:=fun c o h=>b c o (a c o h)
theorem ZAk.seq {K:PySem.W.Frag}{H H':Hp}{a:Addr}{xs:List V}(e:ZAk H H') (h:SqL K H a xs):SqL K H' a xs:=by
 rcases h with (h | ⟨o,h⟩) | h
 ·exact .inl (.inl (e _ _ h))
 ·exact .inl (.inr ⟨o,e _ _ h⟩)
 ·exact .inr h
end L2
set_option maxHeartbeats 4000000
namespace L2
theorem ZO9 {α β:Type} {l:List α}{f:α->β->Sem (ForInStep β)}(g:β->α->β) (h:∀ x∈l,∀ c,f x c=pure (.yield (g c x))):∀ c,forIn l c f=pure (l.foldl g c):=by
 induction l with
 | nil=>intro c;rfl
 | cons x l ih=>
  intro c
  rw [List.forIn_cons,h x List.mem_cons_self,pure_bind]
  exact ih (fun y hy=>h y (List.mem_cons_of_mem _ hy)) (g c x)
def ZFU (cells:List (Str×Addr)) (cs:List (Str×Addr)) (x:Str×NameKind):List (Str×Addr):=
 if x.2=.free then (x.1,(cells.lookup x.1).getD 0) :: cs else cs
def ZBR (cells:List (Str×Addr)) (names:List (Str×NameKind)):List (Str×Addr):=names.foldl (ZFU cells) []
theorem ZLC {scope:Scope}{env:Env}(h:∀ x∈scope.names,x.2=.free->(env.cells.lookup x.1).isSome=true):closureFor scope env=pure (ZBR env.cells scope.names):=by
 simp only [closureFor]
 rw [ZO9 (ZFU env.cells) (fun x hx c=>by
  obtain ⟨n,k⟩:=x
  unfold ZFU
  by_cases hk:k=NameKind.free
  ·subst hk
   have q:=h _ hx rfl
   obtain ⟨a,ha⟩:=Option.isSome_iff_exists.mp q
   have ha':env.cells.lookup n=some a:=ha
   have hc:cellOf env n=pure a:=by unfold cellOf;rw [ha']
   simp [hc,ha']
  ·have:(k == NameKind.free)=false:=by simpa using hk
   simp [this,hk])]
 rfl
theorem ZSH {cells:List (Str×Addr)}:∀ (names:List (Str×NameKind)) (acc:List (Str×Addr)),(∀ y∈names,y.2=.free->(cells.lookup y.1).isSome=true)->
  (∀ x c,acc.lookup x=some c->cells.lookup x=some c)->∀ x c,(names.foldl (ZFU cells) acc).lookup x=some c->cells.lookup x=some c
 | [],acc,_,ha,x,c,e=>ha x c e
 | (n,k) :: r,acc,hs,ha,x,c,e=>by
  rw [List.foldl_cons] at e
  refine ZSH r _ (fun y hy=>hs y (List.mem_cons_of_mem _ hy)) (fun x c e=>?_) x c e
  unfold ZFU at e
  by_cases hk:k=NameKind.free
  ·rw [if_pos hk] at e
   have q:=hs _ List.mem_cons_self hk
   obtain ⟨a,q⟩:=Option.isSome_iff_exists.mp q
   have q':cells.lookup n=some a:=q
   rw [List.lookup_cons] at e
   by_cases hx:x=n
   ·subst hx
    simp only [beq_self_eq_true,q',Option.getD_some] at e
    rw [q',<- e]
   ·have hb:(x == n)=false:=by simpa using hx
    rw [hb] at e
    exact ha x c e
  ·rw [if_neg hk] at e
   exact ha x c e
theorem ZMG {cells:List (Str×Addr)}{x:Str}:∀ (names:List (Str×NameKind)) (acc:List (Str×Addr)),((acc.lookup x).isSome=true∨(x,NameKind.free)∈names)->
  ((names.foldl (ZFU cells) acc).lookup x).isSome=true
 | [],acc,h=>by
  rcases h with h | h
  ·exact h
  ·cases h
 | (n,k) :: r,acc,h=>by
  rw [List.foldl_cons]
  refine ZMG r _ ?_
  unfold ZFU
  rcases h with h | h
  ·refine .inl ?_
   split
   ·rw [List.lookup_cons]
    split
    ·rfl
    ·exact h
   ·exact h
  ·rcases List.mem_cons.mp h with e | h
   ·cases e
    refine .inl ?_
    rw [if_pos rfl,List.lookup_cons]
    simp
   ·exact .inr h
theorem ZDo {env:Env}:∀ (names:List (Str×NameKind)) (x:Str),
  (names.map fun (n,k)=>if (k == NameKind.free && env.scope.kind == .function && env.kindOf n == some .cell) then (n,NameKind.cell) else (n,k)).lookup x =
   (names.lookup x).map fun k=>if (k == NameKind.free && env.scope.kind == .function && env.kindOf x == some .cell) then NameKind.cell else k
 | [],x=>rfl
 | (n,k) :: r,x=>by
  have ih:=ZDo (env:=env) r x
  rw [List.map_cons]
  by_cases hc:(k == NameKind.free && env.scope.kind == .function && env.kindOf n == some .cell)=true
  ·show List.lookup x ((if (k == NameKind.free && env.scope.kind == .function && env.kindOf n == some .cell)=true then (n,NameKind.cell) else (n,k)) :: _)=_
   rw [if_pos hc,List.lookup_cons,List.lookup_cons]
   by_cases hx:x=n
   ·subst hx;simp only [beq_self_eq_true,Option.map_some];rw [if_pos hc]
   ·have hb:(x == n)=false:=by simpa using hx
    rw [hb];exact ih
  ·show List.lookup x ((if (k == NameKind.free && env.scope.kind == .function && env.kindOf n == some .cell)=true then (n,NameKind.cell) else (n,k)) :: _)=_
   rw [if_neg hc,List.lookup_cons,List.lookup_cons]
   by_cases hx:x=n
   ·subst hx;simp only [beq_self_eq_true,Option.map_some];rw [if_neg hc]
   ·have hb:(x == n)=false:=by simpa using hx
    rw [hb];exact ih
abbrev ZBj (X:Cx) (N:List Str) (scope:Scope) (cl:List (Str×Addr)) (C:Addr) (s:Shared) (H:Hp) (fp:List Addr):Cx:=
 { X with N:=N,s₀:=s,H₀:=H,env:=compEnvC scope cl C X.env,outer:=X.stack,ex:=fp,fn:=fun _=>false,pn:=[],xe:=fun _ _=>False }
def ZBw (js:List Nat) (σ:St):St:=js.map fun j=>(σ[j]?).join
structure ZAr (N:List Str) (outer scope:Scope) (x:Str) (ZCl:List Str) (js:List Nat):Prop where
 kind:scope.kind=.function
 nocell:∀ y∈scope.names,y.2≠.cell
 loc:∀ y∈scope.names,y.2=.local->scope.names.lookup y.1=some .local
 tgt:scope.names.lookup x=some .local
 at':js.map (fun j=>N[j]?)=ZCl.map some
 cell:∀ y∈ZCl,outer.names.lookup y=some .cell
 free:∀ y∈ZCl,scope.names.lookup y=some .free
 all:∀ y∈scope.names,y.2=.free->outer.names.lookup y.1=some .cell
 nd:(ZCl++[x]).Nodup
def ZUE (X:Cx) (ifs:List Expr) (t:TT):Prop:=
 ∀ (pins:List (Addr×Obj)) (s:Shared) (σ:St) (H:Hp) (Q:Bool->Hp->Prop),Inv X pins σ H s->t σ H Q->
  wpAny (model X.prog X.w) X.A (forIn ifs true fun c r=>if r=true then do let ok <- isTrue c X.env (eval c X.env);pure (ForInStep.yield ok) else pure (ForInStep.yield r)) (TP X pins σ Q) X.xe s
def ZQu:TT:=fun _ H Q=>Q true H
theorem ZTB {X:Cx}:ZUE X [] ZQu:=fun pins s σ H Q I h=>by
 rw [List.forIn_nil];exact wpAny_pure ⟨H,I,h⟩
theorem ZTE {X:Cx}{c:Expr}{t:TT}(hc:PT X c t):ZUE X [c] t:=fun pins s σ H Q I h=>by
 rw [List.forIn_cons]
 refine wpAny_bind ?_
 rw [if_pos rfl]
 refine wpAny_bind (thn (hc pins s σ H Q I h) fun b s1 q=>wpAny_pure ?_)
 show wpAny _ _ (forIn [] b _) _ _ s1
 rw [List.forIn_nil]
 exact wpAny_pure q
def ZPb (J:It) (js:List Nat) (tt:TT) (te:TE) (σ:St) (H1:Hp) (acc:Addr) (Q:VK):Prop:=
 ∃ W:Nat->Nat->Hp->Prop,(∃ m,W 0 m (upd H1 acc (.lst [])))/\∀ i m H2,W i m H2->
  (J.stop i H2/\Q (.ref acc) H2)∨(J.go i H2/\∀ x H3,J.yld i H2 x H3->tt (ZBw js σ++[some x]) H3 fun b H4=>
   if b=true then te (ZBw js σ++[some x]) H4 fun y H5=>∃ ys,H5 acc=some (.lst ys)/\ys.length < sizeLine/\∃ m',m' < m/\W (i+1) m' (upd H5 acc (.lst (ys++[y])))
   else ∃ m',m' < m/\W (i+1) m' H4)
def ZN4 (wi:TI) (js:List Nat) (tt:TT) (te:TE):TE:=fun σ H Q=>wi σ H fun J H1=>∀ acc,H1 acc=none->ZPb J js tt te σ H1 acc Q
theorem ZRl {α:Type} (l:List α) (a b:α):(l++[a]).set l.length b=l++[b]:=by
 induction l with
 | nil=>rfl
 | cons x l ih=>simp [ih]
section
variable {X:Cx}{pins:List (Addr×Obj)}{σ:St} {H2:Hp}{s2:Shared}{elt iter:Expr}{x:Str}{px pos:Pos}{ifs:List Expr}{scope:Scope}{ZCl:List Str}{js:List Nat}{tt:TT}{te:TE}{J:It}{fp:List Addr}{it:Addr}
 {tn:Nat->Heap->Prop}
theorem ZQz (S:ZAr X.N X.env.scope scope x ZCl js) (I3:Inv X pins σ H2 s2) (f2:∀ b∈fp,ZNR X pins H2 b) (lt2:∀ b∈fp,b < s2.heap.objs.size){h1:Heap}
  {m:Str->Option Value}(hns:h1.Ns s2.heap.objs.size m) (old:∀ b o,s2.heap.get? b=some o->h1.get? b=some o){t':Nat} :
  Inv (ZBj X (ZCl++[x]) scope (ZBR X.env.cells scope.names) s2.heap.objs.size s2 H2 fp) [] (ZBw js σ++[none]) H2 { s2 with heap:=h1,toks:=t' }:=by
 have hsome:∀ y∈scope.names,y.2=.free->(X.env.cells.lookup y.1).isSome=true:=fun y hy hk=>by
  obtain ⟨c,e⟩:=I3.ok.has y.1 (.inl (S.all y hy hk))
  rw [e];rfl
 have cof:∀ y c,(ZBR X.env.cells scope.names).lookup y=some c->X.env.cells.lookup y=some c:=ZSH scope.names [] hsome (fun _ _ e=>by cases e)
 have hrel:∀ y k,(relabel scope X.env).names.lookup y=some k->k=.cell∨k=.free->scope.names.lookup y=some .free:=fun y k e hk=>by
  have e':=(ZDo (env:=X.env) scope.names y).symm.trans e
  cases q:scope.names.lookup y with
  | none=>rw [q] at e';cases e'
  | some k0=>
   rw [q] at e'
   have hne:=S.nocell _ (PySem.mem_of_lookup q)
   cases k0 with
   | free=>rfl
   | cell=>exact absurd rfl hne
   | _=>simp at e';rcases hk with rfl | rfl <;> cases e'
 have hlen:js.length=ZCl.length:=by have:=congrArg List.length S.at';simpa using this
 have clt:∀ y c,X.env.cells.lookup y=some c->c < s2.heap.objs.size:=fun y c e=>by
  obtain ⟨v,o,ho,_⟩:=I3.cell y c e
  exact Heap.lt_size ho
 have cellK:∀ c v,s2.heap.IsCell c v->h1.IsCell c v:=fun c v ⟨o,ho,hd⟩=>⟨o,old c o ho,hd⟩
 refine ⟨⟨I3.ok.mod,S.kind,I3.ok.glob,I3.ok.blt,Nat.le_refl _,fun y z c e1 e2=>I3.ok.inj y z c (cof y c e1) (cof z c e2),fun y hy=>?_,fun y c hf _=>(by cases hf),I3.ok.hd,I3.ok.frames,.inl rfl,fun b hb=>⟨Nat.ne_of_lt (lt2 b hb),fun y c e=>(f2 b hb).2.2.2.2.1 y c (cof y c e)⟩,
  fun b o e=>I3.bs b o e,Nat.le_trans I3.ok.bsz I3.sz,fun b o e hb=>?_,fun b hb hs=>?_,I3.stack,I3.ZKn⟩,rfl,I3.bare,Un.kept old,⟨m,hns,fun i y v e1 e2 e3=>?_⟩,fun y c e=>?_,I3.hok.fresh (Nat.le_refl _),fun y c e=>I3.freeC y c (cof y c e),fun p hp=>(by cases hp),I3.hok.kept old,?_⟩
 ·have hf:scope.names.lookup y=some .free:=by
   rcases hy with hy | hy
   ·exact hrel y _ hy (.inl rfl)
   ·exact hrel y _ hy (.inr rfl)
  exact Option.isSome_iff_exists.mp (ZMG scope.names [] (.inr (PySem.mem_of_lookup hf)))
 ·rcases (f2 b hb).2.2.2.1 with z | z
  ·exact I3.ok.noex b o e z
  ·exact absurd (Nat.lt_of_lt_of_le (Nat.lt_of_lt_of_le (Heap.lt_size e) I3.ok.bsz) z) (Nat.lt_irrefl _)
 ·rcases List.mem_cons.mp (I3.ZLJ b hs) with z | z
  ·exact (f2 b hb).2.1 z
  ·exact (f2 b hb).2.2.1 z
 ·have hcl:(ZBw js σ).length=ZCl.length:=by unfold ZBw;rw [List.length_map,hlen]
  have hi:i < ZCl.length:=by
   by_cases hi:i < ZCl.length
   ·exact hi
   ·have e2':(ZBw js σ++[none])[i]?=some (some v):=e2
    rw [List.getElem?_append_right (by rw [hcl];omega),hcl] at e2'
    cases hd:i - ZCl.length with
    | zero=>rw [hd] at e2';cases e2'
    | succ k=>rw [hd] at e2';simp at e2'
  have e1':ZCl[i]?=some y:=by
   have e1':(ZCl++[x])[i]?=some y:=e1
   rwa [List.getElem?_append_left hi] at e1'
  have e2':(ZBw js σ)[i]?=some (some v):=by
   have e2':(ZBw js σ++[none])[i]?=some (some v):=e2
   rwa [List.getElem?_append_left (by rw [hcl];exact hi)] at e2'
  have hmem:y∈ZCl:=List.mem_of_getElem? e1'
  unfold ZBw at e2'
  rw [List.getElem?_map] at e2'
  cases hj:js[i]? with
  | none=>rw [hj] at e2';cases e2'
  | some j=>
   rw [hj] at e2'
   have hN:X.N[j]?=some y:=by
    have q:=congrArg (fun l=>l[i]?) S.at'
    simp only [List.getElem?_map,hj,e1',Option.map_some] at q
    exact Option.some.inj q
   have hσ:σ[j]?=some (some v):=by
    simp only [Option.map_some,Option.some.injEq] at e2'
    cases q:σ[j]? with
    | none=>rw [q] at e2';cases e2'
    | some w=>rw [q] at e2';simp at e2';rw [e2']
   obtain ⟨m0,hn0,hl0⟩:=I3.loc
   obtain ⟨u,r,l⟩:=hl0 j y v hN hσ (.inr (.inl (S.cell y hmem)))
   refine ⟨u,r,?_⟩
   rcases l with ⟨k,_⟩ | ⟨_,c,e,z⟩
   ·have k':X.env.scope.names.lookup y=some .local:=k
    rw [S.cell y hmem] at k';cases k'
   ·have hkc:X.env.kindOf y=some .cell:=S.cell y hmem
    have hk:(relabel scope X.env).names.lookup y=some .cell:=by
     refine (ZDo (env:=X.env) scope.names y).trans ?_
     rw [S.free y hmem]
     simp [I3.ok.kind,hkc]
    obtain ⟨c',e'⟩:=Option.isSome_iff_exists.mp (ZMG (cells:=X.env.cells) scope.names [] (.inr (PySem.mem_of_lookup (S.free y hmem))))
    have e'':=cof y c' e'
    rw [e] at e'';cases e''
    exact .inr ⟨.inl hk,c,e',cellK c _ z⟩
 ·obtain ⟨v,z⟩:=I3.cell y c (cof y c e)
  exact ⟨v,cellK c v z⟩
 ·show (ZBw js σ++[none]).length=(ZCl++[x]).length
  unfold ZBw
  simp [hlen]
end
end L2
namespace L2
section
variable {X:Cx}{pins:List (Addr×Obj)}{σ:St} {H2:Hp}{s2:Shared}{elt iter:Expr}{x:Str}{px pos:Pos}{ifs:List Expr}{scope:Scope}{ZCl:List Str}{js:List Nat}{tt:TT}{te:TE}{J:It}{fp:List Addr}{it:Addr}
 {tn:Nat->Heap->Prop}
theorem ZP0 {acc C:Addr}{s3:Shared}{H3:Hp}{cl:List (Str×Addr)}{s4:Shared}{w0:Option V}{H4:Hp}{R:Result->Shared->Prop}(hc:X.calm=true) (S:ZAr X.N X.env.scope scope x ZCl js)
  (hifs:ZUE (ZBj X (ZCl++[x]) scope cl C s3 H3 fp) ifs tt) (helt:PE (ZBj X (ZCl++[x]) scope cl C s3 H3 fp) elt te)
  (T:Turn X.prog X.w X.K (.Name x px) J fp it tn) (lt3:∀ b∈fp,(ZBj X (ZCl++[x]) scope cl C s3 H3 fp).Ok->ZNR (ZBj X (ZCl++[x]) scope cl C s3 H3 fp) [] (fun _=>none) b)
  (W:Nat->Nat->Hp->Prop) (Q:VK)
  (turn:∀ i m H2,W i m H2->(J.stop i H2/\Q (.ref acc) H2)∨(J.go i H2/\∀ x H3,J.yld i H2 x H3->tt (ZBw js σ++[some x]) H3 fun b H4=>
   if b=true then te (ZBw js σ++[some x]) H4 fun y H5=>∃ ys,H5 acc=some (.lst ys)/\ys.length < sizeLine/\∃ m',m' < m/\W (i+1) m' (upd H5 acc (.lst (ys++[y])))
   else ∃ m',m' < m/\W (i+1) m' H4))
  (I4:Inv (ZBj X (ZCl++[x]) scope cl C s3 H3 fp) [] (ZBw js σ++[w0]) H4 s4) (st4:tn 0 s4.heap) (fr4:∀ b∈fp,H4 b=none) (m0:Nat) (w4:W 0 m0 H4)
  (hR:∀ H' s' w,Inv (ZBj X (ZCl++[x]) scope cl C s3 H3 fp) [] (ZBw js σ++[w]) H' s'->Q (.ref acc) H'->R (.ok .next) s') :
  codeAny (model X.prog X.w) X.A (.compLoop (.ListComp elt [⟨.Name x px,iter,ifs,0⟩] scope pos) 0 (.ref it) (.ref acc) (compEnvC scope cl C X.env)) R s4:=by
 have hlen:(ZBw js σ).length=ZCl.length:=by
  unfold ZBw;rw [List.length_map];have:=congrArg List.length S.at';simpa using this
 have hN:(ZCl++[x])[(ZBw js σ).length]?=some x:=by rw [hlen];simp
 have hloc:Loc (relabel scope X.env) x:=.inl (lookup_relabel_local S.tgt)
 have hok:=I4.ok
 have stat:∀ {H':Hp},(∀ b∈fp,H' b=none)->∀ b∈fp,ZNR (ZBj X (ZCl++[x]) scope cl C s3 H3 fp) [] H' b:=fun hn b hb=>⟨hn b hb,(lt3 b hb hok).2⟩
 refine codeAny_compLoop_tests (fun n s'=>∃ i w H',Inv (ZBj X (ZCl++[x]) scope cl C s3 H3 fp) [] (ZBw js σ++[w]) H' s'/\tn i s'.heap/\(∀ b∈fp,H' b=none)/\W i n H') ?_ m0 ⟨0,w0,H4,I4,st4,fr4,w4⟩
 rintro n s5 ⟨i,w,H5,I5,st5,fr5,w5⟩
 rcases turn i n H5 w5 with ⟨stop,q⟩ | ⟨go,step⟩
 ·refine wpAny_mono (T.done (ZBj X (ZCl++[x]) scope cl C s3 H3 fp) rfl rfl rfl hc i [] s5 _ H5 (fun _ _=>False) I5 (stat fr5) st5 stop) (fun r s6 ⟨hr,I6⟩=>?_) fun _ _ z=>z.elim
  subst hr
  exact hR H5 s6 w I6 q
 ·refine wpAny_mono (T.item (ZBj X (ZCl++[x]) scope cl C s3 H3 fp) rfl rfl rfl hc i [] s5 _ H5 (fun _ _=>False) I5 (stat fr5) st5 go) (fun r s6 ⟨u,hr,h6⟩=>?_) fun _ _ z=>z.elim
  subst hr
  have key:∀ (Q':Unit->Shared->Prop) (E':Value->Shared->Prop) (f:Unit->Sem Unit),wpAny (model X.prog X.w) X.A (letOwnedTupleGo (.Name x px) (.ref it) u >>= f) Q' E' s6->wpAny (model X.prog X.w) X.A (f ()) Q' E' s6:=fun Q' E' f h=>h
  refine key _ _ (fun _=>assign (.Name x px) (compEnvC scope cl C X.env) u) (wpAny_bind (wpAny_mono h6 (fun _ s7 ⟨v,H7,I7,r7,y7,st7,fr7⟩=>?_) fun _ _ z=>z.elim))
  have I7':=I7.pinned (stat fr7) (T.obj _ _ st7)
  refine wpAny_mono (ZP7 (X:=ZBj X (ZCl++[x]) scope cl C s3 H3 fp) (pos:=px) S.nd hN hloc (.inr (lookup_relabel_local S.tgt)) _ s7 _ H7 v u
   (fun σ8 H8=>σ8=ZBw js σ++[some v]/\H8=H7) I7' r7 ⟨ZRl _ _ _,rfl⟩) (fun _ s8 ⟨σ8,H8,I8,e8,e8'⟩=>?_) fun _ _ z=>z.elim
  subst e8;subst e8'
  refine wpAny_mono (hifs _ s8 _ H8 _ I8 (step v H8 y7)) (fun b s9 ⟨H9,I9,q9⟩=>?_) fun _ _ z=>z.elim
  have again:∀ {σa:St} {Ha:Hp}{sa:Shared},Inv (ZBj X (ZCl++[x]) scope cl C s3 H3 fp) ([]++ZM6 fp s7.heap) σa Ha sa->tn (i+1) sa.heap/\(∀ b∈fp,Ha b=none):=fun {σa Ha sa} Ia=>by
   refine ⟨T.keep _ _ _ st7 fun b hb o e=>(Ia.pin (b,o) (List.mem_append_right _ (List.mem_append_right _ (ZFE hb e)))).1,fun b hb=>?_⟩
   obtain ⟨o,e,d⟩:=T.obj _ _ st7 b hb
   exact (Ia.pin (b,o) (List.mem_append_right _ (List.mem_append_right _ (ZFE hb e)))).2.1
  cases b with
  | false=>
   have q9':∃ m',m' < n/\W (i+1) m' H9:=q9
   obtain ⟨m',hm,w9⟩:=q9'
   rw [if_neg (by decide)]
   exact ⟨m',hm,i+1,_,H9,I9.ZG7,(again I9).1,(again I9).2,w9⟩
  | true=>
   rw [if_pos rfl]
   rw [if_pos rfl] at q9
   refine wpAny_mono (helt _ s9 _ H9 _ I9 q9) (fun yv s10 ⟨y,H10,I10,r10,ys,hacc,hz,m',hm,w10⟩=>?_) fun _ _ z=>z.elim
   refine wpAny_mono (ZLw (X:=ZBj X (ZCl++[x]) scope cl C s3 H3 fp) _ s10 _ H10 (.ref acc) [y] (.ref acc) [yv] (fun _ H11=>H11=upd H10 acc (.lst (ys++[y]))) I10 rfl (.cons r10 .nil) ⟨acc,ys,y,rfl,rfl,hacc,hz,rfl⟩)
    (fun _ s11 ⟨_,H11,I11,_,e11⟩=>?_) fun _ _ z=>z.elim
   subst e11
   exact ⟨m',hm,i+1,_,_,I11.ZG7,(again I11).1,(again I11).2,w10⟩
theorem ZJN {RR:Value->Addr->Result->Shared->Prop}{E:Value->Shared->Prop}(hc:X.calm=true) (S:ZAr X.N X.env.scope scope x ZCl js)
  (hifs:∀ C s H,ZUE (ZBj X (ZCl++[x]) scope (ZBR X.env.cells scope.names) C s H fp) ifs tt) (helt:∀ C s H,PE (ZBj X (ZCl++[x]) scope (ZBR X.env.cells scope.names) C s H fp) elt te)
  (T:Turn X.prog X.w X.K (.Name x px) J fp it tn) (I2:Inv X pins σ H2 s2) (st2:tn 0 s2.heap) (f2:∀ b∈fp,ZNR X pins H2 b) (Q:VK) (hW:∀ acc,H2 acc=none->ZPb J js tt te σ H2 acc Q)
  (hRR:∀ acc C H' s' m,Inv X pins σ H' s'->ZNR X pins H' C->s'.heap.Ns C m->Q (.ref acc) H'->RR (.ref acc) C (.ok .next) s') :
  wpAny (model X.prog X.w) X.A (newList []) (fun acc s3=>wpAny (model X.prog X.w) X.A (newFunctionEnv scope X.env.globals (ZBR X.env.cells scope.names) [] X.env.qual none .none (some X.env)) (fun cenv s4=>
   codeAny (model X.prog X.w) X.A (.compStart (.ListComp elt [⟨.Name x px,iter,ifs,0⟩] scope pos) 0 (.ref it) acc { cenv with scope:=relabel scope X.env }) (RR acc cenv.locals) s4) E s3) E s2:=by
 refine wpAny_newObj_type (wpAny_newFunctionEnv S.nocell (fun y hy=>by cases hy) (fun h1 hns hsb=>?_) S.kind)
 have I3:Inv X pins σ (upd H2 s2.heap.objs.size (.lst [])) { s2 with heap:=s2.heap.push { cls:=.type "list", data:=.seq ([]:List Value).toArray } }:=I2.ZWZ (t':=s2.toks) .nil (Nat.zero_le _)
 have hlt:∀ b∈fp,b < s2.heap.objs.size:=fun b hb=>by
  obtain ⟨o,e,_⟩:=T.obj _ _ st2 b hb
  exact Heap.lt_size e
 have hsz:(s2.heap.push { cls:=.type "list", data:=.seq ([]:List Value).toArray }).objs.size=s2.heap.objs.size+1:=Heap.size_push ..
 have f3:∀ b∈fp,ZNR X pins (upd H2 s2.heap.objs.size (.lst [])) b:=fun b hb=>⟨by rw [ZAT (Nat.ne_of_lt (hlt b hb))];exact (f2 b hb).1,(f2 b hb).2⟩
 generalize hs3:({ s2 with heap:=s2.heap.push { cls:=.type "list", data:=.seq ([]:List Value).toArray } }:Shared)=s3 at I3 hns hsb ⊢
 have hs3h:s3.heap=s2.heap.push { cls:=.type "list", data:=.seq ([]:List Value).toArray }:=by rw [<- hs3]
 have hlt3:∀ b∈fp,b < s3.heap.objs.size:=fun b hb=>by rw [hs3h,hsz];exact Nat.lt_succ_of_lt (hlt b hb)
 have old:∀ b o,s3.heap.get? b=some o->h1.get? b=some o:=fun b o e=>hsb.extBut b o (Nat.ne_of_lt (Heap.lt_size e)) (Heap.get?_push_of_some _ e)
 have old2:∀ b o,s2.heap.get? b=some o->h1.get? b=some o:=fun b o e=>old b o (by rw [hs3h];exact Heap.get?_push_of_some _ e)
 have I4:=ZQz S I3 f3 hlt3 hns old (t':=s3.toks+([]:List (Str×Value)).length)
 have st4:tn 0 h1:=T.keep _ _ _ st2 fun b _ o e=>old2 b o e
 obtain ⟨W,⟨m0,w0⟩,turn⟩:=hW s2.heap.objs.size (I2.hok.fresh (Nat.le_refl _))
 have loop:codeAny (model X.prog X.w) X.A (.compLoop (.ListComp elt [⟨.Name x px,iter,ifs,0⟩] scope pos) 0 (.ref it) (.ref s2.heap.objs.size) (compEnvC scope (ZBR X.env.cells scope.names) s3.heap.objs.size X.env))
   (RR (.ref s2.heap.objs.size) s3.heap.objs.size) { s3 with heap:=h1,toks:=s3.toks+([]:List (Str×Value)).length }:=by
  refine ZP0 (acc:=s2.heap.objs.size) (Q:=Q) hc S (hifs _ _ _) (helt _ _ _) T (fun b hb ok=>⟨rfl,(ok.exf b hb).1,ok.exfs b hb,.inl hb,(ok.exf b hb).2,fun p hp=>by cases hp⟩) W turn I4 st4 (fun b hb=>(f3 b hb).1) m0 w0 fun H' s' w I' q=>?_
  obtain ⟨m,hn,_⟩:=I'.loc
  exact hRR _ _ H' s' m (I3.ZWV (ch:=fp) I'.os I'.base I'.hok I'.bare fun b hb=>⟨(f3 b hb).2.2.2.1,(f3 b hb).2.1,(f3 b hb).2.2.2.2.1,(f3 b hb).2.2.2.2.2⟩) (I3.ZW9 (Nat.le_refl _) I'.free) hn q
 exact codeAny_compStart_list loop (T.self X.A 0 _ _ _ st4 loop)
theorem ZHx {σ:St} {H:Hp}{s:Shared}(S:ZAr X.N X.env.scope scope x ZCl js) (I:Inv X pins σ H s):closureFor scope X.env=pure (ZBR X.env.cells scope.names):=ZLC fun y hy hk=>by
 obtain ⟨c,e⟩:=I.ok.has y.1 (.inl (S.all y hy hk))
 rw [e];rfl
theorem ZU5 {wi:TI}(hc:X.calm=true) (S:ZAr X.N X.env.scope scope x ZCl js) (hi:PI X (.Name x px) iter wi)
  (hifs:∀ fp C s H,ZUE (ZBj X (ZCl++[x]) scope (ZBR X.env.cells scope.names) C s H fp) ifs tt) (helt:∀ fp C s H,PE (ZBj X (ZCl++[x]) scope (ZBR X.env.cells scope.names) C s H fp) elt te)
  (hs:∀ v,foldedSetIterable iter X.env v=pure v:=by intro _;rfl):PE X (.ListComp elt [⟨.Name x px,iter,ifs,0⟩] scope pos) (ZN4 wi js tt te):=by
 intro pins s σ H Q I h
 rw [eval_ListComp]
 refine wpAny_comprehension_free (use:=none) rfl hs (ZHx S I) S.kind S.loc (thn (hi pins s σ H _ I h) fun v s1 h1=>thn h1 fun itv s2 h2=>?_)
 obtain ⟨it,fp,tn,J,H2,e,I2,T,st2,f2,hW⟩:=h2
 subst e
 refine ZJN (RR:=fun acc C=>compPost (model X.prog X.w) X.A X.xe none (EP X pins σ Q) acc C) hc S (hifs fp) (helt fp) T I2 st2 f2 Q hW fun acc C H' s' m I' fC hn q=>⟨m,hn,fun h' hsb=>?_⟩
 exact ⟨.ref acc,H',I'.turned (t':=s'.toks) (fun b o hb e=>(hsb.2 b hb).trans e) fC.1 fC.2.1 fC.2.2.2.1 fC.2.2.2.2.1 fC.2.2.2.2.2,rfl,q⟩
theorem ZSm {wi:TI}{i:Nat}{y:Str}{py spos:Pos}(hN:X.N.Nodup) (hi':X.N[i]?=some y) (hy:Loc X.env.scope y) (hc:X.calm=true) (S:ZAr X.N X.env.scope scope x ZCl js) (hi:PI X (.Name x px) iter wi)
  (hifs:∀ fp C s H,ZUE (ZBj X (ZCl++[x]) scope (ZBR X.env.cells scope.names) C s H fp) ifs tt) (helt:∀ fp C s H,PE (ZBj X (ZCl++[x]) scope (ZBR X.env.cells scope.names) C s H fp) elt te)
  (hsw:swapsWith (.ListComp elt [⟨.Name x px,iter,ifs,0⟩] scope pos) (some (.Name y py)) spos.line X.env=pure true:=by rfl)
  (hf:X.fn y=true∨X.env.scope.names.lookup y=some .local:=by first | exact .inl rfl | exact .inr rfl | assumption)
  (hs:∀ v,foldedSetIterable iter X.env v=pure v:=by intro _;rfl):PS X (.Assign [.Name y py] (.ListComp elt [⟨.Name x px,iter,ifs,0⟩] scope pos) spos) (ZPW (ZN4 wi js tt te) (ZHU i)):=by
 intro pins s σ H D I h
 rw [exec_Assign_Name_used _ _ _ _ hsw]
 refine wpAny_bind (wpAny_standAt (wpAny_bind ?_))
 show wpAny _ X.A (do let _ <- comprehension (.ListComp elt [⟨.Name x px,iter,ifs,0⟩] scope pos) scope X.env _ (newList []) false (eval iter X.env) (some (assign (.Name y py) X.env))) _ _ s
 refine wpAny_bind (wpAny_mono (wpAny_comprehension_free (use:=some (assign (.Name y py) X.env)) (Q:=fun _ s'=>SP X pins D .next s') rfl hs (ZHx S I) S.kind S.loc
  (thn (hi pins s σ H _ I h) fun v s1 h1=>thn h1 fun itv s2 h2=>?_)) (fun _ s' hq=>wpAny_pure (wpAny_pure hq)) fun _ _ e=>e)
 obtain ⟨it,fp,tn,J,H2,e,I2,T,st2,f2,hW⟩:=h2
 subst e
 refine ZJN (RR:=fun acc C=>compPost (model X.prog X.w) X.A X.xe (some (assign (.Name y py) X.env)) (fun _ s'=>SP X pins D .next s') acc C) hc S (hifs fp) (helt fp) T I2 st2 f2 _ hW fun acc C H' s' m I' fC hn q=>?_
 show wpAny _ X.A (assign (.Name y py) X.env (.ref acc)) _ _ s'
 refine wpAny_assign_Name (ZLb (v:=.ref acc) I' hN hi' hy rfl (fun s'' I'' ⟨a,hsa,ha⟩=>?_) hf)
 have hne:C≠a:=by
  rcases ha with z | z
  ·rw [z];exact fC.2.1
  ·exact (fC.2.2.2.2.1 y a z).symm
 refine ⟨m,hn.sameBut hsa hne,fun h' hsb=>?_⟩
 exact ⟨_,H',I''.turned (t':=s''.toks) (fun b o hb e=>(hsb.2 b hb).trans e) fC.1 fC.2.1 fC.2.2.2.1 fC.2.2.2.2.1 fC.2.2.2.2.2,q⟩
end
end L2
namespace L2
def SqB (K:PySem.W.Frag) (tp:Bool) (H:Hp) (a:Addr) (xs:List V):Prop:=match tp with
 | false=>SqL K H a xs
 | true=>SqT K H a xs
theorem SqB.or {K:PySem.W.Frag}{tp:Bool}{H:Hp}{a:Addr}{xs:List V}(h:SqB K tp H a xs):SqL K H a xs∨SqT K H a xs:=by
 cases tp
 ·exact .inl h
 ·exact .inr h
def Its (K:PySem.W.Frag) (tp:Bool) (a:Addr) (xs:List V):It:=
 ⟨fun i H=>SqB K tp H a xs/\i < xs.length,fun i H x H'=>H'=H/\xs[i]?=some x,fun i H=>SqB K tp H a xs/\xs.length<=i⟩
section
variable {X:Cx}{tg:Expr}
theorem ZRy {P:Program}{w:World}{K:PySem.W.Frag}(a it:Addr) (xs:List V):Turn P w K tg (Its K false a xs) [it] it (fun i h=>h.IsListIter it a i) where
 mem:=by simp
 obj:=(ZEg (P:=P) (w:=w) (K:=K) (tg:=tg) a it).obj
 keep:=(ZEg (P:=P) (w:=w) (K:=K) (tg:=tg) a it).keep
 item:=by
  intro X hP hw hK hc i pins s σ H E I hf st hg
  obtain ⟨hq,hi⟩:=hg
  refine thn ((ZEg (P:=P) (w:=w) (K:=K) (tg:=tg) a it).item X hP hw hK hc i pins s σ H E I hf st ⟨xs,xs[i],hq,by simp [hi]⟩) fun r s1 ⟨u,e,h⟩=>⟨u,e,thn h fun _ s2 ⟨x,H',I',rx,y,st',f'⟩=>⟨x,H',I',rx,⟨y.1,y.2 xs hq⟩,st',f'⟩⟩
 done:=by
  intro X hP hw hK hc i pins s σ H E I hf st hg
  exact (ZEg (P:=P) (w:=w) (K:=K) (tg:=tg) a it).done X hP hw hK hc i pins s σ H E I hf st ⟨xs,hg.1,hg.2⟩
 self:=(ZEg (P:=P) (w:=w) (K:=K) (tg:=tg) a it).self
theorem ZRS {P:Program}{w:World}{K:PySem.W.Frag}(a it:Addr) (xs:List V):Turn P w K tg (Its K true a xs) [it] it (fun i h=>h.IsTupleIter it a i) where
 mem:=by simp
 obj:=(ZDv (P:=P) (w:=w) (K:=K) (tg:=tg) a it).obj
 keep:=(ZDv (P:=P) (w:=w) (K:=K) (tg:=tg) a it).keep
 item:=by
  intro X hP hw hK hc i pins s σ H E I hf st hg
  obtain ⟨hq,hi⟩:=hg
  refine thn ((ZDv (P:=P) (w:=w) (K:=K) (tg:=tg) a it).item X hP hw hK hc i pins s σ H E I hf st ⟨xs,xs[i],hq,by simp [hi]⟩) fun r s1 ⟨u,e,h⟩=>⟨u,e,thn h fun _ s2 ⟨x,H',I',rx,y,st',f'⟩=>⟨x,H',I',rx,⟨y.1,y.2 xs hq⟩,st',f'⟩⟩
 done:=by
  intro X hP hw hK hc i pins s σ H E I hf st hg
  exact (ZDv (P:=P) (w:=w) (K:=K) (tg:=tg) a it).done X hP hw hK hc i pins s σ H E I hf st ⟨xs,hg.1,hg.2⟩
 self:=(ZDv (P:=P) (w:=w) (K:=K) (tg:=tg) a it).self
def iSq (K:PySem.W.Frag) (tl:TE):TI:=fun σ H R=>tl σ H fun x H1=>∃ tp a xs,x=.ref a/\SqB K tp H1 a xs/\R (Its K tp a xs) H1
theorem ZWL {l:Expr}{tl:TE}(hl:PE X l tl):PI X tg l (iSq X.K tl):=by
 intro pins s σ H R I h
 refine thn (hl pins s σ H _ I h) fun v s1 ⟨x,H1,I1,r1,q1⟩=>?_
 obtain ⟨tp,a,xs,e,hq,q⟩:=q1
 subst e
 cases r1
 have fin:∀ b∈[s1.heap.objs.size],ZNR X pins H1 b:=fun b hb=>by
  have e:b=s1.heap.objs.size:=by simpa using hb
  subst e
  exact I1.ZW9 (Nat.le_refl _) (I1.hok.fresh (Nat.le_refl _))
 cases tp with
 | false=>
  obtain ⟨its,rv,p,hz⟩:=I1.list hq
  refine wpAny_pyIter_list p.isList ?_
  exact ⟨s1.heap.objs.size,[s1.heap.objs.size],_,_,H1,rfl,I1.kept (t':=s1.toks) fun b o e=>Heap.get?_push_of_some _ e,ZRy a _ xs,⟨_,Heap.get?_push_size _ rfl,rfl,rfl⟩,fin,q⟩
 | true=>
  obtain ⟨its,rv,p,hz⟩:=I1.tuple hq
  refine wpAny_pyIter_tuple (show s1.heap.IsTuple a its.toArray from p) ?_
  exact ⟨s1.heap.objs.size,[s1.heap.objs.size],_,_,H1,rfl,I1.kept (t':=s1.toks) fun b o e=>Heap.get?_push_of_some _ e,ZRS a _ xs,⟨_,Heap.get?_push_size _ rfl,rfl,rfl⟩,fin,q⟩
def Itc (z:Str):It:=⟨fun i _=>i < z.cps.size,fun i H x H'=>H'=H/\∃ c,z.cps[i]?=some c/\x=.str ⟨#[c]⟩,fun i _=>i=z.cps.size⟩
theorem ZNt {P:Program}{w:World}{K:PySem.W.Frag}{it:Addr}{z:Str}{t:Tok}{ty:String}
  (hn:["enumerate", "zip", "dict_itemiterator", "dict_reverseitemiterator", "odict_iterator", "itertools.zip_longest", "itertools.pairwise"].contains ty=false)
  (W:∀ A:Around,A.handled=none->Walks P w A it [it] [it] z.cps.size (SignAt z) (fun i h=>h.IsStrIter it ty z t i))
  (self:∀ (A:Around) (i:Nat) (s:Shared) (Q:Value->Shared->Prop) (E:Value->Shared->Prop),s.heap.IsStrIter it ty z t i->Q (.ref it) s->wpAny (model P w) A (pyIter (.ref it)) Q E s) :
  Turn P w K tg (Itc z) [it] it (fun i h=>h.IsStrIter it ty z t i) where
 mem:=by simp
 obj:=fun i h st b hb=>by
  have e:b=it:=by simpa using hb
  subst e
  obtain ⟨o,e,c,d⟩:=st
  exact ⟨o,e,fun v z=>by rw [d] at z;cases z⟩
 keep:=fun i h h' st k=>let ⟨o,e,r⟩:=st;⟨o,k it (by simp) o e,r⟩
 item:=by
  intro X hP hw hK hc i pins s σ H E I hf st hg
  subst hP hw hK
  obtain ⟨f0,f1,f2,f3,f4,f5⟩:=hf it (by simp)
  refine (W X.A (I.ok.hd hc)).item i s _ _ hg st fun v h' tk ⟨c,u,hcc,hv⟩ st' kp=>?_
  subst hv
  have I1:Inv X pins σ H { s with heap:=h',toks:=tk }:=I.turned (t':=tk) (fun b o hb e=>kp b o (by simpa using hb) e) f0 f1 f3 f4 f5
  obtain ⟨o,e,cl,d⟩:=id st'
  exact ⟨_,rfl,ZS8 (s:={ s with heap:=h',toks:=tk }) e cl d hn ⟨.str ⟨#[c]⟩,H,I1,⟨u,rfl⟩,⟨rfl,c,hcc,rfl⟩,st',fun b hb=>(hf b hb).1⟩⟩
 done:=by
  intro X hP hw hK hc i pins s σ H E I hf st hg
  subst hP hw hK
  obtain ⟨f0,f1,f2,f3,f4,f5⟩:=hf it (by simp)
  have hg':i=z.cps.size:=hg
  subst hg'
  exact (W X.A (I.ok.hd hc)).done s _ _ st fun h' tk kp=>⟨rfl,I.turned (t':=tk) (fun b o hb e=>kp b o (by simpa using hb) e) f0 f1 f3 f4 f5⟩
 self:=self
def ZXQ (tl:TE):TI:=fun σ H R=>tl σ H fun x H1=>∃ z,x=.str z/\R (Itc z) H1
theorem ZUr {l:Expr}{tl:TE}(hl:PE X l tl):PI X tg l (ZXQ tl):=by
 intro pins s σ H R I h
 refine thn (hl pins s σ H _ I h) fun v s1 ⟨x,H1,I1,r1,q1⟩=>?_
 obtain ⟨z,e,q⟩:=q1
 subst e
 obtain ⟨t,rfl⟩:=r1
 have fin:∀ b∈[s1.heap.objs.size],ZNR X pins H1 b:=fun b hb=>by
  have e:b=s1.heap.objs.size:=by simpa using hb
  subst e
  exact I1.ZW9 (Nat.le_refl _) (I1.hok.fresh (Nat.le_refl _))
 have kp:∀ (ob:Obj),Inv X pins σ H1 { s1 with heap:=s1.heap.push ob }:=fun ob=>I1.kept (t':=s1.toks) fun b o e=>Heap.get?_push_of_some _ e
 cases ha:z.cps.all (· < 128)
 ·refine wpAny_pyIter_wide ha ?_
  exact ⟨s1.heap.objs.size,[s1.heap.objs.size],_,_,H1,rfl,kp _,ZNt (t:=t) (by decide) (fun A' hA=>Walks.strWide hA _ z t) (fun _ _ _ _ _ st h=>wpAny_pyIter_striter_wide st h),⟨_,Heap.get?_push_size _ rfl,rfl,rfl⟩,fin,q⟩
 ·refine wpAny_pyIter_ascii ha ?_
  exact ⟨s1.heap.objs.size,[s1.heap.objs.size],_,_,H1,rfl,kp _,ZNt (t:=t) (by decide) (fun A' hA=>Walks.strAscii hA _ z t) (fun _ _ _ _ _ st h=>wpAny_pyIter_striter_ascii st h),⟨_,Heap.get?_push_size _ rfl,rfl,rfl⟩,fin,q⟩
end
theorem ZAD {H:Hp}{p:Addr}(h:H p=none) (o:HO):ZAk H (upd H p o):=fun b u q=>by rw [ZAT (ZAg q h)];exact q
theorem ZAk.sqT {K:PySem.W.Frag}{H H':Hp}{a:Addr}{xs:List V}(e:ZAk H H') (h:SqT K H a xs):SqT K H' a xs:=by
 rcases h with (h | ⟨o,h⟩) | h
 ·exact .inl (.inl (e _ _ h))
 ·exact .inl (.inr ⟨o,e _ _ h⟩)
 ·exact .inr h
theorem ZAk.sq {K:PySem.W.Frag}{tp:Bool}{H H':Hp}{a:Addr}{xs:List V}(e:ZAk H H') (h:SqB K tp H a xs):SqB K tp H' a xs:=by
 cases tp
 ·exact ZAk.seq e h
 ·exact ZAk.sqT e h
theorem ZNm {J:It}{js:List Nat}{tt:TT}{te:TE}{σ:St} {H1:Hp}{acc:Addr}{Q:VK}(xs:List V) (f:V->Bool) (g:V->V) (hacc:H1 acc=none) (hz:xs.length<=sizeLine)
  (hgo:∀ i H,ZAk H1 H->i < xs.length->J.go i H) (hst:∀ H,ZAk H1 H->J.stop xs.length H) (hy:∀ i H x H',J.yld i H x H'->H'=H/\xs[i]?=some x)
  (ht:∀ (i:Nat) (x:V) (H':Hp) (Q':Bool->Hp->Prop),xs[i]?=some x->ZAk H1 H'->(∀ H'',ZAk H' H''->Q' (f x) H'')->tt (ZBw js σ++[some x]) H' Q')
  (he:∀ (i:Nat) (x:V) (H':Hp) (Q':VK),xs[i]?=some x->f x=true->ZAk H1 H'->(∀ H'',ZAk H' H''->Q' (g x) H'')->te (ZBw js σ++[some x]) H' Q')
  (hd:∀ H',ZAk H1 H'->H' acc=some (.lst ((xs.filter f).map g))->Q (.ref acc) H'):ZPb J js tt te σ H1 acc Q:=by
 refine ⟨fun i m H=>m=xs.length - i/\i<=xs.length/\ZAk H1 H/\H acc=some (.lst (((xs.take i).filter f).map g)),⟨xs.length,by simp,Nat.zero_le _,ZAD hacc _,ZA6⟩,?_⟩
 rintro i m H2 ⟨rfl,hi,sm,ha⟩
 by_cases hlt:i < xs.length
 ·refine .inr ⟨hgo i H2 sm hlt,fun x H3 y=>?_⟩
  obtain ⟨e,hx⟩:=hy i H2 x H3 y
  subst e
  have htk:(xs.take (i+1))=xs.take i++[x]:=by
   have e2:xs[i]=x:=by
    rw [List.getElem?_eq_getElem hlt] at hx;exact Option.some.inj hx
   rw [List.take_succ_eq_append_getElem hlt,e2]
  have e1:List.filter f (xs.take (i+1))=(xs.take i).filter f++(if f x=true then [x] else []):=by
   rw [htk,List.filter_append];congr 1
   by_cases hf:f x=true <;> simp [hf]
  refine ht i x _ _ hx sm fun H4 s4=>?_
  by_cases hf:f x=true
  ·rw [if_pos hf]
   refine he i x H4 _ hx hf (sm.trans s4) fun H5 s5=>?_
   have hlen:(((xs.take i).filter f).map g).length < sizeLine:=by
    rw [List.length_map]
    have:=List.length_filter_le f (xs.take i)
    rw [List.length_take] at this
    omega
   refine ⟨_,s5 _ _ (s4 _ _ ha),hlen,xs.length - (i+1),by omega,rfl,hlt,fun b o q=>?_,?_⟩
   ·have hb:b≠acc:=by rintro rfl;rw [hacc] at q;cases q
    rw [ZAT hb];exact s5 _ _ (s4 _ _ (sm b o q))
   ·rw [ZA6,e1,if_pos hf,List.map_append];rfl
  ·have hf':f x=false:=by simpa using hf
   rw [hf']
   rw [if_neg (by decide)]
   refine ⟨xs.length - (i+1),by omega,rfl,hlt,sm.trans s4,?_⟩
   rw [e1,if_neg hf,List.append_nil]
   exact s4 _ _ ha
 ·have e:i=xs.length:=by omega
  subst e
  refine .inl ⟨hst H2 sm,hd H2 sm ?_⟩
  rw [List.take_length] at ha
  exact ha
theorem ZFV {K:PySem.W.Frag}{tp:Bool}{a:Addr}{xs:List V}{js:List Nat}{tt:TT}{te:TE}{σ:St} {H1:Hp}{acc:Addr}{Q:VK}(f:V->Bool) (g:V->V) (hq:SqB K tp H1 a xs) (hacc:H1 acc=none) (hz:xs.length<=sizeLine)
  (ht:∀ (i:Nat) (x:V) (H':Hp) (Q':Bool->Hp->Prop),xs[i]?=some x->ZAk H1 H'->(∀ H'',ZAk H' H''->Q' (f x) H'')->tt (ZBw js σ++[some x]) H' Q')
  (he:∀ (i:Nat) (x:V) (H':Hp) (Q':VK),xs[i]?=some x->f x=true->ZAk H1 H'->(∀ H'',ZAk H' H''->Q' (g x) H'')->te (ZBw js σ++[some x]) H' Q')
  (hd:∀ H',ZAk H1 H'->H' acc=some (.lst ((xs.filter f).map g))->Q (.ref acc) H'):ZPb (Its K tp a xs) js tt te σ H1 acc Q:=
 ZNm xs f g hacc hz (fun i H s hi=>⟨s.sq hq,hi⟩) (fun H s=>⟨s.sq hq,Nat.le_refl _⟩) (fun i H x H' y=>y) ht he hd
def ZEO (z:Str):List V:=z.cps.toList.map fun c=>.str ⟨#[c]⟩
theorem ZE9 (z:Str):(ZEO z).length=z.cps.size:=by unfold ZEO;simp
theorem ZNX {z:Str}{js:List Nat}{tt:TT}{te:TE}{σ:St} {H1:Hp}{acc:Addr}{Q:VK}(f:V->Bool) (g:V->V) (hacc:H1 acc=none) (hz:z.cps.size<=sizeLine)
  (ht:∀ (i:Nat) (x:V) (H':Hp) (Q':Bool->Hp->Prop),(ZEO z)[i]?=some x->ZAk H1 H'->(∀ H'',ZAk H' H''->Q' (f x) H'')->tt (ZBw js σ++[some x]) H' Q')
  (he:∀ (i:Nat) (x:V) (H':Hp) (Q':VK),(ZEO z)[i]?=some x->f x=true->ZAk H1 H'->(∀ H'',ZAk H' H''->Q' (g x) H'')->te (ZBw js σ++[some x]) H' Q')
  (hd:∀ H',ZAk H1 H'->H' acc=some (.lst (((ZEO z).filter f).map g))->Q (.ref acc) H'):ZPb (Itc z) js tt te σ H1 acc Q:=by
 refine ZNm (ZEO z) f g hacc (by rw [ZE9];exact hz) (fun i H s hi=>?_) (fun H s=>?_) (fun i H x H' y=>?_) ht he hd
 ·rw [ZE9] at hi;exact hi
 ·show (ZEO z).length=z.cps.size
  exact ZE9 z
 ·obtain ⟨e,c,hc,hx⟩:=y
  refine ⟨e,?_⟩
  subst hx
  unfold ZEO
  rw [List.getElem?_map,Array.getElem?_toList,hc]
  rfl
end L2
namespace L2
def ZNk (xs ys:List V):Bool:=xs.length == ys.length && (List.range xs.length).all fun j=>eqV (xs.getD j .non) (ys.getD j .non)
theorem ZIo {xs:List V}{j:Nat}{x:V}(h:xs[j]?=some x):xs.getD j .non=x:=by rw [List.getD_eq_getElem?_getD,h];rfl
section
variable {X:Cx}{pins:List (Addr×Obj)}{σ:St} {H:Hp}{s:Shared}
theorem ZQc {xs:List V}{j:Nat}{x:V}(h:xs.all ZEA=true) (e:xs[j]?=some x):ZEA x=true:=List.all_eq_true.mp h x (List.mem_of_getElem? e)
theorem ZHc {A:Around}{xs ys:List V}{its its2:List Value}(r1:Vals xs its) (r2:Vals ys its2) (fx:xs.all ZEA=true) (fy:ys.all ZEA=true) :
  ∀ j (h1:j < its.toArray.size) (h2:j < its2.toArray.size),SeqAt.EqAt A s its.toArray[j] its2.toArray[j] (eqV (xs.getD j .non) (ys.getD j .non)):=fun j h1 h2=>by
 have l1:=r1.length
 have l2:=r2.length
 have h1':j < its.length:=by simpa using h1
 have h2':j < its2.length:=by simpa using h2
 have e1:xs[j]?=some (xs[j]'(by omega)):=List.getElem?_eq_getElem _
 have e2:ys[j]?=some (ys[j]'(by omega)):=List.getElem?_eq_getElem _
 obtain ⟨u,hu,ru⟩:=r1.get e1
 obtain ⟨v,hv,rv⟩:=r2.get e2
 rw [List.getElem?_eq_getElem h1'] at hu
 rw [List.getElem?_eq_getElem h2'] at hv
 have hu':its[j]=u:=Option.some.inj hu
 have hv':its2[j]=v:=Option.some.inj hv
 rw [ZIo e1,ZIo e2]
 have q:=ZNT (A:=A) (s:=s) ru rv (ZQc fx e1) (ZQc fy e2)
 rw [<- hu',<- hv'] at q
 simpa using q
def ZUw (K:PySem.W.Frag) (neg:Bool):R2:=fun x y H Q=>∃ p q xs ys,x=.ref p/\y=.ref q/\((SqL K H p xs/\SqL K H q ys)∨(SqT K H p xs/\SqT K H q ys))/\xs.all ZEA=true/\ys.all ZEA=true/\
 Q (.bl (if neg then !ZNk xs ys else ZNk xs ys)) H
theorem ZGq {xs ys:List V}(h:xs.length≠ys.length):ZNk xs ys=false:=by
 unfold ZNk
 have:(xs.length == ys.length)=false:=by simpa using h
 rw [this,Bool.false_and]
theorem ZDx {xs ys:List V}(h:xs.length=ys.length):ZNk xs ys=(List.range xs.length).all fun j=>eqV (xs.getD j .non) (ys.getD j .non):=by
 unfold ZNk
 have:(xs.length == ys.length)=true:=by simpa using h
 rw [this,Bool.true_and]
theorem ZNp (hu:X.A.units < cLine):OpR X (compareOp .Eq) (ZUw X.K false):=by
 intro pins s σ H x y v u Q I rx ry h
 obtain ⟨p,q,xs,ys,rfl,rfl,hq,fx,fy,hQ⟩:=h
 cases rx;cases ry
 have hQ':Q (.bl (ZNk xs ys)) H:=hQ
 rcases hq with ⟨ha,hb⟩ | ⟨ha,hb⟩
 ·obtain ⟨its,r1,p1,z1⟩:=I.list ha
  obtain ⟨its2,r2,p2,z2⟩:=I.list hb
  have l1:=r1.length;have l2:=r2.length
  by_cases hl:xs.length=ys.length
  ·refine SeqAt.eq_listAt (e:=fun j=>eqV (xs.getD j .non) (ys.getD j .non)) p1.isList p2.isList (by simp;omega) hu (ZHc r1 r2 fx fy) ⟨.bl _,H,I,rfl,?_⟩
   rw [ZDx hl] at hQ'
   simp only [List.size_toArray,<- l1]
   exact hQ'
  ·rw [ZGq hl] at hQ'
   exact SeqAt.eq_list_lengthsAt p1.isList p2.isList (by simp;omega) hu ⟨.bl false,H,I,rfl,hQ'⟩
 ·obtain ⟨its,r1,p1,z1⟩:=I.tuple ha
  obtain ⟨its2,r2,p2,z2⟩:=I.tuple hb
  have l1:=r1.length;have l2:=r2.length
  refine SeqAt.eq_tupleAt (e:=fun j=>eqV (xs.getD j .non) (ys.getD j .non)) p1 p2 hu (ZHc r1 r2 fx fy) ⟨.bl _,H,I,rfl,?_⟩
  simp only [List.size_toArray,<- l1,<- l2]
  by_cases hl:xs.length=ys.length
  ·rw [ZDx hl] at hQ'
   have:(xs.length == ys.length)=true:=by simpa using hl
   rw [this,Bool.and_true,<- hl,Nat.min_self]
   exact hQ'
  ·rw [ZGq hl] at hQ'
   have:(xs.length == ys.length)=false:=by simpa using hl
   rw [this,Bool.and_false]
   exact hQ'
theorem ZNr (hu:X.A.units < cLine):OpR X (compareOp .NotEq) (ZUw X.K true):=by
 intro pins s σ H x y v u Q I rx ry h
 obtain ⟨p,q,xs,ys,rfl,rfl,hq,fx,fy,hQ⟩:=h
 cases rx;cases ry
 have hQ':Q (.bl (!ZNk xs ys)) H:=hQ
 rcases hq with ⟨ha,hb⟩ | ⟨ha,hb⟩
 ·obtain ⟨its,r1,p1,z1⟩:=I.list ha
  obtain ⟨its2,r2,p2,z2⟩:=I.list hb
  have l1:=r1.length;have l2:=r2.length
  by_cases hl:xs.length=ys.length
  ·refine SeqAt.RcNeAt.lists (e:=fun j=>eqV (xs.getD j .non) (ys.getD j .non)) p1.isList p2.isList (by simp;omega) hu (ZHc r1 r2 fx fy) _ _ _ _ ⟨.bl _,H,I,rfl,?_⟩
   rw [ZDx hl] at hQ'
   simp only [List.size_toArray,<- l1]
   exact hQ'
  ·rw [ZGq hl] at hQ'
   exact SeqAt.RcNeAt.lists_lengths p1.isList p2.isList (by simp;omega) hu _ _ _ _ ⟨.bl true,H,I,rfl,hQ'⟩
 ·obtain ⟨its,r1,p1,z1⟩:=I.tuple ha
  obtain ⟨its2,r2,p2,z2⟩:=I.tuple hb
  have l1:=r1.length;have l2:=r2.length
  refine SeqAt.RcNeAt.tuples (e:=fun j=>eqV (xs.getD j .non) (ys.getD j .non)) p1 p2 hu (ZHc r1 r2 fx fy) _ _ _ _ ⟨.bl _,H,I,rfl,?_⟩
  simp only [List.size_toArray,<- l1,<- l2]
  by_cases hl:xs.length=ys.length
  ·rw [ZDx hl] at hQ'
   have:(xs.length == ys.length)=true:=by simpa using hl
   rw [this,Bool.and_true,<- hl,Nat.min_self]
   exact hQ'
  ·rw [ZGq hl] at hQ'
   have:(xs.length == ys.length)=false:=by simpa using hl
   rw [this,Bool.and_false]
   exact hQ'
theorem ZN1:ZFH X (.builtin "isinstance") (fun xs H Q=>∃ x n t b,xs=[x,.ty n]/\ZMX X.K H x t/\PySem.W.kitOne X.K t (.type n)=some b/\Q (.bl b) H):=by
 intro pins s σ H xs us Q I r h
 obtain ⟨x,n,t,b,rfl,ty,e,q⟩:=h
 obtain ⟨u,w',rfl,rx,rt⟩:=vals2 r
 cases rt
 exact ZPf I rx ty e fun tk=>⟨.bl b,H,I.tok tk,rfl,q⟩
theorem ZRz {bs:List Bool}{its:List Value}(r:Vals (bs.map V.bl) its){i:Nat}{v:Value}(e:its[i]?=some v):v=.bool (bs.getD i false):=by
 have hl:=r.length
 rw [List.length_map] at hl
 have hi:i < its.length:=(List.getElem?_eq_some_iff.mp e).1
 have e1:(bs.map V.bl)[i]?=some (.bl (bs[i]'(by omega))):=by rw [List.getElem?_map,List.getElem?_eq_getElem (by omega)];rfl
 obtain ⟨u,hu,ru⟩:=r.get e1
 rw [e] at hu;cases hu
 cases ru
 rw [List.getD_eq_getElem?_getD,List.getElem?_eq_getElem (by omega)];rfl
theorem range_all (bs:List Bool):(List.range bs.length).all (fun i=>bs.getD i false)=bs.all id:=by
 rw [Bool.eq_iff_iff,List.all_eq_true,List.all_eq_true]
 constructor
 ·intro h x hx
  obtain ⟨i,hi,rfl⟩:=List.mem_iff_getElem.mp hx
  have:=h i (List.mem_range.mpr hi)
  rw [List.getD_eq_getElem?_getD,List.getElem?_eq_getElem hi] at this
  exact this
 ·intro h i hi
  rw [List.getD_eq_getElem?_getD,List.getElem?_eq_getElem (List.mem_range.mp hi)]
  exact h _ (List.getElem_mem _)
theorem ZJr (hc:X.calm=true):ZFH X (.builtin "all") (fun xs H Q=>∃ (p:Addr) (bs:List Bool),xs=[.ref p]/\SqL X.K H p (bs.map V.bl)/\Q (.bl (bs.all id)) H):=by
 intro pins s σ H xs us Q I r h
 obtain ⟨p,bs,rfl,hq,q⟩:=h
 obtain ⟨u,rfl,rx⟩:=vals1 r
 cases rx
 obtain ⟨its,rv,pl,hz⟩:=I.list hq
 have hl:=rv.length
 rw [List.length_map] at hl
 refine call_all_walk (wpAny_pyIter_list pl.isList ?_)
 obtain ⟨o,n,ho,_⟩:=id pl
 have hne:p≠s.heap.objs.size:=Nat.ne_of_lt (Heap.lt_size ho)
 refine ⟨s.heap.objs.size,_,_,_,_,_,fun i=>bs.getD i false,rfl,Walks.list (by rw [Around.in1_handled];exact I.ok.hd hc) _ p hne its.toArray,⟨⟨_,Heap.get?_push_size _ rfl,rfl,rfl⟩,pl.isList.push _⟩,fun i v s' Q' E' hv hQ'=>?_,fun h' tk kp=>?_⟩
 ·have ev:v=.bool (bs.getD i false):=ZRz rv (by simpa using hv)
  rw [ev]
  exact wpAny_truthy_bool hQ'
 ·refine ⟨.bl _,H,I.kept (t':=tk) fun b ob e=>kp b ob (by simpa using Nat.ne_of_lt (Heap.lt_size e)) (Heap.get?_push_of_some _ e),rfl,?_⟩
  rw [List.size_toArray,<- hl,range_all]
  exact q
def ZMC:V->List V->Hp->VK->Prop:=fun x vs H Q=>∃ (l:Addr) (xs:List V) (j:Int) (y:V),x=.ref l/\vs=[.int j,y]/\H l=some (.lst xs)/\0<=j/\j<=xs.length/\xs.length < sizeLine/\Q .non (upd H l (.lst (xs.take j.toNat++y :: xs.drop j.toNat)))
theorem ZOs:MtM X "list.insert" ZMC:=by
 intro pins s σ H x vs v us Q I rx rv h
 obtain ⟨l,xs,j,y,rfl,rfl,hH,hj0,hj1,hz,q⟩:=h
 cases rx
 obtain ⟨ui,uy,rfl,ri,ry⟩:=rv.two
 obtain ⟨t,rfl⟩:=ri
 obtain ⟨z,its,n,r,hl,e⟩:=I.ZSZ hH
 have h2:j < 2 ^ 63:=by
  have h4:(xs.length:Int)<=(sizeLine:Int):=Int.ofNat_le.mpr z
  have h3:((sizeLine:Nat):Int) < 2 ^ 63:=by exact_mod_cast ZFN
  omega
 have hfit:(!Builtin.List.listFitsIndex j)=true->False:=by
  have h1:Builtin.List.listFitsIndex j=true:=by
   unfold Builtin.List.listFitsIndex
   rw [Bool.and_eq_true]
   exact ⟨decide_eq_true (by omega),decide_eq_true h2⟩
  rw [h1];exact fun h=>nomatch h
 have hz2:its.toArray.size<=sizeLine:=Nat.le_trans (Nat.le_of_eq (List.size_toArray.trans hl.symm)) z
 refine call_meets PySem.F.slot_list_insert ⟨_,e,rfl⟩ PySem.F.entry_list_insert (PySem.F.args_list_insert_3 _ _ _) (PySem.AutoSeq1.list_insert_list_int_val_1 l its.toArray n j t uy hfit hz2) ⟨e,?_⟩
 refine ⟨.non,_,I.ZWC (its':=its.take j.toNat++uy :: its.drop j.toNat) hH e ?_ ((r.take _).append (.cons ry (r.drop _))) ?_,rfl,q⟩
 ·have h0:¬ (j < 0):=by omega
  have hm:min j.toNat its.toArray.size=j.toNat:=by simp;omega
  simp only [h0,if_false,hm]
  apply Array.toList_inj.mp
  simp
  exact List.take_of_length_le (by simp)
 ·rw [List.length_append,List.length_cons,List.length_take,List.length_drop]
  omega
def ZXI:V->Option Int->Option Int->Hp->VK->Prop:=fun x lo hi H Q=>∃ z,x=.str z/\z.length<=sizeLine/\Q (.str (Txt.slice z lo hi)) H
theorem part_of {v:Value}{o:Option Int}(p:IsPart v o):∃ l:Option (Int×Tok),v=partValue l/\l.map (·.1)=o:=by
 cases p with
 | none=>exact ⟨none,rfl,rfl⟩
 | int i t=>exact ⟨some (i,t),rfl,rfl⟩
theorem ZOn:SlR X ZXI:=by
 intro pins s σ H x v vl vu lo hi sl Q I rx hs pl pu h
 obtain ⟨z,rfl,hz,q⟩:=h
 obtain ⟨t,rfl⟩:=rx
 obtain ⟨l,rfl,hl⟩:=part_of pl
 obtain ⟨u,rfl,hu⟩:=part_of pu
 subst hl;subst hu
 refine ⟨"str", _,F.slot_str_getitem.lookup,typeIs_str _ _ _,wpAny_getItem_str_slice (l:=l) (u:=u) (st:=none) hs rfl (post_val_or_str ⟨Nat.le_trans (Txt.slice_le z _ _) hz,fun t' k=>?_⟩)⟩
 exact ⟨.str _,H,I.tok k,⟨t',rfl⟩,q⟩
end
end L2
set_option exponentiation.threshold 5000
namespace L2
def Has (P:Program) (w:World) (K:PySem.W.Frag) (mg:Str->Option Value) (base:Heap) (x:Str) (k:Nat) (ps:List Str) (sp:Sp):Prop:=
 ∃ f fd,ZJ2 P w K mg base CX0 k f fd ps sp/\Binds K fd ps []/\PySem.W.keepIn K (.ref f)=true/\mg x=some (.ref f)
section
variable {P:Program}{w:World}{K:PySem.W.Frag}{mg:Str->Option Value}{base:Heap}{x qual:Str}{k:Nat}{ps:List Str}{sp:Sp}{st:Stmt}{f:Addr}{fd:FuncData}
theorem Has.mk (F:Fun K x qual st f fd) (b:Binds K fd ps []) (m:mg x=some (.ref f)) (h:ZJ2 P w K mg base CX0 k f fd ps sp):Has P w K mg base x k ps sp:=⟨f,fd,h,b,F.kp,m⟩
end
section
variable {X:Cx}{x:Str}{j k:Nat}{ps:List Str}{sp:Sp}{p pos:Pos}{e:Expr}{es:List Expr}{t:TA}
theorem ZWu (h:Has X.prog X.w X.K X.mg X.base x k ps sp) (hr:ZFW j X.A) (hk:k<=j) (ha:PA X (e :: es) t) (hg:Gl X x:=by rfl) (hdb:(x == ("__debug__" : Str))=false:=by decide)
  (he:starEach (e :: es) X.env=(false,eval e X.env) :: starEach es X.env:=by rfl) (hpl:(backTo pos (starEach es X.env)).any (·.1)=false:=by rfl) :
  PE X (.Call (.Name x p) (e :: es) [] pos) (ZDr sp [] E0 t):=by
 obtain ⟨f,fd,F,b,kp,m⟩:=h
 exact ZUM (F.mono hk) hr hg m kp b .nil ZWr ha hdb he hpl
def ZRA (K:PySem.W.Frag):List V->Hp->VK->Prop:=fun xs H Q=>∃ (p:Addr) (ys:List V),xs=[.ref p]/\(SqL K H p ys∨SqT K H p ys)/\Q (.int ys.length) H
theorem ZAh:ZFH X (.builtin "len") (ZRA X.K):=ZAu
def ZXU (K:PySem.W.Frag):List V->Hp->VK->Prop:=fun xs H Q=>∃ (x:V) (n:String) (t:Value) (b:Bool),xs=[x,.ty n]/\ZMX K H x t/\PySem.W.kitOne K t (.type n)=some b/\Q (.bl b) H
theorem ZRc:ZFH X (.builtin "isinstance") (ZXU X.K):=ZN1
theorem ZBy:MtR X "list.append" ZMb:=ZLw
theorem ZLB:MtR X "list.insert" ZMC:=ZOs
theorem ZXC (T:String){x:Str}{pos:Pos}(hm:X.mg x=none) (hg:Gl X x:=by rfl) (hv:bootBuiltins x=some (.type T):=by decide +kernel) (hn:x ≠ "__name__" := by decide) (hd:(x == ("__debug__" : Str))=false:=by decide) :
  PE X (.Name x pos) (tC (.ty T)):=ZUF hg hm hv rfl hn hd
def ZXH (i j:Int):Prop:=i.natAbs < 2 ^ 1000/\j.natAbs < 2 ^ 1000
theorem ZSY {n:Nat}(h:n < 2 ^ 1000):n.log2 < 1000:=by
 rcases Nat.eq_zero_or_pos n with e | e
 ·subst e;exact (show (0:Nat).log2 < 1000 by decide)
 ·exact (Nat.log2_lt (Nat.ne_of_gt e)).mpr h
theorem bits_le {i:Int}(h:i.natAbs < 2 ^ 1000):Builtin.Int.intBits i<=2 ^ 20:=by
 unfold Builtin.Int.intBits
 split
 ·exact Nat.zero_le _
 ·have:=ZSY h
  have e:(2:Nat) ^ 20=1048576:=by decide
  omega
theorem ZF4:OpR X (binaryOp .Mult) (rI ZXH fun i j=>.int (i * j)):=opI fun _ _ _ _ _ _ _ hc q=>mul_int q (.of_bits (bits_le hc.1) (bits_le hc.2))
theorem ZJk:OpR X (binaryOp .FloorDiv) (rI (fun _ j=>0 < j/\j.natAbs < 2 ^ 1000) fun i j=>.int (i / j)):=opI fun i j _ _ _ _ _ hc q=>by
 have h1:(0:Int) < j:=hc.1
 have h2:=ZSY hc.2
 exact floordiv_int (by omega) (by rw [Int.fdiv_eq_ediv_of_nonneg i (by omega)];exact q) (.inl (PyProof.noPylong_of_log2 (by omega)))
theorem ZWk {body rest:List Stmt}{st:Stmt}{t u:TS}(e:body=st :: rest) (h:PS X st t) (h2:PSs X rest u):PSs X body (ZTs t u):=by rw [e];exact ZCy h h2
theorem ZWc {body:List Stmt}{st:Stmt}{t:TS}(e:body=[st]) (h:PS X st t):PSs X body t:=by rw [e];exact ZTm h
def ZWn (t:TS):TS:=fun D σ H=>∃ J:St->Hp->Prop,t { D with nx:=J } σ H/\∀ σ' H',J σ' H'->D.nx σ' H'
theorem ZUS {st:Stmt}{t:TS}(h:PS X st t):PS X st (ZWn t):=by
 intro pins s σ H D I hw
 obtain ⟨J,h1,h2⟩:=hw
 refine thn (h pins s σ H _ I h1) fun f s' q=>?_
 cases f with
 | next=>obtain ⟨σ',H',I',q⟩:=q;exact ⟨σ',H',I',h2 σ' H' q⟩
 | ret v=>exact q
 | brk=>exact q
 | cont=>exact q
end
theorem ZVv {K:PySem.W.Frag}{tp:Bool}{a:Addr}{xs:List V}{g:TG}{tb:TS}{D:Ends}{σ:St} {H:Hp}(Pv:Nat->St->Hp->Prop) (h0:Pv 0 σ H) (hl:∀ i σ H,i<=xs.length->Pv i σ H->SqB K tp H a xs)
  (hs:∀ i x σ H,xs[i]?=some x->Pv i σ H->g x σ H fun σ2 H2=>tb { D with nx:=Pv (i+1),ct:=Pv (i+1),bk:=D.nx } σ2 H2) (hd:∀ σ H,Pv xs.length σ H->D.nx σ H) :
  ∃ W:Nat->Nat->St->Hp->Prop,(∃ m,W 0 m σ H)/\∀ i m σ H,W i m σ H->
   ((Its K tp a xs).stop i H/\D.nx σ H)∨((Its K tp a xs).go i H/\∃ N:St->Hp->Prop,(∀ σ' H',N σ' H'->∃ m',m' < m/\W (i+1) m' σ' H')/\∀ x H',(Its K tp a xs).yld i H x H'->g x σ H' fun σ2 H2=>tb { D with nx:=N,ct:=N,bk:=D.nx } σ2 H2):=by
 refine ⟨fun i m σ H=>m=xs.length - i/\i<=xs.length/\Pv i σ H,⟨xs.length,by simp,Nat.zero_le _,h0⟩,fun i m σ H ⟨e,hi,p⟩=>?_⟩
 subst e
 have q:=hl i σ H hi p
 by_cases hlt:i < xs.length
 ·refine .inr ⟨⟨q,hlt⟩,Pv (i+1),fun σ' H' p'=>⟨xs.length - (i+1),by omega,rfl,hlt,p'⟩,fun x H' y=>?_⟩
  obtain ⟨e,y⟩:=y
  subst e
  exact hs i x σ _ y p
 ·have e:i=xs.length:=by omega
  subst e
  exact .inl ⟨⟨q,Nat.le_refl _⟩,hd σ H p⟩
def ZHS (p:Addr) (H H':Hp):Prop:=∀ b o,b≠p->H b=some o->H' b=some o
theorem ZHS.trans {p:Addr}{H H1 H2:Hp}(a:ZHS p H H1) (b:ZHS p H1 H2):ZHS p H H2:=fun c o hc e=>b c o hc (a c o hc e)
theorem ZHS.of {p:Addr}{H H':Hp}(a:ZAk H H'):ZHS p H H':=fun c o _ e=>a c o e
theorem ZHS.upd {p:Addr}{H:Hp}{o:HO}:ZHS p H (upd H p o):=fun c u hc e=>by rw [ZAT hc];exact e
end L2
set_option maxHeartbeats 8000000
namespace L2
def ZDD (acc:List Str) (x:Str):List Str:=if acc.any (· == x) then acc else acc++[x]
def dd (ss:List Str):List Str:=ss.foldl ZDD []
theorem ZOg (acc:List Str) (x k:Str):(ZDD acc x).any (· == k)=(acc.any (· == k) || decide (k=x)):=by
 unfold ZDD
 by_cases h:acc.any (· == x)=true
 ·rw [if_pos h]
  by_cases e:k=x
  ·subst e;rw [h];simp
  ·simp [e]
 ·rw [if_neg h,List.any_append]
  by_cases e:k=x
  ·subst e;simp
  ·have hb:(x == k)=false:=by simpa [beq_iff_eq] using (fun h':x=k=>e h'.symm)
   simp [hb,e]
theorem ZJM (acc:List Str) (x:Str):(ZDD acc x).length=if acc.any (· == x) then acc.length else acc.length+1:=by
 unfold ZDD;split <;> simp
theorem ZQk (ss:List Str) (i:Nat) (h:i < ss.length):dd (ss.take (i+1))=ZDD (dd (ss.take i)) ss[i]:=by
 unfold dd
 rw [List.take_succ_eq_append_getElem h,List.foldl_append];rfl
theorem ZSC (ss:List Str):(dd ss).length<=ss.length:=by
 have:∀ (l acc:List Str),(l.foldl ZDD acc).length<=acc.length+l.length:=by
  intro l
  induction l with
  | nil=>intro acc;simp
  | cons x r ih=>
   intro acc
   rw [List.foldl_cons]
   have h1:=ih (ZDD acc x)
   rw [ZJM] at h1
   simp only [List.length_cons]
   split at h1 <;> omega
 have q:=this ss []
 simp only [List.length_nil,Nat.zero_add] at q
 exact q
section
variable {prog:Program}{w:World}{A:Around}{R:Result->Shared->Prop}{I:Addr}{fp wr:List Addr}{G:Array GenState->Array GenState->Prop}{n:Nat}{P:Nat->Value->Prop}{St:Nat->Shared->Prop}{ss:List Str}
end
section
variable {prog:Program}{w:World}{A:Around}{E:Value->Shared->Prop}{s:Shared}{ss:List Str}
theorem sub_tuple_set:isSubtype (.type "tuple") (.type "set")=pure false:=by rw [isSubtype_type];kernel_rfl
theorem sub_tuple_frozenset:isSubtype (.type "tuple") (.type "frozenset")=pure false:=by rw [isSubtype_type];kernel_rfl
end
def ZWA (P:Program) (w:World) (a:Addr) (f:Str->Bool) (n:Nat):HO:=.ext fun h=>h.SetOf (strKind P w) a f n
section
variable {X:Cx}
theorem ZKb {ss:List Str}{its:List Value}(r:Vals (ss.map V.str) its){i:Nat}{v:Value}(e:its[i]?=some v):∃ (h:i < ss.length) (t:Tok),v=.str ss[i] t:=by
 have hl:=r.length
 rw [List.length_map] at hl
 have hi:i < its.length:=(List.getElem?_eq_some_iff.mp e).1
 have hi':i < ss.length:=by omega
 have e1:(ss.map V.str)[i]?=some (.str ss[i]):=by rw [List.getElem?_map,List.getElem?_eq_getElem hi'];rfl
 obtain ⟨u,hu,ru⟩:=r.get e1
 rw [e] at hu;cases hu
 obtain ⟨t,q⟩:=ru
 exact ⟨hi',t,q⟩
end
end L2
namespace L2
structure QE (X:Cx) (e:Expr) (t:TE):Prop where h:PE X e t
structure QT (X:Cx) (e:Expr) (t:TT):Prop where h:PT X e t
structure QW (X:Cx) (e:Expr) (t:TT):Prop where h:PW X e t
structure QA (X:Cx) (es:List Expr) (t:TA):Prop where h:PA X es t
structure QS (X:Cx) (st:Stmt) (t:TS):Prop where h:PS X st t
structure QSs (X:Cx) (st:List Stmt) (t:TS):Prop where h:PSs X st t
structure QG (X:Cx) (tg:Expr) (t:TG):Prop where h:PG X tg t
structure QGs (X:Cx) (ts:List Expr) (t:TGs):Prop where h:PGs X ts t
structure QI (X:Cx) (tg iter:Expr) (wi:TI):Prop where h:PI X tg iter wi
structure QIf (X:Cx) (ifs:List Expr) (t:TT):Prop where h:ZUE X ifs t
structure QO (X:Cx) (e:Option Expr) (t:TO):Prop where h:PO X e t
section
variable {X:Cx}{a b c e o:Expr}{es rest:List Expr}{ta tb tc te to:TE}{tA tB':TT}{t:TA}{pos p p2 apos cpos:Pos}{x:Str}
theorem qv (i:Nat){x:Str}{pos:Pos}(hN:X.N[i]?=some x:=by rfl) (hv:Vis X.env.scope x:=by first | exact Or.inl rfl | exact Or.inr (Or.inl rfl) | exact Or.inr (Or.inr rfl)) (hd:(x == ("__debug__" : Str))=false:=by decide)
  (hcd:(x == ("__classdict__" : Str))=false:=by decide):QE X (.Name x pos) (ZFG i):=⟨ZSG hN hv hd hcd⟩
theorem ZA2 {i j pos}:QE X (.Constant (.int i) j pos) (tC (.int i)):=⟨ZUo⟩
theorem ZN0 {b j pos}:QE X (.Constant (.bool b) j pos) (tC (.bl b)):=⟨ZWl⟩
theorem ZCv {j pos}:QE X (.Constant .none j pos) (tC .non):=⟨ZVa⟩
theorem ZAR {x j pos}:QE X (.Constant (.str x) j pos) (tC (.str x)):=⟨ZVi⟩
theorem ZEd {v:V}{u:Value}(hg:Gl X x) (hm:X.mg x=some u) (r:RelV v u) (hd:(x == ("__debug__" : Str))=false:=by decide):QE X (.Name x pos) (tC v):=⟨ZTU hg hm r hd⟩
theorem ZWf (T:String){x:Str}{pos:Pos}(hm:X.mg x=none) (hg:Gl X x:=by rfl) (hv:bootBuiltins x=some (.type T):=by decide +kernel) (hn:x ≠ "__name__" := by decide) (hd:(x == ("__debug__" : Str))=false:=by decide) :
  QE X (.Name x pos) (tC (.ty T)):=⟨ZXC T hm hg hv hn hd⟩
theorem ZAc {op:Operator}{r:R2}(ho:OpR X (binaryOp op) r) (ha:QE X a ta) (hb:QE X b tb):QE X (.BinOp a op b pos) (tOp r ta tb):=⟨ZWX ho ha.h hb.h⟩
theorem ZI3 {op:UnaryOp}{r:V->Hp->VK->Prop}(ho:UnR X (unaryOp op) r) (ha:QE X a ta):QE X (.UnaryOp op a pos) (tUn r ta):=⟨ZWQ ho ha.h⟩
theorem ZBp {op:CmpOp}{r:R2}(ho:OpR X (compareOp op) r) (ha:QE X a ta) (hb:QE X b tb) (hm:behindInMarks op b=false):QE X (.Compare a [op] [b] pos) (tOp r ta tb):=⟨ZTt ho ha.h hb.h hm⟩
theorem ZA9 {op:CmpOp}{r:R2}(ho:OpR X (compareOp op) r) (ha:QE X a ta) (hb:QE X b tb) (hm:behindInMarks op b=false):QT X (.Compare a [op] [b] pos) (ZPk (tOp r ta tb)):=⟨ZTv ho ha.h hb.h hm⟩
theorem ZK3 {op op':CmpOp}{r r':R2}(ho:OpR X (compareOp op) r) (ho':OpR X (compareOp op') r') (ha:QE X a ta) (hb:QE X b tb) (hc:QE X c tc)
  (hm:lastMarks [op,op'] [b,c]=false:=by with_unfolding_all rfl):QE X (.Compare a [op,op'] [b,c] pos) (ZLU r r' ta tb tc):=⟨ZRW ho ho' ha.h hb.h hc.h hm⟩
theorem ZCz {op op':CmpOp}{r r':R2}(ho:OpR X (compareOp op) r) (ho':OpR X (compareOp op') r') (ha:QE X a ta) (hb:QE X b tb) (hc:QE X c tc)
  (hm:lastMarks [op,op'] [b,c]=false:=by with_unfolding_all rfl):QT X (.Compare a [op,op'] [b,c] pos) (ZPk (ZLU r r' ta tb tc)):=⟨ZRu ho ho' ha.h hb.h hc.h hm⟩
theorem ZGL {op} (h:QE X a ta):QE X (.BoolOp op [a] pos) ta:=⟨ZV8 h.h⟩
theorem ZFx (ha:QE X a ta) (hb:QE X (.BoolOp .And (b :: rest) pos) tb):QE X (.BoolOp .And (a :: b :: rest) pos) (ZTI ta tb):=⟨ZVJ ha.h hb.h⟩
theorem ZWb (ha:QE X a ta) (hb:QE X (.BoolOp .Or (b :: rest) pos) tb):QE X (.BoolOp .Or (a :: b :: rest) pos) (ZXA ta tb):=⟨ZXF ha.h hb.h⟩
theorem ZDN (ha:QT X a tA):QW X (.BoolOp .And [a] pos) tA:=⟨ZU7 ha.h⟩
theorem ZIM (ha:QT X a tA):QW X (.BoolOp .Or [a] pos) tA:=⟨ZW0 ha.h⟩
theorem ZEf (ha:QT X a tA) (hb:QW X (.BoolOp .And (b :: rest) pos) tB'):QW X (.BoolOp .And (a :: b :: rest) pos) (ZWO tA tB'):=⟨ZVl ha.h hb.h⟩
theorem ZJo (ha:QT X a tA) (hb:QW X (.BoolOp .Or (b :: rest) pos) tB'):QW X (.BoolOp .Or (a :: b :: rest) pos) (tOr tA tB'):=⟨ZX6 ha.h hb.h⟩
theorem QW.pt {e:Expr}{t:TT}(h:QW X e t):QT X e t:=⟨h.h.pt⟩
theorem ZE5 (ha:QT X a tA):QT X (.UnaryOp .Not a pos) (ZWj tA):=⟨ZVp ha.h⟩
theorem ZLi (h:QE X e te) (he:∀ whole,isTrue e X.env whole=(do let v <- whole;standAt e.pos;holding [v] (truthy v)):=by intro _;rfl):QT X e (tB te):=⟨ZUT h.h he⟩
theorem ZA1:QA X [] ZCq:=⟨ZL2⟩
theorem ZA0 (ha:QE X e te) (hr:QA X es t) (hs:starEach (e :: es) X.env=(false,eval e X.env) :: starEach es X.env:=by rfl):QA X (e :: es) (ZAe te t):=⟨ZE8 ha.h hr.h hs⟩
theorem ZAU {x1} (h:QA X es t):QE X (.Tuple es x1 pos) (ZX2 t):=⟨ZVD h.h⟩
theorem ZBV (h:QA X es t):QE X (.List es pos) (ZWR t):=⟨ZVS h.h⟩
theorem ZBM:QO X none ZMT:=⟨ZTz⟩
theorem ZB0 (h:QE X e te):QO X (some e) (ZTr te):=⟨ZTG h.h⟩
theorem ZAq {r:V->Option Int->Option Int->Hp->VK->Prop}{lo hi:Option Expr}{tl th:TO}(hr:SlR X r) (he:QE X e te) (hl:QO X lo tl) (hu:QO X hi th):QE X (.Subscript e (.Slice lo hi none p2) pos) (tSl r te tl th):=⟨ZS1 hr he.h hl.h hu.h⟩
theorem ZAK {r:R2}(hr:IxR X r) (ha:QE X a ta) (hb:QE X b tb) (hs:ZPg b):QE X (.Subscript a b pos) (tOp r ta tb):=⟨ZX7 hr ha.h hb.h hs⟩
theorem ZAS {j k:Nat}{ps:List Str}{sp:Sp}(h:Has X.prog X.w X.K X.mg X.base x k ps sp) (hr:ZFW j X.A) (hk:k<=j) (ha:QA X (e :: es) t) (hg:Gl X x:=by rfl) (hdb:(x == ("__debug__" : Str))=false:=by decide)
  (he:starEach (e :: es) X.env=(false,eval e X.env) :: starEach es X.env:=by rfl) (hpl:(backTo pos (starEach es X.env)).any (·.1)=false:=by rfl):QE X (.Call (.Name x p) (e :: es) [] pos) (ZDr sp [] E0 t):=⟨ZWu h hr hk ha.h hg hdb he hpl⟩
theorem ZAQ {id:String}{r:List V->Hp->VK->Prop}(hc:ZFH X (.builtin id) r) (hg:Gl X x) (hm:X.mg x=none) (hv:bootBuiltins x=some (.builtin id)) (ha:QA X (e :: es) t) (hn:x ≠ "__name__" := by decide) (hdb:(x == ("__debug__" : Str))=false:=by decide)
  (he:starEach (e :: es) X.env=(false,eval e X.env) :: starEach es X.env:=by rfl) (hpl:(backTo pos (starEach es X.env)).any (·.1)=false:=by rfl):QE X (.Call (.Name x p) (e :: es) [] pos) (tCB r t):=⟨ZR3 hc hg hm hv ha.h hn hdb he hpl⟩
theorem ZAi {T:String}{r:List V->Hp->VK->Prop}(hc:ZFH X (.type T) r) (hg:Gl X x) (hm:X.mg x=none) (hv:bootBuiltins x=some (.type T)) (ha:QA X (e :: es) t) (hn:x ≠ "__name__" := by decide) (hdb:(x == ("__debug__" : Str))=false:=by decide)
  (he:starEach (e :: es) X.env=(false,eval e X.env) :: starEach es X.env:=by rfl) (hpl:(backTo pos (starEach es X.env)).any (·.1)=false:=by rfl):QE X (.Call (.Name x p) (e :: es) [] pos) (tCB r t):=⟨ZP1 hc hg hm hv ha.h hn hdb he hpl⟩
theorem ZEV {name:Str}{T id:String}{r:V->List V->Hp->VK->Prop}(pa:PlainAttrs T) (slot:Slot T name id) (hty:typeOf (.builtin id)=pure (.type "method_descriptor")) (hm:MtR X id r) (ho:QE X o to) (ha:QA X (e :: es) t)
  (hbase:attributeBase o name X.env (eval o X.env)=eval o X.env:=by rfl)
  (hfew:((backTo cpos (starEach (e :: es) X.env)).all (fun x=>!x.1) && (backToKw cpos (keywordEach [] X.env)).all (fun x=>x.1.isSome)
   && decide ((e :: es).length+([]:List Keyword).length+(if ([]:List Keyword).isEmpty then 0 else 1) < 30))=true:=by rfl)
  (hline:(apos.endLine == cpos.line)=true:=by rfl) (hs:starEach (e :: es) X.env=(false,eval e X.env) :: starEach es X.env:=by rfl) (hplain:(backTo cpos (starEach es X.env)).any (·.1)=false:=by rfl) :
  QE X (.Call (.Attribute o name apos) (e :: es) [] cpos) (tBM X.K T r to t):=⟨ZWJ pa slot hty hm ho.h ha.h hbase hfew hline hs hplain⟩
end
section
variable {X:Cx}{elt iter:Expr}{x:Str}{px pos:Pos}{ifs:List Expr}{scope:Scope}{ZCl:List Str}{js:List Nat}{tt:TT}{te:TE}{wi:TI}{tg:Expr}
theorem ZGY {l:Expr}{tl:TE}(hl:QE X l tl):QI X tg l (iSq X.K tl):=⟨ZWL hl.h⟩
theorem ZSD {l:Expr}{tl:TE}(hl:QE X l tl):QI X tg l (ZXQ tl):=⟨ZUr hl.h⟩
theorem ZFs {a:Expr}{ta:TA}{p pos:Pos}(hg:Gl X "range") (hm:X.mg "range" = none) (ha:QA X [a] ta) (hs:starEach [a] X.env=[(false,eval a X.env)]:=by rfl):QI X tg (.Call (.Name "range" p) [a] [] pos) (ZU0 ta):=⟨ZPp hg hm ha.h hs⟩
theorem ZNA:QIf X [] ZQu:=⟨ZTB⟩
theorem ZEb {c:Expr}{t:TT}(hc:QT X c t):QIf X [c] t:=⟨ZTE hc.h⟩
theorem ZED (hc:X.calm=true) (S:ZAr X.N X.env.scope scope x ZCl js) (hi:QI X (.Name x px) iter wi)
  (hifs:∀ fp C s H,QIf (ZBj X (ZCl++[x]) scope (ZBR X.env.cells scope.names) C s H fp) ifs tt) (helt:∀ fp C s H,QE (ZBj X (ZCl++[x]) scope (ZBR X.env.cells scope.names) C s H fp) elt te)
  (hs:∀ v,foldedSetIterable iter X.env v=pure v:=by intro _;rfl):QE X (.ListComp elt [⟨.Name x px,iter,ifs,0⟩] scope pos) (ZN4 wi js tt te):=⟨ZU5 hc S hi.h (fun fp C s H=>(hifs fp C s H).h) (fun fp C s H=>(helt fp C s H).h) hs⟩
theorem ZPC {i:Nat}{y:Str}{py spos:Pos}(hN:X.N.Nodup) (hi':X.N[i]?=some y) (hy:Loc X.env.scope y) (hc:X.calm=true) (S:ZAr X.N X.env.scope scope x ZCl js) (hi:QI X (.Name x px) iter wi)
  (hifs:∀ fp C s H,QIf (ZBj X (ZCl++[x]) scope (ZBR X.env.cells scope.names) C s H fp) ifs tt) (helt:∀ fp C s H,QE (ZBj X (ZCl++[x]) scope (ZBR X.env.cells scope.names) C s H fp) elt te)
  (hsw:swapsWith (.ListComp elt [⟨.Name x px,iter,ifs,0⟩] scope pos) (some (.Name y py)) spos.line X.env=pure true:=by rfl)
  (hf:X.fn y=true∨X.env.scope.names.lookup y=some .local:=by first | exact .inl rfl | exact .inr rfl | assumption)
  (hs:∀ v,foldedSetIterable iter X.env v=pure v:=by intro _;rfl):QS X (.Assign [.Name y py] (.ListComp elt [⟨.Name x px,iter,ifs,0⟩] scope pos) spos) (ZPW (ZN4 wi js tt te) (ZHU i)):=
 ⟨ZSm hN hi' hy hc S hi.h (fun fp C s H=>(hifs fp C s H).h) (fun fp C s H=>(helt fp C s H).h) hsw hf hs⟩
theorem ZBD {i:Nat}{x:Str}(hN:X.N.Nodup) (hi:X.N[i]?=some x) (hx:Loc X.env.scope x) (hf:X.fn x=true∨X.env.scope.names.lookup x=some .local:=by first | exact .inl rfl | exact .inr rfl | assumption):QG X (.Name x pos) (ZHU i):=⟨ZP7 hN hi hx hf⟩
theorem ZFj:QGs X [] ZWv:=⟨ZSz⟩
theorem ZBQ {e:Expr}{es:List Expr}{t:TG}{u:TGs}(h1:QG X e t) (h2:QGs X es u)
  (hs:(assignEach (e :: es) X.env).map (·.2)=assign e X.env :: (assignEach es X.env).map (·.2):=by rfl):QGs X (e :: es) (ZR4 t u):=⟨ZRk h1.h h2.h hs⟩
theorem ZIA {es:List Expr}{k:Nat}{t:TGs}{n:Nat}(hc:X.calm=true) (h:QGs X es t) (hn:(assignEach es X.env).length=n:=by rfl) (hst:(assignEach es X.env).findIdx? (·.1)=none:=by rfl):QG X (.Tuple es k pos) (ZWP X.K n t):=⟨ZVA hc h.h hn hst⟩
theorem ZQq {o i:Expr}{to ti:TE}{t:ZWD}(ho:QE X o to) (hi:QE X i ti) (hs:ZX9 X t)
  (ha:∀ v,assign (.Subscript o i pos) X.env v=(do
   let ov <- holding [v] (eval o X.env)
   let iv <- holding [v,ov] (eval i X.env)
   standAt pos
   holding [v,ov,iv] (setItem ov iv v)
   release [v,ov,iv] []):=by intro _;rfl):QG X (.Subscript o i pos) (ZWU to ti t):=⟨ZVg ho.h hi.h hs ha⟩
end
section
variable {X:Cx}{st:Stmt}{rest:List Stmt}{t u:TS}{e:Expr}{te:TE}{pos:Pos}
theorem ZAE:QSs X [] ZRB:=⟨ZIW⟩
theorem ZAF {body rest:List Stmt}{st:Stmt}{t u:TS}(e:body=st :: rest) (h:QS X st t) (h2:QSs X rest u):QSs X body (ZTs t u):=⟨ZWk e h.h h2.h⟩
theorem ZAJ {body:List Stmt}{st:Stmt}{t:TS}(e:body=[st]) (h:QS X st t):QSs X body t:=⟨ZWc e h.h⟩
theorem ZS2:QS X st ZSM:=⟨ZRJ⟩
theorem ZB7 (he:QE X e te) (hs:swapsWith e none pos.line X.env=pure false:=by rfl):QS X (.Expr e pos) (ZKm te):=⟨ZIV he.h hs⟩
theorem ZAM (he:QE X e te):QS X (.Return (some e) pos) (ZVV te):=⟨ZVy he.h⟩
theorem ZAa {c:Expr}{a b:List Stmt}{tc:TT}(hc:QT X c tc) (ha:QSs X a t) (hb:QSs X b u):QS X (.If c a b pos) (ZX8 tc t u):=⟨ZXB hc.h ha.h hb.h⟩
theorem ZGQ {tg e:Expr}{te:TE}{g:TG}(he:QE X e te) (hg:QG X tg g) (hs:swapsWithSole [tg] e pos.line X.env=pure false:=by rfl) (hw:swappedStores [tg] e X.env=pure none:=by rfl)
  (h1:(assignEach [tg] X.env).map (·.2)=[assign tg X.env]:=by rfl):QS X (.Assign [tg] e pos) (ZPW te g):=⟨ZUX he.h hg.h hs hw h1⟩
theorem ZAL {i:Nat}{x:Str}{pos':Pos}(hN:X.N.Nodup) (hi:X.N[i]?=some x) (hx:Loc X.env.scope x) (he:QE X e te) (hs:swapsWith e (some (.Name x pos')) pos.line X.env=pure false:=by rfl) (hf:X.fn x=true∨X.env.scope.names.lookup x=some .local:=by first | exact .inl rfl | exact .inr rfl | assumption) :
  QS X (.Assign [.Name x pos'] e pos) (ZPW te (ZHU i)):=⟨ZVP hN hi hx he.h hs hf⟩
theorem ZNy {c:Expr}{body:List Stmt}{tc:TT}{tb:TS}(hp:PassesOwn (model X.prog X.w) X.A X.env X.xe) (hc:QT X c tc) (hb:QSs X body tb):QS X (.While c body [] pos) (ZSO tc tb):=⟨ZRK hp hc.h hb.h⟩
theorem ZHB {tg iter:Expr}{body:List Stmt}{wi:TI}{g:TG}{tb:TS}(hp:PassesOwn (model X.prog X.w) X.A X.env X.xe) (hc:X.calm=true) (hi:QI X tg iter wi) (hg:QG X tg g) (hb:QSs X body tb)
  (hs:∀ x,foldedSetIterable iter X.env x=pure x:=by intro _;rfl):QS X (.For tg iter body [] pos) (ZXE wi g tb):=⟨ZVT hp hc hi.h hg.h hb.h hs⟩
theorem ZAv (h:QS X st t):QS X st (ZWn t):=⟨ZUS h.h⟩
end
theorem Fun.okq {P:Program}{w:World}{K:PySem.W.Frag}{mg:Str->Option Value}{base:Heap}{x qual:Str}{st:Stmt}{f:Addr}{fd:FuncData}{N ps:List Str}{k:Nat}{sp:Sp}(F:Fun K x qual st f fd) (S:ZAP N ps (ZA4 st)) (len:∀ vs H Q E,sp vs H Q E->vs.length=ps.length)
  (hbody:∀ (cdv:Value) (A:Around) (outer:List Env) (s:Shared) (H:Hp) (vs:List V) (Q:VK) (E:XK),ZFW k (A.deeper (envOfC qual (ZA4 st) s.heap.objs.size f cdv))->sp vs H Q E->
   ∃ t,QSs (ZLH CX0 P w K mg base N qual (ZA4 st) f cdv A outer s H E).nox (ZAN st) t/\t { nx:=fun _ H'=>Q .non H',rt:=Q } (start N vs) H):ZJ2 P w K mg base CX0 (k+1) f fd ps sp:=
 F.ok S len fun cdv A outer s H vs Q E hr h=>let ⟨t,q,r⟩:=hbody cdv A outer s H vs Q E hr h;⟨t,q.h,r⟩
end L2
namespace L2
section
variable {X:Cx}
theorem ZKR {x y:Str}{t:Tok}:eqU (.str x) (.str y t)=(y == x):=rfl
theorem ZGU (x:Str):∀ (ss:List Str) (m:Nat) (hm:m < ss.length),m < ss.idxOf x->ss[m]≠x
 | [],_,hm,_=>absurd hm (Nat.not_lt_zero _)
 | a :: r,m,hm,h=>by
  rw [List.idxOf_cons] at h
  by_cases e:a=x
  ·have:(a == x)=true:=by simpa using e
   rw [this] at h
   exact absurd h (Nat.not_lt_zero _)
  ·have e':(a == x)=false:=by simpa using e
   rw [e'] at h
   cases m with
   | zero=>exact e
   | succ k=>
    have h':k+1 < r.idxOf x+1:=h
    exact ZGU x r k (by simpa using hm) (by omega)
theorem ZQ0 {ss:List Str}{x:Str}(h:x∈ss):∃ hj:ss.idxOf x < ss.length,ss[ss.idxOf x]=x/\∀ m (hm:m < ss.length),m < ss.idxOf x->ss[m]≠x:=by
 have hj:ss.idxOf x < ss.length:=List.idxOf_lt_length_iff.mpr h
 exact ⟨hj,List.getElem_idxOf hj,fun m hm hlt=>ZGU x ss m hm hlt⟩
def ZOp (K:PySem.W.Frag):V->List V->Hp->VK->Prop:=fun x vs H Q=>∃ (l:Addr) (ss:List Str) (y:Str),x=.ref l/\vs=[.str y]/\SqL K H l (ss.map V.str)/\y∈ss/\Q (.int (ss.idxOf y:Nat)) H
theorem ZIh:MtR X "list.index" (ZOp X.K):=by
 intro pins s σ H x vs v us Q I rx rv h
 obtain ⟨l,ss,y,rfl,rfl,hq,hy,q⟩:=h
 cases rx
 obtain ⟨u,rfl,ru⟩:=rv.one
 obtain ⟨its,r,pl,hz⟩:=I.list hq
 obtain ⟨⟨c,d,dt,sl⟩,n,ho,hc,hd,hdt⟩:=id pl
 simp only at hc hd hdt
 subst hc;subst hd;subst hdt
 have hl:=r.length
 rw [List.length_map] at hl
 obtain ⟨hj,hhit,hno⟩:=ZQ0 hy
 have at':∀ (m:Nat) (hm:m < its.toArray.size),∃ t,its.toArray[m]=.str (ss[m]'(by simp at hm;omega)) t:=fun m hm=>by
  have hm':m < its.length:=by simpa using hm
  obtain ⟨h2,t,e⟩:=ZKb r (List.getElem?_eq_getElem hm')
  exact ⟨t,by simpa using e⟩
 have hjs:ss.idxOf y < its.toArray.size:=by simp;omega
 refine call_meets PySem.F.slot_list_index ⟨_,ho,rfl⟩ PySem.F.entry_list_index (PySem.F.args_list_index_2 _ _) (SeqAt.list_indexAt l its.toArray n none sl u (eqU (.str y)) (ss.idxOf y) hjs ?_ ?_ (fun m hm hlt=>?_)) ⟨ho,fun z hz'=>ZEM ru rfl r (by
   rw [List.all_eq_true];intro w hw;obtain ⟨y',_,rfl⟩:=List.mem_map.mp hw;rfl) z (by simpa using hz'),?_⟩
 ·have h1:ss.length<=sizeLine:=by rw [List.length_map] at hz;exact hz
  have h2:=ZFN
  have h3:((sizeLine:Nat):Int) < 2 ^ 63:=by exact_mod_cast h2
  omega
 ·obtain ⟨t,e⟩:=at' _ hjs
  rw [e,ZKR];simpa using hhit
 ·obtain ⟨t,e⟩:=at' _ hm
  rw [e,ZKR]
  have:=hno m (by simp at hm;omega) hlt
  simpa using this
 ·exact ⟨.int _,H,I.tok _,⟨_,rfl⟩,q⟩
theorem ZKK (l:Addr) (items:Array Value) (n:Nat) (dd:Option Addr) (sl:Array (Option Value)) (x:Value) (e:Value->Bool) (j:Nat) (hj:j < items.size) (hit:e items[j]=true) (hno:∀ m (hm:m < items.size),m < j->e items[m]=false) :
  Meets (Builtin.«tuple.index» ⟨[.ref l,x],[]⟩)
   (fun A R s=>s.heap.get? l=some { cls:=.type "tuple", dict:=dd,data:=.seq items n,slots:=sl }/\(∀ y,y∈items->SeqAt.EqAt A.in1 s y x (e y))/\R (.ok (.ret (.int j s.toks))) { s with toks:=s.toks+1 }):=by
 refine Meets.of_wp fun prog w A R s h=>?_
 obtain ⟨hp,g,d,tk,os⟩:=s
 obtain ⟨hl,he,h⟩:=h
 wp_walk using AutoSeq1.wpAny_loadPart' hl
 show wpAny _ _ (forIn [:min items.size items.size] ((none:Option Fin),()) (fun (i:Nat) (_:Option Fin×Unit)=>match items[i]? with
  | some y=>(do let b <- eqBool y x;if b=true then do let r <- retInt ((i:Nat):Int);pure (ForInStep.done (some r,())) else pure (ForInStep.yield (none,())))
  | _=>pure (ForInStep.yield (none,())))) _ _ _
 rw [Std.Legacy.Range.forIn_eq_forIn_range']
 have hsz:([:min items.size items.size]:Std.Legacy.Range).size=items.size:=by simp [Std.Legacy.Range.size]
 show wpAny _ _ (forIn (List.range' 0 ([:min items.size items.size]:Std.Legacy.Range).size 1) _ _) _ _ _
 rw [hsz]
 refine wpAny_forIn_list _ (fun rest b s'=>b=(none,())/\s'=⟨hp,g,d,tk,os⟩/\∃ i,rest=List.range' i (items.size - i) 1/\i<=j) _ ?_ ?_ _ _ ⟨rfl,rfl,0,rfl,Nat.zero_le _⟩
 ·rintro i rest b s' ⟨rfl,rfl,i',hr,hij⟩
  have hlt:i' < items.size:=by omega
  have e1:List.range' i' (items.size - i') 1=i' :: List.range' (i'+1) (items.size - (i'+1)) 1:=by
   have:items.size - i'=(items.size - (i'+1))+1:=by omega
   rw [this,List.range'_succ]
  rw [e1] at hr
  injection hr with hr1 hr2
  subst hr1;subst hr2
  have hi:items[i]?=some items[i]:=by simp [hlt]
  rw [hi]
  refine wpAny_bind (he _ (Array.getElem_mem hlt) prog w _ _ ?_)
  by_cases e2:i=j
  ·subst e2
   rw [hit,if_pos rfl]
   wp_walk
   exact ⟨_,rfl,h⟩
  ·rw [hno i hlt (by omega),if_neg (by decide)]
   exact wpAny_pure ⟨rfl,rfl,i+1,rfl,by omega⟩
 ·rintro b s' ⟨rfl,rfl,i,hr,hij⟩
  have:0 < (List.range' i (items.size - i) 1).length:=by rw [List.length_range'];omega
  rw [<- hr] at this
  exact absurd this (by simp)
end
end L2
namespace L2
section
variable {X:Cx}
def ZQ5 (K:PySem.W.Frag):V->List V->Hp->VK->Prop:=fun x vs H Q=>∃ (l:Addr) (ss:List Str) (y:Str),x=.ref l/\vs=[.str y]/\SqT K H l (ss.map V.str)/\y∈ss/\Q (.int (ss.idxOf y:Nat)) H
theorem ZQi:MtR X "tuple.index" (ZQ5 X.K):=by
 intro pins s σ H x vs v us Q I rx rv h
 obtain ⟨l,ss,y,rfl,rfl,hq,hy,q⟩:=h
 cases rx
 obtain ⟨u,rfl,ru⟩:=rv.one
 obtain ⟨its,r,pl,hz⟩:=I.tuple hq
 obtain ⟨⟨c,d,dt,sl⟩,ho,hc,n,hdt⟩:=id pl
 simp only at hc hdt
 subst hc;subst hdt
 have hl:=r.length
 rw [List.length_map] at hl
 obtain ⟨hj,hhit,hno⟩:=ZQ0 hy
 have at':∀ (m:Nat) (hm:m < its.toArray.size),∃ t,its.toArray[m]=.str (ss[m]'(by simp at hm;omega)) t:=fun m hm=>by
  have hm':m < its.length:=by simpa using hm
  obtain ⟨h2,t,e⟩:=ZKb r (List.getElem?_eq_getElem hm')
  exact ⟨t,by simpa using e⟩
 have hjs:ss.idxOf y < its.toArray.size:=by simp;omega
 refine call_meets PySem.F.slot_tuple_index ⟨_,ho,rfl⟩ PySem.F.entry_tuple_index (PySem.F.args_tuple_index_2 _ _) (ZKK l its.toArray n d sl u (eqU (.str y)) (ss.idxOf y) hjs ?_ (fun m hm hlt=>?_)) ⟨ho,fun z hz'=>ZEM ru rfl r (by
   rw [List.all_eq_true];intro w hw;obtain ⟨y',_,rfl⟩:=List.mem_map.mp hw;rfl) z (by simpa using hz'),?_⟩
 ·obtain ⟨t,e⟩:=at' _ hjs
  rw [e,ZKR];simpa using hhit
 ·obtain ⟨t,e⟩:=at' _ hm
  rw [e,ZKR]
  have:=hno m (by simp at hm;omega) hlt
  simpa using this
 ·exact ⟨.int _,H,I.tok _,⟨_,rfl⟩,q⟩
def ZX4 (t u:TE):TE:=fun σ H Q=>t σ H Q∨u σ H Q
theorem ZUV {e:Expr}{t u:TE}(h:QE X e t) (h2:QE X e u):QE X e (ZX4 t u):=⟨fun pins s σ H Q I q=>q.elim (h.h pins s σ H Q I) (h2.h pins s σ H Q I)⟩
end
end L2
namespace L2
theorem ZPa:typeLookup (.type "list_reverseiterator") "__len__" = pure none:=by rw [typeLookup_type,builtinLookup_eq_fast];kernel_rfl
theorem ZRI:typeLookup (.type "list_reverseiterator") "__length_hint__" = pure (some (.builtin "list_reverseiterator.__length_hint__")):=by rw [typeLookup_type,builtinLookup_eq_fast];kernel_rfl
section
variable {prog:Program}{w:World}{A:Around}{s:Shared}{R:Result->Shared->Prop}
variable {I:Addr}{fp wr:List Addr}{G:Array GenState->Array GenState->Prop}{n:Nat}{P:Nat->Value->Prop}{St:Nat->Shared->Prop}
theorem ZOW (W:WalksS prog w A.in1 I fp wr G n P St) (hT:∀ i s,St i s->s.TypeIs (.ref I) "list_reverseiterator") (S:Addr) (res:Value) (c₀:Nat) (hst:St 0 s) (hSf:S∉fp) (hI:I∈fp)
  (hS:s.heap.get? S=some { cls:=.type "list", data:=.seq #[] c₀ })
  (hR:∀ s' acc' c',Moved (S :: wr) G s s'->s'.heap.get? S=some { cls:=.type "list", dict:=none,data:=.seq acc' c',slots:=#[] }->ItemsOf P acc' n->R (.ok (.ret res)) s') (hn:n<=sizeLine) :
  wpAny (model prog w) A.in1 (Builtin.List.listExtendWith (.ref S) (.ref I) res)
   (fun fin s'=>match fin with | .done f=>R (.ok f) s' | .again c'=>c'.quiet=true/\codeAny (model prog w) A c' R s') (fun e s'=>R (.error e) s') s:=by
 have hSI:S≠I:=fun e=>hSf (e▸hI)
 unfold Builtin.List.listExtendWith
 refine wpAny_bind (wpAny_typeOf (hT 0 _ hst) ?_)
 have h1:Builtin.List.listSameRef (.ref S) (.ref I)=false:=by simp [Builtin.List.listSameRef,hSI]
 rw [if_neg (by rw [h1];decide)]
 refine wpAny_bind (W.self 0 _ _ _ hst ?_)
 refine wpAny_bind (wpAny_holding ?_)
 unfold Builtin.List.listLengthHint
 refine wpAny_bind (wpAny_specialOf (hT 0 _ hst) ZPa ?_)
 show wpAny _ A.in1 (specialOf (Value.ref I) (Str.ofString "__length_hint__") >>= _) _ _ _
 refine wpAny_bind (wpAny_specialOf (hT 0 _ hst) ZRI ?_)
 generalize hid:("list_reverseiterator.__length_hint__" : String)=id0
 wp_delta
 rw [show splitId id0=some ("list_reverseiterator", "__length_hint__") from by subst hid;decide +kernel]
 subst hid
 refine wpAny_bind (wpAny_isInstance (b:=true) (hT 0 _ hst) (by rw [isSubtype_type];kernel_rfl) ?_)
 refine wpAny_pure ?_
 rw [if_neg (by decide)]
 refine wpAny_pure ⟨plainId_quiet F.plain_extend_loop _,codeAny_extend_loopS W hn _ hSf _ n 0 _ _ _ rfl (Nat.zero_le _) hst hS (ItemsOf.nil P) fun s' acc' c' hm hS' hacc=>?_⟩
 exact hR s' acc' c' hm hS' hacc
theorem ZKr (W:WalksS prog w A.in1 I fp wr G n P St) (hT:∀ i s,St i s->s.TypeIs (.ref I) "list_reverseiterator") (S:Addr) (hst:St 0 s) (hSf:S∉fp) (hI:I∈fp)
  (hS:s.heap.get? S=some { cls:=.type "list", data:=.seq #[] })
  (hR:∀ s' acc' c',Moved (S :: wr) G s s'->s'.heap.get? S=some { cls:=.type "list", dict:=none,data:=.seq acc' c',slots:=#[] }->ItemsOf P acc' n->R (.ok (.ret .none)) s') (hn:n<=sizeLine) :
  wpAny (model prog w) A.in1 (Builtin.«list.__init__» ⟨[.ref S,.ref I],[]⟩)
   (fun fin s'=>match fin with | .done f=>R (.ok f) s' | .again c'=>c'.quiet=true/\codeAny (model prog w) A c' R s') (fun e s'=>R (.error e) s') s:=by
 show wpAny _ A.in1 (do let old <- Builtin.List.listItems (.ref S);Builtin.List.listUpdate (.ref S) (fun _=>#[]);letGo old.toList.reverse;Builtin.List.listExtendWith (.ref S) (.ref I) .none) _ _ s
 refine wpAny_bind ?_
 unfold Builtin.List.listItems
 refine wpAny_bind (wpAny_seqItems hS rfl (wpAny_pure ?_))
 show wpAny _ A.in1 (updateSeq S (fun _=>#[]) >>= fun _=>letGo (#[]:Array Value).toList.reverse >>= fun _=>Builtin.List.listExtendWith (.ref S) (.ref I) .none) _ _ s
 refine wpAny_bind (wpAny_updateSeq hS rfl ?_)
 have hS₂:=Heap.get?_update_self (Obj.mapSeq (fun _=>(#[]:Array Value))) hS rfl
 have oth:∀ b o,b≠S->s.heap.get? b=some o->(s.heap.update S (Obj.mapSeq (fun _=>(#[]:Array Value)))).get? b=some o:=
  fun b o hb e=>(Heap.get?_update_other _ _ (Ne.symm hb)).trans e
 refine wpAny_bind (wpAny_letGo ?_)
 refine ZOW (hn:=hn) W hT S .none _ (W.frame 0 s _ s.toks hst (Nat.le_refl _) fun b hb o e=>oth b o (fun h=>hSf (h▸hb)) e) hSf hI hS₂ fun s' acc' c' hm hS' hacc=>?_
 exact hR s' acc' c' (Moved.trans W.gtrans ((Moved.refl W.grefl).then_heap (Nat.le_refl _) fun b o hb e=>oth b o (fun h=>hb (h▸List.mem_cons_self)) e) hm) hS' hacc
end
section
variable {prog:Program}{w:World}{A:Around}{E:Value->Shared->Prop}{s:Shared}
variable {I:Addr}{fp wr:List Addr}{G:Array GenState->Array GenState->Prop}{n:Nat}{P:Nat->Value->Prop}{St:Nat->Shared->Prop}
theorem ZKj {Q:Value->Shared->Prop}(W:WalksS prog w A.in1.in1 I fp wr G n P St) (hT:∀ i s,St i s->s.TypeIs (.ref I) "list_reverseiterator") (hst:St 0 s) (hfp:∀ b∈fp,b < s.heap.objs.size) (hI:I∈fp)
  (hQ:∀ s' acc' c',Moved (s.heap.objs.size :: wr) G { s with heap:=s.heap.push { cls:=.type "list", data:=.seq #[] } } s'->
   s'.heap.get? s.heap.objs.size=some { cls:=.type "list", dict:=none,data:=.seq acc' c',slots:=#[] }->ItemsOf P acc' n->Q (.ref s.heap.objs.size) s') (hn:n<=sizeLine) :
  wpAny (model prog w) A (call (.type "list") [.ref I]) Q E s:=by
 have hSf:s.heap.objs.size∉fp:=fun hm=>Nat.lt_irrefl _ (hfp _ hm)
 refine callType_codes (Q₁:=fun obj s₁=>obj=.ref s.heap.objs.size/\s₁={ s with heap:=s.heap.push { cls:=.type "list", data:=.seq #[] } }) F.called_list (F.typeCall_list_1 _) F.entry_list_init
  (code_list_new _ ⟨rfl,rfl⟩) fun obj s₁ h₁=>?_
 obtain ⟨rfl,rfl⟩:=h₁
 have hS:(s.heap.push { cls:=.type "list", data:=.seq #[] }).get? s.heap.objs.size=some { cls:=.type "list", data:=.seq #[] }:=Heap.get?_push_size _ rfl
 refine ⟨⟨_,hS,rfl⟩,F.args_list_init_2 _ _,ZKr (hn:=hn) W hT _ (W.frame 0 s _ s.toks hst (Nat.le_refl _) fun b _ o e=>Heap.get?_push_of_some _ e) hSf hI hS fun s' acc' c' hm hS' hacc=>?_⟩
 exact ⟨rfl,hQ s' acc' c' hm hS' hacc⟩
end
end L2
namespace L2
theorem ZP9:typeLookup (.type "tuple") "__reversed__" = pure none:=by rw [typeLookup_type,builtinLookup_eq_fast];kernel_rfl
theorem ZP6:typeLookup (.type "reversed") "__len__" = pure none:=by rw [typeLookup_type,builtinLookup_eq_fast];kernel_rfl
theorem ZRi:typeLookup (.type "reversed") "__length_hint__" = pure (some (.builtin "reversed.__length_hint__")):=by rw [typeLookup_type,builtinLookup_eq_fast];kernel_rfl
theorem ZLd:isSubtype (.type "tuple") (.type "dict")=pure false:=by rw [isSubtype_type];kernel_rfl
theorem ZIO:Manifest.owners.lookup (String.ofList ['d','e','s','r','e','v','e','r'].reverse)=some Manifest.sig_reversed:=by kernel_rfl
theorem ZCR:Slot "reversed" "__next__" "reversed.__next__" :=
 .of (owner := "reversed") (n := "__next__") (by rw [typeLookup_type,builtinLookup_eq_fast];kernel_rfl) (by decide +kernel) (by decide +kernel) (by decide +kernel)
  (by first | exact .inl (by decide +kernel) | exact .inr (by decide +kernel)) (by rw [isSubtype_type];kernel_rfl)
theorem ZFL:entryFor table "reversed.__next__" = some Builtin.«reversed.__next__»:=entryFor_of_tree (by kernel_rfl)
theorem ZGG (a:Value):argsOk "reversed.__next__" ⟨[a],[]⟩:=by
 unfold argsOk;rw [signature?_of (id := "reversed.__next__") (n:=['_','_','t','x','e','n','_','_']) (o:=['d','e','s','r','e','v','e','r']) (by kernel_rfl) ZIO];kernel_rfl
theorem ZGE:Slot "reversed" "__iter__" "reversed.__iter__" :=
 .of (owner := "reversed") (n := "__iter__") (by rw [typeLookup_type,builtinLookup_eq_fast];kernel_rfl) (by decide +kernel) (by decide +kernel) (by decide +kernel)
  (by first | exact .inl (by decide +kernel) | exact .inr (by decide +kernel)) (by rw [isSubtype_type];kernel_rfl)
theorem ZKM (a:Value):argsOk "reversed.__iter__" ⟨[a],[]⟩:=by
 unfold argsOk;rw [signature?_of (id := "reversed.__iter__") (n:=['_','_','r','e','t','i','_','_']) (o:=['d','e','s','r','e','v','e','r']) (by kernel_rfl) ZIO];kernel_rfl
theorem ZJ1:entryFor table "reversed.__iter__" = some Builtin.«dict_keyiterator.__iter__»:=
 entryFor_alias (id' := "dict_keyiterator.__iter__") (by kernel_rfl) (by first | rfl | decide +kernel | (unfold String.splitOn;simp +decide [String.splitOnAux])) (by decide +kernel) (by kernel_rfl)
theorem ZGI:Slot "reversed" "__length_hint__" "reversed.__length_hint__" :=
 .of (owner := "reversed") (n := "__length_hint__") (by rw [typeLookup_type,builtinLookup_eq_fast];kernel_rfl) (by decide +kernel) (by decide +kernel) (by decide +kernel)
  (by first | exact .inl (by decide +kernel) | exact .inr (by decide +kernel)) (by rw [isSubtype_type];kernel_rfl)
theorem ZIw:entryFor table "reversed.__length_hint__" = some Builtin.«reversed.__length_hint__»:=entryFor_of_tree (by kernel_rfl)
theorem ZJx (a:Value):argsOk "reversed.__length_hint__" ⟨[a],[]⟩:=by
 unfold argsOk;rw [signature?_of (id := "reversed.__length_hint__") (n:=['_','_','t','n','i','h','_','h','t','g','n','e','l','_','_']) (o:=['d','e','s','r','e','v','e','r']) (by kernel_rfl) ZIO];kernel_rfl
theorem ZKh:Slot "reversed" "__init__" "object.__init__" :=
 .of (owner := "object") (n := "__init__") (by rw [typeLookup_type,builtinLookup_eq_fast];kernel_rfl) (by decide +kernel) (by decide +kernel) (by decide +kernel)
  (by first | exact .inl (by decide +kernel) | exact .inr (by decide +kernel)) (by rw [isSubtype_type];kernel_rfl)
theorem ZOC:TypeCalled "reversed" "reversed.__new__" "object.__init__" :=
 ⟨by decide +kernel,by decide +kernel,⟨_,_,F.mro_reversed⟩,F.made_reversed,by decide +kernel,by rw [isSubtype_type];kernel_rfl,ZKh⟩
def ZV2 (l:Addr) (i:Int):Obj:={ cls:=.type "reversed", data:=.fields #[.ref l,rawInt i] }
def ZDC (h:Heap) (a l:Addr) (i:Int):Prop:=∃ o,h.get? a=some o/\o.cls=.type "reversed" /\ o.data=.fields #[.ref l,rawInt i]
theorem ZDC.typeIs {s:Shared}{a l:Addr}{i:Int}(x:ZDC s.heap a l i):s.TypeIs (.ref a) "reversed" := let ⟨o,ho,hc,_⟩:=x;⟨o,ho,hc⟩
theorem ZDC.at {h h':Heap}{a l:Addr}{i:Int}(x:ZDC h a l i) (e:∀ o,h.get? a=some o->h'.get? a=some o):ZDC h' a l i:=let ⟨o,ho,r⟩:=x;⟨o,e _ ho,r⟩
theorem ZKw (l:Addr) (items:Array Value) (hfit:(items.size:Int) < 2 ^ 63) :
  Meets (Builtin.«reversed.__new__» ⟨[.type "reversed", .ref l],[]⟩) (fun _ R s=>IsTup s.heap l items/\
   R (.ok (.ret (.ref s.heap.objs.size))) { s with heap:=s.heap.push (ZV2 l ((items.size:Int) - 1)),toks:=s.toks+1+1 }):=
 .of_wp fun prog w A R s h=>by
  obtain ⟨hl,h⟩:=h
  unfold Builtin.«reversed.__new__»
  refine wpAny_bind (wpAny_of_eq (newClass_reversed _) ?_)
  try dsimp only
  refine wpAny_bind (wpAny_of_eq (a:=()) (by first | rfl | kernel_rfl) ?_)
  refine wpAny_bind (wpAny_of_eq (a:=()) (by first | rfl | kernel_rfl) ?_)
  try dsimp only
  refine wpAny_bind (wpAny_specialOf hl.typeIs ZP9 ?_)
  try dsimp only
  refine wpAny_bind ?_
  wp_delta
  refine wpAny_bind (wpAny_isInstance (b:=false) hl.typeIs ZLd ?_)
  rw [if_neg (by decide)]
  refine wpAny_bind (wpAny_specialOf hl.typeIs PyProof.Rows.slot_tuple_getitem.lookup ?_)
  dsimp only
  rw [if_pos (by decide +kernel)]
  refine wpAny_pure ?_
  rw [if_neg (by decide)]
  refine wpAny_bind (len_tuple hl hfit ?_)
  refine wpAny_bind (m:=asInt? _) (wpAny_pure ?_)
  dsimp only
  refine wpAny_bind ?_
  unfold Builtin.SmallTypes.newRecord
  dsimp only
  exact wpAny_newObj_type (wpAny_pure ⟨_,rfl,h⟩)
section
variable {prog:Program}{w:World}{A:Around}{E:Value->Shared->Prop}{s:Shared}
theorem ZLm {l:Addr}{items:Array Value}{Q:Value->Shared->Prop}(hfit:(items.size:Int) < 2 ^ 63) (hl:IsTup s.heap l items)
  (h:Q (.ref s.heap.objs.size) { s with heap:=s.heap.push (ZV2 l ((items.size:Int) - 1)),toks:=s.toks+1+1 }):wpAny (model prog w) A (call (.type "reversed") [.ref l]) Q E s:=by
 refine callType_new ZOC (by decide) (F.typeCall_reversed_1 _) (F.newCall_reversed_1 _) (fun obj=>F.args_object_init_2 obj _) F.entry_reversed_new (ZKw l items hfit) ⟨hl,?_⟩
 exact ⟨⟨_,Heap.get?_push_size _ rfl,rfl⟩,h⟩
theorem ZKq {it l:Addr}{i:Nat}{items:Array Value}{x:Value}{Q:Option Value->Shared->Prop}(hit:ZDC s.heap it l (i:Int)) (hl:IsTup s.heap l items) (hx:items[i]?=some x) (hfit:(items.size:Int) < 2 ^ 63)
  (hQ:∀ h' tk,ZDC h' it l ((i:Int) - 1)->Heap.SameBut it s.heap h'->s.toks<=tk->Q (some x) { s with heap:=h',toks:=tk }):wpAny (model prog w) A (pyNext (.ref it)) Q E s:=by
 obtain ⟨o,ho,hc,hd⟩:=id hit
 have hi:i < items.size:=(Array.getElem?_eq_some_iff.mp hx).1
 unfold pyNext
 refine wpAny_bind (wpAny_attempt (wpAny_callSpecial?_slot (name:=Str.ofString "__next__") hit.typeIs ZCR
  (wpAny_call_entry ZCR hit.typeIs ZFL ?_ (ZGG _))))
 unfold Builtin.«reversed.__next__»
 refine wpAny_bind (wpAny_of_eq (a:=(Value.ref it,[])) rfl ?_)
 try dsimp only
 refine wpAny_bind (wpAny_field ho hd (x:=.ref l) rfl ?_)
 refine wpAny_bind (wpAny_field ho hd (x:=rawInt (i:Int)) rfl ?_)
 show wpAny _ _ (if (i:Int) < 0 then _ else _) _ _ s
 rw [if_neg (by omega)]
 refine wpAny_bind (wpAny_specialOf hl.typeIs PyProof.Rows.slot_tuple_getitem.lookup ?_)
 rw [if_neg (by simp)]
 refine wpAny_bind (wpAny_mkInt ?_)
 have hj:seqIndex? (i:Int) items.size=some i:=by
  unfold seqIndex?;simp;omega
 refine wpAny_bind (wpAny_attempt (getItem_tuple (s:={ s with toks:=s.toks+1 }) hl (by omega) (by omega) hj hx ?_))
 dsimp only
 refine wpAny_bind (wpAny_field (s:={ s with toks:=s.toks+1 }) ho hd (x:=rawInt (i:Int)) rfl ?_)
 show wpAny _ _ (setField (.ref it) 1 (rawInt ((i:Int) - 1)) >>= _) _ _ _
 refine wpAny_bind (wpAny_setField (s:={ s with toks:=s.toks+1 }) ho hd (by simp) ?_)
 first
 | refine wpAny_pure ⟨x,rfl,wpAny_pure (hQ _ _ ?_ (Heap.SameBut.update ..) (Nat.le_succ _))⟩
 | refine wpAny_bind (wpAny_pure (wpAny_pure ⟨x,rfl,wpAny_pure (hQ _ _ ?_ (Heap.SameBut.update ..) (Nat.le_succ _))⟩))
 exact ⟨_,Heap.get?_update_self _ ho (Obj.isFreed_of_fields (Obj.data_mapFields hd _)),(Obj.cls_mapFields ..).trans hc,by
  rw [Obj.data_mapFields hd];simp⟩
theorem ZLQ {it l:Addr}{Q:Option Value->Shared->Prop}(hh:A.handled=none) (hit:ZDC s.heap it l (-1))
  (hQ:∀ h',Heap.ExtBut it s.heap h'->Q none { s with heap:=h' }):wpAny (model prog w) A (pyNext (.ref it)) Q E s:=by
 obtain ⟨o,ho,hc,hd⟩:=id hit
 unfold pyNext
 refine wpAny_bind (wpAny_attempt (wpAny_callSpecial?_slot (name:=Str.ofString "__next__") hit.typeIs ZCR
  (wpAny_call_entry ZCR hit.typeIs ZFL ?_ (ZGG _))))
 unfold Builtin.«reversed.__next__»
 refine wpAny_bind (wpAny_of_eq (a:=(Value.ref it,[])) rfl ?_)
 try dsimp only
 refine wpAny_bind (wpAny_field ho hd (x:=.ref l) rfl ?_)
 refine wpAny_bind (wpAny_field ho hd (x:=rawInt (-1)) rfl ?_)
 show wpAny _ _ (if (-1:Int) < 0 then _ else _) _ _ s
 rw [if_pos (by decide)]
 refine wpAny_bind (wpAny_rule ?_)
 refine wpAny_bind ?_
 wp_delta
 refine wpAny_bind (wpAny_setField ho hd (by simp) ?_)
 have ho2:=Heap.get?_update_self (fun ob=>Obj.mapFields (·.set! 1 (rawInt (-1))) ob) ho (Obj.isFreed_of_fields (Obj.data_mapFields hd _))
 have hd2:=Obj.data_mapFields hd (·.set! 1 (rawInt (-1)))
 refine wpAny_setField (s:={ s with heap:=_ }) ho2 hd2 (by simp) ?_
 refine wpAny_bind ?_
 show wpAny _ _ (newExc (.type "StopIteration") [] >>= _) _ _ _
 refine wpAny_bind ?_
 simp only [newExc,newTuple]
 refine wpAny_bind (wpAny_newObj_type ?_ (by size_fits))
 refine wpAny_bind (m:=firstArgMember _ _) (wpAny_of_eq (a:=Value.none) (by first | rfl | (simp only [firstArgMember];rfl)) ?_)
 refine wpAny_newObj_type ?_ (by size_fits)
 simp only [raiseNew]
 refine wpAny_bind (wpAny_handled ?_)
 first | rw [show A.in1.handled=none from hh] | rw [hh]
 refine wpAny_bind (wpAny_pure (wpAny_throw ?_))
 refine wpAny_bind (wpAny_isInstance (T := "StopIteration") (b:=true) ⟨_,Heap.get?_push_size _ rfl,rfl⟩ isSubtype_stop ?_)
 refine wpAny_pure (hQ _ (fun b ob hb e=>?_))
 exact Heap.get?_push_of_some _ (Heap.get?_push_of_some _ ((Heap.get?_update_other _ _ (Ne.symm hb)).trans ((Heap.get?_update_other _ _ (Ne.symm hb)).trans e)))
theorem ZQn {it l:Addr}{i:Int}{Q:Value->Shared->Prop}(hit:ZDC s.heap it l i) (h:Q (.ref it) s):wpAny (model prog w) A (pyIter (.ref it)) Q E s:=by
 refine wpAny_pyIter_slot hit.typeIs ZGE (wpAny_call_entry ZGE hit.typeIs ZJ1 ?_ (ZKM _))
 show wpAny _ _ (ret (.ref it)) _ _ s
 exact wpAny_pure ⟨_,rfl, "reversed", _,hit.typeIs,ZCR.lookup,h⟩
end
theorem ZOd {prog:Program}{w:World}{A:Around}(hh:A.handled=none) (I l:Addr) (hne:l≠I) (items:Array Value) (hfit:(items.size:Int) < 2 ^ 63) :
  Walks prog w A I [I,l] [I] items.size (fun i v=>items[items.size - 1 - i]?=some v) (fun i h=>i<=items.size/\ZDC h I l ((items.size:Int) - 1 - (i:Int))/\IsTup h l items) where
 sub:=fun b hb=>by simp at hb;simp [hb]
 frame:=fun _ _ _ x hk=>⟨x.1,x.2.1.at fun o e=>hk I (by simp) o e,let ⟨o,ho,r⟩:=x.2.2;⟨o,hk l (by simp) o ho,r⟩⟩
 item:=fun i s Q E hi x hQ=>by
  have e:(items.size:Int) - 1 - (i:Int)=((items.size - 1 - i:Nat):Int):=by omega
  have hit:=x.2.1
  rw [e] at hit
  have hx:items[items.size - 1 - i]?=some (items[items.size - 1 - i]'(by omega)):=Array.getElem?_eq_getElem (by omega)
  refine ZKq hit x.2.2 hx hfit fun h' tk hit' hs' htk=>?_
  have e2:((items.size - 1 - i:Nat):Int) - 1=(items.size:Int) - 1 - ((i+1:Nat):Int):=by omega
  rw [e2] at hit'
  exact hQ _ h' tk hx ⟨hi,hit',x.2.2.extBut hs'.extBut hne⟩ fun b o hb eo=>hs'.extBut b o (fun h=>hb (by simp [h])) eo
 done:=fun s Q E x hQ=>by
  have e:(items.size:Int) - 1 - (items.size:Int)=-1:=by omega
  have hit:=x.2.1
  rw [e] at hit
  exact ZLQ hh hit fun h' he'=>hQ h' s.toks fun b o hb eo=>he' b o (fun h=>hb (by simp [h])) eo
 self:=fun _ _ _ _ x hQ=>ZQn x.2.1 hQ
end L2
namespace L2
section
variable {prog:Program}{w:World}{A:Around}{E:Value->Shared->Prop}{s:Shared}
theorem ZKQ {it l:Addr}{items:Array Value}{Q:Value->Shared->Prop}(hit:ZDC s.heap it l ((items.size:Int) - 1)) (hl:IsTup s.heap l items) (hfit:(items.size:Int) < 2 ^ 63)
  (h:∀ t tk,s.toks<=tk->Q (.int (items.size:Int) t) { s with toks:=tk }):wpAny (model prog w) A (call (.builtin "reversed.__length_hint__") [.ref it]) Q E s:=by
 obtain ⟨o,ho,hc,hd⟩:=id hit
 refine wpAny_call_entry ZGI hit.typeIs ZIw ?_ (ZJx _)
 unfold Builtin.«reversed.__length_hint__»
 refine wpAny_bind (wpAny_of_eq (a:=Value.ref it) rfl ?_)
 refine wpAny_bind (wpAny_field ho hd (x:=.ref l) rfl ?_)
 rw [if_neg (show ¬ ((Value.ref l == Value.none)=true) from Bool.false_ne_true)]
 refine wpAny_bind (len_tuple hl hfit ?_)
 refine wpAny_bind (m:=asInt? _) (wpAny_pure ?_)
 dsimp only
 refine wpAny_bind (wpAny_field (s:={ s with toks:=_ }) ho hd (x:=rawInt ((items.size:Int) - 1)) rfl ?_)
 show wpAny _ _ (if (items.size:Int) < ((items.size:Int) - 1)+1 then _ else _) _ _ _
 rw [if_neg (by omega)]
 show wpAny _ _ (retInt (((items.size:Int) - 1)+1)) _ _ _
 have e:((items.size:Int) - 1)+1=items.size:=by omega
 rw [e]
 exact wpAny_bind (wpAny_mkInt (wpAny_pure ⟨_,rfl,h _ _ (by show s.toks<=s.toks+1+1+1;omega)⟩))
end
section
variable {prog:Program}{w:World}{A:Around}{s:Shared}{R:Result->Shared->Prop}
variable {I:Addr}{l:Addr}{items:Array Value}
theorem ZO5 (hh:A.handled=none) (hne:l≠I) (hz:items.size<=sizeLine) (S:Addr) (res:Value) (c₀:Nat) (hit:ZDC s.heap I l ((items.size:Int) - 1)) (hl:IsTup s.heap l items) (hSI:S≠I) (hSl:S≠l)
  (hS:s.heap.get? S=some { cls:=.type "list", data:=.seq #[] c₀ })
  (hR:∀ s' acc' c',Moved [S,I] (fun a b=>b=a) s s'->s'.heap.get? S=some { cls:=.type "list", dict:=none,data:=.seq acc' c',slots:=#[] }->ItemsOf (fun i v=>items[items.size - 1 - i]?=some v) acc' items.size->R (.ok (.ret res)) s') :
  wpAny (model prog w) A.in1 (Builtin.List.listExtendWith (.ref S) (.ref I) res)
   (fun fin s'=>match fin with | .done f=>R (.ok f) s' | .again c'=>c'.quiet=true/\codeAny (model prog w) A c' R s') (fun e s'=>R (.error e) s') s:=by
 have hfit:(items.size:Int) < 2 ^ 63:=by
  have h1:=ZFN
  have h3:((sizeLine:Nat):Int) < 2 ^ 63:=by exact_mod_cast h1
  omega
 have W:=(ZOd (prog:=prog) (w:=w) (A:=A.in1) hh I l hne items hfit).toS
 have hst:(fun (i:Nat) (s:Shared)=>i<=items.size/\ZDC s.heap I l ((items.size:Int) - 1 - (i:Int))/\IsTup s.heap l items) 0 s:=⟨Nat.zero_le _,by simpa using hit,hl⟩
 have hSf:S∉[I,l]:=by simp [hSI,hSl]
 unfold Builtin.List.listExtendWith
 refine wpAny_bind (wpAny_typeOf hit.typeIs ?_)
 have h1:Builtin.List.listSameRef (.ref S) (.ref I)=false:=by simp [Builtin.List.listSameRef,hSI]
 rw [if_neg (by rw [h1];decide)]
 refine wpAny_bind (W.self 0 _ _ _ hst ?_)
 refine wpAny_bind (wpAny_holding ?_)
 unfold Builtin.List.listLengthHint
 refine wpAny_bind (wpAny_specialOf hit.typeIs ZP6 ?_)
 show wpAny _ A.in1 (specialOf (Value.ref I) (Str.ofString "__length_hint__") >>= _) _ _ _
 refine wpAny_bind (wpAny_specialOf hit.typeIs ZRi ?_)
 generalize hid:("reversed.__length_hint__" : String)=id0
 wp_delta
 rw [show splitId id0=some ("reversed", "__length_hint__") from by subst hid;decide +kernel]
 subst hid
 refine wpAny_bind (wpAny_isInstance (b:=true) hit.typeIs (by rw [isSubtype_type];kernel_rfl) ?_)
 rw [if_neg (by decide)]
 refine wpAny_ite_split (fun hab=>absurd hab (by decide +kernel)) (fun _=>?_)
 refine wpAny_bind (wpAny_rule ?_)
 refine wpAny_bind (wpAny_of_eq (ZGI.bind _) ?_)
 dsimp only
 refine wpAny_bind (wpAny_attempt (ZKQ hit hl hfit fun t tk htk=>?_))
 dsimp only
 have ea:asInt? (Value.int (items.size:Int) t)=pure (some (items.size:Int)):=rfl
 rw [ea,pure_bind]
 dsimp only
 have htl:Builtin.List.listTooLong ((items.size:Int).toNat)=false:=by
  simp [Builtin.List.listTooLong];exact hz
 have hfi:Builtin.List.listFitsIndex (items.size:Int)=true:=by
  unfold Builtin.List.listFitsIndex
  rw [Bool.and_eq_true]
  exact ⟨decide_eq_true (by omega),decide_eq_true hfit⟩
 rw [if_neg (by rw [hfi];decide),if_neg (by omega),if_neg (by rw [htl];decide)]
 refine wpAny_pure ?_
 have key:∀ (h:Heap) (c₁:Nat),(∀ b o,b≠S->s.heap.get? b=some o->h.get? b=some o)->h.get? S=some { cls:=.type "list", data:=.seq #[] c₁ }->
   codeAny (model prog w) A (.builtin "list.extend.loop" ⟨[.ref S,.ref I,res],[]⟩) R { s with heap:=h,toks:=tk }:=by
  intro h c₁ hk hS₁
  refine codeAny_extend_loopS W hz S hSf res items.size 0 _ #[] c₁ rfl (Nat.zero_le _) ⟨Nat.zero_le _,?_,?_⟩ hS₁ (ItemsOf.nil _) fun s' acc' c' hm hS' hacc=>?_
  ·have:=hit.at fun o e=>hk I o (Ne.symm hSI) e
   simpa using this
  ·obtain ⟨o,ho,r⟩:=hl
   exact ⟨o,hk l o (Ne.symm hSl) ho,r⟩
  ·exact hR s' acc' c' ⟨fun b o hb e=>hm.heap b o hb (hk b o (fun z=>hb (by simp [z])) e),hm.gens,hm.drawn,hm.os,Nat.le_trans htk hm.toks⟩ hS' hacc
 refine wpAny_ite_split (fun _=>?_) (fun _=>wpAny_pure ⟨plainId_quiet F.plain_extend_loop _,key _ c₀ (fun b o _ e=>e) hS⟩)
 refine wpAny_bind (wpAny_rule ?_)
 refine wpAny_bind ?_
 show wpAny _ _ (updateSeq S (·.push .none) >>= fun _=>updateSeq S (·.pop)) _ _ _
 have z0:(#[]:Array Value).size<=sizeLine:=Nat.zero_le _
 have z1:((#[]:Array Value).push Value.none).size<=sizeLine:=by show 1<=sizeLine;decide
 have z2:((#[]:Array Value).push Value.none).size<=sizeLine+1:=Nat.le_succ_of_le z1
 have z3:(((#[]:Array Value).push Value.none).pop).size<=sizeLine+1:=Nat.zero_le _
 refine wpAny_bind (wpAny_updateSeq (s:={ s with toks:=tk }) hS rfl ?_ z0 z2)
 have hS₂:=Heap.get?_update_self (Obj.mapSeq (·.push Value.none)) hS rfl
 refine wpAny_updateSeq hS₂ rfl ?_ z1 z3
 have hS₃:=Heap.get?_update_self (Obj.mapSeq (·.pop)) hS₂ rfl
 refine wpAny_pure ⟨plainId_quiet F.plain_extend_loop _,key _ _ (fun b o hb e=>?_) hS₃⟩
 exact (Heap.get?_update_other _ _ (Ne.symm hb)).trans ((Heap.get?_update_other _ _ (Ne.symm hb)).trans e)
theorem ZKG (hh:A.handled=none) (hne:l≠I) (hz:items.size<=sizeLine) (S:Addr) (hit:ZDC s.heap I l ((items.size:Int) - 1)) (hl:IsTup s.heap l items) (hSI:S≠I) (hSl:S≠l)
  (hS:s.heap.get? S=some { cls:=.type "list", data:=.seq #[] })
  (hR:∀ s' acc' c',Moved [S,I] (fun a b=>b=a) s s'->s'.heap.get? S=some { cls:=.type "list", dict:=none,data:=.seq acc' c',slots:=#[] }->ItemsOf (fun i v=>items[items.size - 1 - i]?=some v) acc' items.size->R (.ok (.ret .none)) s') :
  wpAny (model prog w) A.in1 (Builtin.«list.__init__» ⟨[.ref S,.ref I],[]⟩)
   (fun fin s'=>match fin with | .done f=>R (.ok f) s' | .again c'=>c'.quiet=true/\codeAny (model prog w) A c' R s') (fun e s'=>R (.error e) s') s:=by
 show wpAny _ A.in1 (do let old <- Builtin.List.listItems (.ref S);Builtin.List.listUpdate (.ref S) (fun _=>#[]);letGo old.toList.reverse;Builtin.List.listExtendWith (.ref S) (.ref I) .none) _ _ s
 refine wpAny_bind ?_
 unfold Builtin.List.listItems
 refine wpAny_bind (wpAny_seqItems hS rfl (wpAny_pure ?_))
 show wpAny _ A.in1 (updateSeq S (fun _=>#[]) >>= fun _=>letGo (#[]:Array Value).toList.reverse >>= fun _=>Builtin.List.listExtendWith (.ref S) (.ref I) .none) _ _ s
 refine wpAny_bind (wpAny_updateSeq hS rfl ?_)
 have hS₂:=Heap.get?_update_self (Obj.mapSeq (fun _=>(#[]:Array Value))) hS rfl
 have oth:∀ b o,b≠S->s.heap.get? b=some o->(s.heap.update S (Obj.mapSeq (fun _=>(#[]:Array Value)))).get? b=some o:=
  fun b o hb e=>(Heap.get?_update_other _ _ (Ne.symm hb)).trans e
 refine wpAny_bind (wpAny_letGo ?_)
 refine ZO5 hh hne hz S .none _ (hit.at fun o e=>oth I o (Ne.symm hSI) e) (let ⟨o,ho,r⟩:=hl;⟨o,oth l o (Ne.symm hSl) ho,r⟩) hSI hSl hS₂ fun s' acc' c' hm hS' hacc=>?_
 exact hR s' acc' c' ⟨fun b o hb e=>hm.heap b o hb (oth b o (fun z=>hb (by simp [z])) e),hm.gens,hm.drawn,hm.os,hm.toks⟩ hS' hacc
end
section
variable {prog:Program}{w:World}{A:Around}{E:Value->Shared->Prop}{s:Shared}
theorem ZIy {I l:Addr}{items:Array Value}{Q:Value->Shared->Prop}(hh:A.handled=none) (hne:l≠I) (hz:items.size<=sizeLine) (hit:ZDC s.heap I l ((items.size:Int) - 1)) (hl:IsTup s.heap l items)
  (hQ:∀ s' acc' c',Moved [s.heap.objs.size,I] (fun a b=>b=a) { s with heap:=s.heap.push { cls:=.type "list", data:=.seq #[] } } s'->
   s'.heap.get? s.heap.objs.size=some { cls:=.type "list", dict:=none,data:=.seq acc' c',slots:=#[] }->ItemsOf (fun i v=>items[items.size - 1 - i]?=some v) acc' items.size->Q (.ref s.heap.objs.size) s') :
  wpAny (model prog w) A (call (.type "list") [.ref I]) Q E s:=by
 have hSI:s.heap.objs.size≠I:=by obtain ⟨o,ho,_⟩:=hit;exact Nat.ne_of_gt (Heap.lt_size ho)
 have hSl:s.heap.objs.size≠l:=Nat.ne_of_gt hl.lt
 refine callType_codes (Q₁:=fun obj s₁=>obj=.ref s.heap.objs.size/\s₁={ s with heap:=s.heap.push { cls:=.type "list", data:=.seq #[] } }) F.called_list (F.typeCall_list_1 _) F.entry_list_init
  (code_list_new _ ⟨rfl,rfl⟩) fun obj s₁ h₁=>?_
 obtain ⟨rfl,rfl⟩:=h₁
 have hS:(s.heap.push { cls:=.type "list", data:=.seq #[] }).get? s.heap.objs.size=some { cls:=.type "list", data:=.seq #[] }:=Heap.get?_push_size _ rfl
 refine ⟨⟨_,hS,rfl⟩,F.args_list_init_2 _ _,ZKG (A:=A.in1) hh hne hz _ (hit.at fun o e=>Heap.get?_push_of_some _ e) (hl.push _) hSI hSl hS fun s' acc' c' hm hS' hacc=>?_⟩
 exact ⟨rfl,hQ s' acc' c' hm hS' hacc⟩
end
end L2
namespace HT
open PySem PyProof.Rows
section
variable {prog:Program}{w:World}{A:Around}{E:Value->Shared->Prop}{s:Shared}
theorem ZGZ {t sl:Addr}{items:Array Value}{vl vu:Value}{lo hi:Option Int}{Q:Value->Shared->Prop}(ht:IsTup s.heap t items) (hs:s.heap.IsSliceOf sl vl vu .none) (pl:IsPart vl lo) (pu:IsPart vu hi)
  (hw:sIx items.size 0 lo=0/\sIx items.size items.size hi=items.size) (h:Q (.ref t) s):wpAny (model prog w) A (getItem (.ref t) (.ref sl)) Q E s:=by
 obtain ⟨os,hos,hcs,hds⟩:=id hs
 have hTs:s.TypeIs (.ref sl) "slice" := ⟨os,hos,hcs⟩
 unfold getItem
 try with_reducible refine wpAny_holding ?_
 first | refine wpAny_bind (wpAny_pure ?_) | skip
 refine wpAny_bind (wpAny_sequenceKey ht.typeIs (by decide) ?_)
 refine wpAny_bind (wpAny_callSpecial?_slot (name:=Str.ofString "__getitem__") ht.typeIs PyProof.Rows.slot_tuple_getitem
  (wpAny_call_entry PyProof.Rows.slot_tuple_getitem ht.typeIs entry_tuple_getitem ?_ (args_tuple_getitem _ _)))
 show wpAny _ _ (Builtin.Tuple.tupleItemsOf (.ref t) >>= _) _ _ s
 refine wpAny_bind (tupleItemsOf_ ht ?_)
 refine wpAny_bind (wpAny_typeOf hTs ?_)
 rw [if_pos (by decide)]
 refine wpAny_bind (ZEP hs pl pu ?_)
 have hyes:((((sIx items.size 0 lo:Nat):Int) == 0 && (1:Int) == 1 && (sIx items.size items.size hi - sIx items.size 0 lo) == items.size)=true):=by
  rw [hw.1,hw.2];simp
 first
 | rw [if_pos hyes]
 | simp only [hyes,if_true]
 refine wpAny_bind ?_
 unfold Builtin.Tuple.tupleIsExact
 refine wpAny_bind (wpAny_typeOf ht.typeIs (wpAny_pure ?_))
 rw [if_pos (by decide)]
 exact wpAny_bind (wpAny_rule (wpAny_pure ⟨_,rfl,wpAny_pure h⟩))
end
end HT
namespace L2
section
variable {X:Cx}
def ZXJ (K:PySem.W.Frag):V->Option Int->Option Int->Hp->VK->Prop:=fun x lo hi H Q=>∃ a xs,x=.ref a/\SqT K H a xs/\
 ((HT.sIx xs.length 0 lo=0/\HT.sIx xs.length xs.length hi=xs.length)->Q (.ref a) H)/\(¬ (HT.sIx xs.length 0 lo=0/\HT.sIx xs.length xs.length hi=xs.length)->∀ p,H p=none->Q (.ref p) (upd H p (.tup (ZHA xs lo hi))))
theorem ZSj:SlR X (ZXJ X.K):=by
 intro pins s σ H x v vl vu lo hi sl Q I rx hs pl pu h
 obtain ⟨a,xs,rfl,hx,q1,q2⟩:=h
 by_cases hw:HT.sIx xs.length 0 lo=0/\HT.sIx xs.length xs.length hi=xs.length
 ·cases rx
  obtain ⟨its,r,ht,hz⟩:=I.tuple hx
  have hlen:its.toArray.size=xs.length:=by rw [List.size_toArray];exact r.length.symm
  refine ⟨"tuple", _,PyProof.Rows.slot_tuple_getitem.lookup,ht.typeIs,?_⟩
  exact HT.ZGZ ht hs pl pu (by rw [hlen];exact hw) ⟨.ref a,H,I,rfl,q1 hw⟩
 ·exact ZSS pins s σ H _ v vl vu lo hi sl Q I rx hs pl pu ⟨a,xs,rfl,hx,hw,q2 hw⟩
end
end L2
namespace L2
section
variable {X:Cx}
theorem ZS5 {ys:List V}{its:List Value}(r:Vals ys its){acc:Array Value}(h:ItemsOf (fun i v=>its.toArray[its.toArray.size - 1 - i]?=some v) acc its.toArray.size):∃ us:List Value,Vals ys.reverse us/\acc=us.toArray:=by
 have e:acc=its.reverse.toArray:=by
  apply Array.toList_inj.mp
  rw [List.toList_toArray]
  apply List.ext_getElem?
  intro i
  have hs:acc.size=its.length:=by rw [h.1];simp
  by_cases hi:i < its.length
  ·have h1:acc.toList[i]?=some (acc[i]'(by omega)):=by simp
   have h2:=h.2 i (acc[i]'(by omega)) (by simp)
   rw [h1,List.getElem?_reverse hi]
   simp at h2
   rw [<- h2]
  ·have h1:acc.toList[i]?=none:=List.getElem?_eq_none (by simp;omega)
   have h2:its.reverse[i]?=none:=List.getElem?_eq_none (by simp;omega)
   rw [h1,h2]
 exact ⟨its.reverse,r.reverse,e⟩
def ZWN (K:PySem.W.Frag) (t:TA):TE:=fun σ H Q=>t σ H fun vs H1=>∃ a tp ys,vs=[.ref a]/\SqB K tp H1 a ys/\∀ l,H1 l=none->Q (.ref l) (upd H1 l (.lst ys.reverse))
theorem ZUt {p1 p2 pos1 pos2:Pos}{e:Expr}{t:TA}(hc:X.calm=true) (hg1:Gl X "list") (hm1:X.mg "list" = none) (hg2:Gl X "reversed") (hm2:X.mg "reversed" = none) (ha:PA X [e] t)
  (he:starEach [e] X.env=[(false,eval e X.env)]:=by rfl) (he2:starEach [.Call (.Name "reversed" p2) [e] [] pos2] X.env=[(false,eval (.Call (.Name "reversed" p2) [e] [] pos2) X.env)]:=by rfl) :
  PE X (.Call (.Name "list" p1) [.Call (.Name "reversed" p2) [e] [] pos2] [] pos1) (ZWN X.K t):=by
 intro pins s σ H Q I h
 refine wpAny_Call_Name_kw (ZJT I hg1 hm1 (show bootBuiltins "list" = some (.type "list") by decide +kernel) ?_ (by decide) (by decide))
 refine PyProof.Rows.callWith_type1 ?_ he2 rfl
 rw [he2]
 show wpAny _ _ (spliced ((false,eval (.Call (.Name "reversed" p2) [e] [] pos2) X.env) :: [])) _ _ s
 refine Calls.spliced_cons ?_
 refine wpAny_Call_Name_kw (ZJT I hg2 hm2 (show bootBuiltins "reversed" = some (.type "reversed") by decide +kernel) ?_ (by decide) (by decide))
 refine PyProof.Rows.callWith_type1 (thn (ha pos2 pins s σ H _ I h) fun us s1 ⟨vs,H1,I1,r1,q1⟩=>?_) he rfl
 obtain ⟨a,tp,ys,rfl,hq,q⟩:=q1
 obtain ⟨u,rfl,rx⟩:=vals1 r1
 cases rx
 have fin:∀ (its:List Value) (D:Addr) (s2 s':Shared) (acc:Array Value) (c:Nat) (tk:Nat) (ob:Obj),Vals ys its->ys.length<=sizeLine->D=s1.heap.objs.size->s2={ s1 with heap:=s1.heap.push ob,toks:=tk }->
   Moved [s2.heap.objs.size,D] (fun a b=>b=a) { s2 with heap:=s2.heap.push { cls:=.type "list", data:=.seq #[] } } s'->s'.heap.get? s2.heap.objs.size=some { cls:=.type "list", dict:=none,data:=.seq acc c,slots:=#[] }->
   ItemsOf (fun i v=>its.toArray[its.toArray.size - 1 - i]?=some v) acc its.toArray.size->EP X pins σ Q (.ref s2.heap.objs.size) s':=by
  intro its D s2 s' acc c tk ob r hz eD e2 hm hS hacc
  subst eD;subst e2
  obtain ⟨us,rv,rfl⟩:=ZS5 r hacc
  obtain ⟨h',g',d',tk',os'⟩:=s'
  have eg:g'=s1.gens:=hm.gens
  have ed:d'=s1.drawn:=hm.drawn
  have eo:os'=s1.os:=hm.os
  subst eg;subst ed;subst eo
  have hsz:(s1.heap.push ob).objs.size=s1.heap.objs.size+1:=Heap.size_push ..
  have kp:∀ b o,s1.heap.get? b=some o->h'.get? b=some o:=fun b o e=>by
   have hb:=Heap.lt_size e
   refine hm.heap b o ?_ (Heap.get?_push_of_some _ (Heap.get?_push_of_some _ e))
   show b∉[(s1.heap.push ob).objs.size,s1.heap.objs.size]
   rw [hsz]
   simp only [List.mem_cons,List.not_mem_nil,or_false,not_or]
   exact ⟨Nat.ne_of_lt (Nat.lt_succ_of_lt hb),Nat.ne_of_lt hb⟩
  refine ⟨.ref _,_,I1.laid (a:=(s1.heap.push ob).objs.size) (t':=tk') kp (by rw [hsz];exact Nat.le_succ _) (show ZCr X.prog X.w _ h' _ (.lst ys.reverse) from ⟨by rw [List.length_reverse];exact hz,us,c,rv,hS⟩),rfl,q _ (I1.hok.fresh (by show _<=_;rw [hsz];exact Nat.le_succ _))⟩
 have hh:X.A.handled=none:=I1.ok.hd hc
 cases tp with
 | false=>
  obtain ⟨its,r,pl,hz⟩:=I1.list hq
  have hlen:=r.length
  refine call_reversed_list pl.isList ?_
  refine Calls.spliced_nil ?_
  obtain ⟨o,n,ho,_⟩:=id pl
  have hlt:=Heap.lt_size ho
  have hne:a≠s1.heap.objs.size:=Nat.ne_of_lt hlt
  have hst:0<=its.toArray.size/\Heap.IsRevIter (s1.heap.push (revObj a ((its.toArray.size:Int) - 1))) s1.heap.objs.size a ((its.toArray.size:Int) - 1 - ((0:Nat):Int))/\Heap.IsList (s1.heap.push (revObj a ((its.toArray.size:Int) - 1))) a its.toArray:=
   ⟨Nat.zero_le _,⟨_,Heap.get?_push_size _ rfl,rfl,by simp [revObj]⟩,pl.isList.push _⟩
  refine ZKj (I:=s1.heap.objs.size) (s:={ s1 with heap:=s1.heap.push (revObj a ((its.toArray.size:Int) - 1)) }) (Walks.listRev (prog:=X.prog) (w:=X.w) (A:=X.A.in1.in1) hh s1.heap.objs.size a hne its.toArray).toS (fun i s st=>st.2.1.typeIs) hst ?_ (by simp) ?_ (by simp;omega)
  ·intro b hb
   show b < (s1.heap.push _).objs.size
   rw [Heap.size_push]
   rcases List.mem_cons.mp hb with h | h
   ·rw [h];exact Nat.lt_succ_self _
   ·have:b=a:=by simpa using h
    rw [this];exact Nat.lt_succ_of_lt hlt
  ·intro s' acc c hm hS hacc
   exact fin its s1.heap.objs.size { s1 with heap:=s1.heap.push (revObj a ((its.toArray.size:Int) - 1)) } s' acc c s1.toks (revObj a ((its.toArray.size:Int) - 1)) r hz rfl rfl hm hS hacc
 | true=>
  obtain ⟨its,r,pl,hz⟩:=I1.tuple hq
  have hlen:=r.length
  have hn:=ZFN
  have hfit:(its.toArray.size:Int) < 2 ^ 63:=by simp only [List.size_toArray];omega
  refine ZLm hfit pl ?_
  refine Calls.spliced_nil ?_
  have hne:a≠s1.heap.objs.size:=Nat.ne_of_lt pl.lt
  refine ZIy (I:=s1.heap.objs.size) (s:={ s1 with heap:=s1.heap.push (ZV2 a ((its.toArray.size:Int) - 1)),toks:=s1.toks+1+1 }) hh hne (by simp;omega) ⟨_,Heap.get?_push_size _ rfl,rfl,rfl⟩ (pl.push _) ?_
  intro s' acc c hm hS hacc
  exact fin its s1.heap.objs.size { s1 with heap:=s1.heap.push (ZV2 a ((its.toArray.size:Int) - 1)),toks:=s1.toks+1+1 } s' acc c (s1.toks+1+1) (ZV2 a ((its.toArray.size:Int) - 1)) r hz rfl rfl hm hS hacc
theorem ZSd {p1 p2 pos1 pos2:Pos}{e:Expr}{t:TA}(hc:X.calm=true) (hg1:Gl X "list") (hm1:X.mg "list" = none) (hg2:Gl X "reversed") (hm2:X.mg "reversed" = none) (ha:QA X [e] t)
  (he:starEach [e] X.env=[(false,eval e X.env)]:=by rfl) (he2:starEach [.Call (.Name "reversed" p2) [e] [] pos2] X.env=[(false,eval (.Call (.Name "reversed" p2) [e] [] pos2) X.env)]:=by rfl) :
  QE X (.Call (.Name "list" p1) [.Call (.Name "reversed" p2) [e] [] pos2] [] pos1) (ZWN X.K t):=⟨ZUt hc hg1 hm1 hg2 hm2 ha.h he he2⟩
end
end L2
namespace L2
section
variable {X:Cx}
end
end L2
namespace L2
theorem ZOO (t:SetTable) (n:Nat):(t.orStandIn n).led=t.led:=by unfold SetTable.orStandIn;split <;> rfl
theorem ZPs (t:SetTable) (es:Array (Int×Value)) (h:Int) (x:Value):(layNew t es h x).2.1.led=t.led:=by
 unfold layNew
 split
 ·show (SetTable.orStandIn (t.put _).1 _).led=t.led
  rw [ZOO];rfl
 ·rfl
theorem ZTw {mask finger moves:Nat}{led plain:Bool}{hs:Array Int}{p:SetTable×Array Nat}(h:SetTable.laid mask finger moves led plain hs=some p):p.1.led=led/\p.1.plain=plain:=by
 unfold SetTable.laid at h
 cases hc:SetTable.layClean mask hs with
 | none=>rw [hc] at h;cases h
 | some ow=>rw [hc] at h;cases h;exact ⟨rfl,rfl⟩
theorem ZRR (t:SetTable) (es:Array (Int×Value)) (n:Nat) (hp:t.plain=false):(relayAll t es n).2.1.led=t.led/\(relayAll t es n).2.1.plain=false:=by
 unfold relayAll
 split
 ·next t' order hr=>
  have q:=ZTw (p:=(t',order)) hr
  dsimp only at q ⊢
  split
  ·exact ⟨q.1,q.2.trans hp⟩
  ·exact ⟨rfl,rfl⟩
 ·exact ⟨rfl,rfl⟩
def byT (w:World):Bool:=w.params.followText "set-order"
def ZIi (prog:Program) (w:World) (h:Heap) (a:Addr) (S:Str->Bool) (n:Nat):Prop:=
 ∃ o es ep t,h.get? a=some o/\o.ExactSet/\o.data=.set es ep t/\ElemsOf (PySem.strKind prog w) es.toList/\(∀ k,S k=true↔∃ e∈es.toList,(PySem.strKind prog w).is k e.2=true)/\
  es.size < scanBound/\t.fits es.size=true/\es.size=n/\(t.led=!byT w)/\(0 < es.size->t.plain=false)
theorem ZIi.keep {prog:Program}{w:World}{h h':Heap}{a:Addr}{S:Str->Bool}{n:Nat}(x:ZIi prog w h a S n) (k:∀ o,h.get? a=some o->h'.get? a=some o):ZIi prog w h' a S n:=by
 obtain ⟨o,es,ep,t,ho,r⟩:=x
 exact ⟨o,es,ep,t,k o ho,r⟩
theorem ZIi.congr {prog:Program}{w:World}{h:Heap}{a:Addr}{S S':Str->Bool}{n n':Nat}(x:ZIi prog w h a S n) (e:∀ k,S k=S' k) (en:n=n'):ZIi prog w h a S' n':=by
 obtain ⟨o,es,ep,t,h1,h2,h3,h4,h5,h6,h7,h8,h9⟩:=x
 exact ⟨o,es,ep,t,h1,h2,h3,h4,fun k=>by rw [<- e k];exact h5 k,h6,h7,h8.trans en,h9⟩
section
variable {prog:Program}{w:World}{A:Around}{E:Value->Shared->Prop}{s:Shared}
theorem ZSX {h:Heap}{a:Addr}{o:Obj}{es:Array (Int×Value)}{ep:Nat}{t:SetTable}(ho:h.get? a=some o) (hd:o.data=.set es ep t) (es':Array (Int×Value)) (t':SetTable) :
  (h.update a (Obj.putSet es' t')).get? a=some { o with data:=.set es' (ep+1) t' }:=by
 have q:=Heap.get?_update_self (Obj.putSet es' t') ho (by rw [putSet_of es' t' hd];rfl)
 rw [q,putSet_of es' t' hd]
theorem ZIi.put {a:Addr}{S:Str->Bool}{n:Nat}{k:Str}{tk:Tok}{Q:Bool->Shared->Prop}(hS:ZIi prog w s.heap a S n) (hroom:n+1 < scanBound)
  (h:∀ h',Heap.SameBut a s.heap h'->ZIi prog w h' a (fun k'=>S k' || decide (k'=k)) (if S k then n else n+1)->Q (!S k) { s with heap:=h' }) :
  wpAny (model prog w) A (setAddHashed a (.str k tk) ((PySem.strKind prog w).hash k)) Q E s:=by
 obtain ⟨o,es,ep,t,ho,hex,hd,hel,hmem,hb,hf,hn,hled,hpl⟩:=hS
 have hkey:(PySem.strKind prog w).is k (.str k tk)=true:=PySem.strKind_is prog w k tk
 have hsc:(Value.str k tk).scannable=true:=rfl
 have rm:es.size+1 < scanBound:=by rw [hn];exact hroom
 have gw:∀ (b:Bool) (s1:Shared) (Q1:Unit->Shared->Prop),Q1 () s1->wpAny (model prog w) A (match b with | true=>rule "set.scan.the-table-gave-way" | false=>pure ()) Q1 E s1:=by
  intro b s1 Q1 q;cases b
  ·exact wpAny_pure q
  ·exact wpAny_rule q
 unfold setAddHashed setAddHashedIn
 refine wpAny_holding ?_
 refine wpAny_bind (wpAny_setState_of ho hd hf ?_)
 dsimp only
 rw [byScan_of hsc hb hel]
 simp only [↓reduceIte]
 unfold setAddByScan
 refine wpAny_bind ?_
 refine wpAny_bind (wpAny_rule ?_)
 refine wpAny_bind (wpAny_setScan_of hkey ho hd hf hel ?_)
 cases hr:List.findIdx? (fun e=>(PySem.strKind prog w).is k e.2) es.toList with
 | some j=>
  dsimp only
  obtain ⟨hj,hpj,_⟩:=List.findIdx?_eq_some_iff_getElem.mp hr
  have hk:S k=true:=(hmem k).mpr ⟨es.toList[j],List.getElem_mem hj,hpj⟩
  refine wpAny_pure ?_
  refine wpAny_pure ?_
  have q:=h s.heap (Heap.SameBut.refl a s.heap) ⟨o,es,ep,t,ho,hex,hd,hel,fun k'=>by
   rw [<- hmem k',Bool.or_eq_true,decide_eq_true_eq]
   exact ⟨fun z=>z.elim id fun e=>e▸hk,Or.inl⟩,hb,hf,by rw [if_pos hk];exact hn,hled,hpl⟩
  rw [hk] at q
  exact q
 | none=>
  dsimp only
  have hk:S k=false:=by
   cases e:S k with
   | false=>rfl
   | true=>
    obtain ⟨x,hx,hp⟩:=(hmem k).mp e
    have q:=List.findIdx?_eq_none_iff.mp hr x hx
    rw [hp] at q;exact Bool.noConfusion q
  have p1:=layNew_perm t es ((PySem.strKind prog w).hash k) (.str k tk)
  have f1:=layNew_fits t es ((PySem.strKind prog w).hash k) (.str k tk)
  have l1:=ZPs t es ((PySem.strKind prog w).hash k) (.str k tk)
  generalize layNew t es ((PySem.strKind prog w).hash k) (.str k tk)=L at p1 f1 l1 ⊢
  obtain ⟨es1,t1,wd,gv⟩:=L
  dsimp only at p1 f1 l1 ⊢
  rw [Array.toList_push] at p1
  have el1:ElemsOf (PySem.strKind prog w) es1.toList:=(hel.push hkey hsc).perm p1
  have m1:∀ k',(S k' || decide (k'=k))=true↔∃ e∈es1.toList,(PySem.strKind prog w).is k' e.2=true:=mem_push_iff hkey hmem p1
  have z1:es1.size=n+1:=by rw [<- Array.length_toList,p1.length_eq,List.length_append,Array.length_toList,hn];rfl
  have b1:es1.size < scanBound:=by rw [z1];exact hroom
  have fin:∀ (h':Heap) (o':Obj) (es':Array (Int×Value)) (ep':Nat) (t':SetTable),Heap.SameBut a s.heap h'->h'.get? a=some o'->o'.ExactSet->o'.data=.set es' ep' t'->es'.toList.Perm es1.toList->t'.fits es'.size=true->t'.led=t.led->t'.plain=false->
    Q true { s with heap:=h' }:=by
   intro h' o' es' ep' t' sb go xo d' pp ff ll pf
   have zz:es'.size=n+1:=by rw [<- z1,<- Array.length_toList,pp.length_eq,Array.length_toList]
   have q:=h h' sb ⟨o',es',ep',t',go,xo,d',el1.perm pp,fun k'=>(m1 k').trans ⟨fun ⟨e,he,q⟩=>⟨e,pp.mem_iff.mpr he,q⟩,fun ⟨e,he,q⟩=>⟨e,pp.mem_iff.mp he,q⟩⟩,by rw [zz];exact hroom,ff,by rw [hk];exact zz,ll.trans hled,fun _=>pf⟩
   rw [hk] at q
   exact q
  have tail:∀ (t2:SetTable),t2.fits es1.size=true->t2.led=t.led->t2.plain=false->wpAny (model prog w) A (do
    storeSet a es1 t2
    if (
      !wd && t2.tooFull)=true then do
      (match (relayAll t2 es1 (SetTable.grown es1.size)).2.2 with | true=>rule "set.scan.the-table-gave-way" | false=>pure ())
      storeSet a (relayAll t2 es1 (SetTable.grown es1.size)).1 (relayAll t2 es1 (SetTable.grown es1.size)).2.1
      pure (some true)
     else pure (some true)) (fun r s'=>match r with | some b=>Q b s' | none=>False) E s:=by
   intro t2 f2 l2 pl2
   refine wpAny_bind (wpAny_storeSet_of ho hd ?_ (fits_of_scanBound b1))
   have o1:=ZSX ho hd es1 t2
   have sb1:=Heap.SameBut.update s.heap a (Obj.putSet es1 t2)
   split
   ·have p3:=relayAll_perm t2 es1 (SetTable.grown es1.size)
    have f3:=relayAll_fits t2 es1 (SetTable.grown es1.size)
    have l3:=ZRR t2 es1 (SetTable.grown es1.size) pl2
    generalize relayAll t2 es1 (SetTable.grown es1.size)=Rl at p3 f3 l3 ⊢
    obtain ⟨es2,t3,g3⟩:=Rl
    dsimp only at p3 f3 l3 ⊢
    have z3:es2.size=es1.size:=by rw [<- Array.length_toList,p3.length_eq,Array.length_toList]
    refine wpAny_bind (gw _ _ _ ?_)
    refine wpAny_bind (wpAny_storeSet_of o1 rfl ?_ (fits_of_scanBound (by rw [z3];exact b1)))
    refine wpAny_pure ?_
    exact fin _ _ es2 _ t3 (sb1.trans (Heap.SameBut.update _ a _)) (ZSX o1 rfl es2 t3) hex rfl p3 f3 (l3.1.trans l2) l3.2
   ·exact wpAny_pure (fin _ _ es1 _ t2 sb1 o1 hex rfl (List.Perm.refl _) f2 l2 pl2)
  refine wpAny_bind (gw _ _ _ ?_)
  split
  ·next hp1=>
   refine wpAny_bind ?_
   rw [hashByValue_scannable 8 hsc]
   refine wpAny_pure ?_
   refine wpAny_mono (tail { t1 with plain:=false } (SetTable.fits_plain_off f1) l1 rfl) (fun r s' q=>?_) fun _ _ e=>e
   cases r with
   | none=>exact q.elim
   | some b=>exact wpAny_pure q
  ·next hp1=>
   refine wpAny_bind (wpAny_pure ?_)
   simp only [↓reduceIte]
   refine wpAny_mono (tail t1 f1 l1 (by simpa using hp1)) (fun r s' q=>?_) fun _ _ e=>e
   cases r with
   | none=>exact q.elim
   | some b=>exact wpAny_pure q
end
end L2
namespace L2
theorem ZGX {α:Type}:∀ (l:List α) (i:Nat) (h:i < l.length),(l[i] :: l.eraseIdx i).Perm l
 | _ :: _,0,_=>List.Perm.refl _
 | x :: r,i+1,h=>(List.Perm.swap x (r[i]'(by simpa using h)) (r.eraseIdx i)).trans ((ZGX r i (by simpa using h)).cons x)
theorem ZTy {α:Type} (nx:Nat->Nat):∀ (n k:Nat) (l:List α) (out:Array α),l.length=n->(pickOrder.go nx n k l out).toList.Perm (out.toList++l):=by
 intro n
 induction n with
 | zero=>
  intro k l out hl
  rw [List.length_eq_zero_iff.mp hl]
  unfold pickOrder.go
  simp
 | succ n ih=>
  intro k l out hl
  have hlt:nx k % l.length < l.length:=Nat.mod_lt _ (by omega)
  unfold pickOrder.go
  rw [List.getElem?_eq_getElem hlt]
  dsimp only
  refine (ih _ _ _ (by rw [List.length_eraseIdx_of_lt hlt];omega)).trans ?_
  rw [Array.toList_push,List.append_assoc]
  exact List.Perm.append_left _ (ZGX l _ hlt)
theorem ZIs {α:Type} (nx:Nat->Nat) (xs:Array α):(pickOrder nx xs).toList.Perm xs.toList:=by
 have q:=ZTy nx xs.size 0 xs.toList #[] (by simp)
 simpa [pickOrder] using q
section
variable {prog:Program}{w:World}{A:Around}{E:Value->Shared->Prop}{s:Shared}
theorem ZOR {src:Source}{n:Nat}{Q:Nat->Shared->Prop}(hn:n≠0) (h:∀ k d,k < n->Q k { s with drawn:=d }):wpAny (model prog w) A (choose src n) Q E s:=by
 intro Γ p hΓ
 show Sem.wp _ _ (.choose src n .pure) _ _ _ _
 rw [Sem.wp_choose]
 refine ⟨hn,?_⟩
 rw [Sem.wp_pure]
 exact h _ _ (Nat.mod_lt _ (Nat.pos_of_ne_zero hn))
theorem ZIm {α:Type}:∀ (n:Nat) (xs:List α) (s:Shared) (Q:List α->Shared->Prop),xs.length<=n->(∀ ys d,ys.Perm xs->Q ys { s with drawn:=d })->wpAny (model prog w) A (drawOrder n xs) Q E s:=by
 intro n
 induction n with
 | zero=>
  intro xs s Q hl h
  rw [List.length_eq_zero_iff.mp (Nat.le_zero.mp hl)] at h ⊢
  exact wpAny_pure (h [] s.drawn (List.Perm.refl _))
 | succ n ih=>
  intro xs s Q hl h
  cases xs with
  | nil=>exact wpAny_pure (h [] s.drawn (List.Perm.refl _))
  | cons x r=>
   unfold drawOrder
   refine wpAny_bind (ZOR (by simp) fun k d hk=>?_)
   rw [List.getElem?_eq_getElem hk]
   dsimp only
   refine wpAny_bind (ih _ _ _ (by rw [List.length_eraseIdx_of_lt hk];simp only [List.length_cons] at hl ⊢;omega) fun ys d' hp=>?_)
   exact wpAny_pure (h _ d' ((hp.cons _).trans (ZGX (x :: r) _ hk)))
theorem ZJA {a:Addr}{o:Obj}{es:Array (Int×Value)}{ep:Nat}{t:SetTable}{Q:Bool->Shared->Prop}(ho:s.heap.get? a=some o) (hd:o.data=.set es ep t) (hf:t.fits es.size=true)
  (h:Q (!byT w && (!t.plain && decide (es.size > 1))) s):wpAny (model prog w) A (setDrawn a) Q E s:=by
 unfold setDrawn
 refine wpAny_bind (wpAny_setState_of ho hd hf ?_)
 dsimp only
 unfold setsByText
 refine wpAny_bind (wpAny_bind (wpAny_askSetting (wpAny_pure ?_)))
 exact wpAny_pure h
theorem ZHE {a:Addr}{o:Obj}{es:Array (Int×Value)}{ep:Nat}{t:SetTable}{sl i:Nat}{Q:Option (Value×Nat)->Shared->Prop}(hb:byT w=true) (ho:s.heap.get? a=some o) (hd:o.data=.set es ep t) (hf:t.fits es.size=true)
  (h:Q (((pickOrder (w.params.setOrder a ep) es)[i]?).map fun e=>(e.2,sl)) s):wpAny (model prog w) A (setNext a sl i ep) Q E s:=by
 have hb':w.params.followText "set-order" = true:=hb
 unfold setNext
 refine wpAny_bind (wpAny_setState_of ho hd hf ?_)
 dsimp only
 unfold setsByText
 refine wpAny_bind (wpAny_bind (wpAny_askSetting (wpAny_pure ?_)))
 show wpAny _ _ (if w.params.followText "set-order" = true then _ else _) _ _ _
 rw [if_pos hb',if_neg (by simp)]
 refine wpAny_bind ?_
 unfold setWalk setsByText
 refine wpAny_bind (wpAny_setState_of ho hd hf ?_)
 dsimp only
 refine wpAny_bind (wpAny_bind (wpAny_askSetting (wpAny_pure ?_)))
 show wpAny _ _ (if w.params.followText "set-order" = true then _ else _) _ _ _
 rw [if_pos hb']
 exact wpAny_bind (wpAny_askSetting (wpAny_pure (wpAny_pure h)))
theorem ZIZ {a:Addr}{o:Obj}{es:Array (Int×Value)}{ep:Nat}{t:SetTable}{sl i:Nat}{Q:Option (Value×Nat)->Shared->Prop}(hb:byT w=false) (ho:s.heap.get? a=some o) (hd:o.data=.set es ep t) (hf:t.fits es.size=true)
  (h1:es.size<=1) (hl:t.led=true)
  (h:Q (match es[SetTable.below t.place sl]?,t.place[SetTable.below t.place sl]? with | some (_,x),some j=>some (x,j+1) | _,_=>none) s):wpAny (model prog w) A (setNext a sl i ep) Q E s:=by
 have hb':w.params.followText "set-order" = false:=hb
 unfold setNext
 refine wpAny_bind (wpAny_setState_of ho hd hf ?_)
 dsimp only
 unfold setsByText
 refine wpAny_bind (wpAny_bind (wpAny_askSetting (wpAny_pure ?_)))
 show wpAny _ _ (if w.params.followText "set-order" = true then _ else _) _ _ _
 rw [if_neg (by rw [hb'];decide)]
 show wpAny _ _ (if (!t.plain && decide (es.size > 1))=true then _ else _) _ _ _
 rw [if_neg (by rw [decide_eq_false (by omega)];simp)]
 refine wpAny_bind (m:=_) ?_
 wp_delta
 rw [hl]
 exact wpAny_pure (wpAny_pure h)
theorem ZKV {a:Addr}{o:Obj}{es:Array (Int×Value)}{ep pl:Nat}{t:SetTable}{e:Int×Value}{Q:Value->Shared->Prop}(ho:s.heap.get? a=some o) (hd:o.data=.set es ep t) (hf:t.fits es.size=true) (he:es[pl]?=some e)
  (h:Q e.2 s):wpAny (model prog w) A (setNextDrawn a pl ep) Q E s:=by
 unfold setNextDrawn
 refine wpAny_bind (wpAny_setState_of ho hd hf ?_)
 dsimp only
 rw [if_neg (by simp),he]
 exact wpAny_pure h
end
theorem ZI2:Manifest.owners.lookup (String.ofList ['r','o','t','a','r','e','t','i','_','t','e','s'].reverse)=some Manifest.sig_set_iterator:=by kernel_rfl
theorem ZAj:Slot "set_iterator" "__next__" "set_iterator.__next__" :=
 .of (owner := "set_iterator") (n := "__next__") (by rw [typeLookup_type,builtinLookup_eq_fast];kernel_rfl) (by decide +kernel) (by decide +kernel) (by decide +kernel)
  (by first | exact .inl (by decide +kernel) | exact .inr (by decide +kernel)) (by rw [isSubtype_type];kernel_rfl)
theorem ZC5:entryFor table "set_iterator.__next__" = some Builtin.«set_iterator.__next__»:=entryFor_of_tree (by kernel_rfl)
theorem ZCT (a:Value):argsOk "set_iterator.__next__" ⟨[a],[]⟩:=by
 unfold argsOk;rw [signature?_of (id := "set_iterator.__next__") (n:=['_','_','t','x','e','n','_','_']) (o:=['r','o','t','a','r','e','t','i','_','t','e','s']) (by kernel_rfl) ZI2];kernel_rfl
theorem ZF2:Slot "set_iterator" "__iter__" "set_iterator.__iter__" :=
 .of (owner := "set_iterator") (n := "__iter__") (by rw [typeLookup_type,builtinLookup_eq_fast];kernel_rfl) (by decide +kernel) (by decide +kernel) (by decide +kernel)
  (by first | exact .inl (by decide +kernel) | exact .inr (by decide +kernel)) (by rw [isSubtype_type];kernel_rfl)
theorem ZIk (a:Value):argsOk "set_iterator.__iter__" ⟨[a],[]⟩:=by
 unfold argsOk;rw [signature?_of (id := "set_iterator.__iter__") (n:=['_','_','r','e','t','i','_','_']) (o:=['r','o','t','a','r','e','t','i','_','t','e','s']) (by kernel_rfl) ZI2];kernel_rfl
theorem ZHQ:entryFor table "set_iterator.__iter__" = some Builtin.«dict_keyiterator.__iter__»:=
 entryFor_alias (id' := "dict_keyiterator.__iter__") (by kernel_rfl) (by first | rfl | decide +kernel | (unfold String.splitOn;simp +decide [String.splitOnAux])) (by decide +kernel) (by kernel_rfl)
theorem ZI4:entryFor table "set.__iter__" = some Builtin.«frozenset.__iter__»:=
 entryFor_alias (id' := "frozenset.__iter__") (by kernel_rfl) (by first | rfl | decide +kernel | (unfold String.splitOn;simp +decide [String.splitOnAux])) (by decide +kernel) (by kernel_rfl)
def ZKx (f:Value) (i:Nat) (S:Addr) (n ep:Nat):Array Value:=#[f,rawInt (i:Int),.ref S,rawInt (n:Int),rawInt (ep:Int)]
def ZC7 (h:Heap) (I:Addr) (f:Value) (i:Nat) (S:Addr) (n ep:Nat):Prop:=∃ o,h.get? I=some o/\o.cls=.type "set_iterator" /\ o.data=.fields (ZKx f i S n ep)
theorem ZC7.typeIs {s:Shared}{I:Addr}{f:Value}{i:Nat}{S:Addr}{n ep:Nat}(x:ZC7 s.heap I f i S n ep):s.TypeIs (.ref I) "set_iterator" := let ⟨o,ho,hc,_⟩:=x;⟨o,ho,hc⟩
theorem ZC7.at {h h':Heap}{I:Addr}{f:Value}{i:Nat}{S:Addr}{n ep:Nat}(x:ZC7 h I f i S n ep) (e:∀ o,h.get? I=some o->h'.get? I=some o):ZC7 h' I f i S n ep:=let ⟨o,ho,r⟩:=x;⟨o,e _ ho,r⟩
section
variable {prog:Program}{w:World}{A:Around}{E:Value->Shared->Prop}{s:Shared}
theorem ZJK {α:Type} {Q:α->Shared->Prop}{F:Value->Shared->Prop}(hh:A.handled=none)
  (hF:∀ e h',(∀ b o,s.heap.get? b=some o->h'.get? b=some o)->(Shared.TypeIs { s with heap:=h' } e "StopIteration")->F e { s with heap:=h' }) :
  wpAny (model prog w) A (newExc (.type "StopIteration") [] >>= fun e=>raiseNew e) Q F s:=by
 refine wpAny_bind ?_
 simp only [newExc,newTuple]
 refine wpAny_bind (wpAny_newObj_type ?_ (by size_fits))
 refine wpAny_bind (m:=firstArgMember _ _) (wpAny_of_eq (a:=Value.none) (by first | rfl | (simp only [firstArgMember];rfl)) ?_)
 refine wpAny_newObj_type ?_ (by size_fits)
 simp only [raiseNew]
 refine wpAny_bind (wpAny_handled ?_)
 rw [hh]
 refine wpAny_bind (wpAny_pure (wpAny_throw ?_))
 exact hF _ _ (fun b o e=>Heap.get?_push_of_some _ (Heap.get?_push_of_some _ e)) ⟨_,Heap.get?_push_size _ rfl,rfl⟩
theorem ZLL {it S:Addr}{sl i n ep nx:Nat}{o:Obj}{es:Array (Int×Value)}{t:SetTable}{x:Value}{Q:Option Value->Shared->Prop}(hit:ZC7 s.heap it (rawInt (sl:Int)) i S n ep)
  (ho:s.heap.get? S=some o) (hd:o.data=.set es ep t) (hf:t.fits es.size=true) (hn:es.size=n)
  (hnx:∀ (A1:Around) (E1:Value->Shared->Prop) (Q1:Option (Value×Nat)->Shared->Prop),Q1 (some (x,nx)) s->wpAny (model prog w) A1 (setNext S sl i ep) Q1 E1 s)
  (hQ:∀ h',ZC7 h' it (rawInt (nx:Int)) (i+1) S n ep->Heap.SameBut it s.heap h'->Q (some x) { s with heap:=h' }):wpAny (model prog w) A (pyNext (.ref it)) Q E s:=by
 obtain ⟨oi,hoi,hc,hdi⟩:=id hit
 subst hn
 unfold pyNext
 refine wpAny_bind (wpAny_attempt (wpAny_callSpecial?_slot (name:=Str.ofString "__next__") hit.typeIs ZAj
  (wpAny_call_entry ZAj hit.typeIs ZC5 ?_ (ZCT _))))
 unfold Builtin.«set_iterator.__next__»
 refine wpAny_bind (wpAny_of_eq (a:=(Value.ref it,[])) rfl ?_)
 try dsimp only
 refine wpAny_bind (wpAny_fieldsOf hoi hdi ?_)
 show wpAny _ _ (setEntries S >>= _) _ _ s
 refine wpAny_bind (wpAny_setEntries_of ho hd hf ?_)
 rw [if_neg (by simp)]
 show wpAny _ _ (setNext S sl i ep >>= _) _ _ s
 refine wpAny_bind (hnx _ _ _ ?_)
 dsimp only
 refine wpAny_bind (wpAny_setField hoi hdi (by simp [ZKx]) ?_)
 have o1:=Heap.get?_update_self (fun ob=>Obj.mapFields (·.setIfInBounds 0 (rawInt (nx:Int))) ob) hoi (Obj.isFreed_of_fields (Obj.data_mapFields hdi _))
 have d1:=Obj.data_mapFields hdi (·.setIfInBounds 0 (rawInt (nx:Int)))
 refine wpAny_bind (wpAny_setField (s:={ s with heap:=_ }) o1 d1 (by simp [ZKx]) ?_)
 refine wpAny_pure ⟨x,rfl,wpAny_pure (hQ _ ⟨_,Heap.get?_update_self _ o1 (Obj.isFreed_of_fields (Obj.data_mapFields d1 _)),?_,?_⟩ ((Heap.SameBut.update ..).trans (Heap.SameBut.update ..)))⟩
 ·exact (Obj.cls_mapFields ..).trans ((Obj.cls_mapFields ..).trans hc)
 ·rw [Obj.data_mapFields d1];simp [ZKx]
theorem ZFr {it S:Addr}{sl i n ep:Nat}{o:Obj}{es:Array (Int×Value)}{t:SetTable}{Q:Option Value->Shared->Prop}(hh:A.handled=none) (hit:ZC7 s.heap it (rawInt (sl:Int)) i S n ep)
  (ho:s.heap.get? S=some o) (hd:o.data=.set es ep t) (hf:t.fits es.size=true) (hn:es.size=n)
  (hnx:∀ (A1:Around) (E1:Value->Shared->Prop) (Q1:Option (Value×Nat)->Shared->Prop),Q1 none s->wpAny (model prog w) A1 (setNext S sl i ep) Q1 E1 s)
  (hQ:∀ h',Heap.ExtBut it s.heap h'->Q none { s with heap:=h' }):wpAny (model prog w) A (pyNext (.ref it)) Q E s:=by
 obtain ⟨oi,hoi,hc,hdi⟩:=id hit
 subst hn
 unfold pyNext
 refine wpAny_bind (wpAny_attempt (wpAny_callSpecial?_slot (name:=Str.ofString "__next__") hit.typeIs ZAj
  (wpAny_call_entry ZAj hit.typeIs ZC5 ?_ (ZCT _))))
 unfold Builtin.«set_iterator.__next__»
 refine wpAny_bind (wpAny_of_eq (a:=(Value.ref it,[])) rfl ?_)
 try dsimp only
 refine wpAny_bind (wpAny_fieldsOf hoi hdi ?_)
 show wpAny _ _ (setEntries S >>= _) _ _ s
 refine wpAny_bind (wpAny_setEntries_of ho hd hf ?_)
 rw [if_neg (by simp)]
 show wpAny _ _ (setNext S sl i ep >>= _) _ _ s
 refine wpAny_bind (hnx _ _ _ ?_)
 dsimp only
 refine wpAny_bind (wpAny_setField hoi hdi (by simp [ZKx]) ?_)
 refine ZJK (A:=A.in1) hh fun e h' k hT=>?_
 refine wpAny_bind (wpAny_isInstance (T := "StopIteration") (b:=true) hT isSubtype_stop ?_)
 refine wpAny_pure (hQ _ (fun b ob hb e=>?_))
 exact k b ob ((Heap.get?_update_other _ _ (Ne.symm hb)).trans e)
theorem ZOP {it S T:Addr}{i n ep pl:Nat}{o oT:Obj}{es:Array (Int×Value)}{t:SetTable}{ps:Array Value}{nT:Nat}{e:Int×Value}{Q:Option Value->Shared->Prop}(hit:ZC7 s.heap it (.ref T) i S n ep)
  (ho:s.heap.get? S=some o) (hd:o.data=.set es ep t) (hf:t.fits es.size=true) (hn:es.size=n) (hT:s.heap.get? T=some oT) (hTd:oT.data=.seq ps nT) (hp:ps[i]?=some (rawInt (pl:Int))) (he:es[pl]?=some e)
  (hQ:∀ h',ZC7 h' it (.ref T) (i+1) S n ep->Heap.SameBut it s.heap h'->Q (some e.2) { s with heap:=h' }):wpAny (model prog w) A (pyNext (.ref it)) Q E s:=by
 obtain ⟨oi,hoi,hc,hdi⟩:=id hit
 subst hn
 unfold pyNext
 refine wpAny_bind (wpAny_attempt (wpAny_callSpecial?_slot (name:=Str.ofString "__next__") hit.typeIs ZAj
  (wpAny_call_entry ZAj hit.typeIs ZC5 ?_ (ZCT _))))
 unfold Builtin.«set_iterator.__next__»
 refine wpAny_bind (wpAny_of_eq (a:=(Value.ref it,[])) rfl ?_)
 try dsimp only
 refine wpAny_bind (wpAny_fieldsOf hoi hdi ?_)
 show wpAny _ _ (setEntries S >>= _) _ _ s
 refine wpAny_bind (wpAny_setEntries_of ho hd hf ?_)
 rw [if_neg (by simp)]
 show wpAny _ _ (seqItems? (.ref T) >>= _) _ _ s
 refine wpAny_bind ?_
 unfold seqItems?
 refine wpAny_bind (wpAny_load hT ?_)
 rw [hTd]
 refine wpAny_pure ?_
 show wpAny _ _ (match ps[i]? with | some (.int place _)=>_ | some _=>_ | none=>_) _ _ s
 rw [hp]
 show wpAny _ _ (setNextDrawn S pl ep >>= _) _ _ s
 refine wpAny_bind (ZKV ho hd hf he ?_)
 refine wpAny_bind (wpAny_setField hoi hdi (by simp [ZKx]) ?_)
 refine wpAny_pure ⟨e.2,rfl,wpAny_pure (hQ _ ⟨_,Heap.get?_update_self _ hoi (Obj.isFreed_of_fields (Obj.data_mapFields hdi _)),?_,?_⟩ (Heap.SameBut.update ..))⟩
 ·exact (Obj.cls_mapFields ..).trans hc
 ·rw [Obj.data_mapFields hdi];simp [ZKx]
theorem ZIu {it S T:Addr}{i n ep:Nat}{o oT:Obj}{es:Array (Int×Value)}{t:SetTable}{ps:Array Value}{nT:Nat}{Q:Option Value->Shared->Prop}(hh:A.handled=none) (hit:ZC7 s.heap it (.ref T) i S n ep)
  (ho:s.heap.get? S=some o) (hd:o.data=.set es ep t) (hf:t.fits es.size=true) (hn:es.size=n) (hT:s.heap.get? T=some oT) (hTd:oT.data=.seq ps nT) (hp:ps[i]?=none)
  (hQ:∀ h',Heap.ExtBut it s.heap h'->Q none { s with heap:=h' }):wpAny (model prog w) A (pyNext (.ref it)) Q E s:=by
 obtain ⟨oi,hoi,hc,hdi⟩:=id hit
 subst hn
 unfold pyNext
 refine wpAny_bind (wpAny_attempt (wpAny_callSpecial?_slot (name:=Str.ofString "__next__") hit.typeIs ZAj
  (wpAny_call_entry ZAj hit.typeIs ZC5 ?_ (ZCT _))))
 unfold Builtin.«set_iterator.__next__»
 refine wpAny_bind (wpAny_of_eq (a:=(Value.ref it,[])) rfl ?_)
 try dsimp only
 refine wpAny_bind (wpAny_fieldsOf hoi hdi ?_)
 show wpAny _ _ (setEntries S >>= _) _ _ s
 refine wpAny_bind (wpAny_setEntries_of ho hd hf ?_)
 rw [if_neg (by simp)]
 show wpAny _ _ (seqItems? (.ref T) >>= _) _ _ s
 refine wpAny_bind ?_
 unfold seqItems?
 refine wpAny_bind (wpAny_load hT ?_)
 rw [hTd]
 refine wpAny_pure ?_
 show wpAny _ _ (match ps[i]? with | some (.int place _)=>_ | some _=>_ | none=>_) _ _ s
 rw [hp]
 dsimp only
 refine wpAny_bind (wpAny_setField hoi hdi (by simp [ZKx]) ?_)
 have o1:=Heap.get?_update_self (fun ob=>Obj.mapFields (·.setIfInBounds 0 (rawInt 0)) ob) hoi (Obj.isFreed_of_fields (Obj.data_mapFields hdi _))
 have d1:=Obj.data_mapFields hdi (·.setIfInBounds 0 (rawInt 0))
 refine wpAny_bind (wpAny_setField (s:={ s with heap:=_ }) o1 d1 (by simp [ZKx]) ?_)
 refine ZJK (A:=A.in1) hh fun e h' k hT=>?_
 refine wpAny_bind (wpAny_isInstance (T := "StopIteration") (b:=true) hT isSubtype_stop ?_)
 refine wpAny_pure (hQ _ (fun b ob hb e=>?_))
 exact k b ob ((Heap.get?_update_other _ _ (Ne.symm hb)).trans ((Heap.get?_update_other _ _ (Ne.symm hb)).trans e))
theorem ZGg {it S:Addr}{f:Value}{i n ep:Nat}{Q:Value->Shared->Prop}(hit:ZC7 s.heap it f i S n ep) (h:Q (.ref it) s):wpAny (model prog w) A (pyIter (.ref it)) Q E s:=by
 refine wpAny_pyIter_slot hit.typeIs ZF2 (wpAny_call_entry ZF2 hit.typeIs ZHQ ?_ (ZIk _))
 show wpAny _ _ (ret (.ref it)) _ _ s
 exact wpAny_pure ⟨_,rfl, "set_iterator", _,hit.typeIs,ZAj.lookup,h⟩
end
end L2
namespace L2
section
variable {prog:Program}{w:World}{A:Around}
theorem ZO8 (hb:byT w=true) (hh:A.handled=none) (I S:Addr) (hne:S≠I){o:Obj}{es:Array (Int×Value)}{ep:Nat}{t:SetTable}(hd:o.data=.set es ep t) (hf:t.fits es.size=true) :
  Walks prog w A I [I,S] [I] es.size (fun i v=>((pickOrder (w.params.setOrder S ep) es).toList.map (·.2))[i]?=some v) (fun i h=>ZC7 h I (rawInt ((0:Nat):Int)) i S es.size ep/\h.get? S=some o) where
 sub:=fun b hb=>by simp at hb;simp [hb]
 frame:=fun _ _ _ x hk=>⟨x.1.at fun o e=>hk I (by simp) o e,hk S (by simp) _ x.2⟩
 item:=fun i s Q E hi x hQ=>by
  have hl:(pickOrder (w.params.setOrder S ep) es).size=es.size:=by
   have q:=(ZIs (w.params.setOrder S ep) es).length_eq
   simpa using q
  have hi2:i < (pickOrder (w.params.setOrder S ep) es).size:=by omega
  refine ZLL (x:=((pickOrder (w.params.setOrder S ep) es)[i]).2) (nx:=0) x.1 x.2 hd hf rfl (fun A1 E1 Q1 q=>ZHE hb x.2 hd hf (by rw [Array.getElem?_eq_getElem hi2];exact q)) fun h' hit' sb=>?_
  exact hQ _ h' s.toks (by rw [List.getElem?_map,Array.getElem?_toList,Array.getElem?_eq_getElem hi2];rfl) ⟨hit',sb.extBut S o hne x.2⟩ fun b ob hb eo=>sb.extBut b ob (fun h=>hb (by simp [h])) eo
 done:=fun s Q E x hQ=>by
  have hl:(pickOrder (w.params.setOrder S ep) es).size=es.size:=by
   have q:=(ZIs (w.params.setOrder S ep) es).length_eq
   simpa using q
  refine ZFr hh x.1 x.2 hd hf rfl (fun A1 E1 Q1 q=>ZHE hb x.2 hd hf (by rw [Array.getElem?_eq_none (by omega)];exact q)) fun h' eb=>?_
  exact hQ h' s.toks fun b ob hb eo=>eb b ob (fun h=>hb (by simp [h])) eo
 self:=fun _ _ _ _ x hQ=>ZGg x.1 hQ
theorem ZN8 {α:Type}:∀ (a:Array α),a.size=1->∃ x,a=#[x]
 | ⟨[x]⟩,_=>⟨x,rfl⟩
 | ⟨[]⟩,h=>by simp at h
 | ⟨_ :: _ :: _⟩,h=>by simp at h
theorem ZT0 (p:Nat):SetTable.below #[p] 0=0:=by simp [SetTable.below,SetTable.below.go]
theorem below_1 (p:Nat):SetTable.below #[p] (p+1)=1:=by simp [SetTable.below,SetTable.below.go]
theorem ZLa {t:SetTable}{n:Nat}(h:t.fits n=true):t.place.size=n:=by
 simp only [SetTable.fits,Bool.and_eq_true,beq_iff_eq] at h
 exact h.1
theorem ZQe (hb:byT w=false) (hh:A.handled=none) (I S:Addr) (hne:S≠I){o:Obj}{es:Array (Int×Value)}{ep:Nat}{t:SetTable}(hd:o.data=.set es ep t) (hf:t.fits es.size=true) (h1:es.size<=1) (hl:t.led=true) :
  Walks prog w A I [I,S] [I] es.size (fun i v=>(es.toList.map (·.2))[i]?=some v) (fun i h=>ZC7 h I (rawInt (((if i=0 then 0 else t.place.getD 0 0+1:Nat)):Int)) i S es.size ep/\h.get? S=some o) where
 sub:=fun b hb=>by simp at hb;simp [hb]
 frame:=fun _ _ _ x hk=>⟨x.1.at fun o e=>hk I (by simp) o e,hk S (by simp) _ x.2⟩
 item:=fun i s Q E hi x hQ=>by
  obtain rfl:i=0:=by omega
  have z:es.size=1:=by omega
  have zp:t.place.size=1:=(ZLa hf).trans z
  obtain ⟨e,rfl⟩:=ZN8 es z
  obtain ⟨p,hp⟩:=ZN8 t.place zp
  have hit:=x.1
  refine ZLL (x:=e.2) (nx:=p+1) hit x.2 hd hf rfl (fun A1 E1 Q1 q=>ZIZ hb x.2 hd hf h1 hl (by rw [hp,if_pos rfl,ZT0];exact q)) fun h' hit' sb=>?_
  refine hQ _ h' s.toks rfl ⟨?_,sb.extBut S o hne x.2⟩ fun b ob hb eo=>sb.extBut b ob (fun h=>hb (by simp [h])) eo
  rw [if_neg (by omega),hp]
  exact hit'
 done:=fun s Q E x hQ=>by
  refine ZFr hh x.1 x.2 hd hf rfl (fun A1 E1 Q1 q=>ZIZ hb x.2 hd hf h1 hl ?_) fun h' eb=>?_
  ·by_cases z:es.size=0
   ·rw [Array.getElem?_eq_none (by omega)];exact q
   ·have z1:es.size=1:=by omega
    have zp:t.place.size=1:=(ZLa hf).trans z1
    obtain ⟨p,hp⟩:=ZN8 t.place zp
    rw [if_neg z,hp]
    show Q1 (match es[SetTable.below #[p] (p+1)]?,(#[p]:Array Nat)[SetTable.below #[p] (p+1)]? with | some (_,x),some j=>some (x,j+1) | _,_=>none) s
    rw [below_1,Array.getElem?_eq_none (by omega)]
    exact q
  ·exact hQ h' s.toks fun b ob hb eo=>eb b ob (fun h=>hb (by simp [h])) eo
 self:=fun _ _ _ _ x hQ=>ZGg x.1 hQ
theorem ZMv (hh:A.handled=none) (I S T:Addr) (hne:S≠I) (hnT:T≠I){o oT:Obj}{es:Array (Int×Value)}{ep nT:Nat}{t:SetTable}(hd:o.data=.set es ep t) (hf:t.fits es.size=true){ps:List Nat}(hp:ps.Perm (List.range es.size)) (hT:oT.data=.seq (ps.map fun i:Nat=>rawInt i).toArray nT) :
  Walks prog w A I [I,S,T] [I] es.size (fun i v=>(ps.map fun p=>(es[p]?.map (·.2)).getD .none)[i]?=some v) (fun i h=>ZC7 h I (.ref T) i S es.size ep/\h.get? S=some o/\h.get? T=some oT) where
 sub:=fun b hb=>by simp at hb;simp [hb]
 frame:=fun _ _ _ x hk=>⟨x.1.at fun o e=>hk I (by simp) o e,hk S (by simp) _ x.2.1,hk T (by simp) _ x.2.2⟩
 item:=fun i s Q E hi x hQ=>by
  have hl:ps.length=es.size:=by have q:=hp.length_eq;simpa using q
  have hi2:i < ps.length:=by omega
  have hpi:ps[i] < es.size:=by
   have q:=hp.mem_iff.mp (List.getElem_mem hi2)
   simpa using q
  have he:es[ps[i]]?=some es[ps[i]]:=Array.getElem?_eq_getElem hpi
  refine ZOP (pl:=ps[i]) (e:=es[ps[i]]) x.1 x.2.1 hd hf rfl x.2.2 hT (by rw [List.getElem?_toArray,List.getElem?_map,List.getElem?_eq_getElem hi2];rfl) he fun h' hit' sb=>?_
  exact hQ _ h' s.toks (by rw [List.getElem?_map,List.getElem?_eq_getElem hi2];simp only [Option.map_some,he,Option.getD_some]) ⟨hit',sb.extBut S o hne x.2.1,sb.extBut T oT hnT x.2.2⟩ fun b ob hb eo=>sb.extBut b ob (fun h=>hb (by simp [h])) eo
 done:=fun s Q E x hQ=>by
  have hl:ps.length=es.size:=by have q:=hp.length_eq;simpa using q
  refine ZIu hh x.1 x.2.1 hd hf rfl x.2.2 hT (by rw [List.getElem?_toArray,List.getElem?_map,List.getElem?_eq_none (by omega)];rfl) fun h' eb=>?_
  exact hQ h' s.toks fun b ob hb eo=>eb b ob (fun h=>hb (by simp [h])) eo
 self:=fun _ _ _ _ x hQ=>ZGg x.1 hQ
end
theorem ZOT (es:Array (Int×Value)):(List.range es.size).map (fun p=>(es[p]?.map (·.2)).getD Value.none)=es.toList.map (·.2):=by
 refine List.ext_getElem (by simp) fun i h1 h2=>?_
 have hi:i < es.size:=by simpa using h1
 simp [Array.getElem?_eq_getElem hi]
theorem ZSs {prog:Program}{w:World}{l:List (Int×Value)}(h:ElemsOf (PySem.strKind prog w) l):∃ ts,StrsAre (l.map (·.2)) ts/\∀ k,k∈ts↔∃ e∈l,(PySem.strKind prog w).is k e.2=true:=by
 induction l with
 | nil=>exact ⟨[],.nil,fun k=>by simp⟩
 | cons e r ih=>
  obtain ⟨ts,h1,h2⟩:=ih h.tail
  obtain ⟨⟨k,hk,_⟩,_⟩:=h.head
  obtain ⟨tk,he⟩:=Value.isStrOf_shape hk
  refine ⟨k :: ts,?_,fun k'=>?_⟩
  ·rw [List.map_cons,he];exact .cons k tk h1
  ·rw [List.mem_cons,h2 k']
   constructor
   ·rintro (rfl | ⟨x,hx,q⟩)
    ·exact ⟨e,List.mem_cons_self,hk⟩
    ·exact ⟨x,List.mem_cons_of_mem _ hx,q⟩
   ·rintro ⟨x,hx,q⟩
    rcases List.mem_cons.mp hx with rfl | hx
    ·exact .inl ((PySem.strKind prog w).inj x.2 k' k q hk)
    ·exact .inr ⟨x,hx,q⟩
theorem StrsAre.len:∀ {vs:List Value}{ss:List Str},StrsAre vs ss->vs.length=ss.length
 | _,_,.nil=>rfl
 | _,_,.cons _ _ h=>by rw [List.length_cons,List.length_cons,StrsAre.len h]
theorem StrsAre.perm {vs vs':List Value}{ss:List Str}(h:StrsAre vs ss) (p:vs'.Perm vs):∃ ss',StrsAre vs' ss'/\ss'.Perm ss:=by
 refine ⟨vs'.map strOf,strsAre_map vs' fun v hv=>h.all v (p.mem_iff.mp hv),?_⟩
 rw [<- h.strs]
 exact p.map strOf
section
variable {prog:Program}{w:World}{A:Around}{E:Value->Shared->Prop}{s:Shared}
theorem ZRV {S:Addr}{f:Str->Bool}{n:Nat}{Q:Value->Shared->Prop}(hS:ZIi prog w s.heap S f n)
  (h:∀ (I:Addr) (h1:Heap) (d:_) (fp:List Addr) (vs:List Value) (ts:List Str) (St:Nat->Heap->Prop),(∀ A2:Around,A2.handled=none->Walks prog w A2 I fp [I] n (fun i v=>vs[i]?=some v) St)->St 0 h1->(∀ b∈fp,b=S∨s.heap.objs.size<=b/\b < h1.objs.size)->s.heap.objs.size<=I->s.heap.objs.size<=h1.objs.size->
   (∀ b o,s.heap.get? b=some o->h1.get? b=some o)->StrsAre vs ts->ts.length=n->(∀ k,f k=true↔k∈ts)->Q (.ref I) { s with heap:=h1,drawn:=d }):wpAny (model prog w) A (pyIter (.ref S)) Q E s:=by
 obtain ⟨o,es,ep,t,ho,hex,hd,hel,hmem,hb,hf,hn,hled,hpl⟩:=hS
 subst hn
 have hT:s.TypeIs (.ref S) "set" := ⟨o,ho,hex.1⟩
 have hlt:S < s.heap.objs.size:=Heap.lt_size ho
 obtain ⟨ts0,t1,t2⟩:=ZSs hel
 have fin:∀ (I:Addr) (h1:Heap) (d:_) (fp:List Addr) (vs:List Value) (St:Nat->Heap->Prop),(∀ A2:Around,A2.handled=none->Walks prog w A2 I fp [I] es.size (fun i v=>vs[i]?=some v) St)->St 0 h1->(∀ b∈fp,b=S∨s.heap.objs.size<=b/\b < h1.objs.size)->s.heap.objs.size<=I->s.heap.objs.size<=h1.objs.size->
   (∀ b o,s.heap.get? b=some o->h1.get? b=some o)->vs.Perm (es.toList.map (·.2))->Q (.ref I) { s with heap:=h1,drawn:=d }:=by
  intro I h1 d fp vs St a1 a2 a3 a4 a5 a6 a7
  obtain ⟨ts,q1,q2⟩:=StrsAre.perm t1 a7
  refine h I h1 d fp vs ts St a1 a2 a3 a4 a5 a6 q1 ?_ fun k=>?_
  ·rw [q2.length_eq,<- StrsAre.len t1];simp
  ·rw [hmem k,<- t2 k];exact q2.mem_iff.symm
 refine wpAny_pyIter_slot hT F.slot_set_iter (wpAny_call_entry F.slot_set_iter hT ZI4 ?_ (F.args_set_iter_1 _))
 unfold Builtin.«frozenset.__iter__»
 refine wpAny_bind (wpAny_of_eq (a:=S) rfl ?_)
 refine wpAny_bind ?_
 unfold Builtin.Frozenset.sizeOf
 refine wpAny_bind (wpAny_setEntries_of ho hd hf (wpAny_pure ?_))
 refine wpAny_bind (ZJA ho hd hf ?_)
 by_cases hdr:(!byT w && (!t.plain && decide (es.size > 1)))=true
 ·rw [if_pos hdr]
  refine wpAny_bind ?_
  refine ZIm es.size (List.range es.size) _ _ (by rw [List.length_range];exact Nat.le_refl _) fun ps d hp=>?_
  have pz:(ps.map fun i:Nat=>rawInt i).length<=sizeLine:=by rw [List.length_map,hp.length_eq,List.length_range];exact fits_of_scanBound hb
  refine wpAny_bind (wpAny_newTuple ?_ pz)
  dsimp only
  refine wpAny_bind (wpAny_setEpoch_of (s:={ s with heap:=_,drawn:=d }) (Heap.get?_push_of_some _ ho) hd hf ?_)
  refine wpAny_bind (wpAny_newObj_type ?_)
  have g:∀ (q:Obj) (b:Addr) (ob:Obj),s.heap.get? b=some ob->((s.heap.push (seqObj "tuple" (ps.map fun i:Nat=>rawInt i).toArray 0)).push q).get? b=some ob:=fun q b ob e=>Heap.get?_push_of_some _ (Heap.get?_push_of_some _ e)
  have sz1:(s.heap.push (seqObj "tuple" (ps.map fun i:Nat=>rawInt i).toArray 0)).objs.size=s.heap.objs.size+1:=Heap.size_push ..
  refine wpAny_pure ⟨_,rfl, "set_iterator", _,⟨_,Heap.get?_push_size _ rfl,rfl⟩,ZAj.lookup,?_⟩
  refine fin _ _ d [(s.heap.push (seqObj "tuple" (ps.map fun i:Nat=>rawInt i).toArray 0)).objs.size,S,s.heap.objs.size] _ _ (fun A2 hh=>ZMv hh _ S s.heap.objs.size (by rw [sz1];exact Nat.ne_of_lt (Nat.lt_succ_of_lt hlt)) (by rw [sz1];exact Nat.ne_of_lt (Nat.lt_succ_self _)) hd hf hp (oT:=seqObj "tuple" (ps.map fun i:Nat=>rawInt i).toArray 0) rfl) ⟨⟨_,Heap.get?_push_size _ rfl,rfl,rfl⟩,g _ _ _ ho,Heap.get?_push_of_some _ (Heap.get?_push_size _ rfl)⟩ ?_ (by show s.heap.objs.size<=(s.heap.push (seqObj "tuple" (ps.map fun i:Nat=>rawInt i).toArray 0)).objs.size;rw [sz1];exact Nat.le_succ _) ?_ (g _) ?_
  ·intro b hb'
   simp only [List.mem_cons,List.not_mem_nil,or_false] at hb'
   rw [Heap.size_push,sz1]
   rcases hb' with rfl | rfl | rfl
   ·right;rw [sz1];exact ⟨Nat.le_succ _,Nat.lt_succ_self _⟩
   ·left;rfl
   ·right;exact ⟨Nat.le_refl _,Nat.lt_succ_of_lt (Nat.lt_succ_self _)⟩
  ·rw [Heap.size_push,sz1];exact Nat.le_succ_of_le (Nat.le_succ _)
  ·rw [<- ZOT];exact hp.map _
 ·rw [if_neg hdr]
  refine wpAny_bind (wpAny_pure ?_)
  refine wpAny_bind (wpAny_setEpoch_of ho hd hf ?_)
  refine wpAny_bind (wpAny_newObj_type ?_)
  have g:∀ (q:Obj) (b:Addr) (ob:Obj),s.heap.get? b=some ob->(s.heap.push q).get? b=some ob:=fun q b ob e=>Heap.get?_push_of_some _ e
  refine wpAny_pure ⟨_,rfl, "set_iterator", _,⟨_,Heap.get?_push_size _ rfl,rfl⟩,ZAj.lookup,?_⟩
  have hfp:∀ (q:Obj),∀ b∈[s.heap.objs.size,S],b=S∨s.heap.objs.size<=b/\b < (s.heap.push q).objs.size:=by
   intro q b hb'
   simp only [List.mem_cons,List.not_mem_nil,or_false] at hb'
   rw [Heap.size_push]
   rcases hb' with rfl | rfl
   ·right;omega
   ·left;rfl
  cases hbt:byT w with
  | true=>
   refine fin _ _ s.drawn [s.heap.objs.size,S] _ _ (fun A2 hh=>ZO8 hbt hh _ S (Nat.ne_of_lt hlt) hd hf) ⟨⟨_,Heap.get?_push_size _ rfl,rfl,rfl⟩,g _ _ _ ho⟩ (hfp _) (Nat.le_refl _) (by rw [Heap.size_push];omega) (g _) ?_
   exact (ZIs _ _).map _
  | false=>
   have h1:es.size<=1:=by
    rw [hbt] at hdr
    by_cases z:es.size<=1
    ·exact z
    ·rw [hpl (by omega),decide_eq_true (by omega:es.size > 1)] at hdr
     exact absurd rfl hdr
   refine fin _ _ s.drawn [s.heap.objs.size,S] _ _ (fun A2 hh=>ZQe hbt hh _ S (Nat.ne_of_lt hlt) hd hf h1 (by rw [hled,hbt];rfl)) ⟨⟨_,Heap.get?_push_size _ rfl,rfl,rfl⟩,g _ _ _ ho⟩ (hfp _) (Nat.le_refl _) (by rw [Heap.size_push];omega) (g _) (List.Perm.refl _)
theorem ZQZ:typeLookup (.type "set") "__len__" = pure (some (.builtin "set.__len__")):=by rw [typeLookup_type,builtinLookup_eq_fast];kernel_rfl
theorem ZMf {S:Addr}{f:Str->Bool}{n:Nat}{Q:List Value->Shared->Prop}(hh:A.handled=none) (hS:ZIi prog w s.heap S f n) (hn:n<=sizeLine)
  (h:∀ (s':Shared) (vs:List Value) (ts:List Str),(∀ b o,s.heap.get? b=some o->s'.heap.get? b=some o)->s.heap.objs.size<=s'.heap.objs.size->s'.gens=s.gens->s'.os=s.os->StrsAre vs ts->ts.length=n->(∀ k,f k=true↔k∈ts)->Q vs s') :
  wpAny (model prog w) A (collect (.ref S)) Q E s:=by
 have hlt:S < s.heap.objs.size:=by obtain ⟨o,_,_,_,ho,_⟩:=hS;exact Heap.lt_size ho
 have hLS:s.heap.objs.size≠S:=Nat.ne_of_gt hlt
 unfold collect
 refine wpAny_bind (wpAny_runValue (codeAny_builtin F.entry_proto_collect ?_))
 rw [Around.under_plainId F.plain_proto_collect _]
 show wpAny _ A.in1 (newList [] >>= fun l=>again (.builtin "list.__iadd__" ⟨[l,.ref S],[]⟩)) _ _ s
 refine wpAny_bind (wpAny_newObj_type ?_)
 refine wpAny_pure ⟨plainId_quiet F.plain_list_iadd _,codeAny_builtin F.entry_list_iadd ?_⟩
 rw [Around.under_plainId F.plain_list_iadd _]
 generalize hso:({ cls:=.type "list", data:=.seq ([]:List Value).toArray }:Obj)=so
 have hS1:ZIi prog w (s.heap.push so) S f n:=hS.keep fun o e=>Heap.get?_push_of_some _ e
 have hL1:(s.heap.push so).get? s.heap.objs.size=some so:=Heap.get?_push_size _ (by rw [<- hso];rfl)
 have sz:(s.heap.push so).objs.size=s.heap.objs.size+1:=Heap.size_push ..
 have hT1:Shared.TypeIs { s with heap:=s.heap.push so } (.ref S) "set" := by obtain ⟨o,_,_,_,ho,hex,_⟩:=hS1;exact ⟨o,ho,hex.1⟩
 have h1:Builtin.List.listSameRef (.ref s.heap.objs.size) (.ref S)=false:=by simp [Builtin.List.listSameRef,hLS]
 show wpAny _ A.in1 (Builtin.List.listExtendWith (.ref s.heap.objs.size) (.ref S) (.ref s.heap.objs.size)) _ _ { s with heap:=s.heap.push so }
 unfold Builtin.List.listExtendWith
 refine wpAny_bind (wpAny_typeOf hT1 ?_)
 rw [if_neg (by rw [h1];decide)]
 refine wpAny_bind (ZRV (s:={ s with heap:=s.heap.push so }) hS1 fun I h2 d fp vs ts St W st0 hfp hI hsz2 kp vts tl tm=>?_)
 have hSf:s.heap.objs.size∉fp:=fun hm=>by
  rcases hfp _ hm with z | ⟨z,_⟩
  ·exact hLS z
  ·have z':(s.heap.push so).objs.size<=s.heap.objs.size:=z
   rw [sz] at z'
   omega
 have hT2:Shared.TypeIs { s with heap:=h2,drawn:=d } (.ref S) "set" := by obtain ⟨o,ho,hc⟩:=hT1;exact ⟨o,kp _ _ ho,hc⟩
 refine wpAny_bind (wpAny_holding ?_)
 unfold Builtin.List.listLengthHint
 refine wpAny_bind (wpAny_specialOf hT2 ZQZ ?_)
 generalize hid:("set.__len__" : String)=id0
 wp_delta
 rw [show splitId id0=some ("set", "__len__") from by subst hid;decide +kernel]
 subst hid
 refine wpAny_bind (wpAny_isInstance (b:=true) hT2 (by rw [isSubtype_type];kernel_rfl) ?_)
 rw [if_neg (by decide)]
 refine wpAny_ite_split (fun _=>?_) (fun hab=>absurd (by decide +kernel) hab)
 refine wpAny_bind (wpAny_typeOf hT2 ?_)
 refine wpAny_pure ?_
 refine wpAny_ite_split (fun _=>?_) (fun hab=>absurd (by decide +kernel) hab)
 refine wpAny_bind (wpAny_rule ?_)
 refine wpAny_bind ?_
 show wpAny _ _ (updateSeq s.heap.objs.size (·.push .none) >>= fun _=>updateSeq s.heap.objs.size (·.pop)) _ _ _
 have z0:(#[]:Array Value).size<=sizeLine:=Nat.zero_le _
 have z1:((#[]:Array Value).push Value.none).size<=sizeLine:=by show 1<=sizeLine;decide
 have z2:((#[]:Array Value).push Value.none).size<=sizeLine+1:=Nat.le_succ_of_le z1
 have z3:(((#[]:Array Value).push Value.none).pop).size<=sizeLine+1:=Nat.zero_le _
 have hL2:=kp _ _ hL1
 subst hso
 refine wpAny_bind (wpAny_updateSeq (s:={ s with heap:=h2,drawn:=d }) hL2 rfl ?_ z0 z2)
 have q2:=Heap.get?_update_self (Obj.mapSeq (·.push Value.none)) hL2 rfl
 refine wpAny_updateSeq q2 rfl ?_ z1 z3
 have q3:=Heap.get?_update_self (Obj.mapSeq (·.pop)) q2 rfl
 have oth:∀ b o,b≠s.heap.objs.size->h2.get? b=some o->((h2.update s.heap.objs.size (Obj.mapSeq (·.push Value.none))).update s.heap.objs.size (Obj.mapSeq (·.pop))).get? b=some o:=
  fun b o hb e=>(Heap.get?_update_other _ _ (Ne.symm hb)).trans ((Heap.get?_update_other _ _ (Ne.symm hb)).trans e)
 refine wpAny_pure ⟨plainId_quiet PySem.F.plain_extend_loop _,codeAny_extend_loopS (W A.in1 hh).toS hn _ hSf _ n 0 _ #[] _ rfl (Nat.zero_le _) ?_ q3 (ItemsOf.nil _) fun s' acc' c' hm hS' hacc=>?_⟩
 ·exact (W A.in1 hh).frame 0 h2 _ st0 fun b hb o e=>oth b o (fun z=>hSf (z▸hb)) e
 ·show wpAny _ A (load s.heap.objs.size >>= _) _ _ s'
  refine wpAny_bind (wpAny_load hS' ?_)
  have ev:acc'.toList=vs:=by
   have hvl:vs.length=n:=(StrsAre.len vts).trans tl
   refine List.ext_getElem? fun i=>?_
   by_cases hi:i < n
   ·have h1:acc'[i]?=some (acc'[i]'(by rw [hacc.1];exact hi)):=Array.getElem?_eq_getElem _
    rw [Array.getElem?_toList,h1]
    exact (hacc.2 i _ h1).symm
   ·rw [List.getElem?_eq_none (by rw [Array.length_toList,hacc.1];omega),List.getElem?_eq_none (by omega)]
  refine wpAny_pure ?_
  rw [<- ev] at vts
  refine h s' acc'.toList ts (fun b o e=>?_) (Nat.le_of_lt (Heap.lt_size hS')) hm.gens hm.os vts tl tm
  have hb:b < s.heap.objs.size:=Heap.lt_size e
  refine hm.heap b o ?_ (oth b o (Nat.ne_of_lt hb) (kp b o (Heap.get?_push_of_some _ e)))
  simp only [List.mem_cons,List.not_mem_nil,or_false,not_or]
  refine ⟨Nat.ne_of_lt hb,?_⟩
  have hI':s.heap.objs.size+1<=I:=by rw [<- sz];exact hI
  exact Nat.ne_of_lt (Nat.lt_of_lt_of_le hb (Nat.le_of_succ_le hI'))
end
end L2
namespace L2
section
variable {prog:Program}{w:World}{A:Around}{R:Result->Shared->Prop}{I:Addr}{fp wr:List Addr}{G:Array GenState->Array GenState->Prop}{n:Nat}{P:Nat->Value->Prop}{St:Nat->Shared->Prop}{ss:List Str}
theorem ZOS (W:WalksS prog w A.in1 I fp wr G ss.length P St) (S:Addr) (hSf:S∉fp) (hval:∀ i v,P i v->∃ (h:i < ss.length) (t:Tok),v=.str ss[i] t) (hb:ss.length+1 < scanBound) :
  ∀ (k i:Nat) (s:Shared),ss.length - i=k->i<=ss.length->St i s->ZIi prog w s.heap S (fun k'=>(dd (ss.take i)).any (· == k')) (dd (ss.take i)).length->
   (∀ s',Moved (S :: wr) G s s'->ZIi prog w s'.heap S (fun k'=>(dd ss).any (· == k')) (dd ss).length->R (.ok (.ret .none)) s')->
   codeAny (model prog w) A (.builtin "set.update.loop" ⟨[.ref S,.ref I],[]⟩) R s:=by
 have hSw:S∉wr:=fun h=>hSf (W.sub _ h)
 have keepS:∀ {s s':Shared}{f:Str->Bool}{m:Nat},Moved wr G s s'->ZIi prog w s.heap S f m->ZIi prog w s'.heap S f m:=fun hm hS=>hS.keep fun o ho=>hm.heap S _ hSw ho
 intro k
 induction k with
 | zero=>
  intro i s hk hi hst hS fin
  have e:i=ss.length:=by omega
  subst e
  refine codeAny_builtin PyProof.Rows.F.entry_set_update_loop ?_
  rw [Around.under_plainId PyProof.Rows.F.plain_set_update_loop _]
  show wpAny _ A.in1 (pyNext (.ref I) >>= _) _ _ s
  refine wpAny_bind (W.done s _ _ hst fun s' hm=>?_)
  show wpAny _ A.in1 (ret Value.none) _ _ s'
  rw [List.take_length] at hS
  exact wpAny_pure (fin s' (hm.mono fun b hb=>List.mem_cons_of_mem _ hb) (keepS hm hS))
 | succ k ih=>
  intro i s hk hi hst hS fin
  have hlt:i < ss.length:=by omega
  refine codeAny_builtin PyProof.Rows.F.entry_set_update_loop ?_
  rw [Around.under_plainId PyProof.Rows.F.plain_set_update_loop _]
  show wpAny _ A.in1 (pyNext (.ref I) >>= _) _ _ s
  refine wpAny_bind (W.item i s _ _ hlt hst fun v s' hP hst' hm=>?_)
  obtain ⟨_,t,rfl⟩:=hval i v hP
  have hS':=keepS hm hS
  show wpAny _ A.in1 (holding [Value.str ss[i] t] (setAdd S (.str ss[i] t)) >>= _) _ _ s'
  refine wpAny_bind (wpAny_holding ?_)
  unfold setAdd
  have his:(PySem.strKind prog w).is ss[i] (.str ss[i] t)=true:=PySem.strKind_is prog w ss[i] t
  refine wpAny_holding (wpAny_bind ((PySem.strKind prog w).pyHash his ?_))
  have hroom:(dd (ss.take i)).length+1 < scanBound:=by
   have:=ZSC (ss.take i)
   rw [List.length_take] at this
   omega
  refine ZIi.put (s:={ s' with toks:=s'.toks+1 }) hS' hroom fun h' hsb hS2=>?_
  have hSi:ZIi prog w h' S (fun k'=>(dd (ss.take (i+1))).any (· == k')) (dd (ss.take (i+1))).length:=
   hS2.congr (fun k'=>by rw [ZQk ss i hlt,ZOg]) (by rw [ZQk ss i hlt,ZJM])
  refine wpAny_pure ⟨plainId_quiet PyProof.Rows.F.plain_set_update_loop _,ih (i+1) _ (by omega) hlt (W.frame _ s' _ _ hst' (Nat.le_succ _) fun b hb o e=>?_) hSi fun s'' hm'' hS''=>?_⟩
  ·rw [hsb.2 b (by rintro rfl;exact hSf hb)];exact e
  ·refine fin s'' (Moved.trans W.gtrans ((hm.mono fun b hb=>List.mem_cons_of_mem _ hb).then_heap (Nat.le_succ _) fun b o hb e=>?_) hm'') hS''
   rw [hsb.2 b (by rintro rfl;exact hb List.mem_cons_self)];exact e
end
section
variable {prog:Program}{w:World}{A:Around}{E:Value->Shared->Prop}{s:Shared}{ss:List Str}
theorem ZK4 (a:Value){Q₁:Value->Shared->Prop}
  (h:Q₁ (.ref s.heap.objs.size) { s with heap:=s.heap.push { cls:=.type "set", dict:=none,data:=.set #[] 0 (.fresh 0 0 (!byT w)) } }) :
  codeAny (model prog w) A (.call (.builtin "set.__new__") ⟨[.type "set", a],[]⟩) (wants Q₁ E) s:=by
 refine codeAny_of_tree ?_
 show wpAny _ A.in1 (do checkBuiltinCall "set.__new__" ⟨[.type "set", a],[]⟩;again (.builtin "set.__new__" ⟨[.type "set", a],[]⟩)) _ _ s
 refine wpAny_bind (wpAny_of_eq (PySem.F.newCall_set_1 a) ?_)
 refine wpAny_pure ⟨plainId_quiet PySem.F.plain_set_new _,codeAny_builtin PySem.F.entry_set_new ?_⟩
 rw [Around.under_plainId PySem.F.plain_set_new _]
 unfold Builtin.«set.__new__» Builtin.Frozenset.newClass
 have hsub:isSubtype (.type "set") (.type "set")=pure true:=by rw [isSubtype_type];kernel_rfl
 obtain ⟨hp,g,d,tk,os⟩:=s
 dsimp only
 wp_walk
 refine wpAny_askSetting (wpAny_pure ?_)
 dsimp only
 simp only [newObj]
 refine wpAny_bind (wpAny_alloc (wpAny_pure ?_))
 exact wpAny_pure h
theorem ZIr {l:Addr}{T:String}{items:Array Value}{nl:Nat}{od:Option Addr}{osl:Array (Option Value)}{Q:Value->Shared->Prop}(ho:s.heap.get? l=some { cls:=.type T,dict:=od,data:=.seq items nl,slots:=osl })
  (hs1:isSubtype (.type T) (.type "set")=pure false) (hs2:isSubtype (.type T) (.type "frozenset")=pure false) (hne:(Value.type T == Value.type "dict")=false) (hb:ss.length+1 < scanBound)
  (hit:∀ (s1:Shared) (A1:Around) (Q1:Value->Shared->Prop),A1.handled=A.handled->s1.heap.get? l=s.heap.get? l->l < s1.heap.objs.size->
   (∀ ob St P,WalksS prog w A1.in1 s1.heap.objs.size [s1.heap.objs.size,l] [s1.heap.objs.size] (fun a b=>b=a) ss.length P St->(∀ i v,P i v->∃ (h:i < ss.length) (t:Tok),v=.str ss[i] t)->St 0 { s1 with heap:=s1.heap.push ob }->Q1 (.ref s1.heap.objs.size) { s1 with heap:=s1.heap.push ob })->
   wpAny (model prog w) A1 (pyIter (.ref l)) Q1 E s1)
  (h:∀ (h':Heap) (tk:Nat),ZIi prog w h' s.heap.objs.size (fun k'=>(dd ss).any (· == k')) (dd ss).length->(∀ b o,b < s.heap.objs.size->s.heap.get? b=some o->h'.get? b=some o)->Q (.ref s.heap.objs.size) { s with heap:=h',toks:=tk }) :
  wpAny (model prog w) A (call (.type "set") [.ref l]) Q E s:=by
 have hlt:l < s.heap.objs.size:=Heap.lt_size ho
 obtain ⟨c,tl,hmro⟩:=PySem.F.called_set.mro
 have hmade:=PySem.F.called_set.made;have hsub:=PySem.F.called_set.sub
 refine wpAny_call (codeAny_of_tree (by
  show wpAny _ _ (callAny (.type "set") _) _ _ _
  refine wpAny_pure ⟨Code.quiet_builtin _ (by decide +kernel),codeAny_builtin PySem.F.entry_type_call ?_⟩
  rw [Around.under_plain (weight_type_call_type "set" [.ref l] []) rfl]
  have h1:=PySem.F.called_set.notType;have h2:=PySem.F.called_set.canCreate;have hct:=PySem.F.typeCall_set_1 (.ref l)
  repeat (any_goals (first | assumption | wp_step))
  refine codeAny_mono (ZK4 (.ref l) (E:=E) (Q₁:=fun obj s₁=>obj=.ref s.heap.objs.size/\s₁={ s with heap:=s.heap.push { cls:=.type "set", dict:=none,data:=.set #[] 0 (.fresh 0 0 (!byT w)) } }) ⟨rfl,rfl⟩) fun r s₁ hr=>?_
  cases r with
  | error e=>exact hr
  | ok fl=>
   cases fl with
   | ret obj=>
    obtain ⟨rfl,rfl⟩:=hr
    generalize hSo:({ cls:=.type "set", dict:=none,data:=.set #[] 0 (.fresh 0 0 (!byT w)) }:Obj)=so
    have hsz:(s.heap.push so).objs.size=s.heap.objs.size+1:=Heap.size_push ..
    have hS:(s.heap.push so).get? s.heap.objs.size=some so:=Heap.get?_push_size _ (by rw [<- hSo];rfl)
    have hT:Shared.TypeIs { s with heap:=s.heap.push so } (.ref s.heap.objs.size) "set" := ⟨_,hS,by rw [<- hSo]⟩
    have hli:=PySem.F.called_set.init.lookup;have hbi:=PySem.F.called_set.init.bind (.ref s.heap.objs.size)
    repeat (any_goals (first | assumption | wp_step))
    refine codeAny_mono (codeAny_call_builtin (R:=wants (fun r s₂=>r=.none/\∃ h' tk,s₂={ s with heap:=h',toks:=tk }/\ZIi prog w h' s.heap.objs.size (fun k'=>(dd ss).any (· == k')) (dd ss).length/\
      (∀ b o,b < s.heap.objs.size->s.heap.get? b=some o->h'.get? b=some o)) E) PySem.F.called_set.init.plain PySem.F.entry_set_init (check_set_init_1 hT ?_)) fun r₂ s₂ hr₂=>?_
    ·have ho':(s.heap.push so).get? l=some { cls:=.type T,dict:=od,data:=.seq items nl,slots:=osl }:=Heap.get?_push_of_some _ ho
     subst hSo
     unfold Builtin.«set.__init__» noKeywords Builtin.Frozenset.updateFrom
     generalize hPI:pyIter=PI
     wp_walk
     subst hPI
     refine hit { s with heap:=s.heap.push _ } _ _ rfl (ho'.trans ho.symm) (Nat.lt_of_lt_of_eq (Nat.lt_succ_of_lt hlt) hsz.symm) fun ob St P W hval st0=>?_
     refine wpAny_bind (wpAny_runValue ?_)
     have hSf:s.heap.objs.size∉[(s.heap.push { cls:=.type "set", dict:=none,data:=.set #[] 0 (.fresh 0 0 (!byT w)) }).objs.size,l]:=by
      rw [hsz];simp only [List.mem_cons,List.not_mem_nil,or_false,not_or]
      exact ⟨Nat.ne_of_lt (Nat.lt_succ_self _),Nat.ne_of_gt hlt⟩
     refine ZOS W s.heap.objs.size hSf hval hb (ss.length - 0) 0 _ rfl (Nat.zero_le _) st0 ?_ ?_
     ·have hg:=Heap.get?_push_of_some ob hS
      exact ⟨_,#[],0,_,hg,⟨rfl,rfl,rfl⟩,rfl,fun e he=>by simp at he,fun k=>by simp [dd],by decide,by rfl,rfl,rfl,fun h=>absurd h (by simp)⟩
     ·intro s' hm hS'
      obtain ⟨h',g',d',tk',os'⟩:=s'
      have eg:g'=s.gens:=hm.gens
      have ed:d'=s.drawn:=hm.drawn
      have eo:os'=s.os:=hm.os
      subst eg;subst ed;subst eo
      show wpAny _ _ _ _ _ _
      refine wpAny_pure ?_
      show wpAny _ _ (ret Value.none) _ _ _
      refine wpAny_pure ⟨rfl,h',tk',rfl,hS',fun b o hb' e=>?_⟩
      refine hm.heap b o ?_ (Heap.get?_push_of_some _ (Heap.get?_push_of_some _ e))
      rw [hsz];simp only [List.mem_cons,List.not_mem_nil,or_false,not_or]
      exact ⟨Nat.ne_of_lt hb',Nat.ne_of_lt (Nat.lt_succ_of_lt hb')⟩
    ·cases r₂ with
     | error e=>exact hr₂
     | ok fl₂=>
      cases fl₂ with
      | ret r=>
       obtain ⟨rfl,h',tk,rfl,hS',hk'⟩:=hr₂
       repeat (any_goals (first | assumption | wp_step))
       exact h _ _ hS' hk'
      | _=>exact hr₂.elim
   | _=>exact hr.elim))
end
def ZQC (P:Program) (w:World) (a:Addr) (f:Str->Bool) (n:Nat):HO:=.ext fun h=>ZIi P w h a f n
section
variable {X:Cx}
theorem ZPy (hc:X.calm=true):ZFH X (.type "set") (fun xs H Q=>∃ (p:Addr) (tp:Bool) (ss:List Str),xs=[.ref p]/\SqB X.K tp H p (ss.map V.str)/\ss.length < 4000/\
  ∀ l,H l=none->Q (.ref l) (upd H l (ZQC X.prog X.w l (fun k'=>(dd ss).any (· == k')) (dd ss).length))):=by
 intro pins s σ H xs us Q I r h
 obtain ⟨p,tp,ss,rfl,hq,hz,q⟩:=h
 obtain ⟨u,rfl,rx⟩:=vals1 r
 cases rx
 have hb:ss.length+1 < scanBound:=by unfold scanBound;omega
 have fin:∀ (h':Heap) (tk:Nat),ZIi X.prog X.w h' s.heap.objs.size (fun k'=>(dd ss).any (· == k')) (dd ss).length->(∀ b o,b < s.heap.objs.size->s.heap.get? b=some o->h'.get? b=some o)->
   EP X pins σ Q (.ref s.heap.objs.size) { s with heap:=h',toks:=tk }:=fun h' tk hS kp=>by
  refine ⟨.ref s.heap.objs.size,_,I.laid (t':=tk) (fun b o e=>kp b o (Heap.lt_size e) e) (Nat.le_refl _) (show ZCr X.prog X.w _ h' _ (ZQC X.prog X.w s.heap.objs.size _ _) from ⟨hS,?_,fun h1 h2 hS1 kp1=>?_⟩),rfl,q _ (I.hok.fresh (Nat.le_refl _))⟩
  ·obtain ⟨o,_,_,_,ho,_⟩:=hS
   exact ⟨o,ho⟩
  ·exact hS1.keep kp1
 cases tp with
 | false=>
  obtain ⟨its,rv,pl,hz'⟩:=I.list hq
  have hl:=rv.length
  rw [List.length_map] at hl
  obtain ⟨⟨c,d,dt,sl⟩,n,ho,hcl,hd,hdt⟩:=id pl
  simp only at hcl hd hdt
  subst hcl;subst hd;subst hdt
  refine ZIr ho PySem.F.sub_list_set PySem.F.sub_list_frozenset (by decide) hb (fun s1 A1 Q1 hA e1 l1 hQ1=>?_) fin
  have hl1:s1.heap.IsList p its.toArray:=⟨_,e1.trans ho,rfl,n,rfl⟩
  have hsz':its.toArray.size=ss.length:=List.size_toArray.trans hl.symm
  refine wpAny_pyIter_list hl1 (hQ1 _ (fun i s=>s.heap.IsListIter s1.heap.objs.size p i/\s.heap.IsList p its.toArray) (fun i v=>its.toArray[i]?=some v) (by
   have W:=(Walks.list (prog:=X.prog) (w:=X.w) (A:=A1.in1) (by rw [Around.in1_handled,hA];exact I.ok.hd hc) s1.heap.objs.size p (Nat.ne_of_lt l1) its.toArray).toS
   rw [hsz'] at W
   exact W) (fun i v e=>ZKb rv (by simpa using e)) ⟨⟨_,Heap.get?_push_size _ rfl,rfl,rfl⟩,hl1.push _⟩)
 | true=>
  obtain ⟨its,rv,pl,hz'⟩:=I.tuple hq
  have hl:=rv.length
  rw [List.length_map] at hl
  obtain ⟨⟨c,d,dt,sl⟩,ho,hcl,n,hdt⟩:=id pl
  simp only at hcl hdt
  subst hcl;subst hdt
  refine ZIr ho sub_tuple_set sub_tuple_frozenset (by decide) hb (fun s1 A1 Q1 hA e1 l1 hQ1=>?_) fin
  have hl1:s1.heap.IsTuple p its.toArray:=⟨_,e1.trans ho,rfl,n,rfl⟩
  have hsz':its.toArray.size=ss.length:=List.size_toArray.trans hl.symm
  refine wpAny_pyIter_tuple hl1 (hQ1 _ (fun i s=>s.heap.IsTupleIter s1.heap.objs.size p i/\s.heap.IsTuple p its.toArray) (fun i v=>its.toArray[i]?=some v) (by
   have W:=(Walks.tuple (prog:=X.prog) (w:=X.w) (A:=A1.in1) (by rw [Around.in1_handled,hA];exact I.ok.hd hc) s1.heap.objs.size p (Nat.ne_of_lt l1) its.toArray).toS
   rw [hsz'] at W
   exact W) (fun i v e=>ZKb rv (by simpa using e)) ⟨⟨_,Heap.get?_push_size _ rfl,rfl,rfl⟩,?_⟩)
  exact ⟨_,Heap.get?_push_of_some _ (e1.trans ho),rfl,n,rfl⟩
theorem Inv.drew {pins:List (Addr×Obj)}{σ:St} {H:Hp}{s:Shared}(I:Inv X pins σ H s) (d:Drawn):Inv X pins σ H { s with drawn:=d }:=
 I.step (h':=s.heap) (g':=s.gens) (t':=s.toks) (d':=d) (ch:=[]) (fun _ z=>nomatch z) (fun b o _ _ _ e _=>e) (fun b o _ _ _ e _=>⟨o.slots,e⟩) (fun _ _ _ _ n=>n) (fun b o _ e=>⟨o,e⟩) (fun _ _ e=>e) (fun _ _ _ e=>e) (fun b ps e=>⟨#[],by rw [e];simp⟩) (fun m hm=>hm) I.hok I.bare
end
section
variable {prog:Program}{w:World}{A:Around}{E:Value->Shared->Prop}{s:Shared}
theorem ZMD {l:Addr}{vs:List Value}{Q:List Value->Shared->Prop}(hl:IsTup s.heap l vs.toArray) (h:Q vs { s with heap:=(s.heap.push (seqObj "list" #[] 0)).update s.heap.objs.size (Obj.mapSeq (·++vs.toArray)) }) (hsz:vs.length<=sizeLine) :
  wpAny (model prog w) A (collect (.ref l)) Q E s:=by
 obtain ⟨o,ho,hc,n,hd⟩:=id hl
 unfold collect
 refine wpAny_bind (wpAny_runValue (codeAny_builtin entry_proto_collect' ?_))
 show wpAny _ _ (newList [] >>= fun x=>again (.builtin "list.__iadd__" ⟨[x,.ref l],[]⟩)) _ _ s
 refine wpAny_bind (wpAny_newList ?_)
 refine wpAny_pure ⟨Code.quiet_builtin _ (by decide +kernel),codeAny_builtin entry_list_iadd' ?_⟩
 show wpAny _ _ (Builtin.List.listExtendWith (.ref s.heap.objs.size) (.ref l) (.ref s.heap.objs.size)) _ _ { s with heap:=s.heap.push (seqObj "list" #[] 0) }
 unfold Builtin.List.listExtendWith
 have g:(s.heap.push (seqObj "list" #[] 0)).get? l=some o:=Heap.get?_push_of_some _ ho
 refine wpAny_bind (wpAny_typeOf (T := "tuple") ⟨o,g,hc⟩ ?_)
 rw [if_pos (by simp)]
 refine wpAny_bind (listItems_at g hd ?_)
 refine wpAny_bind (listItems_at (xs:=#[]) (n:=0) (Heap.get?_push_size _ rfl) rfl ?_)
 rw [if_neg (by simp)]
 refine wpAny_bind (listUpdate_at (xs:=#[]) (n:=0) (Heap.get?_push_size _ rfl) rfl ?_ (Nat.zero_le _) (by show (#[]++vs.toArray).size<=sizeLine+1;simp only [Array.size_append,List.size_toArray,List.length_nil];omega))
 refine wpAny_pure ?_
 show wpAny (model prog w) A (load s.heap.objs.size >>= fun o=>(match o.data with | .seq xs _=>pure xs.toList | _=>unsupported "internal:collect")) Q E _
 refine wpAny_bind (wpAny_load (get?_update_seq (Heap.get?_push_size _ rfl) _) ?_)
 show wpAny _ _ (pure ((#[]:Array Value)++vs.toArray).toList) Q E _
 have e:((#[]:Array Value)++vs.toArray).toList=vs:=by simp
 rw [e]
 exact wpAny_pure h
theorem ZJW {v:Value}{Pc:List Value->Shared->Prop}{Q:Value->Shared->Prop}
  (hc:∀ (A1:Around) (E1:Value->Shared->Prop) (Q1:List Value->Shared->Prop),A1.handled=A.handled->(∀ vs s1,Pc vs s1->Q1 vs s1)->wpAny (model prog w) A1 (collect v) Q1 E1 s)
  (h:∀ vs s1,Pc vs s1->vs.length < 64/\∃ ss,StrsAre vs ss/\∀ out ss' e h',(∀ b o,s1.heap.get? b=some o->h'.get? b=some o)->h'.get? s1.heap.objs.size=some (seqObj "list" out e)->StrsAre out.toList ss'->ss'.Perm ss->sortedS ss'=true->Q (.ref s1.heap.objs.size) { s1 with heap:=h' }) :
  wpAny (model prog w) A (call (.builtin "sorted") [v]) Q E s:=by
 refine Calls.call_function_entry kind_sorted plain_sorted entry_sorted (args_sorted1 _) ?_
 unfold Builtin.«sorted»
 refine wpAny_bind (m:=checkCount "sorted" 1 1 _) (wpAny_pure ?_)
 refine wpAny_bind (hc _ _ _ rfl fun vs s1 hp=>?_)
 obtain ⟨h64,ss,hss,k⟩:=h vs s1 hp
 refine wpAny_bind (wpAny_newList ?_)
 have hoL:(s1.heap.push (seqObj "list" vs.toArray 0)).get? s1.heap.objs.size=some (seqObj "list" vs.toArray 0):=Heap.get?_push_size _ rfl
 refine wpAny_bind (wpAny_holding (wpAny_call_entry slot_list_sort ⟨_,hoL,rfl⟩ entry_list_sort (list_sort_treeK (s:={ s1 with heap:=s1.heap.push (seqObj "list" vs.toArray 0) }) strKind_oneLt hoL hss.keysOf (fun v₁ v₂ rest e=>keyKind_strs (by rw [<- e];exact hss)) h64 fun st' a1 a2=>⟨_,rfl,?_⟩) (args_list_sort _)))
 obtain ⟨ss',b1,b2,b3⟩:=sorted_out_str hss a1 a2
 obtain ⟨e,he⟩:=sortedHeap_at (out:=(arrOf st').map (·.2)) hoL
 refine wpAny_pure ⟨_,rfl,k _ ss' e _ (fun b o hb=>?_) he b1 b2 b3⟩
 have hlt:=Heap.lt_size hb
 rw [sortedHeap_old (Nat.ne_of_lt hlt) (by rw [Heap.size_push];exact Nat.lt_succ_of_lt hlt)]
 exact Heap.get?_push_of_some _ hb
end
theorem ZH7:∀ {ss:List Str}{us:List Value},Vals (ss.map V.str) us->StrsAre us ss
 | [],_,.nil=>.nil
 | x :: r,_,.cons ⟨t,e⟩ h=>by rw [e];exact .cons x t (ZH7 h)
theorem ZHG:∀ {ss:List Str}{us:List Value},StrsAre us ss->Vals (ss.map V.str) us
 | _,_,.nil=>.nil
 | _,_,.cons x t h=>.cons ⟨t,rfl⟩ (ZHG h)
section
variable {X:Cx}
theorem ZJb {pins:List (Addr×Obj)}{σ:St} {H:Hp}{s s1:Shared}{Q:VK}(I:Inv X pins σ H s) (hg:s1.gens=s.gens) (ho:s1.os=s.os) (hk:∀ b o,s.heap.get? b=some o->s1.heap.get? b=some o) (hs:s.heap.objs.size<=s1.heap.objs.size)
  {out:Array Value}{ss':List Str}{e:Nat}{h':Heap}(kp:∀ b o,s1.heap.get? b=some o->h'.get? b=some o) (he:h'.get? s1.heap.objs.size=some (seqObj "list" out e)) (hS:StrsAre out.toList ss') (h64:ss'.length < 64)
  (q:∀ l,H l=none->Q (.ref l) (upd H l (.lst (ss'.map V.str)))):EP X pins σ Q (.ref s1.heap.objs.size) { s1 with heap:=h' }:=by
 obtain ⟨h1,g1,d1,t1,o1⟩:=s1
 simp only at hg ho hk hs kp he
 subst hg;subst ho
 refine ⟨.ref _,_,(I.drew d1).laid (a:=h1.objs.size) (h':=h') (t':=t1) (o:=.lst (ss'.map V.str)) (fun b o q=>kp b o (hk b o q)) hs ?_,rfl,q _ (I.hok.fresh hs)⟩
 refine ⟨?_,out.toList,e,ZHG hS,by simpa [seqObj] using he⟩
 rw [List.length_map]
 exact Nat.le_trans (Nat.le_of_lt h64) (by decide +kernel)
def ZMg (K:PySem.W.Frag):List V->Hp->VK->Prop:=fun xs H Q=>∃ (p:Addr) (tp:Bool) (ss:List Str),xs=[.ref p]/\SqB K tp H p (ss.map V.str)/\ss.length < 64/\∀ l ss',H l=none->ss'.Perm ss->sortedS ss'=true->Q (.ref l) (upd H l (.lst (ss'.map V.str)))
theorem ZDZ:ZFH X (.builtin "sorted") (ZMg X.K):=by
 intro pins s σ H xs us Q I r h
 obtain ⟨p,tp,ss,rfl,hq,h64,q⟩:=h
 obtain ⟨u,rfl,rx⟩:=vals1 r
 cases rx
 have key:∀ its:List Value,Vals (ss.map V.str) its->(∀ (A1:Around) (E1:Value->Shared->Prop) (Q1:List Value->Shared->Prop),Q1 its { s with heap:=(s.heap.push (seqObj "list" #[] 0)).update s.heap.objs.size (Obj.mapSeq (·++its.toArray)) }->wpAny (model X.prog X.w) A1 (collect (.ref p)) Q1 E1 s)->
   wpAny (model X.prog X.w) X.A (call (.builtin "sorted") [.ref p]) (EP X pins σ Q) X.xe s:=by
  intro its rv hcol
  have hlen:=rv.length
  rw [List.length_map] at hlen
  refine ZJW (Pc:=fun vs s1=>vs=its/\s1={ s with heap:=(s.heap.push (seqObj "list" #[] 0)).update s.heap.objs.size (Obj.mapSeq (·++its.toArray)) }) (fun A1 E1 Q1 _ k=>hcol A1 E1 Q1 (k _ _ ⟨rfl,rfl⟩)) ?_
  rintro vs s1 ⟨rfl,rfl⟩
  refine ⟨by omega,ss,ZH7 rv,fun out ss' e h' kp he hS hp hs=>?_⟩
  refine ZJb (s1:={ s with heap:=(s.heap.push (seqObj "list" #[] 0)).update s.heap.objs.size (Obj.mapSeq (·++vs.toArray)) }) I rfl rfl (fun b o hb=>?_) (by show s.heap.objs.size<=((s.heap.push (seqObj "list" #[] 0)).update s.heap.objs.size (Obj.mapSeq (·++vs.toArray))).objs.size;rw [Heap.size_update,Heap.size_push];exact Nat.le_succ _) kp he hS (by rw [hp.length_eq];exact h64) fun l hl=>q l ss' hl hp hs
  show ((s.heap.push _).update _ _).get? b=some o
  rw [Heap.get?_update_ne _ _ _ _ (Nat.ne_of_lt (Heap.lt_size hb))]
  exact Heap.get?_push_of_some _ hb
 cases tp with
 | false=>
  obtain ⟨its,rv,pl,hz⟩:=I.list hq
  have hlen:=rv.length
  exact key its rv fun A1 E1 Q1 k=>collect_list pl.isList k (by omega)
 | true=>
  obtain ⟨its,rv,pl,hz⟩:=I.tuple hq
  have hlen:=rv.length
  exact key its rv fun A1 E1 Q1 k=>ZMD pl k (by omega)
def ZNx (P:Program) (w:World):List V->Hp->VK->Prop:=fun xs H Q=>∃ (p:Addr) (f:Str->Bool) (n:Nat),xs=[.ref p]/\H p=some (ZQC P w p f n)/\n < 64/\∀ l ts,H l=none->ts.length=n->(∀ k,f k=true↔k∈ts)->sortedS ts=true->Q (.ref l) (upd H l (.lst (ts.map V.str)))
theorem ZLh (hc:X.calm=true):ZFH X (.builtin "sorted") (ZNx X.prog X.w):=by
 intro pins s σ H xs us Q I r h
 obtain ⟨p,f,n,rfl,hH,h64,q⟩:=h
 obtain ⟨u,rfl,rx⟩:=vals1 r
 cases rx
 have hS:ZIi X.prog X.w s.heap p f n:=(I.hok p _ hH).1
 have hh:X.A.handled=none:=I.ok.hd hc
 refine ZJW (Pc:=fun vs s1=>∃ ts,(∀ b o,s.heap.get? b=some o->s1.heap.get? b=some o)/\s.heap.objs.size<=s1.heap.objs.size/\s1.gens=s.gens/\s1.os=s.os/\StrsAre vs ts/\ts.length=n/\(∀ k,f k=true↔k∈ts)) (fun A1 E1 Q1 hA k=>?_) ?_
 ·exact ZMf (hA.trans hh) hS (Nat.le_trans (Nat.le_of_lt h64) (by decide +kernel)) fun s' vs ts a1 a2 a3 a4 a5 a6 a7=>k vs s' ⟨ts,a1,a2,a3,a4,a5,a6,a7⟩
 ·rintro vs s1 ⟨ts,a1,a2,a3,a4,a5,a6,a7⟩
  refine ⟨by rw [StrsAre.len a5,a6];exact h64,ts,a5,fun out ss' e h' kp he hS' hp hs=>?_⟩
  exact ZJb I a3 a4 a1 a2 kp he hS' (by rw [hp.length_eq,a6];exact h64) fun l hl=>q l ss' hl (hp.length_eq.trans a6) (fun k=>(a7 k).trans hp.mem_iff.symm) hs
end
end L2
namespace L2
inductive EqT (K:PySem.W.Frag) (H:Hp):Nat->V->V->Prop where
 | flat {d:Nat}{x y:V}:ZEA x=true->ZEA y=true->eqV x y=true->EqT K H d x y
 | same {d:Nat}{p:Addr}:EqT K H d (.ref p) (.ref p)
 | tup {d:Nat}{p q:Addr}{xs ys:List V}:SqT K H p xs->SqT K H q ys->xs.length=ys.length->(∀ (j:Nat) (x y:V),xs[j]?=some x->ys[j]?=some y->EqT K H d x y)->EqT K H (d+1) (.ref p) (.ref q)
section
variable {X:Cx}{pins:List (Addr×Obj)}{σ:St} {H:Hp}{s:Shared}
end
end L2
namespace MA
def lets (n:Nat):List Nat:=if h:n < 26 then [97+n] else (97+n % 26) :: lets (n / 26)
termination_by n
decreasing_by omega
def vals:List Nat->Nat
 | []=>0
 | c :: r=>(c - 97)+26 * vals r
theorem ZDA {n:Nat}(h:n < 26):lets n=[97+n]:=by unfold lets;simp [h]
theorem ZGK {n:Nat}(h:¬ n < 26):lets n=(97+n % 26) :: lets (n / 26):=by rw [lets];simp [h]
theorem ZM5:∀ n,vals (lets n)=n:=by
 intro n
 induction n using Nat.strongRecOn with
 | _ n ih=>
  by_cases h:n < 26
  ·rw [ZDA h];simp [vals]
  ·rw [ZGK h]
   have:=ih (n / 26) (by omega)
   simp only [vals,this]
   omega
theorem ZQx {a b:Nat}(h:lets a=lets b):a=b:=by rw [<- ZM5 a,h,ZM5]
theorem ZJq (n:Nat):1<=(lets n).length:=by
 by_cases h:n < 26
 ·rw [ZDA h];simp
 ·rw [ZGK h];simp
theorem ZHa:∀ (k n:Nat),n < 26 ^ (k+1)->(lets n).length<=k+1
 | 0,n,h=>by rw [ZDA (by simpa using h)];simp
 | k+1,n,h=>by
  by_cases h1:n < 26
  ·rw [ZDA h1];simp
  ·rw [ZGK h1]
   have:=ZHa k (n / 26) (by rw [Nat.pow_succ] at h;exact Nat.div_lt_of_lt_mul (by rw [Nat.mul_comm];exact h))
   simp only [List.length_cons];omega
theorem ZRv:∀ n,∀ c∈lets n,97<=c/\c<=122:=by
 intro n
 induction n using Nat.strongRecOn with
 | _ n ih=>
  by_cases h:n < 26
  ·rw [ZDA h];intro c hc;simp at hc;omega
  ·rw [ZGK h]
   intro c hc
   rcases List.mem_cons.mp hc with e | e
   ·omega
   ·exact ih (n / 26) (by omega) c e
theorem ZSB {α:Type} [DecidableEq α]:∀ (k:Nat) (f:Nat->α) (l:List α),(∀ i j,i < k->j < k->f i=f j->i=j)->(∀ i,i < k->f i∈l)->k<=l.length
 | 0,_,_,_,_=>Nat.zero_le _
 | k+1,f,l,hi,hm=>by
  have h1:=hm k (Nat.lt_succ_self k)
  have:=ZSB k f (l.erase (f k)) (fun i j a b e=>hi i j (by omega) (by omega) e) (fun i a=>by
   have hne:f i≠f k:=fun e=>by have:=hi i k (by omega) (by omega) e;omega
   exact (List.mem_erase_of_ne hne).mpr (hm i (by omega)))
  rw [List.length_erase_of_mem h1] at this
  have hp:=List.length_pos_of_mem h1
  omega
end MA
set_option exponentiation.threshold 5000
namespace Lw
open L2
def Pot (H:Hp) (p:Addr):Prop:=∃ a b:Int,H p=some (.lst [.int a,.int b])/\0<=a/\a < 10 ^ 256/\0<=b/\b < 2147483647
structure ZB3 (p:Addr) (H H':Hp):Prop where
 pot:Pot H' p
 same:ZHS p H H'
theorem ZB3.trans {p:Addr}{H H1 H2:Hp}(a:ZB3 p H H1) (b:ZB3 p H1 H2):ZB3 p H H2:=⟨b.pot,a.same.trans b.same⟩
theorem ZB3.of {p:Addr}{H H':Hp}(h:Pot H p) (s:ZAk H H'):ZB3 p H H':=by
 obtain ⟨a,b,e,r⟩:=h
 exact ⟨⟨a,b,s _ _ e,r⟩,ZHS.of s⟩
theorem ZB3.sqL {K:PySem.W.Frag}{p a:Addr}{H H':Hp}{xs:List V}(s:ZB3 p H H') (h:SqL K H a xs) (hne:a≠p):SqL K H' a xs:=by
 rcases h with (h | ⟨o,h⟩) | h
 ·exact .inl (.inl (s.same _ _ hne h))
 ·exact .inl (.inr ⟨o,s.same _ _ hne h⟩)
 ·exact .inr h
theorem ZB3.at' {p a:Addr}{H H':Hp}{o:HO}(s:ZB3 p H H') (h:H a=some o) (hne:a≠p):H' a=some o:=s.same _ _ hne h
theorem ZE3 {a:Int}(h0:-(10 ^ 20) < a) (h1:a < 10 ^ 20):a.natAbs < 2 ^ 1000:=by
 have h4:a.natAbs < 10 ^ 20:=by omega
 exact Nat.lt_trans h4 (by decide +kernel)
def ZRr (K:PySem.W.Frag):Sp:=fun vs H Q _=>∃ (a:Addr) (ns:List Int) (k:Int),vs=[.ref a,.int k]/\SqL K H a (ns.map V.int)/\0<=k/\k<=1000/\∀ p H',H p=none->ZAk H H'->Pot H' p->Q (.ref p) H'
def ZEx:Sp:=fun vs H Q _=>∃ (p:Addr) (m:Int),vs=[.ref p,.int m]/\Pot H p/\0 < m/\m < 10 ^ 18/\∀ r H',0<=r->r < m->ZB3 p H H'->Q (.int r) H'
def ZIt (l:List Nat):Str:=⟨l.toArray⟩
def ZLg:Sp:=fun vs H Q _=>∃ r:Int,vs=[.int r]/\0<=r/\r < 26 ^ 8/\Q (.str (ZIt (MA.lets r.toNat))) H
end Lw
namespace Lw
open L2
theorem ZM3 {α:Type} {xs:List α}{k:Int}{v:α}(h0:0<=k) (h:xs[k.toNat]?=some v):atI xs k=some v:=by
 have ek:k=((k.toNat:Nat):Int):=by omega
 have q:=ZFT h
 rw [<- ek] at q
 exact q
end Lw
namespace Lw
open L2
abbrev abc:Str := "abcdefghijklmnopqrstuvwxyz"
theorem ZUA:∀ j,j < 26->abc.cps.toList[j]?=some (97+j):=by decide +kernel
theorem ZSE {k:Int}(h0:0<=k) (h1:k < 26):atI abc.cps.toList k=some (97+k.toNat):=ZM3 h0 (ZUA _ (by omega))
theorem ZLV (l:List Nat) (c:Nat):ZIt l++(⟨#[c]⟩:Str)=ZIt (l++[c]):=by
 show (⟨l.toArray++#[c]⟩:Str)=⟨(l++[c]).toArray⟩
 simp
theorem ZHk (l:List Nat):(ZIt l).length=l.length:=by simp [ZIt,Str.length]
theorem ZJH {l:List Nat}:(V.str (ZIt l)=V.str (Str.ofString ""))↔l=[]:=by
 constructor
 ·intro h
  injection h with h
  have h2:=congrArg (fun x=>x.cps.toList) h
  have e:(Str.ofString "").cps.toList=[]:=by decide +kernel
  rw [e] at h2
  simpa [ZIt] using h2
 ·rintro rfl;rfl
theorem small {n:Nat}(h:n<=100000):n<=sizeLine:=Nat.le_trans h (by decide +kernel)
theorem ZLX {n k:Nat}{pre:List Nat}(h:pre++MA.lets k=MA.lets n):(0 < k / 26->(pre++[97+k % 26])++MA.lets (k / 26)=MA.lets n)/\(k / 26=0->pre++[97+k % 26]=MA.lets n):=by
 constructor
 ·intro h1
  rw [MA.ZGK (by omega)] at h
  rw [<- h,List.append_assoc];rfl
 ·intro h1
  have h2:k < 26:=by omega
  rw [MA.ZDA h2] at h
  rw [<- h,Nat.mod_eq_of_lt h2]
end Lw
namespace Lw
open L2
def Nm (x:Str):Prop:=1<=x.length/\x.length<=8/\∀ c∈x.cps.toList,97<=c/\c<=122
instance (x:Str):Decidable (Nm x):=by unfold Nm;exact inferInstance
theorem ZDE (x:Str):x.length=x.cps.toList.length:=by simp [Str.length]
theorem ZMY {n:Nat}(h:n < 26 ^ 8):Nm (ZIt (MA.lets n)):=by
 refine ⟨by rw [ZHk];exact MA.ZJq n,by rw [ZHk];exact MA.ZHa 7 n h,fun c hc=>MA.ZRv n c (by simpa [ZIt] using hc)⟩
def menu:List Str:=["put", "take", "none", "ahead", "all", "over", "next", "a", "ab", "abc", "abcdefgh", "b", "step"]
theorem ZTc:∀ x∈menu,Nm x:=by decide +kernel
def ZR1:List V:=[.str "put", .str "take", .str "none", .str "ahead", .str "all", .str "over", .str "next", .str "a", .str "ab", .str "abc", .str "abcdefgh", .str "b", .str "step"]
theorem ZT8 {i:Int}(h0:0<=i) (h1:i < 13):∃ x,atI ZR1 i=some (.str x)/\Nm x:=by
 have hl:menu.length=13:=rfl
 have hi:i.toNat < menu.length:=by omega
 have e:ZR1=menu.map V.str:=rfl
 refine ⟨menu[i.toNat],ZM3 h0 ?_,ZTc _ (List.getElem_mem hi)⟩
 rw [e,List.getElem?_map,List.getElem?_eq_getElem hi];rfl
theorem ZG4 {ns:List Str}{i:Int}(h0:0<=i) (h1:i < ns.length):∃ x,atI (ns.map V.str) i=some (.str x)/\x∈ns/\ns[i.toNat]?=some x:=by
 have hi:i.toNat < ns.length:=by omega
 exact ⟨ns[i.toNat],ZM3 h0 (by rw [List.getElem?_map,List.getElem?_eq_getElem hi];rfl),List.getElem_mem hi,List.getElem?_eq_getElem hi⟩
theorem ZBr (ns:List Str):(ns.map V.str).all ZEA=true:=by
 rw [List.all_eq_true];intro x hx
 obtain ⟨y,_,rfl⟩:=List.mem_map.mp hx;rfl
theorem ZHi (x:Str) (ns:List Str):inV (.str x) (ns.map V.str)=decide (x∈ns):=by
 unfold inV
 rw [Bool.eq_iff_iff,List.any_eq_true,decide_eq_true_iff]
 constructor
 ·rintro ⟨v,hv,h⟩
  obtain ⟨y,hy,rfl⟩:=List.mem_map.mp hv
  have h':(y == x)=true:=h
  have:y=x:=by simpa using h'
  rw [<- this];exact hy
 ·intro h
  exact ⟨.str x,List.mem_map.mpr ⟨x,h,rfl⟩,by show (x == x)=true;simp⟩
theorem ZGH (xs:List V):ZNk xs []=decide (xs=[]):=by
 cases xs with
 | nil=>rfl
 | cons x r=>rw [ZGq (by simp)];simp
theorem ZTe {x y:Str}(h:x.cps.toList=y.cps.toList):x=y:=by
 cases x;cases y;simp only [Str.mk.injEq];exact Array.toList_inj.mp h
theorem ZPd (z:Str){a b:Nat}{lo hi:Option Int}(hab:a<=b) (hb:b<=z.length) (e:Builtin.Str.strSliceIndices lo hi 1 z.length=Builtin.Str.strSliceIndices (some (a:Int)) (some (b:Int)) 1 z.length) :
  (Txt.slice z lo hi).cps.toList=(z.cps.toList.drop a).take (b - a):=by
 have q:=StrLaws.sliced_plain z hab hb
 rw [<- e] at q
 unfold Txt.slice
 split
 ·rename_i h
  have hl:(Builtin.Str.strSliceIndices lo hi 1 z.length).length=z.length:=by simpa using h
  rw [e,StrLaws.strSliceIndices_plain hab hb,List.length_map,List.length_range] at hl
  have h1:a=0:=by omega
  have h2:b=z.length:=by omega
  subst h1;subst h2
  rw [List.drop_zero,Nat.sub_zero,ZDE,List.take_length]
 ·rw [<- q]
theorem ZOU (z:Str){j:Int}(h:0<=j):(Txt.slice z none (some j)).cps.toList=z.cps.toList.take j.toNat:=by
 have e:=ZPd z (a:=0) (b:=min j.toNat z.length) (lo:=none) (hi:=some j) (Nat.zero_le _) (Nat.min_le_right _ _) (by
  have h1:¬ j < 0:=by omega
  have h2:¬ (((min j.toNat z.length:Nat):Int) < 0):=by omega
  have h3:max (0:Int) (min j (z.length:Int))=max 0 (min ((min j.toNat z.length:Nat):Int) (z.length:Int)):=by omega
  simp only [Builtin.Str.strSliceIndices,h1,h2,if_false,h3]
  rfl)
 rw [e,List.drop_zero,Nat.sub_zero]
 rcases Nat.le_total j.toNat z.length with h1 | h1
 ·rw [Nat.min_eq_left h1]
 ·rw [Nat.min_eq_right h1,ZDE,List.take_length,List.take_of_length_le (by rw [<- ZDE];exact h1)]
theorem ZHs {z:Str}{j:Int}(h:1<=j) (hj:j<=8) (hz:1<=z.length) (hc:∀ c∈z.cps.toList,97<=c/\c<=122):Nm (Txt.slice z none (some j)):=by
 have e:=ZOU z (j:=j) (by omega)
 refine ⟨?_,?_,fun c hc'=>hc c ?_⟩
 ·rw [ZDE,e,List.length_take,<- ZDE];omega
 ·rw [ZDE,e,List.length_take];omega
 ·rw [e] at hc';exact List.mem_of_mem_take hc'
theorem ZGs (x y:Str):(x++y).cps.toList=x.cps.toList++y.cps.toList:=by
 show (x.cps++y.cps).toList=_
 simp
theorem ZH4 (x y:Str):(x++y).length=x.length+y.length:=by rw [ZDE,ZGs,List.length_append,<- ZDE,<- ZDE]
def ZL9 (K:PySem.W.Frag):Sp:=fun vs H Q _=>∃ (p q:Addr) (ns:List Str),vs=[.ref p,.ref q]/\Pot H p/\SqL K H q (ns.map V.str)/\q≠p/\(∀ x∈ns,Nm x)/\ns.length<=1000/\∀ x H',Nm x->x∉ns->ZB3 p H H'->Q (.str x) H'
theorem ZP4 {ns:List Str}{k:Nat}(h:∀ j,j < k->ZIt (MA.lets j)∈ns):k<=ns.length:=
 MA.ZSB k (fun j=>ZIt (MA.lets j)) ns (fun i j _ _ e=>MA.ZQx (by
  have:=congrArg (fun x=>x.cps.toList) e
  simpa [ZIt] using this)) h
end Lw
namespace Lw
theorem ZWa:1000 < 26 ^ 8:=by decide +kernel
theorem ZW2:(1000:Int) < 26 ^ 8:=by decide +kernel
theorem ZVF:(26:Int) ^ (8:Int).toNat - 26 < 26 ^ 8:=by decide +kernel
theorem ZV5:(26:Int) < 26 ^ 8:=by decide +kernel
theorem ZW5:(0:Int) < 26 ^ (8:Int).toNat - 26:=by decide +kernel
theorem ZVE:(26:Int) ^ (8:Int).toNat - 26 < 10 ^ 18:=by decide +kernel
theorem ZSK {r:Int}(h0:0<=r) (h:r < 26 ^ 8):r.toNat < 26 ^ 8:=by omega
end Lw
namespace Lw
open L2
theorem ZB3.upd {p l:Addr}{H H2:Hp}{o:HO}(s:ZB3 p H H2) (h:H l=none) (hne:l≠p):ZB3 p H (upd H2 l o):=by
 obtain ⟨a,b,e,r⟩:=s.pot
 refine ⟨⟨a,b,by rw [ZAT (Ne.symm hne)];exact e,r⟩,fun c u hc q=>?_⟩
 rw [ZAT (ZAg q h)]
 exact s.same c u hc q
theorem ZB3.none {p l:Addr}{H H2:Hp}(s:ZB3 p H H2) (h:H2 l=none):H l=none:=by
 cases q:H l with
 | none=>rfl
 | some o=>
  by_cases e:l=p
  ·obtain ⟨a,b,e2,_⟩:=s.pot
   rw [<- e,h] at e2;cases e2
  ·rw [s.same l o e q] at h;cases h
theorem Pot.ne {p l:Addr}{H:Hp}(h:Pot H p) (hl:H l=none):l≠p:=by
 obtain ⟨_,_,e,_⟩:=h
 exact (ZAg e hl).symm
theorem ZAk.none {l:Addr}{H H2:Hp}(s:ZAk H H2) (h:H2 l=none):H l=none:=by
 cases q:H l with
 | none=>rfl
 | some o=>rw [s l o q] at h;cases h
def ZPH:Sp:=fun vs H Q _=>∃ (p:Addr) (m:Int),vs=[.ref p,.int m]/\Pot H p/\0<=m/\m<=100/\
 ∀ l H' (ns:List Str),H l=none->ZB3 p H H'->H' l=some (.lst (ns.map V.str))->(ns.length:Int)=m->(∀ x∈ns,Nm x)->ns.Nodup->Q (.ref l) H'
def ZQw:Sp:=fun vs H Q _=>∃ (p:Addr) (m:Int),vs=[.ref p,.int m]/\Pot H p/\1<=m/\m<=100/\
 ∀ l H' (ns:List Str),H l=none->ZB3 p H H'->H' l=some (.lst (ns.map V.str))->(ns.length:Int)<=m->(∀ x∈ns,Nm x)->ns.Nodup->Q (.ref l) H'
theorem ZGb {α:Type} {l:List α}{x:α}(h:l.Nodup) (hx:x∉l):(l++[x]).Nodup:=by
 rw [List.nodup_append]
 exact ⟨h,by simp,fun a ha b hb=>by
  have:b=x:=by simpa using hb
  subst this
  rintro rfl
  exact hx ha⟩
theorem ZX3 {m j:Int}(h0:0<=j) (h1:j < 3) (hm:1<=m):∃ k:Int,atI [V.int 0,V.int 1,V.int m] j=some (.int k)/\0<=k/\k<=m:=by
 have:j=0∨j=1∨j=2:=by omega
 rcases this with rfl | rfl | rfl
 ·exact ⟨0,rfl,by omega,by omega⟩
 ·exact ⟨1,rfl,by omega,by omega⟩
 ·exact ⟨m,rfl,by omega,by omega⟩
def ZMV (c:Nat):Bool:=!(Builtin.Str.occurrences abc ⟨#[c]⟩ 0 abc.length 1).isEmpty
def isNm (x:Str):Bool:=decide ((1:Int)<=x.length) && (decide ((x.length:Int)<=8) && x.cps.toList.all ZMV)
def ZGD:Sp:=fun vs H Q _=>∃ x:Str,vs=[.str x]/\x.length<=1000/\∀ H',ZAk H H'->Q (.bl (isNm x)) H'
end Lw
namespace Lw
open L2
theorem ZPL {α:Type} (l:List α):l.filter (fun _=>true)=l:=List.filter_eq_self.mpr fun _ _=>rfl
def ZWd:V->V
 | .str y=>.bl (!(Builtin.Str.occurrences abc y 0 abc.length 1).isEmpty)
 | _=>.bl false
theorem ZNY (x:Str):((ZEO x).filter (fun _=>true)).map ZWd=(x.cps.toList.map ZMV).map V.bl:=by
 unfold ZEO
 rw [ZPL,List.map_map,List.map_map]
 rfl
theorem signs_get {x:Str}{i:Nat}{v:V}(h:(ZEO x)[i]?=some v):∃ c,v=.str ⟨#[c]⟩:=by
 unfold ZEO at h
 rw [List.getElem?_map] at h
 cases q:x.cps.toList[i]? with
 | none=>rw [q] at h;cases h
 | some c=>rw [q] at h;simp at h;exact ⟨c,h.symm⟩
theorem all_map {α:Type} (f:α->Bool) (l:List α):(l.map f).all id=l.all f:=by rw [List.all_map];rfl
theorem ZEE {ss:List Str}{i:Nat}{v:V}(h:(ss.map V.str)[i]?=some v):∃ x,v=.str x/\x∈ss:=by
 rw [List.getElem?_map] at h
 cases q:ss[i]? with
 | none=>rw [q] at h;cases h
 | some x=>rw [q] at h;simp at h;exact ⟨x,h.symm,List.mem_of_getElem? q⟩
end Lw
namespace Lw
open L2
end Lw
namespace Lw
open L2
theorem ZPM (xs:List Str):ZNk (xs.map V.str) (xs.map V.str)=true:=by
 rw [ZDx rfl,List.all_eq_true]
 intro j hj
 have hj':j < xs.length:=by simpa using hj
 have e:(xs.map V.str)[j]?=some (.str xs[j]):=by rw [List.getElem?_map,List.getElem?_eq_getElem hj'];rfl
 rw [ZIo e];show (xs[j] == xs[j])=true;simp
theorem ZRU (K:PySem.W.Frag) (t:String):PySem.W.kitOne K (.type t) (.type t)=some true:=by
 unfold PySem.W.kitOne;rw [if_pos (by simp)]
def ZOq (K:PySem.W.Frag):Sp:=fun vs H Q _=>∃ (a:Addr) (ns:List Int),vs=[.ref a]/\SqL K H a (ns.map V.int)/\ns.length<=63/\∀ H',Q (.bl true) H'
end Lw
namespace Lw
open L2
inductive ZBm where
 | put (x:Str) (i:Nat) | take (x:Str) | move (x:Str) (i:Nat) | turn (lo hi:Nat)
def ZBm.vals:ZBm->List V
 | .put x i=>[.str "put", .str x,.int i]
 | .take x=>[.str "take", .str x]
 | .move x i=>[.str "move", .str x,.int i]
 | .turn lo hi=>[.str "turn", .int lo,.int hi]
def ZBm.Ok (m:Nat) (ns:List Str):ZBm->Prop
 | .put x i=>Nm x/\x∉ns/\i<=ns.length/\ns.length < m
 | .take x=>x∈ns
 | .move x i=>x∈ns/\i < ns.length
 | .turn lo hi=>lo<=hi/\hi<=ns.length
def ins (ns:List Str) (x:Str) (i:Nat):List Str:=ns.take i++x :: ns.drop i
def wo (ns:List Str) (x:Str):List Str:=ns.filter fun y=>!decide (y=x)
def trn (ns:List Str) (lo hi:Nat):List Str:=ns.take lo++((ns.drop lo).take (hi - lo)).reverse++ns.drop hi
def ZBm.done (ns:List Str):ZBm->List Str
 | .put x i=>ins ns x i
 | .take x=>wo ns x
 | .move x i=>ins (wo ns x) x i
 | .turn lo hi=>trn ns lo hi
theorem ZFC {ns:List Str}{x:Str}(h:x∉ns):wo ns x=ns:=by
 unfold wo
 rw [List.filter_eq_self]
 intro y hy
 have:y≠x:=fun e=>h (e▸hy)
 simp [this]
theorem ZEY {ns:List Str}{x y:Str}:y∈wo ns x↔y∈ns/\y≠x:=by
 unfold wo
 rw [List.mem_filter]
 simp
theorem ZNc {ns:List Str}{x:Str}(h:ns.Nodup):(wo ns x).Nodup:=h.filter _
theorem ZLe (as bs:List Str) (x:Str):wo (as++bs) x=wo as x++wo bs x:=by unfold wo;rw [List.filter_append]
theorem ZHF (bs:List Str) (x:Str):wo (x :: bs) x=wo bs x:=by unfold wo;rw [List.filter_cons];simp
theorem ZQX {ns:List Str}{x:Str}(h:x∈ns):ns=ns.take (ns.idxOf x)++x :: ns.drop (ns.idxOf x+1):=by
 have hj:ns.idxOf x < ns.length:=List.idxOf_lt_length_iff.mpr h
 have e:ns[ns.idxOf x]=x:=List.getElem_idxOf hj
 conv=>lhs;rw [<- List.take_append_drop (ns.idxOf x) ns,List.drop_eq_getElem_cons hj,e]
theorem ZJZ {ns:List Str}{x:Str}(h:x∈ns):x∉ns.take (ns.idxOf x):=by
 intro hm
 obtain ⟨m,hm1,e⟩:=List.mem_iff_getElem.mp hm
 rw [List.length_take] at hm1
 rw [List.getElem_take] at e
 exact ZGU x ns m (by omega) (by omega) e
theorem ZJe {ns:List Str}{x:Str}(h:x∈ns) (nd:ns.Nodup):x∉ns.drop (ns.idxOf x+1):=by
 rw [ZQX h] at nd
 have h2:=(List.nodup_append.mp nd).2.1
 exact (List.nodup_cons.mp h2).1
theorem ZWK {ns:List Str}{x:Str}(h:x∈ns) (nd:ns.Nodup):wo ns x=ns.take (ns.idxOf x)++ns.drop (ns.idxOf x+1):=by
 conv=>lhs;rw [ZQX h]
 rw [ZLe,ZHF,ZFC (ZJZ h),ZFC (ZJe h nd)]
theorem ZEa {ns:List Str}{x:Str}(h:x∈ns) (nd:ns.Nodup):(wo ns x).length+1=ns.length:=by
 have hj:ns.idxOf x < ns.length:=List.idxOf_lt_length_iff.mpr h
 rw [ZWK h nd,List.length_append,List.length_take,List.length_drop]
 omega
theorem ZF6 {ns:List Str}{x:Str}{i:Nat}:(ins ns x i).length=ns.length+1:=by
 unfold ins
 rw [List.length_append,List.length_cons,List.length_take,List.length_drop]
 omega
theorem ZK0 {ns:List Str}{x y:Str}{i:Nat}:y∈ins ns x i↔y=x∨y∈ns:=by
 unfold ins
 rw [List.mem_append,List.mem_cons]
 have:y∈ns↔y∈ns.take i∨y∈ns.drop i:=by rw [<- List.mem_append,List.take_append_drop]
 rw [this]
 constructor
 ·rintro (h | h | h)
  ·exact .inr (.inl h)
  ·exact .inl h
  ·exact .inr (.inr h)
 ·rintro (h | h | h)
  ·exact .inr (.inl h)
  ·exact .inl h
  ·exact .inr (.inr h)
theorem ZIe {ns:List Str}{x:Str}{i:Nat}(h:ns.Nodup) (hx:x∉ns):(ins ns x i).Nodup:=by
 unfold ins
 have e:(ns.take i++ns.drop i).Nodup:=by rw [List.take_append_drop];exact h
 obtain ⟨h1,h2,h3⟩:=List.nodup_append.mp e
 rw [List.nodup_append]
 refine ⟨h1,List.nodup_cons.mpr ⟨fun z=>hx (List.mem_of_mem_drop z),h2⟩,fun a ha b hb=>?_⟩
 rcases List.mem_cons.mp hb with z | z
 ·rw [z];rintro rfl;exact hx (List.mem_of_mem_take ha)
 ·exact h3 a ha b z
theorem ZPF {ns:List Str}{lo hi:Nat}(h1:lo<=hi) (h2:hi<=ns.length):(trn ns lo hi).length=ns.length:=by
 unfold trn
 rw [List.length_append,List.length_append,List.length_reverse,List.length_take,List.length_take,List.length_drop,List.length_drop]
 omega
theorem ZL6 {ns:List Str}{lo hi:Nat}(h1:lo<=hi):ns=ns.take lo++(ns.drop lo).take (hi - lo)++ns.drop hi:=by
 have:ns.drop hi=(ns.drop lo).drop (hi - lo):=by rw [List.drop_drop];congr 1;omega
 rw [this,List.append_assoc,List.take_append_drop,List.take_append_drop]
theorem ZQ9 {ns:List Str}{lo hi:Nat}(h1:lo<=hi){y:Str}:y∈trn ns lo hi↔y∈ns:=by
 conv=>rhs;rw [ZL6 (ns:=ns) h1]
 unfold trn
 simp only [List.mem_append,List.mem_reverse]
theorem ZQp {ns:List Str}{lo hi:Nat}(h1:lo<=hi) (nd:ns.Nodup):(trn ns lo hi).Nodup:=by
 have p:List.Perm (trn ns lo hi) ns:=by
  conv=>rhs;rw [ZL6 (ns:=ns) h1]
  unfold trn
  exact ((List.reverse_perm _).append_left _).append_right _
 exact p.nodup_iff.mpr nd
theorem ZBm.step {m:Nat}{ns:List Str}{d:ZBm}(h:d.Ok m ns) (nd:ns.Nodup) (hN:∀ x∈ns,Nm x) (hm:ns.length<=m) :
  (d.done ns).Nodup/\(∀ x∈d.done ns,Nm x)/\(d.done ns).length<=m:=by
 cases d with
 | put x i=>
  obtain ⟨h1,h2,h3,h4⟩:=h
  refine ⟨ZIe nd h2,fun y hy=>?_,?_⟩
  ·rcases ZK0.mp hy with e | e
   ·rw [e];exact h1
   ·exact hN y e
  ·show (ins ns x i).length<=m
   rw [ZF6];omega
 | take x=>
  refine ⟨ZNc nd,fun y hy=>hN y (ZEY.mp hy).1,?_⟩
  have:=ZEa h nd
  show (wo ns x).length<=m
  omega
 | move x i=>
  obtain ⟨h1,h2⟩:=h
  refine ⟨ZIe (ZNc nd) (fun z=>(ZEY.mp z).2 rfl),fun y hy=>?_,?_⟩
  ·rcases ZK0.mp hy with e | e
   ·rw [e];exact hN x h1
   ·exact hN y (ZEY.mp e).1
  ·have:=ZEa h1 nd
   show (ins (wo ns x) x i).length<=m
   rw [ZF6];omega
 | turn lo hi=>
  obtain ⟨h1,h2⟩:=h
  exact ⟨ZQp h1 nd,fun y hy=>hN y ((ZQ9 h1).mp hy),by show (trn ns lo hi).length<=m;rw [ZPF h1 h2];exact hm⟩
theorem ZSW (xs:List V) (i:Nat):ZHA xs none (some (i:Int))=xs.take i:=by
 unfold ZHA
 rw [HT.ZHj,HT.ZEh,List.drop_zero,Nat.sub_zero]
 rcases Nat.le_total i xs.length with h | h
 ·rw [Nat.min_eq_left h]
 ·rw [Nat.min_eq_right h,List.take_length,List.take_of_length_le h]
theorem ZNN (xs:List V) (i:Nat):ZHA xs (some (i:Int)) none=xs.drop i:=by
 unfold ZHA
 rw [HT.ZHj,HT.ZEh]
 rcases Nat.le_total i xs.length with h | h
 ·rw [Nat.min_eq_left h,List.take_of_length_le (by rw [List.length_drop];omega)]
 ·rw [Nat.min_eq_right h,Nat.sub_self,List.take_zero,List.drop_of_length_le h]
theorem ZSq (xs:List V){i j:Nat}(hi:i<=j) (hj:j<=xs.length):ZHA xs (some (i:Int)) (some (j:Int))=(xs.drop i).take (j - i):=by
 unfold ZHA
 rw [HT.ZEh,HT.ZEh,Nat.min_eq_left hj,Nat.min_eq_left (Nat.le_trans hi hj)]
def HOq (tp:Bool) (xs:List V):HO:=match tp with
 | false=>.lst xs
 | true=>.tup xs
theorem HOq.sq {K:PySem.W.Frag}{tp:Bool}{H:Hp}{a:Addr}{xs:List V}(h:H a=some (HOq tp xs)):SqB K tp H a xs:=by
 cases tp
 ·exact SqL.of h
 ·exact SqT.of h
def ZUG:Sp:=fun vs H Q _=>∃ (a:Addr) (tp:Bool) (ns:List Str) (x:Str),vs=[.ref a,.str x]/\H a=some (HOq tp (ns.map V.str))/\x∈ns/\Q (.int (ns.idxOf x:Nat)) H
def ZUl (H:Hp) (Q:VK) (ns:List Str):Prop:=∀ l H',H l=none->ZAk H H'->H' l=some (.lst (ns.map V.str))->Q (.ref l) H'
def ZJl:Sp:=fun vs H Q _=>∃ (a t:Addr) (ns:List Str) (d:ZBm),vs=[.ref a,.ref t]/\H a=some (.lst (ns.map V.str))/\H t=some (.tup d.vals)/\d.Ok 40 ns/\ns.length<=40/\ns.Nodup/\ZUl H Q (d.done ns)
def ZPS:Sp:=fun vs H Q _=>∃ (p a:Addr) (m:Nat) (ns:List Str),vs=[.ref p,.ref a,.int m]/\Pot H p/\H a=some (.lst (ns.map V.str))/\a≠p/\(∀ x∈ns,Nm x)/\ns.length<=m/\1<=m/\m<=100/\
 ∀ (d:ZBm) t H',H t=none->ZB3 p H H'->H' t=some (.tup d.vals)->d.Ok m ns->Q (.ref t) H'
end Lw
namespace Lw
open L2
theorem ZX5 {c A B:Prop} [Decidable c] (h:c) (a:A):if c then A else B:=by rw [if_pos h];exact a
theorem ZCx {c A B:Prop} [Decidable c] (h:¬ c) (b:B):if c then A else B:=by rw [if_neg h];exact b
theorem ZTg:∀ j,j < 26->ZMV (97+j)=true:=by decide +kernel
theorem ZTY {x:Str}(h:Nm x):isNm x=true:=by
 obtain ⟨h1,h2,h3⟩:=h
 unfold isNm
 rw [decide_eq_true (by omega),decide_eq_true (by omega),Bool.true_and,Bool.true_and,List.all_eq_true]
 intro c hc
 obtain ⟨a,b⟩:=h3 c hc
 have:=ZTg (c - 97) (by omega)
 have e:97+(c - 97)=c:=by omega
 rw [e] at this
 exact this
theorem ZO4 (ns:List Str):(ns.map V.str).length=ns.length:=List.length_map _
def ZQs (y:V):V->Bool:=fun v=>!decide (v=y)
theorem ZLk (ns:List Str) (x:Str):((ns.map V.str).filter (ZQs (.str x))).map (fun v=>v)=(wo ns x).map V.str:=by
 unfold wo ZQs
 rw [List.map_id',List.filter_map]
 congr 1
 apply List.filter_congr
 intro y _
 simp
theorem ZU8 (ns:List Str) (i:Int):((ns.map V.str).filter (ZQs (.int i))).map (fun v=>v)=ns.map V.str:=by
 unfold ZQs
 rw [List.map_id',List.filter_eq_self]
 intro v hv
 obtain ⟨y,_,rfl⟩:=List.mem_map.mp hv
 rfl
end Lw
namespace Lw
open L2
theorem ZO0 {H H':Hp}{l:Addr}{o:HO}(s:ZAk H H') (h:H l=none):ZAk H (upd H' l o):=fun b u q=>by rw [ZAT (ZAg q h)];exact s b u q
end Lw
namespace Lw
open L2
end Lw
namespace Fz
open L2 Lw
inductive PV where
 | non | bl (b:Bool) | int (i:Int) | str (x:Str) | lst (xs:List PV) | tup (xs:List PV)
 | dct (ks:List Key) (xs:List PV) | obj (C:Addr) (ns:List Str) (xs:List PV) | exc (C:Addr) (ns:List Str) (xs:List PV) | con (a:Addr) (xs:List PV)
def ZXK (a C:Addr) (dx:Option Addr):HO:=.ext fun h=>∃ ob vs,h.get? a=some ob/\ob.cls=.ref C/\ob.dict=dx/\ob.data=.fields vs
mutual
inductive Rep (F:Hp):V->PV->Prop where
 | non:Rep F .non .non
 | bl (b:Bool):Rep F (.bl b) (.bl b)
 | int (i:Int):Rep F (.int i) (.int i)
 | str (x:Str):Rep F (.str x) (.str x)
 | lst {a:Addr}{vs:List V}{xs:List PV}:F a=some (.lst vs)->ZB5 F vs xs->Rep F (.ref a) (.lst xs)
 | tup {a:Addr}{vs:List V}{xs:List PV}:F a=some (.tup vs)->ZB5 F vs xs->Rep F (.ref a) (.tup xs)
 | dct {a:Addr}{ks:List Key}{vs:List V}{xs:List PV}:F a=some (.dK (ks.zip vs))->ks.length=vs.length->ZB5 F vs xs->Rep F (.ref a) (.dct ks xs)
 | obj {a C dx:Addr}{ns:List Str}{vs:List V}{xs:List PV}:F a=some (.ins C dx (ns.zip vs))->F dx=some (.own a)->ns.length=vs.length->ZB5 F vs xs->Rep F (.ref a) (.obj C ns xs)
 | con {a:Addr}{xs:List PV}:Rep F (.ref a) (.con a xs)
 | exc0 {a C:Addr}:F a=some (ZXK a C none)->Rep F (.ref a) (.exc C [] [])
 | exc {a C dx:Addr}{ns:List Str}{vs:List V}{xs:List PV}:F a=some (ZXK a C (some dx))->F dx=some (.xd (ns.zip vs))->ns.length=vs.length->ZB5 F vs xs->Rep F (.ref a) (.exc C ns xs)
inductive ZB5 (F:Hp):List V->List PV->Prop where
 | nil:ZB5 F [] []
 | cons {v:V}{p:PV}{vs:List V}{ps:List PV}:Rep F v p->ZB5 F vs ps->ZB5 F (v :: vs) (p :: ps)
end
mutual
theorem Rep.mono {F F':Hp}(s:ZAk F F'):∀ {v:V}{p:PV},Rep F v p->Rep F' v p
 | _,_,.non=>.non
 | _,_,.bl b=>.bl b
 | _,_,.int i=>.int i
 | _,_,.str x=>.str x
 | _,_,.lst h r=>.lst (s _ _ h) (ZB5.mono s r)
 | _,_,.tup h r=>.tup (s _ _ h) (ZB5.mono s r)
 | _,_,.dct h e r=>.dct (s _ _ h) e (ZB5.mono s r)
 | _,_,.obj h h2 e r=>.obj (s _ _ h) (s _ _ h2) e (ZB5.mono s r)
 | _,_,.con=>.con
 | _,_,.exc0 h=>.exc0 (s _ _ h)
 | _,_,.exc h h2 e r=>.exc (s _ _ h) (s _ _ h2) e (ZB5.mono s r)
theorem ZB5.mono {F F':Hp}(s:ZAk F F'):∀ {vs:List V}{ps:List PV},ZB5 F vs ps->ZB5 F' vs ps
 | _,_,.nil=>.nil
 | _,_,.cons r t=>.cons (Rep.mono s r) (ZB5.mono s t)
end
theorem ZB5.length {F:Hp}:∀ {vs:List V}{ps:List PV},ZB5 F vs ps->vs.length=ps.length
 | [],_,.nil=>rfl
 | _ :: _,_,.cons _ t=>by rw [List.length_cons,List.length_cons,ZB5.length t]
theorem ZB5.get {F:Hp}:∀ {vs:List V}{ps:List PV}{i:Nat}{p:PV},ZB5 F vs ps->ps[i]?=some p->∃ v,vs[i]?=some v/\Rep F v p
 | _,_,_,_,.nil,e=>by simp at e
 | _,_,0,_,.cons r _,e=>by simp at e;subst e;exact ⟨_,rfl,r⟩
 | _,_,i+1,p,.cons _ t,e=>by
  obtain ⟨u,h1,h2⟩:=ZB5.get (i:=i) (p:=p) t (by simpa using e)
  exact ⟨u,by simpa using h1,h2⟩
theorem ZB5.get' {F:Hp}:∀ {vs:List V}{ps:List PV}{i:Nat}{v:V},ZB5 F vs ps->vs[i]?=some v->∃ p,ps[i]?=some p/\Rep F v p
 | _,_,_,_,.nil,e=>by simp at e
 | _,_,0,_,.cons r _,e=>by simp at e;subst e;exact ⟨_,rfl,r⟩
 | _,_,i+1,p,.cons _ t,e=>by
  obtain ⟨u,h1,h2⟩:=ZB5.get' (i:=i) (v:=p) t (by simpa using e)
  exact ⟨u,by simpa using h1,h2⟩
theorem ZB5.append {F:Hp}:∀ {vs ws:List V}{ps qs:List PV},ZB5 F vs ps->ZB5 F ws qs->ZB5 F (vs++ws) (ps++qs)
 | _,_,_,_,.nil,s=>s
 | _,_,_,_,.cons r t,s=>.cons r (ZB5.append t s)
theorem ZB5.take {F:Hp}:∀ {vs:List V}{ps:List PV}(n:Nat),ZB5 F vs ps->ZB5 F (vs.take n) (ps.take n)
 | _,_,0,_=>by simp only [List.take_zero];exact .nil
 | _,_,_+1,.nil=>.nil
 | _,_,n+1,.cons r t=>.cons r (ZB5.take n t)
theorem ZB5.drop {F:Hp}:∀ {vs:List V}{ps:List PV}(n:Nat),ZB5 F vs ps->ZB5 F (vs.drop n) (ps.drop n)
 | _,_,0,r=>r
 | _,_,_+1,.nil=>.nil
 | _,_,n+1,.cons _ t=>ZB5.drop n t
theorem ZB5.one {F:Hp}{v:V}{p:PV}(r:Rep F v p):ZB5 F [v] [p]:=.cons r .nil
theorem ZB5.reverse {F:Hp}:∀ {vs:List V}{ps:List PV},ZB5 F vs ps->ZB5 F vs.reverse ps.reverse
 | _,_,.nil=>.nil
 | _,_,.cons r t=>by rw [List.reverse_cons,List.reverse_cons];exact (ZB5.reverse t).append (.one r)
def flat:PV->Bool
 | .lst _=>false
 | .tup _=>false
 | .dct _ _=>false
 | .obj _ _ _=>false
 | .exc _ _ _=>false
 | .con _ _=>false
 | _=>true
def enc:PV->V
 | .bl b=>.bl b
 | .int i=>.int i
 | .str x=>.str x
 | _=>.non
theorem Rep.enc {F:Hp}{v:V}{p:PV}(h:flat p=true) (r:Rep F v p):v=enc p:=by
 cases r <;> first | rfl | cases h
theorem ZU3 {F:Hp}{p:PV}(h:flat p=true):Rep F (enc p) p:=by
 cases p with
 | non=>exact .non
 | bl b=>exact .bl b
 | int i=>exact .int i
 | str x=>exact .str x
 | lst xs=>cases h
 | tup xs=>cases h
 | dct ks xs=>cases h
 | obj C ns xs=>cases h
 | exc C ns xs=>cases h
 | con a xs=>cases h
theorem ZB5.enc {F:Hp}:∀ {vs:List V}{ps:List PV},ps.all flat=true->ZB5 F vs ps->vs=ps.map enc
 | _,_,_,.nil=>rfl
 | _,_,h,.cons r t=>by
  rw [List.all_cons,Bool.and_eq_true] at h
  rw [List.map_cons,<- Rep.enc h.1 r,<- ZB5.enc h.2 t]
theorem ZHq {F:Hp}:∀ {ps:List PV},ps.all flat=true->ZB5 F (ps.map enc) ps
 | [],_=>.nil
 | p :: r,h=>by
  rw [List.all_cons,Bool.and_eq_true] at h
  exact .cons (ZU3 h.1) (ZHq h.2)
theorem ZHe {p:PV}(h:flat p=true):ZEA (Fz.enc p)=true:=by cases p <;> first | rfl | cases h
theorem ZLT (ns:List Str):(ns.map PV.str).all flat=true:=by
 rw [List.all_eq_true];intro x hx
 obtain ⟨y,_,rfl⟩:=List.mem_map.mp hx;rfl
theorem ZL0 (ns:List Int):(ns.map PV.int).all flat=true:=by
 rw [List.all_eq_true];intro x hx
 obtain ⟨y,_,rfl⟩:=List.mem_map.mp hx;rfl
theorem ZQv (ns:List Bool):(ns.map PV.bl).all flat=true:=by
 rw [List.all_eq_true];intro x hx
 obtain ⟨y,_,rfl⟩:=List.mem_map.mp hx;rfl
theorem ZKe (ns:List Str):(ns.map PV.str).map Fz.enc=ns.map V.str:=by rw [List.map_map];rfl
theorem ZT1 (ns:List Bool):(ns.map PV.bl).map Fz.enc=ns.map V.bl:=by rw [List.map_map];rfl
theorem ZNv (ns:List Int):(ns.map PV.int).map Fz.enc=ns.map V.int:=by rw [List.map_map];rfl
theorem ZB5.strs {F:Hp}{vs:List V}{ns:List Str}(r:ZB5 F vs (ns.map PV.str)):vs=ns.map V.str:=(r.enc (ZLT ns)).trans (ZKe ns)
theorem ZDR {F:Hp}(ns:List Str):ZB5 F (ns.map V.str) (ns.map PV.str):=by rw [<- ZKe];exact ZHq (ZLT ns)
theorem ZB5.bls {F:Hp}{vs:List V}{ns:List Bool}(r:ZB5 F vs (ns.map PV.bl)):vs=ns.map V.bl:=(r.enc (ZQv ns)).trans (ZT1 ns)
theorem ZB5.ints {F:Hp}{vs:List V}{ns:List Int}(r:ZB5 F vs (ns.map PV.int)):vs=ns.map V.int:=(r.enc (ZL0 ns)).trans (ZNv ns)
inductive NK where
 | lst | dct (ks:List Key) | obj (C dx:Addr) (ns:List Str)
def NK.ho:NK->List V->HO
 | .lst,vs=>.lst vs
 | .dct ks,vs=>.dK (ks.zip vs)
 | .obj C dx ns,vs=>.ins C dx (ns.zip vs)
def NK.more:NK->List Addr
 | .obj _ dx _=>[dx]
 | _=>[]
def NK.side (k:NK) (a:Addr) (H:Hp):Prop:=match k with
 | .obj _ dx _=>H dx=some (.own a)
 | _=>True
def NK.fit (k:NK) (n:Nat):Prop:=match k with
 | .dct ks=>ks.length=n
 | .obj _ _ ns=>ns.length=n
 | _=>True
inductive OV where
 | fz (p:PV)
 | tp (xs:List OV)
 | nd (k:NK) (a:Addr) (xs:List OV)
mutual
def OV.addrs:OV->List Addr
 | .fz _=>[]
 | .tp xs=>OV.ZDH xs
 | .nd k a xs=>a :: (k.more++OV.ZDH xs)
def OV.ZDH:List OV->List Addr
 | []=>[]
 | x :: r=>x.addrs++OV.ZDH r
end
mutual
inductive ZJY (F H:Hp):V->OV->Prop where
 | fz {v:V}{p:PV}:Rep F v p->ZJY F H v (.fz p)
 | tp {a:Addr}{vs:List V}{xs:List OV}:F a=some (.tup vs)->ZCt F H vs xs->ZJY F H (.ref a) (.tp xs)
 | nd {k:NK}{a:Addr}{vs:List V}{xs:List OV}:H a=some (k.ho vs)->k.side a H->k.fit vs.length->ZCt F H vs xs->ZJY F H (.ref a) (.nd k a xs)
inductive ZCt (F H:Hp):List V->List OV->Prop where
 | nil:ZCt F H [] []
 | cons {v:V}{t:OV}{vs:List V}{ts:List OV}:ZJY F H v t->ZCt F H vs ts->ZCt F H (v :: vs) (t :: ts)
end
theorem OV.ZGJ {k:NK}{a:Addr}{xs:List OV}:(OV.nd k a xs).addrs=a :: (k.more++OV.ZDH xs):=by rw [OV.addrs]
theorem OV.ZHn {xs:List OV}:(OV.tp xs).addrs=OV.ZDH xs:=by rw [OV.addrs]
theorem OV.ZCX {x:OV}{r:List OV}:OV.ZDH (x :: r)=x.addrs++OV.ZDH r:=by rw [OV.ZDH]
theorem OV.ZOe:OV.ZDH []=[]:=by rw [OV.ZDH]
theorem NK.ZQS {k:NK}{a:Addr}{H H':Hp}(h:k.side a H) (s:∀ b∈k.more,∀ o,H b=some o->H' b=some o):k.side a H':=by
 cases k with
 | obj C dx ns=>exact s dx (by simp [NK.more]) _ h
 | _=>trivial
mutual
theorem ZJY.mono {F F' H H':Hp}(f:ZAk F F'):∀ {v:V}{t:OV},ZJY F H v t->(∀ a∈t.addrs,∀ o,H a=some o->H' a=some o)->ZJY F' H' v t
 | _,_,.fz r,_=>.fz (r.mono f)
 | _,_,.tp h r,s=>by
  rw [OV.ZHn] at s
  exact .tp (f _ _ h) (ZCt.mono f r s)
 | _,_,.nd h sd ft r,s=>by
  rw [OV.ZGJ] at s
  exact .nd (s _ (by simp) _ h) (NK.ZQS sd fun b hb=>s b (by simp [hb])) ft (ZCt.mono f r fun a ha=>s a (by simp [ha]))
theorem ZCt.mono {F F' H H':Hp}(f:ZAk F F'):∀ {vs:List V}{ts:List OV},ZCt F H vs ts->(∀ a∈OV.ZDH ts,∀ o,H a=some o->H' a=some o)->ZCt F' H' vs ts
 | _,_,.nil,_=>.nil
 | _,_,.cons r t,s=>by
  rw [OV.ZCX] at s
  exact .cons (ZJY.mono f r fun a ha=>s a (by simp [ha])) (ZCt.mono f t fun a ha=>s a (by simp [ha]))
end
mutual
theorem ZJY.there {F H:Hp}:∀ {v:V}{t:OV},ZJY F H v t->∀ a∈t.addrs,H a≠none
 | _,_,.fz _,a,ha=>by rw [OV.addrs] at ha;cases ha
 | _,_,.tp _ r,a,ha=>by rw [OV.ZHn] at ha;exact ZCt.there r a ha
 | _,_,@ZJY.nd _ _ k b vs xs h sd ft r,a,ha=>by
  rw [OV.ZGJ,List.mem_cons,List.mem_append] at ha
  rcases ha with rfl | ha | ha
  ·rw [h];simp
  ·cases k with
   | obj C dx ns=>
    have e:a=dx:=by simpa [NK.more] using ha
    subst e
    have sd':H a=some (.own b):=sd
    rw [sd'];simp
   | _=>simp [NK.more] at ha
  ·exact ZCt.there r a ha
theorem ZCt.there {F H:Hp}:∀ {vs:List V}{ts:List OV},ZCt F H vs ts->∀ a∈OV.ZDH ts,H a≠none
 | _,_,.nil,a,ha=>by rw [OV.ZOe] at ha;cases ha
 | _,_,.cons r t,a,ha=>by
  rw [OV.ZCX,List.mem_append] at ha
  rcases ha with ha | ha
  ·exact ZJY.there r a ha
  ·exact ZCt.there t a ha
end
theorem ZCt.length {F H:Hp}:∀ {vs:List V}{ts:List OV},ZCt F H vs ts->vs.length=ts.length
 | [],_,.nil=>rfl
 | _ :: _,_,.cons _ t=>by rw [List.length_cons,List.length_cons,ZCt.length t]
inductive Slot where
 | any | is (p:PV) | own (xs:List PV) | pot | sq (tp:Bool) (xs:List PV) | raw (P:Hp->V->Prop) | ow (lt:Bool) (t:OV)
structure Ent0 where
 A:List Addr
 F0:Hp
 H0:Hp
 B:List Addr
abbrev E3 (A:List Addr) (F H:Hp):Ent0:=⟨A,F,H,[]⟩
def Ok (E:Ent0) (F H:Hp):Slot->Option (Option V)->Prop
 | .any,_=>True
 | .is p,o=>∃ v,o=some (some v)/\Rep F v p
 | .own xs,o=>∃ l vs,o=some (some (.ref l))/\F l=none/\E.H0 l=none/\H l=some (.lst vs)/\ZB5 F vs xs
 | .pot,o=>∃ l,o=some (some (.ref l))/\F l=none/\(E.H0 l=none∨l∈E.A)/\Pot H l
 | .sq true xs,o=>∃ v,o=some (some v)/\Rep F v (.tup xs)
 | .sq false xs,o=>∃ l vs,o=some (some (.ref l))/\(l∉E.A/\l∉E.B)/\E.H0 l=some (.lst vs)/\ZB5 F vs xs
 | .raw P,o=>∃ v,o=some (some v)/\P F v/\∀ F F',ZAk F F'->P F v->P F' v
 | .ow lt t,o=>∃ v,o=some (some v)/\ZJY F H v t/\t.addrs.Nodup/\∀ a∈t.addrs,F a=none/\(E.H0 a=none∨(lt=true/\a∈E.B))
def ZIv:Slot->Option (Option V)->Addr->Prop
 | .own _,o,l=>o=some (some (.ref l))
 | .pot,o,l=>o=some (some (.ref l))
 | .ow _ t,_,l=>l∈t.addrs
 | _,_,_=>False
structure Fin (E:Ent0) (F H:Hp):Prop where
 fh:ZAk F H
 f0:ZAk E.F0 F
 keep:∀ a o,(a∉E.A/\a∉E.B)->E.H0 a=some o->H a=some o
 fresh:∀ a o,F a=some o->E.F0 a=some o∨E.H0 a=none
 pots:∀ a,a∈E.A->Pot H a
 potF:∀ a,a∈E.A->F a=none
 a0:∀ a,a∈E.A->E.H0 a≠none
 bF:∀ a,a∈E.B->F a=none
 bH:∀ a,a∈E.B->H a≠none
 b0:∀ a,a∈E.B->E.H0 a≠none/\a∉E.A
structure Sg (E:Ent0) (ss:List Slot) (σ:L2.St) (F H:Hp):Prop extends Fin E F H where
 len:ss.length=σ.length
 ok:∀ (i:Nat) s,ss[i]?=some s->Ok E F H s σ[i]?
 dis:∀ (i j:Nat) s u l,i≠j->ss[i]?=some s->ss[j]?=some u->ZIv s σ[i]? l->¬ ZIv u σ[j]? l
structure Ex where
 C:Addr
 ns:List Str
 xs:List PV
def Ex.at (x:Ex) (F:Hp) (C:Value) (dx:Option Addr):Prop:=
 C=.ref x.C/\((x.ns=[]/\x.xs=[]/\dx=none)∨∃ a vs,dx=some a/\F a=some (.xd (x.ns.zip vs))/\x.ns.length=vs.length/\ZB5 F vs x.xs)
class Xw where
 e:L2.St->XK
 J:List Slot->Prop
 D:Ex->Prop
structure Ent [Xw] extends Ent0 where
 hx:∀ (ss:List Slot) (σ:L2.St) (F H:Hp) (x:Ex) (C:Value) (dx:Option Addr),Xw.J ss->Sg toEnt0 ss σ F H->Xw.D x->x.at F C dx->Xw.e σ C dx H
instance [Xw]:CoeOut Ent Ent0:=⟨Ent.toEnt0⟩
instance noX:Xw:=⟨fun _=>E0,fun _=>True,fun _=>False⟩
def ZMj (ss:List Slot) (σ:L2.St) (a:Addr):Prop:=∀ i:Nat,ss[i]?=some .pot->σ[i]?≠some (some (.ref a))
structure Mv (E:Ent0) (ss:List Slot) (σ:L2.St) (F H F' H':Hp):Prop where
 st:Sg E ss σ F' H'
 ff:ZAk F F'
 hh:∀ a o,ZMj ss σ a->H a=some o->H' a=some o
 nn:∀ a o,F' a=some o->F a=some o∨H a=none
theorem Sg.ZT7 {E:Ent0}{ss:List Slot}{σ:L2.St} {F H:Hp}(S:Sg E ss σ F H){l:Addr}(h:H l=none):ZMj ss σ l:=fun i hi e=>by
 obtain ⟨l',e1,_,_,_,_,e2,_⟩:=S.ok i _ hi
 rw [e] at e1
 cases e1
 rw [h] at e2;cases e2
theorem Mv.none {E:Ent0}{ss:List Slot}{σ:L2.St} {F H F' H':Hp}(m:Mv E ss σ F H F' H'){a:Addr}(h:H' a=none):H a=none:=by
 cases e:H a with
 | none=>rfl
 | some o=>rw [m.hh a o (m.st.ZT7 h) e] at h;cases h
theorem Mv.refl {E:Ent0}{ss:List Slot}{σ:L2.St} {F H:Hp}(S:Sg E ss σ F H):Mv E ss σ F H F H:=⟨S,ZAk.refl _,fun _ _ _ e=>e,fun _ _ e=>.inl e⟩
theorem Mv.trans {E:Ent0}{ss:List Slot}{σ:L2.St} {F H F1 H1 F2 H2:Hp}(a:Mv E ss σ F H F1 H1) (b:Mv E ss σ F1 H1 F2 H2):Mv E ss σ F H F2 H2:=
 ⟨b.st,a.ff.trans b.ff,fun c o n e=>b.hh c o n (a.hh c o n e),fun c o e=>(b.nn c o e).elim (fun e=>a.nn c o e) fun e=>.inr (a.none e)⟩
section
variable {E:Ent0}{ss:List Slot}{σ:L2.St} {F H F' H':Hp}
theorem Sg.ZR8 (S:Sg E ss σ F H){p:Addr}(h:H p=none):E.H0 p=none:=by
 cases e:E.H0 p with
 | none=>rfl
 | some o=>
  by_cases q:p∈E.A
  ·obtain ⟨_,_,e1,_⟩:=S.pots p q
   rw [h] at e1;cases e1
  ·by_cases qb:p∈E.B
   ·exact absurd h (S.bH p qb)
   ·rw [S.keep p o ⟨q,qb⟩ e] at h;cases h
theorem Sg.ZHI (S:Sg E ss σ F H){p:Addr}(h:H p=none):F p=none:=ZAk.none S.fh h
theorem Pot.keep {H H':Hp}{l:Addr}(h:Pot H l) (k:∀ o,H l=some o->H' l=some o):Pot H' l:=by
 obtain ⟨a,b,e,r⟩:=h
 exact ⟨a,b,k _ e,r⟩
theorem Sg.ZVB (S:Sg E ss σ F H){l:Addr}{o:HO}(h:F l=some o):ZMj ss σ l:=fun i hi e=>by
 obtain ⟨l',e1,e2,_⟩:=S.ok i _ hi
 rw [e] at e1
 cases e1
 rw [h] at e2;cases e2
theorem Sg.ZVO (S:Sg E ss σ F H){l:Addr}{o:HO}(hA:l∉E.A) (h:E.H0 l=some o):ZMj ss σ l:=fun i hi e=>by
 obtain ⟨l',e1,_,q,_⟩:=S.ok i _ hi
 rw [e] at e1
 cases e1
 rcases q with q | q
 ·rw [h] at q;cases q
 ·exact hA q
theorem Sg.ZWi (S:Sg E ss σ F H){l:Addr}(h:l∈E.B):ZMj ss σ l:=fun i hi e=>by
 obtain ⟨l',e1,_,q,_⟩:=S.ok i _ hi
 rw [e] at e1
 cases e1
 obtain ⟨h0,hA⟩:=S.b0 l h
 rcases q with q | q
 ·exact h0 q
 ·exact hA q
theorem Sg.ZPP (S:Sg E ss σ F H){i:Nat}{s:Slot}{l:Addr}(h:ss[i]?=some s) (m:ZIv s σ[i]? l):H l≠none:=by
 have k:=S.ok i s h
 cases s with
 | own xs=>obtain ⟨l',vs,e1,_,_,e2,_⟩:=k;rw [show σ[i]?=some (some (.ref l)) from m] at e1;cases e1;rw [e2];simp
 | pot=>obtain ⟨l',e1,_,_,_,_,e2,_⟩:=k;rw [show σ[i]?=some (some (.ref l)) from m] at e1;cases e1;rw [e2];simp
 | ow lt t=>obtain ⟨v,_,r,_⟩:=k;exact r.there l m
 | _=>cases m
theorem Sg.ZIU (S:Sg E ss σ F H){i:Nat}{s:Slot}{l:Addr}(h:ss[i]?=some s) (hl:H l=none):¬ ZIv s σ[i]? l:=fun m=>S.ZPP h m hl
theorem Sg.ZHb (S:Sg E ss σ F H){i:Nat}{s:Slot}{l:Addr}(h:ss[i]?=some s) (m:ZIv s σ[i]? l) (np:s≠.pot):ZMj ss σ l:=fun j hj ej=>
 S.dis i j s _ l (by rintro rfl;rw [h] at hj;exact np (Option.some.inj hj)) h hj m ej
theorem Ok.go (S:Sg E ss σ F H){i:Nat}{s:Slot}(hi:ss[i]?=some s) (ff:ZAk F F') (hk:∀ a o,ZIv s σ[i]? a->H a=some o->H' a=some o) (ZHI:∀ a,H a≠none->F a=none->F' a=none) (np:s≠.pot):Ok E F' H' s σ[i]?:=by
 have k:=S.ok i s hi
 cases s with
 | any=>trivial
 | is p=>obtain ⟨v,e,r⟩:=k;exact ⟨v,e,r.mono ff⟩
 | own xs=>
  obtain ⟨l,vs,e,e1,e2,e3,r⟩:=k
  exact ⟨l,vs,e,ZHI l (by rw [e3];simp) e1,e2,hk l _ e e3,r.mono ff⟩
 | pot=>exact absurd rfl np
 | sq tp xs=>
  cases tp with
  | true=>obtain ⟨v,e,r⟩:=k;exact ⟨v,e,r.mono ff⟩
  | false=>obtain ⟨l,vs,e,e1,e2,r⟩:=k;exact ⟨l,vs,e,e1,e2,r.mono ff⟩
 | raw P=>obtain ⟨v,e,r,st⟩:=k;exact ⟨v,e,st _ _ ff r,st⟩
 | ow lt t=>
  obtain ⟨v,e,r,nd,q⟩:=k
  exact ⟨v,e,r.mono ff fun a ha o=>hk a o ha,nd,fun a ha=>⟨ZHI a (r.there a ha) (q a ha).1,(q a ha).2⟩⟩
theorem Sg.step (S:Sg E ss σ F H) (ff:ZAk F F') (fh:ZAk F' H') (hk:∀ a o,ZMj ss σ a->H a=some o->H' a=some o) (hn:∀ a o,F' a=some o->F a=some o∨H a=none)
  (hp:∀ (i:Nat) l,ss[i]?=some .pot->σ[i]?=some (some (.ref l))->Pot H' l):Mv E ss σ F H F' H':=by
 have ZHI:∀ a,H a≠none->F a=none->F' a=none:=fun a h1 h2=>by
  cases e:F' a with
  | none=>rfl
  | some o=>
   rcases hn a o e with q | q
   ·rw [h2] at q;cases q
   ·exact absurd q h1
 have potk:∀ a,Pot H a->ZMj ss σ a->Pot H' a:=fun a p n=>Pot.keep p fun o e=>hk a o n e
 refine ⟨⟨⟨fh,S.f0.trans ff,fun a o hA e=>?_,fun a o e=>?_,fun a hA=>?_,fun a hA=>?_,S.a0,fun a hB=>ZHI a (S.bH a hB) (S.bF a hB),fun a hB=>?_,S.b0⟩,S.len,fun i s hi=>?_,S.dis⟩,ff,hk,hn⟩
 ·exact hk a o (S.ZVO hA.1 e) (S.keep a o hA e)
 ·rcases hn a o e with q | q
  ·exact S.fresh a o q
  ·exact .inr (S.ZR8 q)
 ·by_cases q:∃ i:Nat,ss[i]?=some .pot/\σ[i]?=some (some (.ref a))
  ·obtain ⟨i,q1,q2⟩:=q
   exact hp i a q1 q2
  ·exact potk a (S.pots a hA) fun i h1 h2=>q ⟨i,h1,h2⟩
 ·refine ZHI a ?_ (S.potF a hA)
  obtain ⟨_,_,e1,_⟩:=S.pots a hA
  rw [e1];simp
 ·obtain ⟨o,e⟩:=Option.ne_none_iff_exists'.mp (S.bH a hB)
  rw [hk a o (S.ZWi hB) e];simp
 ·by_cases np:s=.pot
  ·subst np
   obtain ⟨l,e,e1,e2,e3⟩:=S.ok i _ hi
   have e3':=e3
   obtain ⟨_,_,e4,_⟩:=e3'
   exact ⟨l,e,ZHI l (by rw [e4];simp) e1,e2,hp i l hi e⟩
  ·exact Ok.go S hi ff (fun a o m=>hk a o (S.ZHb hi m np)) ZHI np
theorem Sg.ZG0 (S:Sg E ss σ F H){i:Nat}{l:Addr}(hi:ss[i]?=some .pot) (e:σ[i]?=some (some (.ref l))):Pot H l:=by
 obtain ⟨l',e1,_,_,p⟩:=S.ok i _ hi
 rw [e] at e1;cases e1;exact p
theorem Sg.alloc (S:Sg E ss σ F H){p:Addr}(h:H p=none) (o:HO):Mv E ss σ F H (upd F p o) (upd H p o):=by
 refine S.step (ZAD (S.ZHI h) _) (fun a u e=>?_) (fun a u _ e=>ZAD h o a u e) (fun a u e=>?_) fun i l hi e=>Pot.keep (S.ZG0 hi e) fun u e=>ZAD h o l u e
 ·by_cases q:a=p
  ·subst q;rw [ZA6] at e ⊢;exact e
  ·rw [ZAT q] at e ⊢;exact S.fh a u e
 ·by_cases q:a=p
  ·subst q;exact .inr h
  ·rw [ZAT q] at e;exact .inl e
theorem Sg.make (S:Sg E ss σ F H){p:Addr}(h:H p=none) (o:HO):Mv E ss σ F H F (upd H p o):=
 S.step (ZAk.refl _) (S.fh.trans (ZAD h o)) (fun a u _ e=>ZAD h o a u e) (fun a u e=>.inl e) fun i l hi e=>Pot.keep (S.ZG0 hi e) fun u e=>ZAD h o l u e
theorem Sg.grow (S:Sg E ss σ F H) (s:ZAk H H'):Mv E ss σ F H F H':=
 S.step (ZAk.refl _) (S.fh.trans s) (fun a u _ e=>s a u e) (fun a u e=>.inl e) fun i l hi e=>Pot.keep (S.ZG0 hi e) fun u e=>s l u e
theorem Sg.setG (S:Sg E ss σ F H){j:Nat}{s:Slot}{v:V}(hok:Ok E F H s (some (some v))) (hdis:∀ l,ZIv s (some (some v)) l->∀ (i:Nat) u,i≠j->ss[i]?=some u->¬ ZIv u σ[i]? l):Sg E (ss.set j s) (σ.set j (some v)) F H:=by
 refine ⟨S.toFin,by rw [List.length_set,List.length_set];exact S.len,fun i u hi=>?_,fun i k u w l hik hi hk mu mw=>?_⟩
 ·by_cases q:i=j
  ·subst q
   have hlt:i < ss.length:=by have:=(List.getElem?_eq_some_iff.mp hi).1;simpa using this
   rw [List.getElem?_set_self hlt] at hi
   cases hi
   rw [List.getElem?_set_self (by rw [<- S.len];exact hlt)]
   exact hok
  ·rw [List.getElem?_set_ne (Ne.symm q)] at hi ⊢
   exact S.ok i u hi
 ·by_cases q:i=j
  ·subst q
   have hlt:i < ss.length:=by have:=(List.getElem?_eq_some_iff.mp hi).1;simpa using this
   rw [List.getElem?_set_self hlt] at hi
   rw [List.getElem?_set_self (by rw [<- S.len];exact hlt)] at mu
   cases hi
   rw [List.getElem?_set_ne hik] at hk mw
   exact hdis l mu k w (Ne.symm hik) hk mw
  ·rw [List.getElem?_set_ne (Ne.symm q)] at hi mu
   by_cases q2:k=j
   ·subst q2
    have hlt:k < ss.length:=by have:=(List.getElem?_eq_some_iff.mp hk).1;simpa using this
    rw [List.getElem?_set_self hlt] at hk
    cases hk
    rw [List.getElem?_set_self (by rw [<- S.len];exact hlt)] at mw
    exact hdis l mw i u hik hi mu
   ·rw [List.getElem?_set_ne (Ne.symm q2)] at hk mw
    exact S.dis i k u w l hik hi hk mu mw
theorem Sg.ZQl (S:Sg E ss σ F H){j:Nat}{v:V}{p:PV}(r:Rep F v p):Sg E (ss.set j (.is p)) (σ.set j (some v)) F H:=S.setG ⟨v,rfl,r⟩ fun _ h=>by cases h
end
end Fz
namespace Fz
open L2 Lw
def Sv (ss:List Slot) (σ:L2.St) (F H:Hp) (v:V):Bool->List PV->Prop
 | true,xs=>Rep F v (.tup xs)
 | false,xs=>∃ l vs,v=.ref l/\ZMj ss σ l/\H l=some (.lst vs)/\ZB5 F vs xs
def Fv (E:Ent0) (F:Hp) (v:V):Bool->List PV->Prop
 | true,xs=>Rep F v (.tup xs)
 | false,xs=>∃ l vs,v=.ref l/\(F l=some (.lst vs)∨((l∉E.A/\l∉E.B)/\E.H0 l=some (.lst vs)))/\ZB5 F vs xs
structure Wp [Xw] (ss:List Slot) (t:TE) (k:PV->Prop):Prop where
 go:∀ (E:Ent) (σ:L2.St) (F H:Hp) (Q:VK),Sg E ss σ F H->(∀ v p F' H',Mv E ss σ F H F' H'->Rep F' v p->k p->Q v H')->t σ H Q
structure Wn [Xw] (ss:List Slot) (t:TE) (k:List PV->Prop):Prop where
 go:∀ (E:Ent) (σ:L2.St) (F H:Hp) (Q:VK),Sg E ss σ F H->(∀ l vs xs F' H',Mv E ss σ F H F' H'->F' l=none->H l=none->H' l=some (.lst vs)->ZB5 F' vs xs->k xs->Q (.ref l) H')->t σ H Q
structure Wq [Xw] (ss:List Slot) (t:TE) (k:Bool->List PV->Prop):Prop where
 go:∀ (E:Ent) (σ:L2.St) (F H:Hp) (Q:VK),Sg E ss σ F H->(∀ v tp xs F' H',Mv E ss σ F H F' H'->Sv ss σ F' H' v tp xs->k tp xs->Q v H')->t σ H Q
structure Wz [Xw] (ss:List Slot) (t:TE) (k:Bool->List PV->Prop):Prop where
 go:∀ (E:Ent) (σ:L2.St) (F H:Hp) (Q:VK),Sg E ss σ F H->(∀ v tp xs F' H',Mv E ss σ F H F' H'->Fv E F' v tp xs->k tp xs->Q v H')->t σ H Q
structure Wt [Xw] (ss:List Slot) (t:TT) (k:Bool->Prop):Prop where
 go:∀ (E:Ent) (σ:L2.St) (F H:Hp) (Q:Bool->Hp->Prop),Sg E ss σ F H->(∀ b F' H',Mv E ss σ F H F' H'->k b->Q b H')->t σ H Q
def Av (ss:List Slot) (σ:L2.St) (F H:Hp) (v:V):Slot->Prop
 | .is p=>Rep F v p
 | .sq tp xs=>Sv ss σ F H v tp xs
 | .raw P=>P F v/\∀ F F',ZAk F F'->P F v->P F' v
 | _=>False
inductive Avs (ss:List Slot) (σ:L2.St) (F H:Hp):List V->List Slot->Prop where
 | nil:Avs ss σ F H [] []
 | cons {v:V}{s:Slot}{vs:List V}{l:List Slot}:Av ss σ F H v s->Avs ss σ F H vs l->Avs ss σ F H (v :: vs) (s :: l)
structure Wa [Xw] (ss:List Slot) (t:TA) (k:List Slot->Prop):Prop where
 go:∀ (E:Ent) (σ:L2.St) (F H:Hp) (Q:List V->Hp->Prop),Sg E ss σ F H->(∀ vs l F' H',Mv E ss σ F H F' H'->Avs ss σ F' H' vs l->k l->Q vs H')->t σ H Q
inductive Ret where
 | is (k:PV->Prop) | new (k:List PV->Prop) | pot | ow (k:OV->Prop) | mt (k:PV->OV->Prop)
def OV.val:OV->V
 | .nd _ a _=>.ref a
 | _=>.non
def Ret.ok (R:Ret) (E:Ent0) (F' H':Hp) (v:V):Prop:=match R with
 | .is k=>∃ p,Rep F' v p/\k p
 | .new k=>∃ l vs xs,v=.ref l/\F' l=none/\E.H0 l=none/\H' l=some (.lst vs)/\ZB5 F' vs xs/\k xs
 | .pot=>∃ l,v=.ref l/\F' l=none/\E.H0 l=none/\Pot H' l
 | .ow k=>∃ t,ZJY F' H' v t/\t.addrs.Nodup/\(∀ a∈t.addrs,F' a=none/\E.H0 a=none)/\k t
 | .mt k=>∃ p t,Rep F' v p/\ZJY F' H' t.val t/\t.addrs.Nodup/\(∀ a∈t.addrs,F' a=none/\(E.H0 a=none∨a∈E.B))/\k p t
structure Ws [Xw] (ss:List Slot) (t:TS) (nx:List Slot->Prop) (R:Ret):Prop where
 go:∀ (E:Ent) (D:Ends) (σ:L2.St) (F H:Hp),Sg E ss σ F H->(∀ ss' σ' F' H',nx ss'->Sg E ss' σ' F' H'->ZAk F F'->D.nx σ' H')->(∀ v F' H',Fin E F' H'->R.ok E F' H' v->D.rt v H')->t D σ H
section
variable [Xw]
variable {E:Ent0}{ss:List Slot}{σ:L2.St} {F H F' H':Hp}{K:PySem.W.Frag}{ta tb tc te:TE}{k:PV->Prop}{v:V}{tp:Bool}{xs:List PV}{nx:List Slot->Prop}{R:Ret}
theorem Sv.mv (h:Sv ss σ F H v tp xs) (m:Mv E ss σ F H F' H'):Sv ss σ F' H' v tp xs:=by
 cases tp with
 | true=>exact Rep.mono m.ff h
 | false=>
  obtain ⟨l,vs,e,n,r,q⟩:=h
  exact ⟨l,vs,e,n,m.hh l _ n r,q.mono m.ff⟩
theorem Sv.seq (S:Sg E ss σ F H) (h:Sv ss σ F H v tp xs):∃ l vs,v=.ref l/\H l=some (HOq tp vs)/\ZB5 F vs xs:=by
 cases tp with
 | true=>cases h with | tup e r=>exact ⟨_,_,rfl,S.fh _ _ e,r⟩
 | false=>obtain ⟨l,vs,e,_,r,q⟩:=h;exact ⟨l,vs,e,r,q⟩
theorem Fv.sv (S:Sg E ss σ F H) (h:Fv E F v tp xs):Sv ss σ F H v tp xs:=by
 cases tp with
 | true=>exact h
 | false=>
  obtain ⟨l,vs,e,h1 | ⟨hA,h1⟩,r⟩:=h
  ·exact ⟨l,vs,e,S.ZVB h1,S.fh _ _ h1,r⟩
  ·exact ⟨l,vs,e,S.ZVO hA.1 h1,S.keep _ _ hA h1,r⟩
theorem Av.mv {s:Slot}(h:Av ss σ F H v s) (m:Mv E ss σ F H F' H'):Av ss σ F' H' v s:=by
 cases s with
 | is p=>exact Rep.mono m.ff h
 | sq tp xs=>exact Sv.mv h m
 | raw P=>exact ⟨h.2 _ _ m.ff h.1,h.2⟩
 | _=>exact h
theorem Avs.mv {vs:List V}{l:List Slot}(h:Avs ss σ F H vs l) (m:Mv E ss σ F H F' H'):Avs ss σ F' H' vs l:=by
 induction h with
 | nil=>exact .nil
 | cons a _ ih=>exact .cons (a.mv m) ih
theorem ZAG {i:Nat}{p:PV}(h:ss[i]?=some (.is p)) (hk:k p):Wp ss (ZFG i) k:=⟨fun E σ F H Q S q=>by
 obtain ⟨v,hv,r⟩:=S.ok i _ h
 exact ⟨v,hv,q v p F H (.refl S) r hk⟩⟩
theorem ZCm {i:Int}(hk:k (.int i)):Wp ss (tC (.int i)) k:=⟨fun E σ F H Q S q=>q _ _ F H (.refl S) (.int i) hk⟩
theorem ZJS {x:Str}(hk:k (.str x)):Wp ss (tC (.str x)) k:=⟨fun E σ F H Q S q=>q _ _ F H (.refl S) (.str x) hk⟩
theorem ZMO {b:Bool}(hk:k (.bl b)):Wp ss (tC (.bl b)) k:=⟨fun E σ F H Q S q=>q _ _ F H (.refl S) (.bl b) hk⟩
theorem ZCw (hk:k .non):Wp ss (tC .non) k:=⟨fun E σ F H Q S q=>q _ _ F H (.refl S) .non hk⟩
theorem ZAn (h:Wn ss te (fun xs=>k (.lst xs))):Wp ss te k:=⟨fun E σ F H Q S q=>h.go E σ F H Q S fun l vs xs F' H' m fl hl hl' r kk=>by
 have S':=m.st
 have fr:Mv E ss σ F H (upd F' l (.lst vs)) H':=by
  have nF:∀ a,H' a≠none->a≠l->F' a=none->upd F' l (.lst vs) a=none:=fun a _ h1 h2=>by rw [ZAT h1];exact h2
  refine ⟨⟨⟨fun a u e=>?_,S'.f0.trans (ZAD fl _),S'.keep,fun a u e=>?_,S'.pots,fun a hA=>?_,S'.a0,fun a hB=>?_,S'.bH,S'.b0⟩,S'.len,fun i s hi=>?_,S'.dis⟩,m.ff.trans (ZAD fl _),m.hh,fun a u e=>?_⟩
  ·by_cases q:a=l
   ·subst q;rw [ZA6] at e;rw [<- e];exact hl'
   ·rw [ZAT q] at e;exact S'.fh a u e
  ·by_cases q:a=l
   ·subst q;exact .inr (S.ZR8 hl)
   ·rw [ZAT q] at e;exact S'.fresh a u e
  ·by_cases q:a=l
   ·subst q
    obtain ⟨_,_,e,_⟩:=S.pots _ hA
    rw [hl] at e;cases e
   ·rw [ZAT q];exact S'.potF a hA
  ·by_cases q:a=l
   ·subst q;exact absurd hl (S.bH _ hB)
   ·rw [ZAT q];exact S'.bF a hB
  ·have own_ne:∀ a,ZIv s σ[i]? a->a≠l:=by
    rintro a m rfl;exact S.ZIU hi hl m
   have kk:=S'.ok i s hi
   cases s with
   | any=>trivial
   | is p=>obtain ⟨v,e,r⟩:=kk;exact ⟨v,e,r.mono (ZAD fl _)⟩
   | own ys=>
    obtain ⟨l',ws,e,e1,e2,e3,r⟩:=kk
    exact ⟨l',ws,e,by rw [ZAT (own_ne l' e)];exact e1,e2,e3,r.mono (ZAD fl _)⟩
   | pot=>
    obtain ⟨l',e,e1,e2,e3⟩:=kk
    exact ⟨l',e,by rw [ZAT (own_ne l' e)];exact e1,e2,e3⟩
   | sq tp ys=>
    cases tp with
    | true=>obtain ⟨v,e,r⟩:=kk;exact ⟨v,e,r.mono (ZAD fl _)⟩
    | false=>obtain ⟨l',ws,e,e1,e2,r⟩:=kk;exact ⟨l',ws,e,e1,e2,r.mono (ZAD fl _)⟩
   | raw P=>obtain ⟨v,e,r,st⟩:=kk;exact ⟨v,e,st _ _ (ZAD fl _) r,st⟩
   | ow lt t=>
    obtain ⟨v,e,r,nd,q⟩:=kk
    exact ⟨v,e,r.mono (ZAD fl _) fun a _ o h=>h,nd,fun a ha=>⟨by rw [ZAT (own_ne a ha)];exact (q a ha).1,(q a ha).2⟩⟩
  ·by_cases q:a=l
   ·subst q;exact .inr hl
   ·rw [ZAT q] at e;exact m.nn a u e
 exact q _ _ _ _ fr (.lst ZA6 (r.mono (ZAD fl _))) kk⟩
theorem ZBP {k:Bool->List PV->Prop}(h:Wp ss te (fun p=>∃ xs,(p=.lst xs/\k false xs)∨(p=.tup xs/\k true xs))):Wq ss te k:=⟨fun E σ F H Q S q=>h.go E σ F H Q S fun v p F' H' m r ⟨xs,h⟩=>by
 rcases h with ⟨rfl,kk⟩ | ⟨rfl,kk⟩
 ·cases r with | lst h r=>exact q _ false xs F' H' m ⟨_,_,rfl,m.st.ZVB h,m.st.fh _ _ h,r⟩ kk
 ·exact q v true xs F' H' m r kk⟩
theorem ZCH {i:Nat}{k:Bool->List PV->Prop}(h:ss[i]?=some (.is (.lst xs))) (hk:k false xs):Wq ss (ZFG i) k:=ZBP (ZAG h ⟨xs,.inl ⟨rfl,hk⟩⟩)
theorem ZLZ {i:Nat}{k:Bool->List PV->Prop}(h:ss[i]?=some (.is (.tup xs))) (hk:k true xs):Wq ss (ZFG i) k:=ZBP (ZAG h ⟨xs,.inr ⟨rfl,hk⟩⟩)
theorem ZNz {i:Nat}{k:Bool->List PV->Prop}(h:ss[i]?=some (.own xs)) (hk:k false xs):Wq ss (ZFG i) k:=⟨fun E σ F H Q S q=>by
 obtain ⟨l,vs,e,e1,e2,e3,r⟩:=S.ok i _ h
 exact ⟨_,e,q _ false xs F H (.refl S) ⟨l,vs,rfl,S.ZHb h e (by simp),e3,r⟩ hk⟩⟩
theorem ZW6 {i:Nat}{k:Bool->List PV->Prop}(h:ss[i]?=some (.sq tp xs)) (hk:k tp xs):Wz ss (ZFG i) k:=⟨fun E σ F H Q S q=>by
 have kk:=S.ok i _ h
 cases tp with
 | true=>obtain ⟨v,e,r⟩:=kk;exact ⟨_,e,q _ true xs F H (.refl S) r hk⟩
 | false=>
  obtain ⟨l,vs,e,hA,h0,r⟩:=kk
  exact ⟨_,e,q _ false xs F H (.refl S) ⟨l,vs,rfl,.inr ⟨hA,h0⟩,r⟩ hk⟩⟩
theorem ZKg {k:Bool->List PV->Prop}(h:Wp ss te (fun p=>∃ xs,(p=.lst xs/\k false xs)∨(p=.tup xs/\k true xs))):Wz ss te k:=⟨fun E σ F H Q S q=>h.go E σ F H Q S fun v p F' H' m r ⟨xs,h⟩=>by
 rcases h with ⟨rfl,kk⟩ | ⟨rfl,kk⟩
 ·cases r with | lst h r=>exact q _ false xs F' H' m ⟨_,_,rfl,.inl h,r⟩ kk
 ·exact q _ true xs F' H' m r kk⟩
theorem ZO2 {k:Bool->List PV->Prop}(h:Wz ss te k):Wq ss te k:=⟨fun E σ F H Q S q=>h.go E σ F H Q S fun v tp xs F' H' m f kk=>q v tp xs F' H' m (f.sv m.st) kk⟩
theorem ZBl {i:Nat}{k:Bool->List PV->Prop}(h:ss[i]?=some (.sq tp xs)) (hk:k tp xs):Wq ss (ZFG i) k:=ZO2 (ZW6 h hk)
theorem ZVU {C:Int->Int->Prop}{f:Int->Int->Int}(h:Wp ss ta fun x=>∃ i,x=.int i/\Wp ss tb fun y=>∃ j,y=.int j/\C i j/\k (.int (f i j))):Wp ss (tOp (rI C fun i j=>.int (f i j)) ta tb) k:=⟨fun E σ F H Q S q=>
 h.go E σ F H _ S fun v p F1 H1 m1 r1 ⟨i,e1,h2⟩=>by
  subst e1;cases r1
  exact h2.go E σ F1 H1 _ m1.st fun v2 p2 F2 H2 m2 r2 ⟨j,e2,c,kk⟩=>by
   subst e2;cases r2
   exact ⟨i,j,rfl,rfl,c,q _ _ F2 H2 (m1.trans m2) (.int _) kk⟩⟩
theorem ZSF {f:Int->Int->Int}(h:Wp ss ta fun x=>∃ i,x=.int i/\Wp ss tb fun y=>∃ j,y=.int j/\k (.int (f i j))):Wp ss (tOp (rI0 fun i j=>.int (f i j)) ta tb) k:=⟨fun E σ F H Q S q=>
 h.go E σ F H _ S fun v p F1 H1 m1 r1 ⟨i,e1,h2⟩=>by
  subst e1;cases r1
  exact h2.go E σ F1 H1 _ m1.st fun v2 p2 F2 H2 m2 r2 ⟨j,e2,kk⟩=>by
   subst e2;cases r2
   exact ⟨i,j,rfl,rfl,q _ _ F2 H2 (m1.trans m2) (.int _) kk⟩⟩
theorem ZUP {f:Int->Int->Bool}(h:Wp ss ta fun x=>∃ i,x=.int i/\Wp ss tb fun y=>∃ j,y=.int j/\k (.bl (f i j))):Wp ss (tOp (rI0 fun i j=>.bl (f i j)) ta tb) k:=⟨fun E σ F H Q S q=>
 h.go E σ F H _ S fun v p F1 H1 m1 r1 ⟨i,e1,h2⟩=>by
  subst e1;cases r1
  exact h2.go E σ F1 H1 _ m1.st fun v2 p2 F2 H2 m2 r2 ⟨j,e2,kk⟩=>by
   subst e2;cases r2
   exact ⟨i,j,rfl,rfl,q _ _ F2 H2 (m1.trans m2) (.bl _) kk⟩⟩
theorem ZJQ {f:Int->Int}(h:Wp ss ta fun x=>∃ i,x=.int i/\k (.int (f i))):Wp ss (tUn (rU fun i=>.int (f i)) ta) k:=⟨fun E σ F H Q S q=>
 h.go E σ F H _ S fun v p F1 H1 m1 r1 ⟨i,e1,kk⟩=>by
  subst e1;cases r1
  exact ⟨i,rfl,q _ _ F1 H1 m1 (.int _) kk⟩⟩
def alike:PV->PV->Bool
 | .int i,.int j=>decide (i=j)
 | .str i,.str j=>decide (i=j)
 | .bl i,.bl j=>decide (i=j)
 | .non,.non=>true
 | _,_=>false
def ZOM (p q:PV):Bool:=flat p && flat q && ZW8 (Fz.enc p) (Fz.enc q)
theorem ZNh {p q:PV}(h:ZOM p q=true):decide (Fz.enc p=Fz.enc q)=alike p q:=by
 unfold ZOM at h
 rw [Bool.and_eq_true,Bool.and_eq_true] at h
 obtain ⟨⟨h1,h2⟩,h3⟩:=h
 cases p <;> cases q <;> first | (simp [Fz.enc,alike];done) | (simp [flat] at h1;done) | (simp [flat] at h2;done) | (simp [Fz.enc,ZW8] at h3;done)
theorem ZMJ (h:Wp ss ta fun x=>Wp ss tb fun y=>ZOM x y=true/\k (.bl (alike x y))):Wp ss (tOp rEq ta tb) k:=⟨fun E σ F H Q S q=>
 h.go E σ F H _ S fun v p F1 H1 m1 r1 h2=>h2.go E σ F1 H1 _ m1.st fun v2 p2 F2 H2 m2 r2 ⟨sc,kk⟩=>by
  have sc':=sc
  unfold ZOM at sc
  rw [Bool.and_eq_true,Bool.and_eq_true] at sc
  rw [r1.enc sc.1.1,r2.enc sc.1.2]
  refine ⟨sc.2,?_⟩
  rw [ZNh sc']
  exact q _ _ F2 H2 (m1.trans m2) (.bl _) kk⟩
theorem ZVq (h:Wp ss ta fun x=>Wp ss tb fun y=>ZOM x y=true/\k (.bl (!alike x y))):Wp ss (tOp rNe ta tb) k:=⟨fun E σ F H Q S q=>
 h.go E σ F H _ S fun v p F1 H1 m1 r1 h2=>h2.go E σ F1 H1 _ m1.st fun v2 p2 F2 H2 m2 r2 ⟨sc,kk⟩=>by
  have sc':=sc
  unfold ZOM at sc
  rw [Bool.and_eq_true,Bool.and_eq_true] at sc
  rw [r1.enc sc.1.1,r2.enc sc.1.2]
  refine ⟨sc.2,?_⟩
  rw [ZNh sc']
  exact q _ _ F2 H2 (m1.trans m2) (.bl _) kk⟩
theorem ZHv (h:Wp ss ta fun x=>∃ c,x=.bl c/\if c=true then Wp ss tb k else k (.bl false)):Wp ss (ZTI ta tb) k:=⟨fun E σ F H Q S q=>
 h.go E σ F H _ S fun v p F1 H1 m1 r1 ⟨c,e,h2⟩=>by
  subst e;cases r1
  refine ⟨c,rfl,?_⟩
  cases c with
  | true=>rw [if_pos rfl] at h2 ⊢;exact h2.go E σ F1 H1 _ m1.st fun v2 p2 F2 H2 m2 r2 kk=>q _ _ F2 H2 (m1.trans m2) r2 kk
  | false=>rw [if_neg (by decide)] at h2 ⊢;exact q _ _ F1 H1 m1 (.bl _) h2⟩
theorem ZUz (h:Wp ss ta fun x=>∃ c,x=.bl c/\if c=true then k (.bl true) else Wp ss tb k):Wp ss (ZXA ta tb) k:=⟨fun E σ F H Q S q=>
 h.go E σ F H _ S fun v p F1 H1 m1 r1 ⟨c,e,h2⟩=>by
  subst e;cases r1
  refine ⟨c,rfl,?_⟩
  cases c with
  | true=>rw [if_pos rfl] at h2 ⊢;exact q _ _ F1 H1 m1 (.bl _) h2
  | false=>rw [if_neg (by decide)] at h2 ⊢;exact h2.go E σ F1 H1 _ m1.st fun v2 p2 F2 H2 m2 r2 kk=>q _ _ F2 H2 (m1.trans m2) r2 kk⟩
theorem ZUn (h:Wp ss ta fun x=>∃ c,x=.bl c/\k (.bl (!c))):Wp ss (ZWS ta) k:=⟨fun E σ F H Q S q=>
 h.go E σ F H _ S fun v p F1 H1 m1 r1 ⟨c,e,kk⟩=>by subst e;cases r1;exact ⟨c,rfl,q _ _ F1 H1 m1 (.bl _) kk⟩⟩
theorem ZCV {f g:Int->Int->Bool}(h:Wp ss ta fun x=>∃ i,x=.int i/\Wp ss tb fun y=>∃ j,y=.int j/\if f i j=true then Wp ss tc (fun z=>∃ l,z=.int l/\k (.bl (g j l))) else k (.bl false)) :
  Wp ss (ZLU (rI0 fun i j=>.bl (f i j)) (rI0 fun i j=>.bl (g i j)) ta tb tc) k:=⟨fun E σ F H Q S q=>
 h.go E σ F H _ S fun v p F1 H1 m1 r1 ⟨i,e1,h2⟩=>by
  subst e1;cases r1
  exact h2.go E σ F1 H1 _ m1.st fun v2 p2 F2 H2 m2 r2 ⟨j,e2,h3⟩=>by
   subst e2;cases r2
   refine ⟨i,j,rfl,rfl,f i j,rfl,?_⟩
   cases c:f i j with
   | true=>
    rw [c,if_pos rfl] at h3
    rw [if_pos rfl]
    exact h3.go E σ F2 H2 _ m2.st fun v3 p3 F3 H3 m3 r3 ⟨l,e3,kk⟩=>by
     subst e3;cases r3
     exact ⟨j,l,rfl,rfl,q _ _ F3 H3 (m1.trans (m2.trans m3)) (.bl _) kk⟩
   | false=>
    rw [c,if_neg (by decide)] at h3
    rw [if_neg (by decide)]
    exact q _ _ F2 H2 (m1.trans m2) (.bl _) h3⟩
theorem ZAm {k:Bool->Prop}(h:Wp ss te fun x=>∃ c,x=.bl c/\k c):Wt ss (ZPk te) k:=⟨fun E σ F H Q S q=>
 h.go E σ F H _ S fun v p F1 H1 m1 r1 ⟨c,e,kk⟩=>by subst e;cases r1;exact ⟨c,rfl,q _ F1 H1 m1 kk⟩⟩
theorem ZUO {k:Bool->Prop}(h:Wp ss te fun x=>∃ c,x=.bl c/\k c):Wt ss (tB te) k:=⟨fun E σ F H Q S q=>
 h.go E σ F H _ S fun v p F1 H1 m1 r1 ⟨c,e,kk⟩=>by subst e;cases r1;exact ⟨c,rfl,q _ F1 H1 m1 kk⟩⟩
theorem ZPx {k:Bool->Prop}(h:k true):Wt ss ZQu k:=⟨fun E σ F H Q S q=>q _ F H (.refl S) h⟩
theorem ZDX {t:TT}{k:Bool->Prop}(h:Wt ss t fun c=>k (!c)):Wt ss (ZWj t) k:=⟨fun E σ F H Q S q=>h.go E σ F H _ S fun c F1 H1 m1 kk=>q _ F1 H1 m1 kk⟩
theorem ZLG {t u:TT}{k:Bool->Prop}(h:Wt ss t fun c=>if c=true then Wt ss u k else k false):Wt ss (ZWO t u) k:=⟨fun E σ F H Q S q=>
 h.go E σ F H _ S fun c F1 H1 m1 h2=>by
  show if c=true then _ else _
  cases c with
  | true=>rw [if_pos rfl] at h2 ⊢;exact h2.go E σ F1 H1 _ m1.st fun c2 F2 H2 m2 kk=>q _ F2 H2 (m1.trans m2) kk
  | false=>rw [if_neg (by decide)] at h2 ⊢;exact q _ F1 H1 m1 h2⟩
theorem ZN6 {t u:TT}{k:Bool->Prop}(h:Wt ss t fun c=>if c=true then k true else Wt ss u k):Wt ss (tOr t u) k:=⟨fun E σ F H Q S q=>
 h.go E σ F H _ S fun c F1 H1 m1 h2=>by
  show if c=true then _ else _
  cases c with
  | true=>rw [if_pos rfl] at h2 ⊢;exact q _ F1 H1 m1 h2
  | false=>rw [if_neg (by decide)] at h2 ⊢;exact h2.go E σ F1 H1 _ m1.st fun c2 F2 H2 m2 kk=>q _ F2 H2 (m1.trans m2) kk⟩
end
end Fz
namespace Fz
open L2 Lw
structure We [Xw] (ss:List Slot) (t:TA) (k:List PV->Prop):Prop where
 go:∀ (E:Ent) (σ:L2.St) (F H:Hp) (Q:List V->Hp->Prop),Sg E ss σ F H->(∀ vs ps F' H',Mv E ss σ F H F' H'->ZB5 F' vs ps->k ps->Q vs H')->t σ H Q
structure Wo [Xw] (ss:List Slot) (t:TO) (k:Option Int->Prop):Prop where
 go:∀ (E:Ent) (σ:L2.St) (F H:Hp) (Q:Option Int->Hp->Prop),Sg E ss σ F H->(∀ o F' H',Mv E ss σ F H F' H'->k o->Q o H')->t σ H Q
section
variable [Xw]
variable {E:Ent0}{ss:List Slot}{σ:L2.St} {F H F' H':Hp}{K:PySem.W.Frag}{ta tb tc te:TE}{k:PV->Prop}{v:V}{tp:Bool}{xs:List PV}{nx:List Slot->Prop}{R:Ret}
theorem ZBO {k:List PV->Prop}(h:k []):We ss ZCq k:=⟨fun E σ F H Q S q=>q _ _ F H (.refl S) .nil h⟩
theorem ZAl {k:List PV->Prop}{t:TA}(h:Wp ss te fun p=>We ss t fun ps=>k (p :: ps)):We ss (ZAe te t) k:=⟨fun E σ F H Q S q=>
 h.go E σ F H _ S fun v p F1 H1 m1 r1 h2=>h2.go E σ F1 H1 _ m1.st fun vs ps F2 H2 m2 r2 kk=>q _ _ F2 H2 (m1.trans m2) (.cons (r1.mono m2.ff) r2) kk⟩
theorem ZAd {k:List Slot->Prop}(h:k []):Wa ss ZCq k:=⟨fun E σ F H Q S q=>q _ _ F H (.refl S) .nil h⟩
theorem ZAb {k:List Slot->Prop}{t:TA}(h:Wp ss te fun p=>Wa ss t fun l=>k (.is p :: l)):Wa ss (ZAe te t) k:=⟨fun E σ F H Q S q=>
 h.go E σ F H _ S fun v p F1 H1 m1 r1 h2=>h2.go E σ F1 H1 _ m1.st fun vs l F2 H2 m2 r2 kk=>q _ _ F2 H2 (m1.trans m2) (.cons (s:=.is p) (r1.mono m2.ff) r2) kk⟩
theorem ZB2 {k:List Slot->Prop}{t:TA}(h:Wq ss te fun tp xs=>Wa ss t fun l=>k (.sq tp xs :: l)):Wa ss (ZAe te t) k:=⟨fun E σ F H Q S q=>
 h.go E σ F H _ S fun v tp xs F1 H1 m1 r1 h2=>h2.go E σ F1 H1 _ m1.st fun vs l F2 H2 m2 r2 kk=>q _ _ F2 H2 (m1.trans m2) (.cons (s:=.sq tp xs) (r1.mv m2) r2) kk⟩
theorem ZTA {k:Option Int->Prop}(h:k none):Wo ss ZMT k:=⟨fun E σ F H Q S q=>q _ F H (.refl S) h⟩
theorem ZTD {k:Option Int->Prop}(h:Wp ss te fun p=>∃ i,p=.int i/\k (some i)):Wo ss (ZTr te) k:=⟨fun E σ F H Q S q=>
 h.go E σ F H _ S fun v p F1 H1 m1 r1 ⟨i,e,kk⟩=>by subst e;cases r1;exact ⟨i,rfl,q _ F1 H1 m1 kk⟩⟩
theorem ZQM {n:Nat}(h:n<=99999):n < sizeLine:=Nat.lt_of_lt_of_le (Nat.lt_succ_of_le h) (small (Nat.le_refl 100000))
theorem ZE1 {t:TA}(h:We ss t fun ps=>ps.length<=100000/\k (.tup ps)):Wp ss (ZX2 t) k:=⟨fun E σ F H Q S q=>
 h.go E σ F H _ S fun vs ps F1 H1 m1 r1 ⟨hz,kk⟩=>⟨small (by rw [r1.length];exact hz),fun a ha=>by
  have m2:=m1.st.alloc ha (.tup vs)
  exact q _ _ _ _ (m1.trans m2) (.tup ZA6 (r1.mono m2.ff)) kk⟩⟩
theorem ZDu {t:TA}{k:List PV->Prop}(h:We ss t fun ps=>ps.length<=100000/\k ps):Wn ss (ZWR t) k:=⟨fun E σ F H Q S q=>
 h.go E σ F H _ S fun vs ps F1 H1 m1 r1 ⟨hz,kk⟩=>⟨small (by rw [r1.length];exact hz),fun a ha=>by
  have m2:=m1.st.make ha (.lst vs)
  refine q a vs ps F1 _ (m1.trans m2) (m1.st.ZHI ha) ?_ ZA6 r1 kk
  cases e:H a with
  | none=>rfl
  | some o=>rw [m1.hh a o (m1.st.ZT7 ha) e] at ha;cases ha⟩⟩
theorem ZVx (h:Wq ss te fun _ xs=>k (.int xs.length)):Wp ss (tCB (ZRA K) (ZAe te ZCq)) k:=⟨fun E σ F H Q S q=>
 h.go E σ F H _ S fun v tp xs F1 H1 m1 sv kk=>by
  obtain ⟨l,vs,rfl,hl,r⟩:=sv.seq m1.st
  refine ⟨l,vs,rfl,(HOq.sq (K:=K) hl).or,?_⟩
  rw [r.length]
  exact q _ _ F1 H1 m1 (.int _) kk⟩
theorem ZB5.atI {vs:List V}{i:Int}{p:PV}(r:ZB5 F vs xs) (h:L2.atI xs i=some p):∃ u,L2.atI vs i=some u/\Rep F u p:=by
 unfold L2.atI at h ⊢
 rw [r.length]
 cases e:ixN xs.length i with
 | none=>rw [e] at h;cases h
 | some j=>
  rw [e] at h
  exact r.get h
theorem ZFu (h:Wq ss ta fun tp xs=>tp=false/\Wp ss tb fun y=>∃ i p,y=.int i/\L2.atI xs i=some p/\k p):Wp ss (tOp (ZVr K) ta tb) k:=⟨fun E σ F H Q S q=>
 h.go E σ F H _ S fun v tp xs F1 H1 m1 sv ⟨et,h2⟩=>h2.go E σ F1 H1 _ m1.st fun v2 p2 F2 H2 m2 r2 ⟨i,p,e,ha,kk⟩=>by
  subst e;cases r2;subst et
  obtain ⟨l,vs,rfl,hl,r⟩:=(sv.mv m2).seq m2.st
  obtain ⟨u,hu,ru⟩:=r.atI ha
  exact ⟨l,vs,i,u,rfl,rfl,SqL.of hl,hu,q _ _ F2 H2 (m1.trans m2) ru kk⟩⟩
theorem ZLY (h:Wq ss ta fun tp xs=>tp=true/\Wp ss tb fun y=>∃ i p,y=.int i/\L2.atI xs i=some p/\k p):Wp ss (tOp (ZTW K) ta tb) k:=⟨fun E σ F H Q S q=>
 h.go E σ F H _ S fun v tp xs F1 H1 m1 sv ⟨et,h2⟩=>h2.go E σ F1 H1 _ m1.st fun v2 p2 F2 H2 m2 r2 ⟨i,p,e,ha,kk⟩=>by
  subst e;cases r2;subst et
  obtain ⟨l,vs,rfl,hl,r⟩:=(sv.mv m2).seq m2.st
  obtain ⟨u,hu,ru⟩:=r.atI ha
  exact ⟨l,vs,i,u,rfl,rfl,SqT.of hl,hu,q _ _ F2 H2 (m1.trans m2) ru kk⟩⟩
theorem ZUs (h:Wq ss ta fun tp xs=>Wp ss tb fun y=>∃ i p,y=.int i/\L2.atI xs i=some p/\k p):Wp ss (tOp (fun x y H Q=>ZVr K x y H Q∨ZTW K x y H Q) ta tb) k:=⟨fun E σ F H Q S q=>
 h.go E σ F H _ S fun v tp xs F1 H1 m1 sv h2=>h2.go E σ F1 H1 _ m1.st fun v2 p2 F2 H2 m2 r2 ⟨i,p,e,ha,kk⟩=>by
  subst e;cases r2
  obtain ⟨l,vs,rfl,hl,r⟩:=(sv.mv m2).seq m2.st
  obtain ⟨u,hu,ru⟩:=r.atI ha
  cases tp with
  | false=>exact .inl ⟨l,vs,i,u,rfl,rfl,SqL.of hl,hu,q _ _ F2 H2 (m1.trans m2) ru kk⟩
  | true=>exact .inr ⟨l,vs,i,u,rfl,rfl,SqT.of hl,hu,q _ _ F2 H2 (m1.trans m2) ru kk⟩⟩
theorem ZVH {neg:Bool}(h:Wp ss ta fun p=>∃ x,p=.str x/\Wq ss tb fun _ ys=>∃ ns:List Str,ys=ns.map PV.str/\k (.bl (if neg then !decide (x∈ns) else decide (x∈ns)))):Wp ss (tOp (rIn K neg) ta tb) k:=⟨fun E σ F H Q S q=>
 h.go E σ F H _ S fun v p F1 H1 m1 r1 ⟨x,e,h2⟩=>by
  subst e;cases r1
  exact h2.go E σ F1 H1 _ m1.st fun v2 tp ys F2 H2 m2 sv ⟨ns,e2,kk⟩=>by
   subst e2
   obtain ⟨l,vs,rfl,hl,r⟩:=sv.seq m2.st
   rw [r.strs] at hl
   refine ⟨l,_,rfl,(HOq.sq (K:=K) hl).or,rfl,ZBr ns,?_⟩
   rw [ZHi]
   exact q _ _ F2 H2 (m1.trans m2) (.bl _) kk⟩
theorem ZI0 {k:List PV->Prop}{r:List V->Hp->VK->Prop}(hr:r=fun xs H Q=>∃ p ys,xs=[.ref p]/\(SqL K H p ys∨SqT K H p ys)/\∀ l,H l=none->Q (.ref l) (upd H l (.lst ys))) (h:Wq ss te fun _ xs=>k xs):Wn ss (tCB r (ZAe te ZCq)) k:=⟨fun E σ F H Q S q=>
 h.go E σ F H _ S fun v tp xs F1 H1 m1 sv kk=>by
  subst hr
  obtain ⟨l,vs,rfl,hl,r⟩:=sv.seq m1.st
  refine ⟨l,vs,rfl,(HOq.sq (K:=K) hl).or,fun a ha=>?_⟩
  have m2:=m1.st.make ha (.lst vs)
  exact q a vs xs F1 _ (m1.trans m2) (m1.st.ZHI ha) (m1.none ha) ZA6 r kk⟩
theorem ZFD {r:List V->Hp->VK->Prop}(hr:r=fun xs H Q=>∃ p ys,xs=[.ref p]/\((SqL K H p ys/\∀ l,H l=none->Q (.ref l) (upd H l (.tup ys)))∨(SqT K H p ys/\Q (.ref p) H))) (h:Wq ss te fun _ xs=>k (.tup xs)):Wp ss (tCB r (ZAe te ZCq)) k:=⟨fun E σ F H Q S q=>
 h.go E σ F H _ S fun v tp xs F1 H1 m1 sv kk=>by
  subst hr
  cases tp with
  | false=>
   obtain ⟨l,vs,rfl,hl,r⟩:=sv.seq m1.st
   refine ⟨l,vs,rfl,.inl ⟨SqL.of hl,fun a ha=>?_⟩⟩
   have m2:=m1.st.alloc ha (.tup vs)
   exact q _ _ _ _ (m1.trans m2) (.tup ZA6 (r.mono m2.ff)) kk
  | true=>
   have sv':Rep F1 v (.tup xs):=sv
   cases sv' with
   | tup e r=>exact ⟨_,_,rfl,.inr ⟨SqT.of (m1.st.fh _ _ e),q _ _ F1 H1 m1 (.tup e r) kk⟩⟩⟩
theorem ZSV {k:List PV->Prop}(h:Wq ss ta fun tp xs=>tp=false/\Wq ss tb fun tp2 ys=>tp2=false/\xs.length+ys.length<=100000/\k (xs++ys)):Wn ss (tOp ZXW ta tb) k:=⟨fun E σ F H Q S q=>
 h.go E σ F H _ S fun v tp xs F1 H1 m1 sv ⟨et,h2⟩=>h2.go E σ F1 H1 _ m1.st fun v2 tp2 ys F2 H2 m2 sv2 ⟨et2,hz,kk⟩=>by
  subst et;subst et2
  obtain ⟨l,vs,rfl,hl,r⟩:=(sv.mv m2).seq m2.st
  obtain ⟨l2,vs2,rfl,hl2,r2⟩:=sv2.seq m2.st
  refine ⟨l,l2,vs,vs2,rfl,rfl,hl,hl2,small (by rw [r.length,r2.length];exact hz),fun a ha=>?_⟩
  have m3:=m2.st.make ha (.lst (vs++vs2))
  exact q a _ _ F2 _ (m1.trans (m2.trans m3)) (m2.st.ZHI ha) ((m1.trans m2).none ha) ZA6 (r.append r2) kk⟩
def ZKu {α:Type} (xs:List α) (lo hi:Option Int):List α:=(xs.drop (HT.sIx xs.length 0 lo)).take (HT.sIx xs.length xs.length hi - HT.sIx xs.length 0 lo)
theorem ZB5.cut {vs:List V}(r:ZB5 F vs xs) (lo hi:Option Int):ZB5 F (ZHA vs lo hi) (ZKu xs lo hi):=by
 unfold ZHA ZKu
 rw [r.length]
 exact (r.drop _).take _
theorem ZRZ {k:List PV->Prop}{tl th:TO}(h:Wq ss te fun tp xs=>tp=false/\Wo ss tl fun lo=>Wo ss th fun hi=>k (ZKu xs lo hi)):Wn ss (tSl (ZWI K) te tl th) k:=⟨fun E σ F H Q S q=>
 h.go E σ F H _ S fun v tp xs F1 H1 m1 sv ⟨et,h2⟩=>h2.go E σ F1 H1 _ m1.st fun lo F2 H2 m2 h3=>h3.go E σ F2 H2 _ m2.st fun hi F3 H3 m3 kk=>by
  subst et
  obtain ⟨l,vs,rfl,hl,r⟩:=(sv.mv (m2.trans m3)).seq m3.st
  refine ⟨l,vs,rfl,SqL.of hl,fun a ha=>?_⟩
  have m4:=m3.st.make ha (.lst (ZHA vs lo hi))
  exact q a _ _ F3 _ (m1.trans (m2.trans (m3.trans m4))) (m3.st.ZHI ha) ((m1.trans (m2.trans m3)).none ha) ZA6 (r.cut lo hi) kk⟩
def ZWH (tp:Bool) (xs:List PV):PV:=if tp then .tup xs else .lst xs
def ZWE (K:PySem.W.Frag):V->Option Int->Option Int->Hp->VK->Prop:=fun x lo hi H Q=>ZWI K x lo hi H Q∨ZXJ K x lo hi H Q
theorem ZH9 {X:Cx}:SlR X (ZWE X.K):=by
 intro pins s σ H x v vl vu lo hi sl Q I rx hs pl pu h
 rcases h with h | h
 ·exact ZCs pins s σ H x v vl vu lo hi sl Q I rx hs pl pu h
 ·exact ZSj pins s σ H x v vl vu lo hi sl Q I rx hs pl pu h
theorem ZLr {tl th:TO}(h:Wq ss te fun tp xs=>Wo ss tl fun lo=>Wo ss th fun hi=>k (ZWH tp (ZKu xs lo hi))):Wp ss (tSl (ZWE K) te tl th) k:=⟨fun E σ F H Q S q=>
 h.go E σ F H _ S fun v tp xs F1 H1 m1 sv h2=>h2.go E σ F1 H1 _ m1.st fun lo F2 H2 m2 h3=>h3.go E σ F2 H2 _ m2.st fun hi F3 H3 m3 kk=>by
  have sv3:=sv.mv (m2.trans m3)
  have m13:=m1.trans (m2.trans m3)
  cases tp with
  | false=>
   obtain ⟨l,vs,rfl,hl,r⟩:=sv3.seq m3.st
   refine .inl ⟨l,vs,rfl,SqL.of hl,fun a ha=>?_⟩
   have m4:=m3.st.alloc ha (.lst (ZHA vs lo hi))
   exact q _ _ _ _ (m13.trans m4) (.lst ZA6 ((r.cut lo hi).mono m4.ff)) kk
  | true=>
   have sv':Rep F3 v (.tup xs):=sv3
   cases sv' with
   | @tup _ vs _ e r=>
    refine .inr ⟨_,vs,rfl,SqT.of (m3.st.fh _ _ e),fun hw=>?_,fun hw a ha=>?_⟩
    ·have ew:ZKu xs lo hi=xs:=by
      rw [r.length] at hw
      unfold ZKu;rw [hw.1,hw.2];simp
     refine q _ _ F3 H3 m13 (.tup e r) ?_
     have kk':=kk
     rw [ew] at kk'
     exact kk'
    ·have m4:=m3.st.alloc ha (.tup (ZHA vs lo hi))
     exact q _ _ _ _ (m13.trans m4) (.tup ZA6 ((r.cut lo hi).mono m4.ff)) kk⟩
theorem ZQR {k:List PV->Prop}(h:Wq ss te fun _ xs=>∃ ns:List Str,xs=ns.map PV.str/\ns.length < 64/\∀ ns':List Str,ns'.Perm ns->sortedS ns'=true->k (ns'.map PV.str)):Wn ss (tCB (ZMg K) (ZAe te ZCq)) k:=⟨fun E σ F H Q S q=>
 h.go E σ F H _ S fun v tp xs F1 H1 m1 sv ⟨ns,e,hz,kk⟩=>by
  subst e
  obtain ⟨l,vs,rfl,hl,r⟩:=sv.seq m1.st
  rw [r.strs] at hl
  refine ⟨l,tp,ns,rfl,HOq.sq hl,hz,fun a ns' ha hp hs=>?_⟩
  have m2:=m1.st.make ha (.lst (ns'.map V.str))
  exact q a _ _ F1 _ (m1.trans m2) (m1.st.ZHI ha) (m1.none ha) ZA6 (ZDR ns') (kk ns' hp hs)⟩
theorem ZOE (xs ys:List Str):ZNk (xs.map V.str) (ys.map V.str)=decide (xs=ys):=by
 by_cases h:xs=ys
 ·subst h;rw [ZPM,decide_eq_true rfl]
 ·rw [decide_eq_false h]
  by_cases hl:xs.length=ys.length
  ·rw [ZDx (by simpa using hl)]
   cases c:(List.range (xs.map V.str).length).all fun j=>eqV ((xs.map V.str).getD j .non) ((ys.map V.str).getD j .non) with
   | false=>rfl
   | true=>
    exfalso
    apply h
    apply List.ext_getElem hl
    intro j h1 h2
    have q:=List.all_eq_true.mp c j (List.mem_range.mpr (by simpa using h1))
    have e1:(xs.map V.str)[j]?=some (.str xs[j]):=by rw [List.getElem?_map,List.getElem?_eq_getElem h1];rfl
    have e2:(ys.map V.str)[j]?=some (.str ys[j]):=by rw [List.getElem?_map,List.getElem?_eq_getElem h2];rfl
    rw [ZIo e1,ZIo e2] at q
    have q':(xs[j] == ys[j])=true:=q
    simpa using q'
  ·rw [ZGq (by simpa using hl)]
theorem ZSe {neg:Bool}(h:Wq ss ta fun tp xs=>∃ ns:List Str,xs=ns.map PV.str/\Wq ss tb fun tp2 ys=>tp2=tp/\∃ ms:List Str,ys=ms.map PV.str/\k (.bl (if neg then !decide (ns=ms) else decide (ns=ms)))):Wp ss (tOp (ZUw K neg) ta tb) k:=⟨fun E σ F H Q S q=>
 h.go E σ F H _ S fun v tp xs F1 H1 m1 sv ⟨ns,e1,h2⟩=>h2.go E σ F1 H1 _ m1.st fun v2 tp2 ys F2 H2 m2 sv2 ⟨et,ms,e2,kk⟩=>by
  subst e1;subst e2;subst et
  obtain ⟨l,vs,rfl,hl,r⟩:=(sv.mv m2).seq m2.st
  obtain ⟨l2,vs2,rfl,hl2,r2⟩:=sv2.seq m2.st
  rw [r.strs] at hl
  rw [r2.strs] at hl2
  refine ⟨l,l2,ns.map V.str,ms.map V.str,rfl,rfl,?_,ZBr _,ZBr _,?_⟩
  ·cases tp2
   ·exact .inl ⟨SqL.of hl,SqL.of hl2⟩
   ·exact .inr ⟨SqT.of hl,SqT.of hl2⟩
  ·rw [ZOE]
   cases neg
   ·exact q _ _ F2 H2 (m1.trans m2) (.bl _) kk
   ·exact q _ _ F2 H2 (m1.trans m2) (.bl _) kk⟩
theorem ZVd {r:List V->Hp->VK->Prop}(hr:r=fun xs H Q=>∃ (p:Addr) (bs:List Bool),xs=[.ref p]/\SqL K H p (bs.map V.bl)/\Q (.bl (bs.all id)) H) (h:Wq ss te fun tp xs=>tp=false/\∃ bs:List Bool,xs=bs.map PV.bl/\k (.bl (bs.all id))):Wp ss (tCB r (ZAe te ZCq)) k:=⟨fun E σ F H Q S q=>
 h.go E σ F H _ S fun v tp xs F1 H1 m1 sv ⟨et,bs,e,kk⟩=>by
  subst hr;subst e;subst et
  obtain ⟨l,vs,rfl,hl,r⟩:=sv.seq m1.st
  rw [r.bls] at hl
  exact ⟨l,bs,rfl,SqL.of hl,q _ _ F1 H1 m1 (.bl _) kk⟩⟩
theorem ZUx {r:List V->Hp->VK->Prop}(hr:r=fun xs H Q=>∃ (p:Addr) (bs:List Bool),xs=[.ref p]/\SqL K H p (bs.map V.bl)/\Q (.bl (bs.any id)) H) (h:Wq ss te fun tp xs=>tp=false/\∃ bs:List Bool,xs=bs.map PV.bl/\k (.bl (bs.any id))):Wp ss (tCB r (ZAe te ZCq)) k:=⟨fun E σ F H Q S q=>
 h.go E σ F H _ S fun v tp xs F1 H1 m1 sv ⟨et,bs,e,kk⟩=>by
  subst hr;subst e;subst et
  obtain ⟨l,vs,rfl,hl,r⟩:=sv.seq m1.st
  rw [r.bls] at hl
  exact ⟨l,bs,rfl,SqL.of hl,q _ _ F1 H1 m1 (.bl _) kk⟩⟩
def tyP:PV->String
 | .non => "NoneType"
 | .bl _ => "bool"
 | .int _ => "int"
 | .str _ => "str"
 | .lst _ => "list"
 | .tup _ => "tuple"
 | .dct _ _ => "dict"
 | _ => ""
def tyV:PV->Value
 | .obj _ _ _=>.none
 | .exc _ _ _=>.none
 | .con _ _=>.none
 | p=>.type (tyP p)
theorem ZHl {n:String}{b:Bool}(h:PySem.W.kitOne K .none (.type n)=some b):False:=by
 unfold PySem.W.kitOne PySem.W.kitCls PySem.W.subIn at h
 simp at h
theorem Rep.ZXa {p:PV}{n:String}{b:Bool}(s:ZAk F H) (r:Rep F v p) (hb:PySem.W.kitOne K (tyV p) (.type n)=some b):ZMX K H v (tyV p):=by
 cases r with
 | non=>exact .non
 | bl b=>exact .bl b
 | int i=>exact .int i
 | str x=>exact .str x
 | lst h _=>exact .lst (s _ _ h)
 | tup h _=>exact .tup (s _ _ h)
 | dct h _ _=>exact .dK (s _ _ h)
 | obj _ _ _ _=>exact (ZHl hb).elim
 | exc0 _=>exact (ZHl hb).elim
 | con=>exact (ZHl hb).elim
 | exc _ _ _ _=>exact (ZHl hb).elim
theorem ZW4 {n:String}(h:Wp ss te fun p=>∃ b,PySem.W.kitOne K (tyV p) (.type n)=some b/\k (.bl b)):Wp ss (tCB (ZXU K) (ZAe te (ZAe (tC (.ty n)) ZCq))) k:=⟨fun E σ F H Q S q=>
 h.go E σ F H _ S fun v p F1 H1 m1 r ⟨b,hb,kk⟩=>⟨v,n,_,b,rfl,r.ZXa m1.st.fh hb,hb,q _ _ F1 H1 m1 (.bl _) kk⟩⟩
theorem ZVb {r:List V->Hp->VK->Prop}(hr:r=fun xs H Q=>∃ i j,xs=[.int i,.int j]/\Q (.int (if j > i then j else i)) H) (h:Wp ss ta fun x=>∃ i,x=.int i/\Wp ss tb fun y=>∃ j,y=.int j/\k (.int (if j > i then j else i))):Wp ss (tCB r (ZAe ta (ZAe tb ZCq))) k:=⟨fun E σ F H Q S q=>
 h.go E σ F H _ S fun v p F1 H1 m1 r1 ⟨i,e1,h2⟩=>by
  subst hr;subst e1;cases r1
  exact h2.go E σ F1 H1 _ m1.st fun v2 p2 F2 H2 m2 r2 ⟨j,e2,kk⟩=>by
   subst e2;cases r2
   exact ⟨i,j,rfl,q _ _ F2 H2 (m1.trans m2) (.int _) kk⟩⟩
theorem ZUe {r:List V->Hp->VK->Prop}(hr:r=fun xs H Q=>∃ i j,xs=[.int i,.int j]/\Q (.int (if j < i then j else i)) H) (h:Wp ss ta fun x=>∃ i,x=.int i/\Wp ss tb fun y=>∃ j,y=.int j/\k (.int (if j < i then j else i))):Wp ss (tCB r (ZAe ta (ZAe tb ZCq))) k:=⟨fun E σ F H Q S q=>
 h.go E σ F H _ S fun v p F1 H1 m1 r1 ⟨i,e1,h2⟩=>by
  subst hr;subst e1;cases r1
  exact h2.go E σ F1 H1 _ m1.st fun v2 p2 F2 H2 m2 r2 ⟨j,e2,kk⟩=>by
   subst e2;cases r2
   exact ⟨i,j,rfl,q _ _ F2 H2 (m1.trans m2) (.int _) kk⟩⟩
end
end Fz
namespace Fz
open L2 Lw
structure Src (E:Ent0) (F1:Hp) (J:It) (xs:List PV):Prop where
 go:∀ (ss:List Slot) (σ:L2.St) (F H:Hp) (i:Nat),ZAk F1 F->Sg E ss σ F H->i < xs.length->J.go i H
 stop:∀ (ss:List Slot) (σ:L2.St) (F H:Hp),ZAk F1 F->Sg E ss σ F H->J.stop xs.length H
 yld:∀ (ss:List Slot) (σ:L2.St) (F H:Hp) (i:Nat) (x:V) (H':Hp),ZAk F1 F->Sg E ss σ F H->i < xs.length->J.yld i H x H'->∃ p F',xs[i]?=some p/\Mv E ss σ F H F' H'/\Rep F' x p
structure Wi [Xw] (ss:List Slot) (wi:TI) (k:List PV->Prop):Prop where
 go:∀ (E:Ent) (σ:L2.St) (F H:Hp) (R:It->Hp->Prop),Sg E ss σ F H->(∀ J xs F' H',Mv E ss σ F H F' H'->Src E F' J xs->k xs->R J H')->wi σ H R
structure Wg [Xw] (ss:List Slot) (g:TG) (p:PV) (k:List Slot->Prop):Prop where
 go:∀ (E:Ent) (σ:L2.St) (F H:Hp) (v:V) (Q:L2.St->Hp->Prop),Sg E ss σ F H->Rep F v p->(∀ ss' σ',k ss'->Sg E ss' σ' F H->Q σ' H)->g v σ H Q
section
variable [Xw]
variable {E:Ent0}{ss:List Slot}{σ:L2.St} {F H F' H':Hp}{K:PySem.W.Frag}{ta tb tc te:TE}{k:PV->Prop}{v:V}{tp:Bool}{xs:List PV}{nx:List Slot->Prop}{R:Ret}
theorem ZSI {l:Addr}{vs:List V}(h:∀ (ss:List Slot) (σ:L2.St) (F H:Hp),ZAk F' F->Sg E ss σ F H->H l=some (HOq tp vs)) (r:ZB5 F' vs xs):Src E F' (Its K tp l vs) xs where
 go:=fun ss σ F H i s S hi=>⟨HOq.sq (h ss σ F H s S),by rw [r.length];exact hi⟩
 stop:=fun ss σ F H s S=>⟨HOq.sq (h ss σ F H s S),by rw [r.length];exact Nat.le_refl _⟩
 yld:=fun ss σ F H i x H' s S hi y=>by
  obtain ⟨e,hx⟩:=y
  subst e
  obtain ⟨p,hp,rp⟩:=r.get' hx
  exact ⟨p,F,hp,.refl S,rp.mono s⟩
theorem ZWp {k:List PV->Prop}(h:Wz ss te fun _ xs=>k xs):Wi ss (iSq K te) k:=⟨fun E σ F H R S q=>
 h.go E σ F H _ S fun v tp xs F1 H1 m1 f kk=>by
  cases tp with
  | true=>
   have f':Rep F1 v (.tup xs):=f
   cases f' with
   | tup e r=>exact ⟨true,_,_,rfl,SqT.of (m1.st.fh _ _ e),q _ _ F1 H1 m1 (ZSI (tp:=true) (fun ss σ F H s S=>S.fh _ _ (s _ _ e)) r) kk⟩
  | false=>
   obtain ⟨l,vs,rfl,h1,r⟩:=f
   have hl:∀ (ss:List Slot) (σ:L2.St) (F H:Hp),ZAk F1 F->Sg E ss σ F H->H l=some (.lst vs):=fun ss σ F H s S=>by
    rcases h1 with h1 | ⟨hA,h1⟩
    ·exact S.fh _ _ (s _ _ h1)
    ·exact S.keep _ _ hA h1
   exact ⟨false,l,vs,rfl,SqL.of (hl ss σ F1 H1 (ZAk.refl _) m1.st),q _ _ F1 H1 m1 (ZSI (tp:=false) hl r) kk⟩⟩
def ZOj (n:Nat):List PV:=(List.range n).map fun i:Nat=>PV.int (i:Int)
theorem ZG9 (n:Nat):(ZOj n).length=n:=by simp [ZOj]
theorem ZME {n i:Nat}{p:PV}(h:(ZOj n)[i]?=some p):i < n/\p=.int (i:Int):=by
 have hi:i < n:=by have:=(List.getElem?_eq_some_iff.mp h).1;rwa [ZG9] at this
 unfold ZOj at h
 rw [List.getElem?_map,List.getElem?_range hi] at h
 exact ⟨hi,(Option.some.inj h).symm⟩
theorem ZVw {k:List PV->Prop}(h:Wp ss te fun p=>∃ j:Int,p=.int j/\j<=1000000/\-1000000<=j/\k (ZOj j.toNat)):Wi ss (ZU0 (ZAe te ZCq)) k:=⟨fun E σ F H R S q=>
 h.go E σ F H _ S fun v p F1 H1 m1 r ⟨j,e,h1,h2,kk⟩=>by
  subst e;cases r
  refine ⟨j,rfl,by omega,by omega,q _ (ZOj j.toNat) F1 H1 m1 ⟨fun ss σ F H i s S hi=>?_,fun ss σ F H s S=>?_,fun ss σ F H i x H' s S hi y=>?_⟩ kk⟩
  ·rw [ZG9] at hi;exact hi
  ·show _<=_
   rw [ZG9];exact Nat.le_refl _
  ·obtain ⟨e,hx⟩:=y
   subst e;subst hx
   rw [ZG9] at hi
   refine ⟨.int (i:Int),F,?_,.refl S,?_⟩
   ·unfold ZOj;rw [List.getElem?_map,List.getElem?_range hi];rfl
   ·rw [Int.zero_add];exact .int _⟩
theorem ZIf {j:Nat}{p:PV}{k:List Slot->Prop}(h:k (ss.set j (.is p))):Wg ss (ZHU j) p k:=⟨fun E σ F H v Q S r q=>q _ _ h (S.ZQl r)⟩
theorem ZKc {i j:Nat}{p:PV}{k:List Slot->Prop}(h:∃ a b,p=.tup [a,b]/\k ((ss.set i (.is a)).set j (.is b))):Wg ss (ZWP K 2 (ZR4 (ZHU i) (ZR4 (ZHU j) ZWv))) p k:=⟨fun E σ F H v Q S r q=>by
 obtain ⟨a,b,rfl,kk⟩:=h
 cases r with
 | tup e r=>
  cases r with
  | cons r1 r=>cases r with
   | cons r2 r=>cases r with
    | nil=>exact ⟨_,_,rfl,SqT.of (S.fh _ _ e),rfl,_,_,rfl,_,_,rfl,rfl,q _ _ kk ((S.ZQl r1).ZQl r2)⟩⟩
theorem ZAZ {t u:TS}(h:Ws ss t (fun ss'=>Ws ss' u nx R) R):Ws ss (ZTs t u) nx R:=⟨fun E D σ F H S hn hr=>
 h.go E { D with nx:=u D } σ F H S (fun ss' σ' F' H' w S' s=>w.go E D σ' F' H' S' (fun ss2 σ2 F2 H2 n2 S2 s2=>hn ss2 σ2 F2 H2 n2 S2 (s.trans s2)) hr) hr⟩
theorem ZBv {t:TS}(h:Ws ss t nx R):Ws ss (ZWn t) nx R:=⟨fun E D σ F H S hn hr=>⟨D.nx,h.go E { D with nx:=D.nx } σ F H S hn hr,fun _ _ q=>q⟩⟩
theorem Ws.mono {t:TS}{nx':List Slot->Prop}(h:Ws ss t nx R) (i:∀ s,nx s->nx' s):Ws ss t nx' R:=⟨fun E D σ F H S hn hr=>h.go E D σ F H S (fun ss' σ' F' H' n=>hn ss' σ' F' H' (i _ n)) hr⟩
theorem ZBi {t u:TS}(J:List Slot->Prop) (h:Ws ss t J R) (h2:∀ ss',J ss'->Ws ss' u nx R):Ws ss (ZTs t u) nx R:=ZAZ (h.mono h2)
theorem ZC1 {i:Nat}(h:Wp ss te fun p=>nx (ss.set i (.is p))):Ws ss (ZPW te (ZHU i)) nx R:=⟨fun E D σ F H S hn hr=>
 h.go E σ F H _ S fun v p F1 H1 m1 r kk=>hn _ _ F1 H1 kk (m1.st.ZQl r) m1.ff⟩
theorem ZMP {g:TG}(h:Wp ss te fun p=>Wg ss g p nx):Ws ss (ZPW te g) nx R:=⟨fun E D σ F H S hn hr=>
 h.go E σ F H _ S fun v p F1 H1 m1 r kk=>kk.go E σ F1 H1 v _ m1.st r fun ss' σ' n S'=>hn _ _ F1 H1 n S' m1.ff⟩
theorem ZCb {i:Nat}(h:Wn ss te fun xs=>nx (ss.set i (.own xs))):Ws ss (ZPW te (ZHU i)) nx R:=⟨fun E D σ F H S hn hr=>
 h.go E σ F H _ S fun l vs xs F1 H1 m1 fl hl hl1 r kk=>hn _ _ F1 H1 kk (m1.st.setG ⟨l,vs,rfl,fl,S.ZR8 hl,hl1,r⟩ fun l' e j u _ hu mu=>by cases e;exact S.ZIU hu hl mu) m1.ff⟩
theorem ZBF {k:PV->Prop}(h:Wp ss te k):Ws ss (ZVV te) nx (.is k):=⟨fun E D σ F H S hn hr=>
 h.go E σ F H _ S fun v p F1 H1 m1 r kk=>hr v F1 H1 m1.st.toFin ⟨p,r,kk⟩⟩
theorem ZFZ {k:List PV->Prop}(h:Wn ss te k):Ws ss (ZVV te) nx (.new k):=⟨fun E D σ F H S hn hr=>
 h.go E σ F H _ S fun l vs xs F1 H1 m1 fl hl hl1 r kk=>hr _ F1 H1 m1.st.toFin ⟨l,vs,xs,rfl,fl,S.ZR8 hl,hl1,r,kk⟩⟩
theorem ZKo {i:Nat}{k:List PV->Prop}(h:ss[i]?=some (.own xs)) (kk:k xs):Ws ss (ZVV (ZFG i)) nx (.new k):=⟨fun E D σ F H S hn hr=>by
 obtain ⟨l,vs,e,e1,e2,e3,r⟩:=S.ok i _ h
 exact ⟨_,e,hr _ F H S.toFin ⟨l,vs,xs,rfl,e1,e2,e3,r,kk⟩⟩⟩
theorem ZCW {c:TT}{t u:TS}(h:Wt ss c fun b=>if b=true then Ws ss t nx R else Ws ss u nx R):Ws ss (ZX8 c t u) nx R:=⟨fun E D σ F H S hn hr=>
 h.go E σ F H _ S fun b F1 H1 m1 w=>by
  show if b=true then _ else _
  cases b with
  | true=>rw [if_pos rfl] at w ⊢;exact w.go E D σ F1 H1 m1.st (fun ss2 σ2 F2 H2 n S2 s2=>hn ss2 σ2 F2 H2 n S2 (m1.ff.trans s2)) hr
  | false=>rw [if_neg (by decide)] at w ⊢;exact w.go E D σ F1 H1 m1.st (fun ss2 σ2 F2 H2 n S2 s2=>hn ss2 σ2 F2 H2 n S2 (m1.ff.trans s2)) hr⟩
theorem ZAC (h:nx ss):Ws ss ZRB nx R:=⟨fun E D σ F H S hn hr=>hn ss σ F H h S (ZAk.refl _)⟩
theorem ZDq (h:Wp ss te fun _=>nx ss):Ws ss (ZKm te) nx R:=⟨fun E D σ F H S hn hr=>
 h.go E σ F H _ S fun v p F1 H1 m1 r kk=>hn ss σ F1 H1 kk m1.st m1.ff⟩
theorem Sg.drop (S:Sg E ss σ F H) (i:Nat):Sg E (ss.set i .any) σ F H:=by
 have at1:∀ (j:Nat) u,(ss.set i .any)[j]?=some u->u=.any∨ss[j]?=some u:=fun j u hj=>by
  by_cases q:j=i
  ·subst q
   have hlt:j < ss.length:=by have:=(List.getElem?_eq_some_iff.mp hj).1;simpa using this
   rw [List.getElem?_set_self hlt] at hj
   exact .inl (Option.some.inj hj).symm
  ·rw [List.getElem?_set_ne (Ne.symm q)] at hj;exact .inr hj
 refine ⟨S.toFin,by rw [List.length_set];exact S.len,fun j u hj=>?_,fun j k u w l hjk hj hk mu mw=>?_⟩
 ·rcases at1 j u hj with rfl | h
  ·trivial
  ·exact S.ok j u h
 ·rcases at1 j u hj with rfl | h
  ·cases mu
  ·rcases at1 k w hk with rfl | h2
   ·cases mw
   ·exact S.dis j k u w l hjk h h2 mu mw
theorem ZNq {i:Nat}{v:V}(e:σ[i]?=some (some v)):σ.set i (some v)=σ:=by
 apply List.ext_getElem?
 intro j
 by_cases q:j=i
 ·subst q
  rw [List.getElem?_set_self (List.getElem?_eq_some_iff.mp e).1,e]
 ·rw [List.getElem?_set_ne (Ne.symm q)]
theorem Sg.ZXV (S:Sg E ss σ F H){a:Addr}{o:HO}(fa:F a=none) (h0:E.H0 a=none∨a∈E.B) (hn:∀ (i:Nat) s,ss[i]?=some s->¬ ZIv s σ[i]? a):Sg E ss σ F (upd H a o):=by
 have hb:∀ b u,b≠a->H b=some u->upd H a o b=some u:=fun b u h e=>by rw [ZAT h];exact e
 refine ⟨⟨fun b u e=>?_,S.f0,fun b u hA e=>?_,S.fresh,fun b hA=>?_,S.potF,S.a0,S.bF,fun b hB=>?_,S.b0⟩,S.len,fun i s hi=>?_,S.dis⟩
 ·exact hb b u (ZAg e fa) (S.fh b u e)
 ·refine hb b u ?_ (S.keep b u hA e)
  rintro rfl
  rcases h0 with h0 | h0
  ·rw [h0] at e;cases e
  ·exact hA.2 h0
 ·refine Pot.keep (S.pots b hA) fun u e=>hb b u ?_ e
  rintro rfl
  rcases h0 with h0 | h0
  ·exact S.a0 _ hA h0
  ·exact (S.b0 _ h0).2 hA
 ·by_cases q:b=a
  ·subst q;rw [ZA6];simp
  ·rw [ZAT q];exact S.bH b hB
 ·by_cases np:s=.pot
  ·subst np
   obtain ⟨l,e,e1,e2,e3⟩:=S.ok i _ hi
   exact ⟨l,e,e1,e2,Pot.keep e3 fun u h=>hb l u (by rintro rfl;exact hn i _ hi e) h⟩
  ·exact Ok.go S hi (ZAk.refl _) (fun b u m h=>hb b u (by rintro rfl;exact hn i _ hi m) h) (fun _ _ h=>h) np
theorem Sg.put (S:Sg E ss σ F H){i:Nat}{l:Addr}{vs':List V}{xs ys:List PV}(hi:ss[i]?=some (.own xs)) (e:σ[i]?=some (some (.ref l))) (fl:F l=none) (h0:E.H0 l=none) (r:ZB5 F vs' ys):Sg E (ss.set i (.own ys)) σ F (upd H l (.lst vs')):=by
 have ne1:∀ (j:Nat) s,(ss.set i .any)[j]?=some s->¬ ZIv s σ[j]? l:=fun j s hj mj=>by
  by_cases q:j=i
  ·subst q
   have hlt:j < ss.length:=(List.getElem?_eq_some_iff.mp hi).1
   rw [List.getElem?_set_self hlt] at hj
   cases hj;cases mj
  ·rw [List.getElem?_set_ne (Ne.symm q)] at hj
   exact S.dis j i s _ l q hj hi mj e
 have S2:=(S.drop i).ZXV (o:=.lst vs') fl (.inl h0) ne1
 have S3:=S2.setG (j:=i) (s:=.own ys) (v:=.ref l) ⟨l,vs',rfl,fl,h0,ZA6,r⟩ fun l' e' j u hj hu mu=>by cases e';exact ne1 j u hu mu
 rw [ZNq e,List.set_set] at S3
 exact S3
theorem ZDQ {i:Nat}(hi:ss[i]?=some (.own xs)) (h:Wp ss te fun p=>xs.length<=99999/\nx (ss.set i (.own (xs++[p])))):Ws ss (ZKm (tBM K "list" ZMb (ZFG i) (ZAe te ZCq))) nx R:=⟨fun E D σ F H S hn hr=>by
 obtain ⟨l,vs,e,e1,e2,e3,r⟩:=S.ok i _ hi
 refine ⟨_,e,.inl ⟨rfl,_,SqL.of e3⟩,h.go E σ F H _ S fun v p F1 H1 m1 rv ⟨hz,kk⟩=>?_⟩
 obtain ⟨l',vs',e',e1',e2',e3',r'⟩:=m1.st.ok i _ hi
 rw [e] at e'
 cases e'
 refine ⟨l,vs',v,rfl,rfl,e3',ZQM (by rw [r'.length];exact hz),?_⟩
 exact hn _ σ F1 _ kk (m1.st.put hi e e1' e2' (r'.append (.one rv))) m1.ff⟩
theorem ZQI {i:Nat}(hi:ss[i]?=some (.own xs)) (h:Wp ss ta fun a=>∃ j:Int,a=.int j/\0<=j/\j<=xs.length/\Wp ss te fun p=>xs.length<=99999/\nx (ss.set i (.own (xs.take j.toNat++p :: xs.drop j.toNat)))) :
  Ws ss (ZKm (tBM K "list" ZMC (ZFG i) (ZAe ta (ZAe te ZCq)))) nx R:=⟨fun E D σ F H S hn hr=>by
 obtain ⟨l,vs,e,e1,e2,e3,r⟩:=S.ok i _ hi
 refine ⟨_,e,.inl ⟨rfl,_,SqL.of e3⟩,h.go E σ F H _ S fun v1 p1 F1 H1 m1 rv1 ⟨j,ej,j0,j1,h2⟩=>?_⟩
 subst ej;cases rv1
 refine h2.go E σ F1 H1 _ m1.st fun v p F2 H2 m2 rv ⟨hz,kk⟩=>?_
 obtain ⟨l',vs',e',e1',e2',e3',r'⟩:=m2.st.ok i _ hi
 rw [e] at e'
 cases e'
 refine ⟨l,vs',j,v,rfl,rfl,e3',j0,by rw [r'.length];exact j1,ZQM (by rw [r'.length];exact hz),?_⟩
 exact hn _ σ F2 _ kk (m2.st.put hi e e1' e2' ((r'.take _).append (.cons rv (r'.drop _)))) (m1.ff.trans m2.ff)⟩
theorem ZOf {i:Nat}(hi:ss[i]?=some (.own xs)) (h:nx (ss.set i (.own xs.reverse))):Ws ss (ZKm (ZXk K "list" ZRp (ZFG i))) nx R:=⟨fun E D σ F H S hn hr=>by
 obtain ⟨l,vs,e,e1,e2,e3,r⟩:=S.ok i _ hi
 exact ⟨_,e,.inl ⟨rfl,_,SqL.of e3⟩,l,vs,rfl,rfl,e3,hn _ σ F _ h (S.put hi e e1 e2 r.reverse) (ZAk.refl _)⟩⟩
def ZTj (F H:Hp) (as:List Addr):Hp:=fun a=>if a∈as then H a else F a
theorem Sg.lay (S:Sg E ss σ F H) (as:List Addr) (h0:∀ a∈as,F a=none/\E.H0 a=none/\H a≠none) (hn:∀ a∈as,∀ (i:Nat) s,ss[i]?=some s->¬ ZIv s σ[i]? a):Sg E ss σ (ZTj F H as) H/\ZAk F (ZTj F H as):=by
 have hin:∀ a,a∈as->ZTj F H as a=H a:=fun a h=>if_pos h
 have hout:∀ a,a∉as->ZTj F H as a=F a:=fun a h=>if_neg h
 have ff:ZAk F (ZTj F H as):=fun a o e=>by
  by_cases q:a∈as
  ·rw [(h0 a q).1] at e;cases e
  ·rw [hout a q];exact e
 have nF:∀ a,a∉as->F a=none->ZTj F H as a=none:=fun a q h=>by rw [hout a q];exact h
 refine ⟨⟨⟨fun a o e=>?_,S.f0.trans ff,S.keep,fun a o e=>?_,S.pots,fun a hA=>?_,S.a0,fun a hB=>?_,S.bH,S.b0⟩,S.len,fun i s hi=>?_,S.dis⟩,ff⟩
 ·by_cases q:a∈as
  ·rw [hin a q] at e;exact e
  ·rw [hout a q] at e;exact S.fh a o e
 ·by_cases q:a∈as
  ·exact .inr (h0 a q).2.1
  ·rw [hout a q] at e;exact S.fresh a o e
 ·exact nF a (fun q=>S.a0 a hA (h0 a q).2.1) (S.potF a hA)
 ·exact nF a (fun q=>(S.b0 a hB).1 (h0 a q).2.1) (S.bF a hB)
 ·have no:∀ a,ZIv s σ[i]? a->a∉as:=fun a m q=>hn a q i s hi m
  have kk:=S.ok i s hi
  cases s with
  | any=>trivial
  | is p=>obtain ⟨v,e,r⟩:=kk;exact ⟨v,e,r.mono ff⟩
  | own ys=>
   obtain ⟨l',ws,q,q1,q2,q3,r⟩:=kk
   exact ⟨l',ws,q,nF l' (no l' q) q1,q2,q3,r.mono ff⟩
  | pot=>
   obtain ⟨l',q,q1,q2,q3⟩:=kk
   exact ⟨l',q,nF l' (no l' q) q1,q2,q3⟩
  | sq tp ys=>
   cases tp with
   | true=>obtain ⟨v,e,r⟩:=kk;exact ⟨v,e,r.mono ff⟩
   | false=>obtain ⟨l',ws,q,q1,q2,r⟩:=kk;exact ⟨l',ws,q,q1,q2,r.mono ff⟩
  | raw P=>obtain ⟨v,e,r,st⟩:=kk;exact ⟨v,e,st _ _ ff r,st⟩
  | ow lt t=>
   obtain ⟨v,e,r,nd,q⟩:=kk
   exact ⟨v,e,r.mono ff fun a _ o h=>h,nd,fun a ha=>⟨nF a (no a ha) (q a ha).1,(q a ha).2⟩⟩
theorem ZDz {t:TS}(i:Nat) (hi:ss[i]?=some (.own xs)) (h:Ws (ss.set i (.is (.lst xs))) t nx R):Ws ss t nx R:=⟨fun E D σ F H S hn hr=>by
 obtain ⟨l,vs,e,e1,e2,e3,r⟩:=S.ok i _ hi
 have one:∀ a,a∈[l]->a=l:=fun a h=>by simpa using h
 obtain ⟨S1,nf⟩:=(S.drop i).lay [l] (fun a h=>by rw [one a h,e3];exact ⟨e1,e2,by simp⟩) fun a h j s hj m=>by
  rw [one a h] at m
  by_cases q:j=i
  ·subst q
   rw [List.getElem?_set_self (List.getElem?_eq_some_iff.mp hi).1] at hj
   cases hj;cases m
  ·rw [List.getElem?_set_ne (Ne.symm q)] at hj
   exact S.dis j i s _ l q hj hi m e
 have S2:=S1.ZQl (j:=i) (v:=.ref l) (p:=.lst xs) (.lst (by unfold ZTj;rw [if_pos (by simp)];exact e3) (r.mono nf))
 rw [ZNq e,List.set_set] at S2
 exact h.go E D σ _ H S2 (fun ss2 σ2 F2 H2 n S2 s2=>hn ss2 σ2 F2 H2 n S2 (nf.trans s2)) hr⟩
theorem ZJR {wi:TI}{g:TG}{tb:TS}(I:List PV->Nat->List Slot->Prop) (h:Wi ss wi fun xs=>I xs 0 ss/\(∀ (i:Nat) p ss',xs[i]?=some p->I xs i ss'->Wg ss' g p fun ss2=>Ws ss2 tb (I xs (i+1)) R)/\∀ ss',I xs xs.length ss'->nx ss'):Ws ss (ZXE wi g tb) nx R:=⟨fun E D σ F H S hn hr=>
 h.go E σ F H _ S fun J xs F1 H1 m1 sr ⟨i0,hs,hd⟩=>by
  refine ⟨fun i m σ' H'=>m=xs.length - i/\i<=xs.length/\∃ ss' F',I xs i ss'/\Sg E ss' σ' F' H'/\ZAk F1 F',⟨_,rfl,Nat.zero_le _,ss,F1,i0,m1.st,ZAk.refl _⟩,?_⟩
  rintro i m σ' H' ⟨rfl,hi,ss',F',hI,S',s'⟩
  by_cases hlt:i < xs.length
  ·refine .inr ⟨sr.go ss' σ' F' H' i s' S' hlt,fun σ2 H2=>∃ ss2 F2,I xs (i+1) ss2/\Sg E ss2 σ2 F2 H2/\ZAk F1 F2,fun σ2 H2 ⟨ss2,F2,a,b,c⟩=>⟨_,by omega,rfl,hlt,ss2,F2,a,b,c⟩,fun x H3 y=>?_⟩
   obtain ⟨p,F3,hp,m3,rp⟩:=sr.yld ss' σ' F' H' i x H3 s' S' hlt y
   refine (hs i p ss' hp hI).go E σ' F3 H3 x _ m3.st rp fun ss4 σ4 w S4=>?_
   exact w.go E _ σ4 F3 H3 S4 (fun ss5 σ5 F5 H5 n5 S5 s5=>⟨ss5,F5,n5,S5,(s'.trans m3.ff).trans s5⟩) hr
  ·have e:i=xs.length:=by omega
   subst e
   exact .inl ⟨sr.stop ss' σ' F' H' s' S',hn ss' σ' F' H' (hd ss' hI) S' (m1.ff.trans s')⟩⟩
end
def ZKz (js:List Nat) (ss:List Slot):List Slot:=js.map fun j=>(ss[j]?).getD .any
def ZRm (js:List Nat) (ss:List Slot):Bool:=js.all fun j=>match ss[j]? with
 | some .pot=>false
 | _=>true
section
variable [Xw]
variable {E:Ent0}{ss:List Slot}{σ:L2.St} {F H F' H':Hp}{K:PySem.W.Frag}{js:List Nat}
theorem ZTC {i:Nat}{s:Slot}{j:Nat}(h:js[i]?=some j) (e:(ZKz js ss)[i]?=some s):s=(ss[j]?).getD .any:=by
 unfold ZKz at e
 rw [List.getElem?_map,h] at e
 exact (Option.some.inj e).symm
theorem Sg.ZCl (S:Sg E ss σ F H) (nd:js.Nodup){vs:List V}{ps:List PV}(r:ZB5 F vs ps):Sg E (ZKz js ss++ps.map .is) (ZBw js σ++vs.map some) F H:=by
 have hl:(ZKz js ss).length=js.length:=by simp [ZKz]
 have hl2:(ZBw js σ).length=js.length:=by simp [ZBw]
 have at1:∀ (i:Nat) (hi:i < js.length),(ZKz js ss++ps.map .is)[i]?=some ((ss[js[i]]?).getD .any)/\(ZBw js σ++vs.map some)[i]?=some ((σ[js[i]]?).join):=fun i hi=>by
  rw [List.getElem?_append_left (by rw [hl];exact hi),List.getElem?_append_left (by rw [hl2];exact hi)]
  unfold ZKz ZBw
  rw [List.getElem?_map,List.getElem?_map,List.getElem?_eq_getElem hi]
  exact ⟨rfl,rfl⟩
 have at2:∀ (i:Nat) s,js.length<=i->(ZKz js ss++ps.map .is)[i]?=some s->∃ p v,s=.is p/\(ZBw js σ++vs.map some)[i]?=some (some v)/\Rep F v p:=fun i s hi e=>by
  rw [List.getElem?_append_right (by rw [hl];exact hi),hl,List.getElem?_map] at e
  rw [List.getElem?_append_right (by rw [hl2];exact hi),hl2,List.getElem?_map]
  cases q:ps[i - js.length]? with
  | none=>rw [q] at e;cases e
  | some p=>
   rw [q] at e
   obtain ⟨v,hv,rv⟩:=r.get q
   rw [hv]
   exact ⟨p,v,(Option.some.inj e).symm,rfl,rv⟩
 have fx:∀ (s:Slot) (m:Nat) (l:Addr),ZIv s (some (σ[m]?).join) l->ZIv s σ[m]? l:=fun s m l o=>by
  have fy:∀ l,some (σ[m]?).join=some (some (V.ref l))->σ[m]?=some (some (.ref l)):=fun l e=>by
   cases q:σ[m]? with
   | none=>rw [q] at e;cases e
   | some o=>rw [q] at e;cases o with
    | none=>cases e
    | some v=>simpa using e
  cases s with
  | own xs=>exact fy l o
  | pot=>exact fy l o
  | ow lt t=>exact o
  | _=>exact o
 have sm:∀ (i:Nat) s l,(ZKz js ss++ps.map .is)[i]?=some s->ZIv s (ZBw js σ++vs.map some)[i]? l->∃ hi:i < js.length,ss[js[i]]?=some s/\ZIv s σ[js[i]]? l:=fun i s l e m=>by
  by_cases hi:i < js.length
  ·rw [(at1 i hi).2] at m
   refine ⟨hi,?_,fx s _ l m⟩
   rw [(at1 i hi).1] at e
   cases q:ss[js[i]]? with
   | none=>rw [q] at e;cases e;cases m
   | some u=>rw [q] at e;exact e
  ·obtain ⟨p,v,rfl,_⟩:=at2 i s (by omega) e
   cases m
 refine ⟨S.toFin,?_,fun i s e=>?_,fun i j s u l hij hi hj ms mu=>?_⟩
 ·rw [List.length_append,List.length_append,hl,hl2,List.length_map,List.length_map,r.length]
 ·by_cases hi:i < js.length
  ·obtain ⟨a,b⟩:=at1 i hi
   rw [a] at e
   rw [b]
   cases q:ss[js[i]]? with
   | none=>rw [q] at e;cases e;trivial
   | some u=>
    rw [q] at e
    have eu:u=s:=Option.some.inj e
    subst eu
    have kk:=S.ok _ _ q
    cases u with
    | any=>trivial
    | is p=>obtain ⟨v,e,r⟩:=kk;rw [e];exact ⟨v,rfl,r⟩
    | own xs=>obtain ⟨l,vs,e,r⟩:=kk;rw [e];exact ⟨l,vs,rfl,r⟩
    | pot=>obtain ⟨l,e,r⟩:=kk;rw [e];exact ⟨l,rfl,r⟩
    | sq tp xs=>
     cases tp with
     | true=>obtain ⟨v,e,r⟩:=kk;rw [e];exact ⟨v,rfl,r⟩
     | false=>obtain ⟨l,vs,e,r⟩:=kk;rw [e];exact ⟨l,vs,rfl,r⟩
    | raw P=>obtain ⟨v,e,r⟩:=kk;rw [e];exact ⟨v,rfl,r⟩
    | ow lt t=>obtain ⟨v,e,r⟩:=kk;rw [e];exact ⟨v,rfl,r⟩
  ·obtain ⟨p,v,rfl,hv,rv⟩:=at2 i s (by omega) e
   rw [hv];exact ⟨v,rfl,rv⟩
 ·obtain ⟨li,qi,oi⟩:=sm i s l hi ms
  obtain ⟨lj,qj,oj⟩:=sm j u l hj mu
  refine S.dis js[i] js[j] s u l (fun e=>hij ?_) qi qj oi oj
  exact (List.getElem_inj nd).mp e
theorem Mv.out {ps:List PV}{τ:L2.St} (S:Sg E ss σ F H) (np:ZRm js ss=true) (m:Mv E (ZKz js ss++ps.map .is) τ F H F' H'):Mv E ss σ F H F' H':=by
 have nn:∀ a,ZMj (ZKz js ss++ps.map .is) τ a:=fun a i hi _=>by
  by_cases h:i < (ZKz js ss).length
  ·rw [List.getElem?_append_left h] at hi
   have hj:i < js.length:=by simpa [ZKz] using h
   have q:=ZTC (List.getElem?_eq_getElem hj) hi
   have z:=List.all_eq_true.mp np js[i] (List.getElem_mem hj)
   cases w:ss[js[i]]? with
   | none=>rw [w] at q;cases q
   | some u=>rw [w] at q z;cases q;cases z
  ·rw [List.getElem?_append_right (by omega),List.getElem?_map] at hi
   cases w:ps[i - (ZKz js ss).length]? with
   | none=>rw [w] at hi;cases hi
   | some p=>rw [w] at hi;cases hi
 have hk:∀ a o,H a=some o->H' a=some o:=fun a o e=>m.hh a o (nn a) e
 exact S.step m.ff m.st.fh (fun a o _ e=>hk a o e) m.nn fun i l hi e=>Pot.keep (S.ZG0 hi e) fun o e=>hk l o e
theorem ZPq {wi:TI}{tt:TT}{te:TE}{k:List PV->Prop}(f:PV->Bool) (g:PV->PV)
  (h:Wi ss wi fun xs=>xs.length<=100000/\(∀ x∈xs,Wt (ZKz js ss++[.is x]) tt fun b=>b=f x)/\(∀ x∈xs,f x=true->Wp (ZKz js ss++[.is x]) te fun p=>p=g x)/\k ((xs.filter f).map g))
  (nd:js.Nodup:=by decide) (np:ZRm js ss=true:=by rfl):Wn ss (ZN4 wi js tt te) k:=⟨fun E σ F H Q S q=>
 h.go E σ F H _ S fun J xs F1 H1 m1 sr ⟨hz,ht,he,kk⟩ acc hacc=>by
  have npa:ZMj ss σ acc:=m1.st.ZT7 hacc
  have h0a:=m1.st.ZR8 hacc
  have sla:∀ (i:Nat) s,ss[i]?=some s->¬ ZIv s σ[i]? acc:=fun i s hi=>m1.st.ZIU hi hacc
  refine ⟨fun i m H2=>m=xs.length - i/\i<=xs.length/\∃ F2 vs,Mv E ss σ F1 H1 F2 H2/\F2 acc=none/\H2 acc=some (.lst vs)/\ZB5 F2 vs (((xs.take i).filter f).map g),⟨_,rfl,Nat.zero_le _,F1,[],m1.st.make hacc _,m1.st.ZHI hacc,ZA6,.nil⟩,?_⟩
  rintro i m H2 ⟨rfl,hi,F2,vs,m2,fa,ha,rv⟩
  by_cases hlt:i < xs.length
  ·refine .inr ⟨sr.go ss σ F2 H2 i m2.ff m2.st hlt,fun x H3 y=>?_⟩
   obtain ⟨p,F3,hp,m3,rp⟩:=sr.yld ss σ F2 H2 i x H3 m2.ff m2.st hlt y
   have hpm:p∈xs:=List.mem_of_getElem? hp
   have htk:(xs.take (i+1))=xs.take i++[p]:=by
    have e2:xs[i]=p:=by rw [List.getElem?_eq_getElem hlt] at hp;exact Option.some.inj hp
    rw [List.take_succ_eq_append_getElem hlt,e2]
   have e1:List.filter f (xs.take (i+1))=(xs.take i).filter f++(if f p=true then [p] else []):=by
    rw [htk,List.filter_append];congr 1
    by_cases hf:f p=true <;> simp [hf]
   have notF:∀ {F4:Hp},(∀ a o,F4 a=some o->F2 a=some o∨H2 a=none)->F4 acc=none:=fun {F4} n=>by
    cases e:F4 acc with
    | none=>rfl
    | some o=>
     rcases n acc o e with w | w
     ·rw [fa] at w;cases w
     ·rw [ha] at w;cases w
   have S3:=m3.st.ZCl (js:=js) nd (.one rp)
   refine (ht p hpm).go E _ F3 H3 _ S3 fun b F4 H4 m4 hb=>?_
   have m34:=m3.trans (m4.out (ps:=[p]) m3.st np)
   show if b=true then _ else _
   rw [hb]
   by_cases hf:f p=true
   ·rw [if_pos hf]
    have S4:=m34.st.ZCl (js:=js) nd (.one (rp.mono (m4.out (ps:=[p]) m3.st np).ff))
    refine (he p hpm hf).go E _ F4 H4 _ S4 fun w pw F5 H5 m5 rw5 ew=>?_
    have m45:=m4.out (ps:=[p]) m3.st np
    have m5':=m5.out (ps:=[p]) m34.st np
    have m25:=m34.trans m5'
    have ha5:=m25.hh acc _ npa ha
    have fa5:=notF m25.nn
    have hlen:vs.length<=99999:=by
     rw [rv.length,List.length_map]
     have:=List.length_filter_le f (xs.take i)
     rw [List.length_take] at this
     omega
    refine ⟨vs,ha5,ZQM hlen,xs.length - (i+1),by omega,rfl,hlt,F5,vs++[w],?_,fa5,ZA6,?_⟩
    ·have m15:=m2.trans m25
     refine ⟨m15.st.ZXV fa5 (.inl h0a) sla,m15.ff,fun a o n e=>?_,m15.nn⟩
     rw [ZAT (ZAg e hacc)];exact m15.hh a o n e
    ·rw [e1,if_pos hf,List.map_append]
     rw [ew] at rw5
     exact (rv.mono m25.ff).append (.one rw5)
   ·have hf':f p=false:=by simpa using hf
    rw [hf',if_neg (by decide)]
    refine ⟨xs.length - (i+1),by omega,rfl,hlt,F4,vs,m2.trans m34,notF m34.nn,m34.hh acc _ npa ha,?_⟩
    rw [e1,if_neg hf,List.append_nil]
    exact rv.mono m34.ff
  ·have e:i=xs.length:=by omega
   subst e
   refine .inl ⟨sr.stop ss σ F2 H2 m2.ff m2.st,q acc vs _ F2 H2 (m1.trans m2) fa (m1.none hacc) ha ?_ kk⟩
   rw [List.take_length] at rv
   exact rv⟩
end
abbrev Pre:=List Slot->Ret->Prop
def spF (pre:Pre):Sp:=fun vs H Q _=>∃ (ss:List Slot) (R:Ret) (F:Hp) (A:List Addr),pre ss R/\Sg (E3 A F H) ss (vs.map some) F H/\∀ v F' H',Fin (E3 A F H) F' H'->R.ok (E3 A F H) F' H' v->Q v H'
section
variable [Xw]
variable {E:Ent0}{ss:List Slot}{σ:L2.St} {F H F' H':Hp}{pre:Pre}{t:TA}{k:PV->Prop}
theorem Avs.at {vs:List V}{l:List Slot}(h:Avs ss σ F H vs l):∀ {i:Nat}{s:Slot},l[i]?=some s->∃ v,vs[i]?=some v/\Av ss σ F H v s:=by
 induction h with
 | nil=>intro i s e;simp at e
 | cons a _ ih=>
  intro i s e
  cases i with
  | zero=>simp at e;subst e;exact ⟨_,rfl,a⟩
  | succ i=>exact ih (by simpa using e)
theorem Avs.len {vs:List V}{l:List Slot}(h:Avs ss σ F H vs l):l.length=vs.length:=by
 induction h with
 | nil=>rfl
 | cons a _ ih=>rw [List.length_cons,List.length_cons,ih]
theorem Av.ok {A:List Addr}{v:V}{s:Slot}(S:Sg E ss σ F H) (a:Av ss σ F H v s) (hA:∀ l,ZMj ss σ l->l∉A):Ok (E3 A F H) F H s (some (some v))/\∀ o l,¬ ZIv s o l:=by
 cases s with
 | is p=>exact ⟨⟨v,rfl,a⟩,fun _ _ z=>z⟩
 | sq tp xs=>
  cases tp with
  | true=>exact ⟨⟨v,rfl,a⟩,fun _ _ z=>z⟩
  | false=>obtain ⟨l,vs,rfl,n,h,r⟩:=a;exact ⟨⟨l,vs,rfl,⟨hA l n,List.not_mem_nil⟩,h,r⟩,fun _ _ z=>z⟩
 | raw P=>exact ⟨⟨v,rfl,a⟩,fun _ _ z=>z⟩
 | any=>exact a.elim
 | own xs=>exact a.elim
 | pot=>exact a.elim
 | ow lt t=>exact a.elim
theorem Sg.ZRP (S:Sg E ss σ F H){vs:List V}{l:List Slot}(a:Avs ss σ F H vs l):Sg (E3 [] F H) l (vs.map some) F H:=by
 have nn:∀ {p:Prop}(a:Addr),a∈([]:List Addr)->p:=fun a h=>absurd h List.not_mem_nil
 refine ⟨⟨S.fh,ZAk.refl _,fun _ _ _ e=>e,fun _ _ e=>.inl e,fun a h=>nn a h,fun a h=>nn a h,fun a h=>nn a h,fun a h=>nn a h,fun a h=>nn a h,fun a h=>nn a h⟩,by rw [List.length_map];exact a.len,fun i s hi=>?_,fun i j s u l hij hi hj ms mu=>?_⟩
 ·obtain ⟨v,hv,q⟩:=a.at hi
  rw [List.getElem?_map,hv]
  exact (q.ok S fun _ _ h=>absurd h List.not_mem_nil).1
 ·obtain ⟨v,hv,q⟩:=a.at hi
  exact (q.ok S (A:=[]) fun _ _ h=>absurd h List.not_mem_nil).2 _ _ ms
theorem Sg.ZUg (S:Sg E ss σ F H){i0:Nat}{p:Addr}(hi:ss[i0]?=some .pot) (e:σ[i0]?=some (some (.ref p))){vs:List V}{l:List Slot}(a:Avs ss σ F H vs l):Sg (E3 [p] F H) (.pot :: l) ((V.ref p :: vs).map some) F H:=by
 obtain ⟨p',e',fp,_,pp⟩:=S.ok i0 _ hi
 rw [e] at e'
 cases e'
 have hA:∀ l,ZMj ss σ l->l∉[p]:=fun l n h=>by
  have:l=p:=by simpa using h
  subst this
  exact n i0 hi e
 have one:∀ a,a∈[p]->a=p:=fun a h=>by simpa using h
 have nn:∀ {p:Prop}(a:Addr),a∈([]:List Addr)->p:=fun a h=>absurd h List.not_mem_nil
 refine ⟨⟨S.fh,ZAk.refl _,fun _ _ _ e=>e,fun _ _ e=>.inl e,fun a h=>(one a h)▸pp,fun a h=>(one a h)▸fp,fun a h=>?_,fun a h=>nn a h,fun a h=>nn a h,fun a h=>nn a h⟩,by rw [List.length_map,List.length_cons,List.length_cons];rw [a.len],fun i s hi=>?_,fun i j s u l' hij hi hj ms mu=>?_⟩
 ·rw [one a h]
  obtain ⟨_,_,q,_⟩:=pp
  show H p≠none
  rw [q];simp
 ·cases i with
  | zero=>simp at hi;subst hi;exact ⟨p,rfl,fp,.inr (by simp),pp⟩
  | succ i=>
   obtain ⟨v,hv,q⟩:=a.at (i:=i) (s:=s) (by simpa using hi)
   have:((V.ref p :: vs).map some)[i+1]?=some (some v):=by rw [List.map_cons,List.getElem?_cons_succ,List.getElem?_map,hv];rfl
   rw [this]
   exact (q.ok S hA).1
 ·have z:∀ (i:Nat) s o l',(Slot.pot :: l)[i]?=some s->ZIv s o l'->i=0:=fun i s o l' h m=>by
   cases i with
   | zero=>rfl
   | succ i=>
    obtain ⟨v,hv,q⟩:=a.at (i:=i) (s:=s) (by simpa using h)
    exact ((q.ok S hA).2 _ _ m).elim
  exact absurd ((z i s _ _ hi ms).trans (z j u _ _ hj mu).symm) hij
theorem Sg.back (S:Sg E ss σ F H){A:List Addr}(hA:∀ a,a∈A->∃ i:Nat,ss[i]?=some .pot/\σ[i]?=some (some (.ref a))) (f:Fin (E3 A F H) F' H'):Mv E ss σ F H F' H':=by
 refine S.step f.f0 f.fh (fun a o n e=>f.keep a o ⟨fun h=>?_,List.not_mem_nil⟩ e) f.fresh fun i l hi e=>?_
 ·obtain ⟨i,q1,q2⟩:=hA a h
  exact n i q1 q2
 ·by_cases q:l∈A
  ·exact f.pots l q
  ·exact Pot.keep (S.ZG0 hi e) fun o e=>f.keep l o ⟨q,List.not_mem_nil⟩ e
theorem wp_call (h:Wa ss t fun l=>∃ k',pre l (.is k')/\∀ p,k' p->k p):Wp ss (ZDr (spF pre) [] E0 t) k:=⟨fun E σ F H Q S q=>
 h.go E σ F H _ S fun vs l F1 H1 m1 a ⟨k',hp,kk⟩=>by
  rw [List.append_nil]
  refine ⟨l,.is k',F1,[],hp,m1.st.ZRP a,fun v F' H' f ⟨p,r,kp⟩=>?_⟩
  exact q v p F' H' (m1.trans (m1.st.back (fun _ h=>absurd h List.not_mem_nil) f)) r (kk p kp)⟩
theorem ZFY {k:List PV->Prop}(h:Wa ss t fun l=>∃ k',pre l (.new k')/\∀ xs,k' xs->k xs):Wn ss (ZDr (spF pre) [] E0 t) k:=⟨fun E σ F H Q S q=>
 h.go E σ F H _ S fun vs l F1 H1 m1 a ⟨k',hp,kk⟩=>by
  rw [List.append_nil]
  refine ⟨l,.new k',F1,[],hp,m1.st.ZRP a,fun v F' H' f ⟨l,vs,xs,e,fl,hl,hl',r,kx⟩=>?_⟩
  subst e
  exact q l vs xs F' H' (m1.trans (m1.st.back (fun _ h=>absurd h List.not_mem_nil) f)) fl (m1.none hl) hl' r (kk xs kx)⟩
theorem ZNd {i:Nat}(hi:ss[i]?=some .pot) (h:Wa ss t fun l=>∃ k',pre (.pot :: l) (.is k')/\∀ p,k' p->k p):Wp ss (ZDr (spF pre) [] E0 (ZAe (ZFG i) t)) k:=⟨fun E σ F H Q S q=>by
 obtain ⟨p,e,_⟩:=S.ok i _ hi
 refine ⟨_,e,h.go E σ F H _ S fun vs l F1 H1 m1 a ⟨k',hp,kk⟩=>?_⟩
 show spF pre ((V.ref p :: vs)++[]) H1 Q E0
 rw [List.append_nil]
 refine ⟨.pot :: l,.is k',F1,[p],hp,m1.st.ZUg hi e a,fun v F' H' f ⟨pv,r,kp⟩=>?_⟩
 exact q v pv F' H' (m1.trans (m1.st.back (A:=[p]) (fun a h=>⟨i,hi,(show a=p from by simpa using h)▸e⟩) f)) r (kk pv kp)⟩
theorem ZJz {i:Nat}{k:List PV->Prop}(hi:ss[i]?=some .pot) (h:Wa ss t fun l=>∃ k',pre (.pot :: l) (.new k')/\∀ xs,k' xs->k xs):Wn ss (ZDr (spF pre) [] E0 (ZAe (ZFG i) t)) k:=⟨fun E σ F H Q S q=>by
 obtain ⟨p,e,_⟩:=S.ok i _ hi
 refine ⟨_,e,h.go E σ F H _ S fun vs l F1 H1 m1 a ⟨k',hp,kk⟩=>?_⟩
 show spF pre ((V.ref p :: vs)++[]) H1 Q E0
 rw [List.append_nil]
 refine ⟨.pot :: l,.new k',F1,[p],hp,m1.st.ZUg hi e a,fun v F' H' f ⟨l,vs,xs,e2,fl,hl,hl',r,kx⟩=>?_⟩
 subst e2
 exact q l vs xs F' H' (m1.trans (m1.st.back (A:=[p]) (fun a h=>⟨i,hi,(show a=p from by simpa using h)▸e⟩) f)) fl (m1.none hl) hl' r (kk xs kx)⟩
theorem Sg.grown (S:Sg E ss σ F H) (n:Nat):Sg E (ss++List.replicate n .any) (σ++List.replicate n none) F H:=by
 have at1:∀ (i:Nat) s,(ss++List.replicate n .any)[i]?=some s->s≠.any->ss[i]?=some s/\(σ++List.replicate n none)[i]?=σ[i]?:=fun i s e hs=>by
  by_cases h:i < ss.length
  ·rw [List.getElem?_append_left h] at e
   rw [List.getElem?_append_left (by rw [<- S.len];exact h)]
   exact ⟨e,rfl⟩
  ·rw [List.getElem?_append_right (by omega),List.getElem?_replicate] at e
   split at e
   ·exact absurd (Option.some.inj e).symm hs
   ·cases e
 refine ⟨S.toFin,by simp [S.len],fun i s e=>?_,fun i j s u l hij hi hj ms mu=>?_⟩
 ·cases s with
  | any=>trivial
  | _=>obtain ⟨a,b⟩:=at1 i _ e (by simp);rw [b];exact S.ok i _ a
 ·have ns:s≠.any:=by rintro rfl;cases ms
  have nu:u≠.any:=by rintro rfl;cases mu
  obtain ⟨a,b⟩:=at1 i s hi ns
  obtain ⟨c,d⟩:=at1 j u hj nu
  rw [b] at ms
  rw [d] at mu
  exact S.dis i j s u l hij a c ms mu
end
section
variable {E:Ent0}{ss:List Slot}{σ:L2.St} {F H F' H':Hp}{pre:Pre}{t:TA}{k:PV->Prop}
def ZXR (E:Ent0):Ent:=⟨E,fun _ _ _ _ _ _ _ _ _ d=>d.elim⟩
theorem ZBb {N:List Str}{n:Nat}{vs:List V}{Q:VK}{X:XK}{t:TS}(h:spF pre vs H Q X) (hl:∀ ss R,pre ss R->ss.length=n)
  (hw:∀ ss R,pre ss R->Ws (ss++List.replicate (N.length - n) .any) t (fun _=>∃ k,R=.is k/\k .non) R):t { nx:=fun _ H'=>Q .non H',rt:=Q } (L2.start N vs) H:=by
 obtain ⟨ss,R,F,A,hp,S,q⟩:=h
 have e:vs.length=n:=by have:=S.len;rw [List.length_map] at this;rw [<- this];exact hl ss R hp
 unfold L2.start
 rw [e]
 refine (hw ss R hp).go (ZXR (E3 A F H)) _ _ F H (S.grown _) (fun ss' σ' F' H' ⟨k,e,kn⟩ S' _=>?_) fun v F' H' f ok=>q v F' H' f ok
 subst e
 exact q .non F' H' S'.toFin ⟨.non,.non,kn⟩
theorem ZAx {n:Nat}{vs:List V}{Q:VK}{X:XK}(hl:∀ ss R,pre ss R->ss.length=n) (h:spF pre vs H Q X):vs.length=n:=by
 obtain ⟨ss,R,F,A,hp,S,q⟩:=h
 have:=S.len
 rw [List.length_map] at this
 rw [<- this];exact hl ss R hp
end
end Fz
namespace L2
section
variable {X:Cx}
def ZXP (K:PySem.W.Frag):R2:=fun x y H Q=>∃ p q xs,x=.ref p/\y=.ref q/\SqL K H p xs/\SqL K H q []/\Q (.bl (!decide (xs=[]))) H
theorem ZPJ (hu:X.A.units < cLine):OpR X (compareOp .NotEq) (ZXP X.K):=by
 intro pins s σ H x y v u Q I rx ry h
 obtain ⟨p,q,xs,rfl,rfl,ha,hb,hQ⟩:=h
 cases rx;cases ry
 obtain ⟨its,r1,p1,z1⟩:=I.list ha
 obtain ⟨its2,r2,p2,z2⟩:=I.list hb
 have l1:=r1.length;have l2:=r2.length
 cases xs with
 | nil=>exact ZNr hu pins s σ H _ _ _ _ Q I (show RelV (.ref p) (.ref p) from rfl) (show RelV (.ref q) (.ref q) from rfl) ⟨p,q,[],[],rfl,rfl,.inl ⟨ha,hb⟩,rfl,rfl,hQ⟩
 | cons y ys=>
  have hne:(its.toArray.size != its2.toArray.size)=true:=by simp only [List.size_toArray,<- l1,<- l2];simp
  exact SeqAt.RcNeAt.lists_lengths p1.isList p2.isList hne hu _ _ _ _ ⟨.bl true,H,I,rfl,hQ⟩
def ZXO (K:PySem.W.Frag):R2:=fun x y H Q=>∃ p q xs,x=.ref p/\y=.ref q/\SqL K H p xs/\SqL K H q []/\Q (.bl (decide (xs=[]))) H
theorem ZSQ (hu:X.A.units < cLine):OpR X (compareOp .Eq) (ZXO X.K):=by
 intro pins s σ H x y v u Q I rx ry h
 obtain ⟨p,q,xs,rfl,rfl,ha,hb,hQ⟩:=h
 cases rx;cases ry
 obtain ⟨its,r1,p1,z1⟩:=I.list ha
 obtain ⟨its2,r2,p2,z2⟩:=I.list hb
 have l1:=r1.length;have l2:=r2.length
 cases xs with
 | nil=>exact ZNp hu pins s σ H _ _ _ _ Q I (show RelV (.ref p) (.ref p) from rfl) (show RelV (.ref q) (.ref q) from rfl) ⟨p,q,[],[],rfl,rfl,.inl ⟨ha,hb⟩,rfl,rfl,hQ⟩
 | cons y ys=>
  have hne:(its.toArray.size != its2.toArray.size)=true:=by simp only [List.size_toArray,<- l1,<- l2];simp
  exact SeqAt.eq_list_lengthsAt p1.isList p2.isList hne hu ⟨.bl false,H,I,rfl,hQ⟩
end
end L2
namespace Lw
open L2
end Lw
namespace Lw
open L2
theorem ZLl:∀ l:List Nat,¬ l < l
 | [],h=>by simp at h
 | a :: r,h=>by
  rw [List.cons_lt_cons_iff] at h
  rcases h with h | ⟨_,h⟩
  ·omega
  ·exact ZLl r h
theorem ZS3:∀ {a b c:List Nat},a < b->b < c->a < c
 | _,[],_,h,_=>by simp at h
 | _,_ :: _,[],_,h=>by simp at h
 | [],_ :: _,_ :: _,_,_=>by simp
 | a :: r,b :: s,c :: t,h,h'=>by
  rw [List.cons_lt_cons_iff] at h h' ⊢
  rcases h with h | ⟨rfl,h⟩
  ·rcases h' with h' | ⟨rfl,h'⟩
   ·left;omega
   ·left;exact h
  ·rcases h' with h' | ⟨rfl,h'⟩
   ·left;exact h'
   ·right;exact ⟨rfl,ZS3 h h'⟩
theorem ZSb:∀ a b:List Nat,a < b∨a=b∨b < a
 | [],[]=>.inr (.inl rfl)
 | [],_ :: _=>.inl (by simp)
 | _ :: _,[]=>.inr (.inr (by simp))
 | a :: r,b :: s=>by
  rw [List.cons_lt_cons_iff,List.cons_lt_cons_iff]
  rcases Nat.lt_trichotomy a b with h | rfl | h
  ·exact .inl (.inl h)
  ·rcases ZSb r s with h | rfl | h
   ·exact .inl (.inr ⟨rfl,h⟩)
   ·exact .inr (.inl rfl)
   ·exact .inr (.inr (.inr ⟨rfl,h⟩))
  ·exact .inr (.inr (.inl h))
abbrev ltS (a b:Str):Prop:=a.cps.toList < b.cps.toList
theorem ZNL (a b:Str):ltS a b∨a=b∨ltS b a:=by
 rcases ZSb a.cps.toList b.cps.toList with h | h | h
 ·exact .inl h
 ·exact .inr (.inl (ZTe h))
 ·exact .inr (.inr h)
abbrev Up (ss:List Str):Prop:=ss.Pairwise ltS
theorem ZHr {ss:List Str}(h:Up ss):ss.Nodup:=by
 refine List.Pairwise.imp (fun {a b} (hab:ltS a b) (e:a=b)=>?_) h
 subst e
 exact ZLl _ hab
theorem ZJg:∀ (l:List Str) (p:Str),risingS p l=true->(∀ x∈l,¬ ltS x p)/\l.Pairwise fun a b=>¬ ltS b a
 | [],p,_=>⟨fun x hx=>absurd hx (by simp),.nil⟩
 | y :: r,p,h=>by
  have h1:(!ltCps y.cps.toList p.cps.toList && risingS y r)=true:=h
  rw [Bool.and_eq_true,ltCps_eq] at h1
  have hyp:¬ ltS y p:=by
   intro z
   rw [decide_eq_true z] at h1
   exact absurd h1.1 (by decide)
  obtain ⟨h2,h3⟩:=ZJg r y h1.2
  refine ⟨fun x hx=>?_,List.pairwise_cons.mpr ⟨fun x hx=>h2 x hx,h3⟩⟩
  rcases List.mem_cons.mp hx with rfl | hx
  ·exact hyp
  ·intro z
   rcases ZNL y p with q | q | q
   ·exact hyp q
   ·exact h2 x hx (q▸z)
   ·exact h2 x hx (ZS3 z q)
theorem ZN9 {l:List Str}(h:sortedS l=true):l.Pairwise fun a b=>¬ ltS b a:=by
 cases l with
 | nil=>exact .nil
 | cons x r=>
  obtain ⟨h1,h2⟩:=ZJg r x h
  exact List.pairwise_cons.mpr ⟨h1,h2⟩
theorem ZGR {l:List Str}(h:sortedS l=true) (nd:l.Nodup):Up l:=by
 have w:=ZN9 h
 have q:=List.Pairwise.and w nd
 refine q.imp fun {a b} hab=>?_
 rcases ZNL a b with z | z | z
 ·exact z
 ·exact absurd z hab.2
 ·exact absurd z hab.1
theorem ZMr:∀ {as bs:List Str},Up as->Up bs->(∀ x,x∈as↔x∈bs)->as=bs
 | [],[],_,_,_=>rfl
 | [],b :: bs,_,_,h=>absurd ((h b).mpr List.mem_cons_self) (by simp)
 | a :: as,[],_,_,h=>absurd ((h a).mp List.mem_cons_self) (by simp)
 | a :: as,b :: bs,ha,hb,h=>by
  obtain ⟨a1,a2⟩:=List.pairwise_cons.mp ha
  obtain ⟨b1,b2⟩:=List.pairwise_cons.mp hb
  have e:a=b:=by
   rcases List.mem_cons.mp ((h a).mp List.mem_cons_self) with z | z
   ·exact z
   ·rcases List.mem_cons.mp ((h b).mpr List.mem_cons_self) with y | y
    ·exact y.symm
    ·exact absurd (ZS3 (a1 b y) (b1 a z)) (ZLl _)
  subst e
  congr 1
  refine ZMr a2 b2 fun x=>⟨fun hx=>?_,fun hx=>?_⟩
  ·rcases List.mem_cons.mp ((h x).mp (List.mem_cons_of_mem _ hx)) with z | z
   ·exact absurd (z▸a1 x hx) (ZLl _)
   ·exact z
  ·rcases List.mem_cons.mp ((h x).mpr (List.mem_cons_of_mem _ hx)) with z | z
   ·exact absurd (z▸b1 x hx) (ZLl _)
   ·exact z
theorem ZPB:∀ {as bs:List Str},as.Nodup->(∀ x∈as,x∈bs)->as.length<=bs.length
 | [],_,_,_=>Nat.zero_le _
 | a :: as,bs,nd,h=>by
  obtain ⟨h1,h2⟩:=List.nodup_cons.mp nd
  have ha:=h a List.mem_cons_self
  have q:=ZPB (bs:=bs.erase a) h2 fun x hx=>(List.mem_erase_of_ne (fun e:x=a=>h1 (by rw [<- e];exact hx))).mpr (h x (List.mem_cons_of_mem _ hx))
  have e:=List.length_erase_of_mem ha
  have p:=List.length_pos_of_mem ha
  simp only [List.length_cons]
  omega
theorem ZNU:∀ {as bs:List Str},as.Nodup->(∀ x∈as,x∈bs)->bs.length=as.length->bs.Nodup
 | [],bs,_,_,hl=>by
  have e:bs=[]:=List.length_eq_zero_iff.mp (by simpa using hl)
  rw [e];exact List.nodup_nil
 | a :: as,bs,nd,h,hl=>by
  obtain ⟨h1,h2⟩:=List.nodup_cons.mp nd
  have ha:=h a List.mem_cons_self
  have hl':bs.length=as.length+1:=by simpa using hl
  have sub:∀ x∈as,x∈bs.erase a:=fun x hx=>(List.mem_erase_of_ne (fun e:x=a=>h1 (by rw [<- e];exact hx))).mpr (h x (List.mem_cons_of_mem _ hx))
  have e:=List.length_erase_of_mem ha
  have q:=ZNU (bs:=bs.erase a) h2 sub (by omega)
  have p:=List.perm_cons_erase ha
  rw [p.nodup_iff,List.nodup_cons]
  refine ⟨fun hm=>?_,q⟩
  have r:=ZPB (as:=a :: as) (bs:=bs.erase a) nd fun x hx=>by
   rcases List.mem_cons.mp hx with rfl | hx
   ·exact hm
   ·exact sub x hx
  simp only [List.length_cons] at r
  omega
theorem ZOL {acc:List Str}{x k:Str}:k∈ZDD acc x↔k∈acc∨k=x:=by
 unfold ZDD
 by_cases h:acc.any (· == x)=true
 ·rw [if_pos h]
  refine ⟨.inl,fun q=>q.elim id fun e=>?_⟩
  obtain ⟨y,hy,e2⟩:=List.any_eq_true.mp h
  have:y=x:=by simpa using e2
  rw [e,<- this];exact hy
 ·rw [if_neg h];simp
theorem ZMn:∀ (l acc:List Str),acc.Nodup->(l.foldl ZDD acc).Nodup/\∀ k,k∈l.foldl ZDD acc↔k∈acc∨k∈l
 | [],acc,h=>⟨h,fun k=>by simp⟩
 | x :: r,acc,h=>by
  have hn:(ZDD acc x).Nodup:=by
   unfold ZDD
   by_cases c:acc.any (· == x)=true
   ·rw [if_pos c];exact h
   ·rw [if_neg c]
    exact ZGb h fun hm=>c (List.any_eq_true.mpr ⟨x,hm,by simp⟩)
  obtain ⟨h1,h2⟩:=ZMn r (ZDD acc x) hn
  refine ⟨h1,fun k=>?_⟩
  rw [List.foldl_cons,h2 k,ZOL,List.mem_cons,or_assoc]
theorem ZRj (ss:List Str):(dd ss).Nodup:=(ZMn ss [] List.nodup_nil).1
theorem ZVR (ss:List Str) (k:Str):k∈dd ss↔k∈ss:=by
 have q:=(ZMn ss [] List.nodup_nil).2 k
 refine (show (k∈dd ss↔_) from q).trans ⟨fun z=>z.elim (fun y=>absurd y (by simp)) id,.inr⟩
theorem ZPw (l:List Str) (k:Str):l.any (· == k)=true↔k∈l:=by
 rw [List.any_eq_true]
 exact ⟨fun ⟨y,hy,e⟩=>by
   have:y=k:=by simpa using e
   rw [<- this];exact hy,fun h=>⟨k,h,by simp⟩⟩
theorem ZOG {ss ts:List Str}(hl:ts.length=(dd ss).length) (hm:∀ k,(dd ss).any (· == k)=true↔k∈ts) (hs:sortedS ts=true):(ss=ts)↔Up ss:=by
 have nd:ts.Nodup:=ZNU (ZRj ss) (fun x hx=>(hm x).mp ((ZPw _ _).mpr hx)) hl
 have ut:=ZGR hs nd
 constructor
 ·rintro rfl;exact ut
 ·intro us
  exact ZMr us ut fun x=>by rw [<- hm x,ZPw,ZVR]
def ZHO:List Str:=["none", "ahead", "all"]
def upB (ss:List Str):Bool:=decide (Up ss)
def inB (ns ss:List Str):Bool:=ss.all fun x=>decide (x∈ns)
def ZXT (n:Nat) (g:Int):Bool:=decide (0<=g) && decide (g<=(n:Int))
def ZVk (ns:List Str) (r:Str) (g:Int) (ss:List Str):Bool:=decide (r∈ZHO) && (ZXT ns.length g && (upB ss && inB ns ss))
def ZSh (p:Addr) (H:Hp) (Q:VK) (W:Str->Int->List Str->Prop):Prop:=∀ t c r g ss H',H t=none->H c=none->ZB3 p H H'->H' t=some (.tup [.str r,.int g,.ref c])->H' c=some (.tup (ss.map V.str))->W r g ss->Q (.ref t) H'
def ZH2:Sp:=fun vs H Q _=>∃ (p q:Addr) (ns:List Str),vs=[.ref p,.ref q]/\Pot H p/\H q=some (.lst (ns.map V.str))/\q≠p/\ns.length<=40/\ns.Nodup/\
 ZSh p H Q fun r g ss=>r∈ZHO/\0<=g/\g<=(ns.length:Int)/\Up ss/\(∀ x∈ss,x∈ns)/\ss.length<=40
theorem ZPt {ss:List Str}{i:Nat}{v:V}(h:(ss.map V.str)[i]?=some v):∃ x,v=.str x/\ss[i]?=some x:=by
 rw [List.getElem?_map] at h
 cases q:ss[i]? with
 | none=>rw [q] at h;cases h
 | some x=>rw [q] at h;simp at h;exact ⟨x,h.symm,rfl⟩
theorem ZPr {j:Int}(h0:0<=j) (h1:j < 3):∃ r,atI (ZHO.map V.str) j=some (.str r)/\r∈ZHO:=by
 obtain ⟨x,a,b,_⟩:=ZG4 (ns:=ZHO) h0 h1
 exact ⟨x,a,b⟩
end Lw
namespace Lw
open L2
def inL (ss:List Str) (x:Str):Bool:=decide (x∈ss)
def ZE6 (ns:List Str) (g:Nat) (ss:List Str):List Str:=(ns.drop g).filter (inL ss)++(ns.take g).filter (inL ss)
theorem ZRM (ns:List Str) (g:Nat) (ss:List Str):(ns.drop g++ns.take g).filter (inL ss)=ZE6 ns g ss:=List.filter_append ..
theorem ZEy {ns:List Str}{g:Nat}{ss:List Str}{x:Str}:x∈ZE6 ns g ss↔x∈ns/\x∈ss:=by
 unfold ZE6
 rw [List.mem_append,List.mem_filter,List.mem_filter]
 have e:(x∈ns)↔(x∈ns.take g∨x∈ns.drop g):=by
  rw [<- List.mem_append,List.take_append_drop]
 unfold inL
 simp only [decide_eq_true_eq]
 rw [e]
 constructor
 ·rintro (⟨a,b⟩ | ⟨a,b⟩)
  ·exact ⟨.inr a,b⟩
  ·exact ⟨.inl a,b⟩
 ·rintro ⟨a | a,b⟩
  ·exact .inr ⟨a,b⟩
  ·exact .inl ⟨a,b⟩
theorem ZUL (ns ss:List Str):((ns.map V.str).filter (fun v=>inV v (ss.map V.str))).map (fun v=>v)=(ns.filter (inL ss)).map V.str:=by
 rw [List.map_id',List.filter_map]
 congr 1
 apply List.filter_congr
 intro y _
 show inV (.str y) (ss.map V.str)=inL ss y
 rw [ZHi];rfl
def ZTi (H:Hp) (t:Addr) (r:Str) (g:Int) (ss:List Str):Prop:=∃ c,H t=some (.tup [.str r,.int g,.ref c])/\H c=some (.tup (ss.map V.str))
structure ZBW (ns:List Str) (r:Str) (g:Int) (ss:List Str):Prop where
 rule:r∈ZHO
 g0:0<=g
 g1:g<=(ns.length:Int)
 up:Up ss
 sub:∀ x∈ss,x∈ns
theorem ZBW.ZVk {ns:List Str}{r:Str}{g:Int}{ss:List Str}(h:ZBW ns r g ss):ZVk ns r g ss=true:=by
 unfold Lw.ZVk ZXT upB inB
 rw [decide_eq_true h.rule,decide_eq_true h.g0,decide_eq_true h.g1,decide_eq_true h.up,Bool.true_and,Bool.true_and,Bool.true_and,Bool.true_and,List.all_eq_true]
 intro x hx
 exact decide_eq_true (h.sub x hx)
theorem ZRN {ss:List Str}(x:Str) (h:Up ss):Up (wo ss x):=h.filter _
theorem ZW3 {ss:List Str}{x:Str}(nd:ss.Nodup) (h:x∈ss):(wo ss x).length+1=ss.length:=by
 have e:=ZQX h
 have h1:=ZJZ h
 have h2:=ZJe h nd
 have:wo ss x=ss.take (ss.idxOf x)++ss.drop (ss.idxOf x+1):=by
  conv=>lhs;rw [e]
  rw [ZLe,ZHF,ZFC h1,ZFC h2]
 rw [this]
 conv=>rhs;rw [e]
 simp only [List.length_append,List.length_cons]
 omega
theorem ZBW.step {ns:List Str}{r:Str}{g:Int}{ss:List Str}(h:ZBW ns r g ss){x:Str}(hx:x∈ns):ZBW ns r ((ns.idxOf x:Nat)+1) (wo ss x):=by
 have hj:ns.idxOf x < ns.length:=List.idxOf_lt_length_iff.mpr hx
 exact ⟨h.rule,by omega,by omega,ZRN x h.up,fun y hy=>h.sub y (ZEY.mp hy).1⟩
def stO (ns:List Str) (g:Nat) (ss:List Str):Option Str:=(ZE6 ns g ss).head?
def stG (ns:List Str) (g:Nat) (ss:List Str):Nat:=match stO ns g ss with
 | none=>g
 | some x=>ns.idxOf x+1
def stS (ns:List Str) (g:Nat) (ss:List Str):List Str:=match stO ns g ss with
 | none=>ss
 | some x=>wo ss x
theorem ZSt {ns:List Str}{r:Str}{g:Nat}{ss:List Str}(h:ZBW ns r g ss):ZBW ns r (stG ns g ss:Nat) (stS ns g ss)/\(stS ns g ss).length<=ss.length - 1:=by
 unfold stG stS
 cases e:stO ns g ss with
 | none=>
  refine ⟨h,?_⟩
  have er:ZE6 ns g ss=[]:=List.head?_eq_none_iff.mp e
  have:ss=[]:=by
   cases hs:ss with
   | nil=>rfl
   | cons x q=>
    have hx:x∈ss:=by rw [hs];exact List.mem_cons_self
    have:x∈ZE6 ns g ss:=ZEy.mpr ⟨h.sub x hx,hx⟩
    rw [er] at this;simp at this
  show ss.length<=ss.length - 1
  rw [this];exact Nat.le_refl _
 | some x=>
  have hx:x∈ZE6 ns g ss:=List.mem_of_mem_head? e
  obtain ⟨h1,h2⟩:=ZEy.mp hx
  have:=ZW3 (ZHr h.up) h2
  exact ⟨h.step h1,by show (wo ss x).length<=_;omega⟩
theorem ZN5 {x:Str}{rst:List Str}:atI ((x :: rst).map V.str) 0=some (.str x):=ZM3 (by decide) rfl
structure Ent where
 a:Addr
 ns:List Str
 t:Addr
 r:Str
 g:Nat
 ss:List Str
end Lw
namespace L2
section
variable {X:Cx}
def ZVI (K:PySem.W.Frag):R2:=fun x y H Q=>∃ a b xs ys,x=.ref a/\y=.ref b/\SqT K H a xs/\SqT K H b ys/\ys≠[]/\xs.length+ys.length<=sizeLine/\∀ p H',ZAk H H'->SqT K H' p (xs++ys)->Q (.ref p) H'
theorem ZQU:OpR X (binaryOp .Add) (ZVI X.K):=by
 intro pins s σ H x y v u Q I rx ry h
 obtain ⟨a,b,xs,ys,rfl,rfl,ha,hb,hy,hz,q⟩:=h
 by_cases hx:xs=[]
 ·subst hx
  cases rx;cases ry
  obtain ⟨its,r1,p1,_⟩:=I.tuple ha
  obtain ⟨its2,r2,p2,_⟩:=I.tuple hb
  obtain ⟨⟨cls,dd,data,sl⟩,ho,hc,n,hd⟩:=id p1
  obtain ⟨⟨cls2,dd2,data2,sl2⟩,ho2,hc2,n2,hd2⟩:=id p2
  simp only at hc hd hc2 hd2
  subst hc hd hc2 hd2
  have e:its=[]:=r1.ZKF.mpr rfl
  exact concat_meets ⟨_,ho,rfl⟩ ⟨_,ho2,rfl⟩ noFill_tuple_add seq_tuple_add PySem.F.slot_tuple_add PySem.F.entry_tuple_add (PySem.F.args_tuple_add_2 _ _)
   (tuple_addW0 a b its.toArray its2.toArray n n2 dd dd2 sl sl2 (by simp [e])) ⟨ho,ho2,⟨.ref b,H,I,rfl,q b H (ZAk.refl _) hb⟩⟩
 ·exact ZTQ pins s σ H _ _ _ _ Q I rx ry ⟨a,b,xs,ys,rfl,rfl,ha,hb,hx,hz,fun e=>absurd e hy,fun _ p hp=>q p _ (ZAD hp _) (SqT.of ZA6)⟩
end
end L2
namespace Lw
open L2
def ZOl (i g:Nat):Nat:=if i < g then g+1 else g
def ZGS (p g:Nat):Nat:=if p < g then g - 1 else g
def ZBm.gap (ns:List Str) (g:Nat):ZBm->Nat
 | .put _ i=>ZOl i g
 | .take x=>ZGS (ns.idxOf x) g
 | .move x i=>ZOl i (ZGS (ns.idxOf x) g)
 | .turn _ _=>g
def ZPR:List Str->Str->List Str
 | [],x=>[x]
 | y :: r,x=>if ltS x y then x :: y :: r else y :: ZPR r x
def ZFF (r:Str) (g i:Nat):Bool:=if decide (V.str r=V.str "all")=true then true else if decide (V.str r=V.str "ahead")=true then decide ((g:Int)<=(i:Int)) else false
def ZBm.com (r:Str) (g:Nat) (ss:List Str):ZBm->List Str
 | .put x i=>if ZFF r g i=true then ZPR ss x else ss
 | .take x=>wo ss x
 | .move _ _=>ss
 | .turn _ _=>ss
theorem ZHZ {x k:Str}:∀ {ss:List Str},k∈ZPR ss x↔k=x∨k∈ss
 | []=>by simp [ZPR]
 | y :: r=>by
  unfold ZPR
  split
  ·simp
  ·rw [List.mem_cons,ZHZ (ss:=r),List.mem_cons]
   constructor
   ·rintro (h | h | h)
    ·exact .inr (.inl h)
    ·exact .inl h
    ·exact .inr (.inr h)
   ·rintro (h | h | h)
    ·exact .inr (.inl h)
    ·exact .inl h
    ·exact .inr (.inr h)
theorem ZNB {x:Str}:∀ {ss:List Str},Up ss->x∉ss->Up (ZPR ss x)
 | [],_,_=>List.pairwise_singleton _ _
 | y :: r,h,hx=>by
  obtain ⟨h1,h2⟩:=List.pairwise_cons.mp h
  unfold ZPR
  split
  ·next c=>exact List.pairwise_cons.mpr ⟨fun k hk=>(List.mem_cons.mp hk).elim (fun e=>by rw [e];exact c) fun hk=>ZS3 c (h1 k hk),h⟩
  ·next c=>
   refine List.pairwise_cons.mpr ⟨fun k hk=>?_,ZNB h2 fun hm=>hx (List.mem_cons_of_mem _ hm)⟩
   rcases ZHZ.mp hk with rfl | hk
   ·rcases ZNL k y with z | z | z
    ·exact absurd z c
    ·exact absurd (by rw [z];exact List.mem_cons_self) hx
    ·exact z
   ·exact h1 k hk
theorem ZFg {ss ts:List Str}{x:Str}(hp:ts.Perm (ss++[x])) (hs:sortedS ts=true) (h:Up ss) (hx:x∉ss):ts=ZPR ss x:=by
 have nd:ts.Nodup:=hp.nodup_iff.mpr (ZGb (ZHr h) hx)
 refine ZMr (ZGR hs nd) (ZNB h hx) fun k=>?_
 rw [hp.mem_iff,ZHZ,List.mem_append,List.mem_singleton]
 exact or_comm
theorem ZBW.len {ns:List Str}{r:Str}{g:Int}{ss:List Str}(h:ZBW ns r g ss):ss.length<=ns.length:=ZPB (ZHr h.up) h.sub
theorem ZBW.led {ns:List Str}{r:Str}{g:Nat}{ss:List Str}{d:ZBm}(h:ZBW ns r g ss) (ok:d.Ok 40 ns) (nd:ns.Nodup):ZBW (d.done ns) r (d.gap ns g:Nat) (d.com r g ss):=by
 have g1:=h.g1
 cases d with
 | put x i=>
  obtain ⟨h1,h2,h3,h4⟩:=ok
  refine ⟨h.rule,by omega,?_,?_,?_⟩
  ·show ((ZOl i g:Nat):Int)<=((ins ns x i).length:Int)
   rw [ZF6]
   unfold ZOl
   split <;> omega
  ·show Up (if ZFF r g i=true then ZPR ss x else ss)
   split
   ·exact ZNB h.up fun hm=>h2 (h.sub x hm)
   ·exact h.up
  ·intro k hk
   show k∈ins ns x i
   rw [ZK0]
   have hk':k∈(if ZFF r g i=true then ZPR ss x else ss):=hk
   split at hk'
   ·rcases ZHZ.mp hk' with z | z
    ·exact .inl z
    ·exact .inr (h.sub k z)
   ·exact .inr (h.sub k hk')
 | take x=>
  have hx:x∈ns:=ok
  have hl:=ZEa hx nd
  have hj:ns.idxOf x < ns.length:=List.idxOf_lt_length_iff.mpr hx
  refine ⟨h.rule,by omega,?_,ZRN x h.up,fun k hk=>?_⟩
  ·show ((ZGS (ns.idxOf x) g:Nat):Int)<=((wo ns x).length:Int)
   unfold ZGS
   split <;> omega
  ·obtain ⟨a,b⟩:=ZEY.mp (show k∈wo ss x from hk)
   exact ZEY.mpr ⟨h.sub k a,b⟩
 | move x i=>
  obtain ⟨hx,hi⟩:=ok
  have hl:=ZEa hx nd
  have hj:ns.idxOf x < ns.length:=List.idxOf_lt_length_iff.mpr hx
  refine ⟨h.rule,by omega,?_,h.up,fun k hk=>?_⟩
  ·show ((ZOl i (ZGS (ns.idxOf x) g):Nat):Int)<=((ins (wo ns x) x i).length:Int)
   rw [ZF6]
   unfold ZOl ZGS
   split <;> split <;> omega
  ·show k∈ins (wo ns x) x i
   rw [ZK0,ZEY]
   by_cases e:k=x
   ·exact .inl e
   ·exact .inr ⟨h.sub k hk,e⟩
 | turn lo hi=>
  obtain ⟨h1,h2⟩:=ok
  refine ⟨h.rule,by omega,?_,h.up,fun k hk=>(ZQ9 h1).mpr (h.sub k hk)⟩
  show ((g:Nat):Int)<=((trn ns lo hi).length:Int)
  rw [ZPF h1 h2];exact g1
def ZST:Sp:=fun vs H Q _=>∃ (a t:Addr) (ns:List Str) (g:Nat) (d:ZBm),vs=[.ref a,.int g,.ref t]/\H a=some (.lst (ns.map V.str))/\H t=some (.tup d.vals)/\d.Ok 40 ns/\∀ H',ZAk H H'->Q (.int (d.gap ns g:Nat)) H'
theorem ZIE {ns ss:List Str}{r:Str}{g:Int}{d:ZBm}(h:ZBW ns r g ss) (ok:d.Ok 40 ns):∀ x i,d=.put x i->x∉ss:=by
 rintro x i rfl hm
 exact ok.2.1 (h.sub x hm)
theorem ZQA (p g:Nat):((g:Int) - (if decide ((p:Int) < (g:Int))=true then 1 else 0))=((ZGS p g:Nat):Int):=by
 unfold ZGS
 by_cases h:p < g
 ·rw [if_pos h,if_pos (decide_eq_true (by omega))];omega
 ·rw [if_neg h,if_neg (by simp;omega)];omega
theorem ZR5 (i g:Nat):((g:Int)+(if decide ((i:Int) < (g:Int))=true then 1 else 0))=((ZOl i g:Nat):Int):=by
 unfold ZOl
 by_cases h:i < g
 ·rw [if_pos h,if_pos (decide_eq_true (by omega))];omega
 ·rw [if_neg h,if_neg (by simp;omega)];omega
def ZBm.kind:ZBm->Str
 | .put _ _ => "put"
 | .take _ => "take"
 | .move _ _ => "move"
 | .turn _ _ => "turn"
theorem ZKU (d:ZBm):atI d.vals 0=some (.str d.kind):=by cases d <;> rfl
def ZBm.ZVC (ns:List Str) (g:Nat):ZBm->Nat
 | .take x=>ZGS (ns.idxOf x) g
 | .move x _=>ZGS (ns.idxOf x) g
 | _=>g
theorem ZX1 {ns:List Str}(g:Nat){d:ZBm}(ok:d.Ok 40 ns) (h:inV (.str d.kind) [.str "take", .str "move"]=true):∃ x,atI d.vals 1=some (.str x)/\x∈ns/\d.ZVC ns g=ZGS (ns.idxOf x) g:=by
 cases d with
 | put x i=>(simp only [ZBm.kind] at h;exact absurd h (by decide +kernel))
 | take x=>exact ⟨x,rfl,ok,rfl⟩
 | move x i=>exact ⟨x,rfl,ok.1,rfl⟩
 | turn lo hi=>(simp only [ZBm.kind] at h;exact absurd h (by decide +kernel))
theorem ZVW {ns:List Str}(g:Nat){d:ZBm}(h:¬ inV (.str d.kind) [.str "take", .str "move"]=true):d.ZVC ns g=g:=by
 cases d with
 | put x i=>rfl
 | take x=>exact absurd (by simp only [ZBm.kind];decide +kernel) h
 | move x i=>exact absurd (by simp only [ZBm.kind];decide +kernel) h
 | turn lo hi=>rfl
theorem ZWw {ns:List Str}(g:Nat){d:ZBm}(h:inV (.str d.kind) [.str "put", .str "move"]=true):∃ i:Nat,atI d.vals 2=some (.int i)/\d.gap ns g=ZOl i (d.ZVC ns g):=by
 cases d with
 | put x i=>exact ⟨i,rfl,rfl⟩
 | take x=>(simp only [ZBm.kind] at h;exact absurd h (by decide +kernel))
 | move x i=>exact ⟨i,rfl,rfl⟩
 | turn lo hi=>(simp only [ZBm.kind] at h;exact absurd h (by decide +kernel))
theorem ZVK {ns:List Str}(g:Nat){d:ZBm}(h:¬ inV (.str d.kind) [.str "put", .str "move"]=true):d.gap ns g=d.ZVC ns g:=by
 cases d with
 | put x i=>exact absurd (by simp only [ZBm.kind];decide +kernel) h
 | take x=>rfl
 | move x i=>exact absurd (by simp only [ZBm.kind];decide +kernel) h
 | turn lo hi=>rfl
def ZBm.ZW7 (ss:List Str):ZBm->List Str
 | .take x=>wo ss x
 | _=>ss
theorem ZRd {r:Str}{g:Nat}{ss:List Str}{d:ZBm}(h:decide (V.str d.kind=V.str "take")=true):∃ x,atI d.vals 1=some (.str x)/\d.ZW7 ss=wo ss x:=by
 cases d with
 | take x=>exact ⟨x,rfl,rfl⟩
 | _=>
  have h':=of_decide_eq_true h
  injection h' with h2
  exact absurd h2 (by simp only [ZBm.kind];decide +kernel)
theorem ZTl {ss:List Str}{d:ZBm}(h:¬ decide (V.str d.kind=V.str "take")=true):d.ZW7 ss=ss:=by
 cases d with
 | take x=>exact absurd (by simp only [ZBm.kind];decide +kernel) h
 | _=>rfl
theorem ZT2 {d:ZBm}(h:decide (V.str d.kind=V.str "put")=true):∃ x i,d=.put x i:=by
 cases d with
 | put x i=>exact ⟨x,i,rfl⟩
 | _=>
  have h':=of_decide_eq_true h
  injection h' with h2
  exact absurd h2 (by simp only [ZBm.kind];decide +kernel)
theorem ZQy {r:Str}{g:Nat}{ss:List Str}{d:ZBm}(h:¬ decide (V.str d.kind=V.str "put")=true):d.com r g ss=d.ZW7 ss:=by
 cases d with
 | put x i=>exact absurd (by simp only [ZBm.kind];decide +kernel) h
 | _=>rfl
theorem ZJu {r:Str}{g:Nat}{ss:List Str}{x:Str}{i:Nat}(h:ZFF r g i=true):ZBm.com r g ss (.put x i)=ZPR ss x:=by show (if _ then _ else _)=_;rw [if_pos h]
theorem ZH6 {r:Str}{g:Nat}{ss:List Str}{x:Str}{i:Nat}(h:ZFF r g i=false):ZBm.com r g ss (.put x i)=ss:=by show (if _ then _ else _)=_;rw [if_neg (by rw [h];decide)]
end Lw
namespace Lw
open L2
theorem ZQ0 {rs:List Str}(nd:rs.Nodup){g:Nat}{x:Str}(h:rs[g]?=some x):rs.idxOf x=g:=by
 obtain ⟨hg,e⟩:=List.getElem?_eq_some_iff.mp h
 have hx:x∈rs:=List.mem_of_getElem? h
 have hj:rs.idxOf x < rs.length:=List.idxOf_lt_length_iff.mpr hx
 have e2:rs[rs.idxOf x]=x:=List.getElem_idxOf hj
 have pw:=List.pairwise_iff_getElem.mp nd
 rcases Nat.lt_trichotomy (rs.idxOf x) g with c | c | c
 ·exact absurd (e2.trans e.symm) (pw _ _ hj hg c)
 ·exact c
 ·exact absurd (e.trans e2.symm) (pw _ _ hg hj c)
end Lw
namespace L2
section
variable {X:Cx}{pins:List (Addr×Obj)}{σ:St} {H2:Hp}{s2:Shared}{elt iter:Expr}{x z:Str}{px pz tp pos:Pos}{tk:Nat}{scope:Scope}{ZCl:List Str}{js:List Nat}{te:TE}{J:It}{fp:List Addr}{it:Addr}
 {tn:Nat->Heap->Prop}
end
end L2
namespace Fz
open L2 Lw
section
variable [Xw]
variable {E:Ent0}{ss:List Slot}{σ:L2.St} {F H F' H':Hp}{K:PySem.W.Frag}{js:List Nat}{ta tb te:TE}{k:PV->Prop}{nx:List Slot->Prop}{R:Ret}
theorem Sg.ZQ3 (S:Sg E ss σ F H){i:Nat}{p:Addr}(hi:ss[i]?=some .pot) (e:σ[i]?=some (some (.ref p))) (s:ZB3 p H H'):Mv E ss σ F H F H':=by
 obtain ⟨p',e',fp,_,pp⟩:=S.ok i _ hi
 rw [e] at e'
 cases e'
 refine S.step (ZAk.refl _) (fun a o q=>s.same a o (ZAg q fp) (S.fh a o q)) (fun a o n q=>s.same a o (fun z=>?_) q) (fun a o q=>.inl q) fun j l hj ej=>?_
 ·rw [z] at n;exact n i hi e
 ·by_cases z:l=p
  ·rw [z];exact s.pot
  ·exact Pot.keep (S.ZG0 hj ej) fun o q=>s.same l o z q
theorem ZPv {i:Nat}(hi:ss[i]?=some .pot) (h:Wp ss te fun x=>∃ m,x=.int m/\0 < m/\m < 10 ^ 18/\∀ r:Int,0<=r->r < m->k (.int r)):Wp ss (ZDr ZEx [] E0 (ZAe (ZFG i) (ZAe te ZCq))) k:=⟨fun E σ F H Q S q=>by
 obtain ⟨p,e,_⟩:=S.ok i _ hi
 refine ⟨_,e,h.go E σ F H _ S fun v x F1 H1 m1 r ⟨m,em,m0,m1',kk⟩=>?_⟩
 subst em;cases r
 exact ⟨p,m,rfl,m1.st.ZG0 hi e,m0,m1',fun r H2 r0 r1 s=>q _ _ F1 H2 (m1.trans (m1.st.ZQ3 hi e s)) (.int r) (kk r r0 r1)⟩⟩
theorem ZRw {sp:Sp}{i:Nat}{k:List PV->Prop}(hsp:sp=ZQw) (hi:ss[i]?=some .pot) (h:Wp ss te fun x=>∃ m,x=.int m/\1<=m/\m<=100/\∀ ns:List Str,(ns.length:Int)<=m->(∀ x∈ns,Nm x)->ns.Nodup->k (ns.map PV.str)):Wn ss (ZDr sp [] E0 (ZAe (ZFG i) (ZAe te ZCq))) k:=⟨fun E σ F H Q S q=>by
 subst hsp
 obtain ⟨p,e,_⟩:=S.ok i _ hi
 refine ⟨_,e,h.go E σ F H _ S fun v x F1 H1 m1 r ⟨m,em,m0,m1',kk⟩=>?_⟩
 subst em;cases r
 refine ⟨p,m,rfl,m1.st.ZG0 hi e,m0,m1',fun l H2 ns hl s hl2 hz hN nd=>?_⟩
 have m2:=m1.st.ZQ3 hi e s
 exact q l _ _ F1 H2 (m1.trans m2) (m1.st.ZHI hl) (m1.none hl) hl2 (ZDR ns) (kk ns hz hN nd)⟩
def ZDK (K:PySem.W.Frag) (ns:List Int):Hp->V->Prop:=fun F v=>∃ a,v=.ref a/\SqL K F a (ns.map V.int)
theorem ZDb (K:PySem.W.Frag) (ns:List Int):∀ (v:V) (F F':Hp),ZAk F F'->ZDK K ns F v->ZDK K ns F' v:=fun v F F' s ⟨a,e,h⟩=>⟨a,e,by
 rcases h with (h | ⟨o,h⟩) | h
 ·exact .inl (.inl (s _ _ h))
 ·exact .inl (.inr ⟨o,s _ _ h⟩)
 ·exact .inr h⟩
theorem ZSf {i:Nat}{ns:List Int}(hi:ss[i]?=some (.raw (ZDK K ns))) (h:k (.int ns.length)):Wp ss (tCB (ZRA K) (ZAe (ZFG i) ZCq)) k:=⟨fun E σ F H Q S q=>by
 obtain ⟨v,e,⟨a,ev,hq⟩,st⟩:=S.ok i _ hi
 subst ev
 obtain ⟨a',ea,hq'⟩:=ZDb K ns _ F H S.fh ⟨a,rfl,hq⟩
 cases ea
 refine ⟨_,e,a,_,rfl,.inl hq',?_⟩
 rw [List.length_map]
 exact q _ _ F H (.refl S) (.int _) h⟩
theorem ZUa {i j:Nat}{ns:List Int}(hi:ss[i]?=some (.raw (ZDK K ns))) (h:Wp ss te fun x=>∃ m,x=.int m/\0<=m/\m<=1000/\nx (ss.set j .pot)):Ws ss (ZPW (ZDr (ZRr K) [] E0 (ZAe (ZFG i) (ZAe te ZCq))) (ZHU j)) nx R:=⟨fun E D σ F H S hn hr=>by
 obtain ⟨v,e,⟨a,ev,hq⟩,st⟩:=S.ok i _ hi
 subst ev
 refine ⟨_,e,h.go E σ F H _ S fun v x F1 H1 m1 r ⟨m,em,m0,m1',kk⟩=>?_⟩
 subst em;cases r
 obtain ⟨v',e',hq1,_⟩:=m1.st.ok i _ hi
 rw [e] at e';cases e'
 obtain ⟨a',ea,hq'⟩:=ZDb K ns _ F1 H1 m1.st.fh hq1
 cases ea
 refine ⟨a,ns,m,rfl,hq',m0,m1',fun p H2 hp s pp=>?_⟩
 have m2:=m1.st.grow s
 exact hn _ _ F1 H2 kk (m2.st.setG ⟨p,rfl,m1.st.ZHI hp,.inl (m1.st.ZR8 hp),pp⟩ fun l e b u _ hu mu=>by cases e;exact m1.st.ZIU hu hp mu) m1.ff⟩
end
section
variable {E:Ent0}{ss:List Slot}{σ:L2.St} {F H F' H':Hp}{K:PySem.W.Frag}
theorem ZSl {N:List Str}{vs:List V}{Q:VK}{X:XK}{t:TS}(h:ZOq K vs H Q X) (hw:∀ ns:List Int,ns.length<=63->Ws (.raw (ZDK K ns) :: List.replicate (N.length - 1) .any) t (fun _=>False) (.is fun p=>p=.bl true)):t { nx:=fun _ H'=>Q .non H',rt:=Q } (L2.start N vs) H:=by
 obtain ⟨a,ns,rfl,hS,h63,q⟩:=h
 have S:Sg (E3 [] H H) [.raw (ZDK K ns)] [some (.ref a)] H H:=by
  have nn:∀ {p:Prop}(a:Addr),a∈([]:List Addr)->p:=fun a h=>absurd h List.not_mem_nil
  refine ⟨⟨ZAk.refl _,ZAk.refl _,fun _ _ _ e=>e,fun _ _ e=>.inl e,fun a h=>nn a h,fun a h=>nn a h,fun a h=>nn a h,fun a h=>nn a h,fun a h=>nn a h,fun a h=>nn a h⟩,rfl,fun i s hi=>?_,fun i j s u l hij hi hj ms=>?_⟩
  ·cases i with
   | zero=>cases hi;exact ⟨_,rfl,⟨a,rfl,hS⟩,ZDb K ns _⟩
   | succ i=>simp at hi
  ·cases i with
   | zero=>cases hi;cases ms
   | succ i=>simp at hi
 refine (hw ns h63).go (ZXR (E3 [] H H)) _ _ H H (S.grown _) (fun _ _ _ _ h=>h.elim) fun v F' H' f ok=>?_
 obtain ⟨p,r,rfl⟩:=ok
 cases r
 exact q H'
end
end Fz
namespace Fz
open L2 Lw
section
variable [Xw]
variable {E:Ent0}{ss:List Slot}{σ:L2.St} {F H F' H':Hp}{K:PySem.W.Frag}{js:List Nat}{ta tb te:TE}{k:PV->Prop}{nx:List Slot->Prop}{R:Ret}
theorem Wi.mono {wi:TI}{k k':List PV->Prop}(h:Wi ss wi k) (i:∀ xs,k xs->k' xs):Wi ss wi k':=⟨fun E σ F H R S q=>h.go E σ F H R S fun J xs F' H' m s kk=>q J xs F' H' m s (i xs kk)⟩
theorem ZFt {α:Type} {wi:TI}{tt:TT}{te:TE}{k:List PV->Prop}(c:α->PV) (f:α->Bool) (g:α->PV)
  (h:Wi ss wi fun xs=>∃ ns:List α,xs=ns.map c/\ns.length<=100000/\(∀ x∈ns,Wt (ZKz js ss++[.is (c x)]) tt fun b=>b=f x)/\(∀ x∈ns,f x=true->Wp (ZKz js ss++[.is (c x)]) te fun p=>p=g x)/\k ((ns.filter f).map g))
  (inj:∀ x y,c x=c y->x=y) (nd:js.Nodup:=by decide) (np:ZRm js ss=true:=by rfl):Wn ss (ZN4 wi js tt te) k:=by
 by_cases hα:Nonempty α
 ·obtain ⟨x0⟩:=hα
  have inv:∀ p:PV,∃ x:α,∀ y,c y=p->y=x:=fun p=>by
   by_cases q:∃ y,c y=p
   ·obtain ⟨y,hy⟩:=q
    exact ⟨y,fun z hz=>inj _ _ (hz.trans hy.symm)⟩
   ·exact ⟨x0,fun y hy=>absurd ⟨y,hy⟩ q⟩
  let d:PV->α:=fun p=>Classical.choose (inv p)
  have hd:∀ x,d (c x)=x:=fun x=>(Classical.choose_spec (inv (c x)) x rfl).symm
  refine ZPq (fun p=>f (d p)) (fun p=>g (d p)) (h.mono fun xs ⟨ns,e,hz,h1,h2,kk⟩=>?_) nd np
  subst e
  refine ⟨by rw [List.length_map];exact hz,fun x hx=>?_,fun x hx hf=>?_,?_⟩
  ·obtain ⟨y,hy,rfl⟩:=List.mem_map.mp hx
   rw [hd];exact h1 y hy
  ·obtain ⟨y,hy,rfl⟩:=List.mem_map.mp hx
   rw [hd] at hf ⊢;exact h2 y hy hf
  ·have e:((ns.map c).filter fun p=>f (d p)).map (fun p=>g (d p))=(ns.filter f).map g:=by
    rw [List.filter_map,List.map_map]
    congr 1
    ·funext x;show g (d (c x))=g x;rw [hd]
    ·congr 1;funext x;show f (d (c x))=f x;rw [hd]
   rw [e];exact kk
 ·refine ZPq (fun _=>true) (fun p=>p) (h.mono fun xs ⟨ns,e,hz,h1,h2,kk⟩=>?_) nd np
  have en:ns=[]:=by
   cases ns with
   | nil=>rfl
   | cons x r=>exact absurd ⟨x⟩ hα
  subst en;subst e
  exact ⟨by simp,fun x hx=>absurd hx (by simp),fun x hx=>absurd hx (by simp),kk⟩
theorem str_inj:∀ x y:Str,PV.str x=PV.str y->x=y:=fun _ _ e=>by injection e
theorem ZUu (h:Wp ss ta fun p=>∃ x,p=.str x/\Wq ss tb fun _ ys=>∃ ns:List Str,ys=ns.map PV.str/\k (.bl (decide (x∈ns)))):Wp ss (tOp (rIn K false) ta tb) k:=ZVH h
theorem ZUh (h:Wp ss ta fun p=>∃ x,p=.str x/\Wq ss tb fun _ ys=>∃ ns:List Str,ys=ns.map PV.str/\k (.bl (!decide (x∈ns)))):Wp ss (tOp (rIn K true) ta tb) k:=ZVH h
theorem ZTL (h:Wq ss ta fun tp xs=>∃ ns:List Str,xs=ns.map PV.str/\Wq ss tb fun tp2 ys=>tp2=tp/\∃ ms:List Str,ys=ms.map PV.str/\k (.bl (decide (ns=ms)))):Wp ss (tOp (ZUw K false) ta tb) k:=ZSe h
theorem ZTH (h:Wq ss ta fun tp xs=>∃ ns:List Str,xs=ns.map PV.str/\Wq ss tb fun tp2 ys=>tp2=tp/\∃ ms:List Str,ys=ms.map PV.str/\k (.bl (!decide (ns=ms)))):Wp ss (tOp (ZUw K true) ta tb) k:=ZSe h
theorem Wq.mono {k k':Bool->List PV->Prop}(h:Wq ss te k) (i:∀ b xs,k b xs->k' b xs):Wq ss te k':=⟨fun E σ F H Q S q=>h.go E σ F H Q S fun v tp xs F' H' m s kk=>q v tp xs F' H' m s (i tp xs kk)⟩
theorem Wo.mono {t:TO}{k k':Option Int->Prop}(h:Wo ss t k) (i:∀ o,k o->k' o):Wo ss t k':=⟨fun E σ F H Q S q=>h.go E σ F H Q S fun o F' H' m kk=>q o F' H' m (i o kk)⟩
theorem ZLN {tl th:TO}{k:Bool->List PV->Prop}(h:Wq ss te fun tp xs=>Wo ss tl fun lo=>Wo ss th fun hi=>k tp (ZKu xs lo hi)):Wz ss (tSl (ZWE K) te tl th) k:=
 ZKg (ZLr (h.mono fun tp xs h=>h.mono fun lo h=>h.mono fun hi h=>by
  cases tp
  ·exact ⟨_,.inl ⟨rfl,h⟩⟩
  ·exact ⟨_,.inr ⟨rfl,h⟩⟩))
theorem ZQG {tl th:TO}{k:Bool->List PV->Prop}(h:Wq ss te fun tp xs=>Wo ss tl fun lo=>Wo ss th fun hi=>k tp (ZKu xs lo hi)):Wq ss (tSl (ZWE K) te tl th) k:=ZO2 (ZLN h)
theorem ZR2 {α β:Type} (c:α->β) (xs:List α) (lo hi:Option Int):ZKu (xs.map c) lo hi=(ZKu xs lo hi).map c:=by
 unfold ZKu;rw [List.length_map,List.map_take,List.map_drop]
theorem ZUD {α β:Type} (c:α->β) (xs ys:List α):xs.map c++ys.map c=(xs++ys).map c:=by rw [List.map_append]
theorem ZJi {α:Type} (xs:List α) (g:Nat):ZKu xs none (some (g:Int))=xs.take g:=by
 unfold ZKu
 rw [HT.ZEh,HT.ZHj,List.drop_zero,Nat.sub_zero]
 rcases Nat.le_total g xs.length with h | h
 ·rw [Nat.min_eq_left h]
 ·rw [Nat.min_eq_right h,List.take_length,List.take_of_length_le h]
theorem ZQ6 {α:Type} (xs:List α) (g:Nat):ZKu xs (some (g:Int)) none=xs.drop g:=by
 unfold ZKu
 rw [HT.ZEh,HT.ZHj]
 rcases Nat.le_total g xs.length with h | h
 ·rw [Nat.min_eq_left h,List.take_of_length_le (by rw [List.length_drop];omega)]
 ·rw [Nat.min_eq_right h,List.drop_length,List.drop_of_length_le h];simp
theorem ZVL {α:Type} (g:α->Bool) (xs:List α):xs.map (fun x=>PV.bl (g x))=(xs.map g).map PV.bl:=by rw [List.map_map];rfl
def b2:PV->Bool
 | .bl b=>b
 | _=>false
end
end Fz
namespace HT
open AutoSeq1 (wpAny_loadPart')
section
variable {prog:Program}{w:World}{A:Around}{E:Value->Shared->Prop}{s:Shared}
end
end HT
namespace L2
section
variable {X:Cx}
def ZXZ (K:PySem.W.Frag) (tp:Bool) (a:Addr) (xs:List V):It:=
 ⟨fun i H=>SqB K tp H a xs/\i < xs.length,fun i H x H'=>∃ p y,xs[i]?=some y/\x=.ref p/\H p=none/\H'=upd H p (.tup [.int i,y]),fun i H=>SqB K tp H a xs/\xs.length<=i⟩
def ZUZ (K:PySem.W.Frag) (t:TA):TI:=fun σ H R=>t σ H fun vs H1=>∃ a tp xs,vs=[.ref a]/\SqB K tp H1 a xs/\R (ZXZ K tp a xs) H1
end
end L2
namespace Fz
open L2 Lw
section
variable [Xw]
variable {E:Ent0}{ss:List Slot}{σ:L2.St} {F H F' H':Hp}{K:PySem.W.Frag}{js:List Nat}{ta tb te:TE}{k:PV->Prop}{nx:List Slot->Prop}{R:Ret}{xs ys:List PV}
theorem ZRE (h:Wq ss ta fun _ xs=>∃ ns:List Str,xs=ns.map PV.str/\Wp ss tb fun p=>∃ x,p=.str x/\x∈ns/\k (.int (ns.idxOf x:Nat))):Wp ss (ZDr ZUG [] E0 (ZAe ta (ZAe tb ZCq))) k:=⟨fun E σ F H Q S q=>
 h.go E σ F H _ S fun v tp xs F1 H1 m1 sv ⟨ns,e,h2⟩=>h2.go E σ F1 H1 _ m1.st fun v2 p2 F2 H2 m2 r2 ⟨x,e2,hx,kk⟩=>by
  subst e;subst e2;cases r2
  obtain ⟨l,vs,rfl,hl,r⟩:=(sv.mv m2).seq m2.st
  rw [r.strs] at hl
  exact ⟨l,tp,ns,x,rfl,hl,hx,q _ _ F2 H2 (m1.trans m2) (.int _) kk⟩⟩
theorem ZLv (h:Wq ss ta fun tp xs=>tp=false/\∃ ns:List Str,xs=ns.map PV.str/\Wp ss tb fun p=>∃ x,p=.str x/\x∈ns/\k (.int (ns.idxOf x:Nat))):Wp ss (tBM K "list" (ZOp K) ta (ZAe tb ZCq)) k:=⟨fun E σ F H Q S q=>
 h.go E σ F H _ S fun v tp xs F1 H1 m1 sv ⟨et,ns,e,h2⟩=>by
  subst e;subst et
  obtain ⟨l,vs,rfl,hl,r⟩:=sv.seq m1.st
  refine ⟨.inl ⟨rfl,_,SqL.of hl⟩,h2.go E σ F1 H1 _ m1.st fun v2 p2 F2 H2 m2 r2 ⟨x,e2,hx,kk⟩=>?_⟩
  subst e2;cases r2
  obtain ⟨l',vs',e',hl',r'⟩:=(sv.mv m2).seq m2.st
  cases e'
  rw [r'.strs] at hl'
  exact ⟨l,ns,x,rfl,rfl,SqL.of hl',hx,q _ _ F2 H2 (m1.trans m2) (.int _) kk⟩⟩
def ZON (xs:List PV):List PV:=(List.range xs.length).map fun i:Nat=>.tup [.int (i:Int),xs.getD i .non]
theorem ZLc (xs:List PV):(ZON xs).length=xs.length:=by simp [ZON]
theorem ZS0 {xs:List PV}{i:Nat}{x:PV}(h:xs[i]?=some x):(ZON xs)[i]?=some (.tup [.int (i:Int),x]):=by
 have hi:i < xs.length:=(List.getElem?_eq_some_iff.mp h).1
 unfold ZON
 rw [List.getElem?_map,List.getElem?_range hi]
 show some (PV.tup [PV.int (i:Int),xs.getD i PV.non])=_
 rw [List.getD_eq_getElem?_getD,h];rfl
theorem ZSk {k:List PV->Prop}(h:Wz ss te fun _ xs=>k (ZON xs)):Wi ss (ZUZ K (ZAe te ZCq)) k:=⟨fun E σ F H R S q=>
 h.go E σ F H _ S fun v tp xs F1 H1 m1 f kk=>by
  obtain ⟨l,vs,ev,hl,r⟩:∃ l vs,v=.ref l/\(∀ (ss:List Slot) (σ:L2.St) (F H:Hp),ZAk F1 F->Sg E ss σ F H->H l=some (HOq tp vs))/\ZB5 F1 vs xs:=by
   cases tp with
   | true=>
    have f':Rep F1 v (.tup xs):=f
    cases f' with
    | tup e r=>exact ⟨_,_,rfl,fun ss σ F H s S=>S.fh _ _ (s _ _ e),r⟩
   | false=>
    obtain ⟨l,vs,e,h1,r⟩:=f
    refine ⟨l,vs,e,fun ss σ F H s S=>?_,r⟩
    rcases h1 with h1 | ⟨hA,h1⟩
    ·exact S.fh _ _ (s _ _ h1)
    ·exact S.keep _ _ hA h1
  subst ev
  refine ⟨l,tp,vs,rfl,HOq.sq (hl ss σ F1 H1 (ZAk.refl _) m1.st),q _ (ZON xs) F1 H1 m1 ⟨fun ss σ F H i s S hi=>?_,fun ss σ F H s S=>?_,fun ss σ F H i x H' s S hi y=>?_⟩ kk⟩
  ·rw [ZLc] at hi;exact ⟨HOq.sq (hl ss σ F H s S),by rw [r.length];exact hi⟩
  ·refine ⟨HOq.sq (hl ss σ F H s S),?_⟩
   rw [ZLc,r.length];exact Nat.le_refl _
  ·obtain ⟨p,y,hy,ex,hp,eH⟩:=y
   subst ex;subst eH
   obtain ⟨z,hz,rz⟩:=r.get' hy
   have m:=S.alloc hp (.tup [.int i,y])
   exact ⟨_,_,ZS0 hz,m,.tup ZA6 (.cons (.int _) (.one (rz.mono (s.trans m.ff))))⟩⟩
theorem ZU9 {α:Type} {wi:TI}{te:TE}{k:List PV->Prop}(c:α->PV) (g:α->PV)
  (h:Wi ss wi fun xs=>∃ ns:List α,xs=ns.map c/\ns.length<=100000/\(∀ x∈ns,Wp (ZKz js ss++[.is (c x)]) te fun p=>p=g x)/\k (ns.map g))
  (inj:∀ x y,c x=c y->x=y) (nd:js.Nodup:=by decide) (np:ZRm js ss=true:=by rfl):Wn ss (ZN4 wi js ZQu te) k:=
 ZFt c (fun _=>true) g (h.mono fun xs ⟨ns,e,hz,h1,kk⟩=>⟨ns,e,hz,fun x hx=>ZPx rfl,fun x hx _=>h1 x hx,by rw [List.filter_eq_self.mpr (fun _ _=>rfl)];exact kk⟩) inj nd np
def ZRO (a:Str×Str):PV:=.tup [.str a.1,.str a.2]
theorem ZUi {k:List PV->Prop}(h:Wq ss te fun _ xs=>k xs.reverse):Wn ss (ZWN K (ZAe te ZCq)) k:=⟨fun E σ F H Q S q=>
 h.go E σ F H _ S fun v tp xs F1 H1 m1 sv kk=>by
  obtain ⟨l,vs,rfl,hl,r⟩:=sv.seq m1.st
  refine ⟨l,tp,vs,rfl,HOq.sq hl,fun a ha=>?_⟩
  have m2:=m1.st.make ha (.lst vs.reverse)
  exact q a _ _ F1 _ (m1.trans m2) (m1.st.ZHI ha) (m1.none ha) ZA6 r.reverse kk⟩
theorem ZVQ (h:Wq ss ta fun tp xs=>tp=false/\Wq ss tb fun tp2 ys=>tp2=false/\ys=[]/\k (.bl (decide (xs.length=0)))):Wp ss (tOp (ZXO K) ta tb) k:=⟨fun E σ F H Q S q=>
 h.go E σ F H _ S fun v tp xs F1 H1 m1 sv ⟨et,h2⟩=>h2.go E σ F1 H1 _ m1.st fun v2 tp2 ys F2 H2 m2 sv2 ⟨et2,ey,kk⟩=>by
  subst et;subst et2;subst ey
  obtain ⟨l,vs,rfl,hl,r⟩:=(sv.mv m2).seq m2.st
  obtain ⟨l2,vs2,rfl,hl2,r2⟩:=sv2.seq m2.st
  cases r2
  refine ⟨l,l2,vs,rfl,rfl,SqL.of hl,SqL.of hl2,?_⟩
  have e:decide (vs=[])=decide (xs.length=0):=by
   rw [<- r.length]
   cases vs <;> simp
  rw [e]
  exact q _ _ F2 H2 (m1.trans m2) (.bl _) kk⟩
theorem ZMp {r:List V->Hp->VK->Prop}(hr:r=fun xs H Q=>(∃ i,xs=[.int i]/\Q (.int i) H)∨∃ k,xs=[.bl k]/\Q (.int (if k then 1 else 0)) H) (h:Wp ss te fun p=>∃ b,p=.bl b/\k (.int (if b then 1 else 0))):Wp ss (tCB r (ZAe te ZCq)) k:=⟨fun E σ F H Q S q=>
 h.go E σ F H _ S fun v p F1 H1 m1 r ⟨b,e,kk⟩=>by
  subst hr;subst e;cases r
  exact .inr ⟨b,rfl,q _ _ F1 H1 m1 (.int _) kk⟩⟩
end
theorem ZEU {c A B:Prop} [Decidable c] (h:c) (a:A):if c then A else B:=by rw [if_pos h];exact a
end Fz
namespace L2
end L2
namespace Fz
open L2 Lw
section
variable [Xw]
variable {E:Ent0}{ss:List Slot}{σ:L2.St} {F H F' H':Hp}{K:PySem.W.Frag}{js:List Nat}{ta tb tc te:TE}{k:PV->Prop}{nx:List Slot->Prop}{R:Ret}{xs ys:List PV}
def ZUY (i:Int) (n:Nat):List PV:=(List.range n).map fun j:Nat=>PV.int (i+(j:Int))
theorem ZK9 (i:Int) (n:Nat):(ZUY i n).length=n:=by simp [ZUY]
theorem ZTJ {k:List PV->Prop}(h:Wp ss ta fun p=>∃ i:Int,p=.int i/\Wp ss tb fun p=>∃ j:Int,p=.int j/\(i<=1000000/\-1000000<=i/\j<=1000000/\-1000000<=j)/\k (ZUY i (j - i).toNat)):Wi ss (ZWW (ZAe ta (ZAe tb ZCq))) k:=⟨fun E σ F H R S q=>
 h.go E σ F H _ S fun v p F1 H1 m1 r ⟨i,e,h2⟩=>by
  subst e;cases r
  exact h2.go E σ F1 H1 _ m1.st fun v2 p2 F2 H2 m2 r2 ⟨j,e2,hb,kk⟩=>by
   subst e2;cases r2
   refine ⟨i,j,rfl,by omega,q _ (ZUY i (j - i).toNat) F2 H2 (m1.trans m2) ⟨fun ss σ F H n s S hn=>?_,fun ss σ F H s S=>?_,fun ss σ F H n x H' s S hn y=>?_⟩ kk⟩
   ·rw [ZK9] at hn;exact hn
   ·show _<=_
    rw [ZK9];exact Nat.le_refl _
   ·obtain ⟨e,hx⟩:=y
    subst e;subst hx
    rw [ZK9] at hn
    refine ⟨.int (i+(n:Int)),F,?_,.refl S,.int _⟩
    unfold ZUY;rw [List.getElem?_map,List.getElem?_range hn];rfl⟩
theorem ZVu {r:List V->Hp->VK->Prop}(hr:r=fun xs H Q=>∃ i,xs=[.int i]/\Q (.int (if i < 0 then -i else i)) H) (h:Wp ss te fun p=>∃ i:Int,p=.int i/\k (.int (if i < 0 then -i else i))):Wp ss (tCB r (ZAe te ZCq)) k:=⟨fun E σ F H Q S q=>
 h.go E σ F H _ S fun v p F1 H1 m1 r ⟨i,e,kk⟩=>by
  subst hr;subst e;cases r
  exact ⟨i,rfl,q _ _ F1 H1 m1 (.int _) kk⟩⟩
def dP:ZBm->PV
 | .put x i=>.tup [.str "put", .str x,.int i]
 | .take x=>.tup [.str "take", .str x]
 | .move x i=>.tup [.str "move", .str x,.int i]
 | .turn lo hi=>.tup [.str "turn", .int lo,.int hi]
theorem ZV9 {d:ZBm}{t:Addr}(h:F t=some (.tup d.vals)):Rep F (.ref t) (dP d):=by
 cases d with
 | put x i=>exact .tup h (.cons (.str _) (.cons (.str _) (.one (.int _))))
 | take x=>exact .tup h (.cons (.str _) (.one (.str _)))
 | move x i=>exact .tup h (.cons (.str _) (.cons (.str _) (.one (.int _))))
 | turn lo hi=>exact .tup h (.cons (.str _) (.cons (.int _) (.one (.int _))))
theorem ZPc {d:ZBm}{v:V}(r:Rep F v (dP d)):∃ t,v=.ref t/\F t=some (.tup d.vals):=by
 cases d with
 | put x i=>cases r with | tup h r=>cases r with | cons a r=>cases r with | cons b r=>cases r with | cons c r=>cases r;cases a;cases b;cases c;exact ⟨_,rfl,h⟩
 | take x=>cases r with | tup h r=>cases r with | cons a r=>cases r with | cons b r=>cases r;cases a;cases b;exact ⟨_,rfl,h⟩
 | move x i=>cases r with | tup h r=>cases r with | cons a r=>cases r with | cons b r=>cases r with | cons c r=>cases r;cases a;cases b;cases c;exact ⟨_,rfl,h⟩
 | turn lo hi=>cases r with | tup h r=>cases r with | cons a r=>cases r with | cons b r=>cases r with | cons c r=>cases r;cases a;cases b;cases c;exact ⟨_,rfl,h⟩
theorem Sg.adopt (S:Sg E ss σ F H) (m:Mv E ss σ F H F H'){t:Addr}{o:HO}(ht:H t=none) (e:H' t=some o):Mv E ss σ F H (upd F t o) H':=by
 have fn:=S.ZHI ht
 refine S.step (ZAD fn o) (fun a u q=>?_) m.hh (fun a u q=>?_) fun i l hi ei=>m.st.ZG0 hi ei
 ·by_cases z:a=t
  ·subst z;rw [ZA6] at q;rw [<- q];exact e
  ·rw [ZAT z] at q;exact m.st.fh a u q
 ·by_cases z:a=t
  ·subst z;exact .inr ht
  ·rw [ZAT z] at q;exact .inl q
theorem ZQP {i:Nat}(hi:ss[i]?=some .pot) (h:Wq ss ta fun tp xs=>tp=false/\∃ ns:List Str,xs=ns.map PV.str/\Wp ss tb fun p=>∃ m:Nat,p=.int m/\(∀ x∈ns,Nm x)/\ns.length<=m/\1<=m/\m<=100/\∀ d:ZBm,d.Ok m ns->k (dP d)) :
  Wp ss (ZDr ZPS [] E0 (ZAe (ZFG i) (ZAe ta (ZAe tb ZCq)))) k:=⟨fun E σ F H Q S q=>by
 obtain ⟨p,e,_⟩:=S.ok i _ hi
 refine ⟨_,e,h.go E σ F H _ S fun v tp xs F1 H1 m1 sv ⟨et,ns,ex,h2⟩=>h2.go E σ F1 H1 _ m1.st fun v2 p2 F2 H2 m2 r2 ⟨m,em,hN,hz,h1,h3,kk⟩=>?_⟩
 subst et;subst ex;subst em;cases r2
 obtain ⟨l,vs,ev,hn,hl,r⟩:=sv.mv m2
 subst ev
 rw [r.strs] at hl
 refine ⟨p,l,m,ns,rfl,m2.st.ZG0 hi e,hl,fun z=>hn i hi (z▸e),hN,hz,h1,h3,fun d t H3 ht s e3 hd=>?_⟩
 have m3:=m2.st.adopt (m2.st.ZQ3 hi e s) ht e3
 exact q _ _ _ H3 (m1.trans (m2.trans m3)) (ZV9 ZA6) (kk d hd)⟩
theorem ZJv {k:List PV->Prop}(h:Wq ss ta fun tp xs=>tp=false/\∃ ns:List Str,xs=ns.map PV.str/\Wp ss tb fun p=>∃ d:ZBm,p=dP d/\d.Ok 40 ns/\ns.length<=40/\ns.Nodup/\k ((d.done ns).map PV.str)) :
  Wn ss (ZDr ZJl [] E0 (ZAe ta (ZAe tb ZCq))) k:=⟨fun E σ F H Q S q=>
 h.go E σ F H _ S fun v tp xs F1 H1 m1 sv ⟨et,ns,ex,h2⟩=>h2.go E σ F1 H1 _ m1.st fun v2 p2 F2 H2 m2 r2 ⟨d,em,hd,hz,nd,kk⟩=>by
  subst et;subst ex;subst em
  obtain ⟨l,vs,ev,hl,r⟩:=(sv.mv m2).seq m2.st
  subst ev
  rw [r.strs] at hl
  obtain ⟨t,et,ht⟩:=ZPc r2
  subst et
  refine ⟨l,t,ns,d,rfl,hl,m2.st.fh _ _ ht,hd,hz,nd,fun a H3 ha s e3=>?_⟩
  have m3:=m2.st.grow s
  exact q a _ _ F2 H3 (m1.trans (m2.trans m3)) (m2.st.ZHI ha) ((m1.trans m2).none ha) e3 (ZDR _) kk⟩
end
end Fz
namespace L2
section
variable {X:Cx}
theorem ZTu:OpR X (compareOp .IsNot) (fun x y H Q=>∃ a b,x=.bl a/\y=.bl b/\Q (.bl (!(a == b))) H):=by
 intro pins s σ H x y v u Q I rx ry h
 obtain ⟨a,b,rfl,rfl,q⟩:=h
 cases rx;cases ry
 refine wpAny_isNot_plain (by cases a <;> cases b <;> rfl) (ZAw I q ?_)
 cases a <;> cases b <;> rfl
end
end L2
namespace Fz
open L2 Lw
section
variable [Xw]
variable {E:Ent0}{ss:List Slot}{σ:L2.St} {F H F' H':Hp}{K:PySem.W.Frag}{js:List Nat}{ta tb tc te:TE}{k:PV->Prop}{nx:List Slot->Prop}{R:Ret}{xs ys:List PV}{P:Program}{w:World}
theorem ZVZ (h:Wp ss ta fun p=>∃ a,p=.bl a/\Wp ss tb fun q=>∃ b,q=.bl b/\k (.bl (a == b))):Wp ss (tOp (fun x y H Q=>∃ a b,x=.bl a/\y=.bl b/\Q (.bl (a == b)) H) ta tb) k:=⟨fun E σ F H Q S q=>
 h.go E σ F H _ S fun v p F1 H1 m1 r1 ⟨a,e1,h2⟩=>by
  subst e1;cases r1
  exact h2.go E σ F1 H1 _ m1.st fun v2 p2 F2 H2 m2 r2 ⟨b,e2,kk⟩=>by
   subst e2;cases r2
   exact ⟨a,b,rfl,rfl,q _ _ F2 H2 (m1.trans m2) (.bl _) kk⟩⟩
theorem ZQE (h:Wp ss ta fun p=>∃ a,p=.bl a/\Wp ss tb fun q=>∃ b,q=.bl b/\k (.bl (!(a == b)))):Wp ss (tOp (fun x y H Q=>∃ a b,x=.bl a/\y=.bl b/\Q (.bl (!(a == b))) H) ta tb) k:=⟨fun E σ F H Q S q=>
 h.go E σ F H _ S fun v p F1 H1 m1 r1 ⟨a,e1,h2⟩=>by
  subst e1;cases r1
  exact h2.go E σ F1 H1 _ m1.st fun v2 p2 F2 H2 m2 r2 ⟨b,e2,kk⟩=>by
   subst e2;cases r2
   exact ⟨a,b,rfl,rfl,q _ _ F2 H2 (m1.trans m2) (.bl _) kk⟩⟩
theorem ZVc (h:Wq ss ta fun tp xs=>tp=false/\Wq ss tb fun tp2 ys=>tp2=false/\ys=[]/\k (.bl (!decide (xs.length=0)))):Wp ss (tOp (ZXP K) ta tb) k:=⟨fun E σ F H Q S q=>
 h.go E σ F H _ S fun v tp xs F1 H1 m1 sv ⟨et,h2⟩=>h2.go E σ F1 H1 _ m1.st fun v2 tp2 ys F2 H2 m2 sv2 ⟨et2,ey,kk⟩=>by
  subst et;subst et2;subst ey
  obtain ⟨l,vs,rfl,hl,r⟩:=(sv.mv m2).seq m2.st
  obtain ⟨l2,vs2,rfl,hl2,r2⟩:=sv2.seq m2.st
  cases r2
  refine ⟨l,l2,vs,rfl,rfl,SqL.of hl,SqL.of hl2,?_⟩
  have e:decide (vs=[])=decide (xs.length=0):=by
   rw [<- r.length]
   cases vs <;> simp
  rw [e]
  exact q _ _ F2 H2 (m1.trans m2) (.bl _) kk⟩
theorem ZL1 {k:List PV->Prop}(h:Wq ss te fun _ xs=>∃ ns:List Str,xs=ns.map PV.str/\ns.length < 64/\∀ ts:List Str,ts.length=(dd ns).length->(∀ x,(dd ns).any (· == x)=true↔x∈ts)->sortedS ts=true->k (ts.map PV.str)) :
  Wn ss (tCB (ZNx P w) (ZAe (tCB (fun xs H Q=>∃ (p:Addr) (tp:Bool) (ss:List Str),xs=[.ref p]/\SqB K tp H p (ss.map V.str)/\ss.length < 4000/\∀ l,H l=none->Q (.ref l) (upd H l (ZQC P w l (fun k'=>(dd ss).any (· == k')) (dd ss).length))) (ZAe te ZCq)) ZCq)) k:=⟨fun E σ F H Q S q=>
 h.go E σ F H _ S fun v tp xs F1 H1 m1 sv ⟨ns,e,hz,kk⟩=>by
  subst e
  obtain ⟨l,vs,rfl,hl,r⟩:=sv.seq m1.st
  rw [r.strs] at hl
  refine ⟨l,tp,ns,rfl,HOq.sq hl,by omega,fun a ha=>?_⟩
  have m2:=m1.st.make ha (ZQC P w a (fun k'=>(dd ns).any (· == k')) (dd ns).length)
  refine ⟨a,_,_,rfl,ZA6,Nat.lt_of_le_of_lt (ZSC ns) hz,fun b ts hb hl2 hm hs=>?_⟩
  have m3:=m2.st.make hb (.lst (ts.map V.str))
  exact q b _ _ F1 _ (m1.trans (m2.trans m3)) (m2.st.ZHI hb) ((m1.trans m2).none hb) ZA6 (ZDR ts) (kk ts hl2 hm hs)⟩
theorem ZPX (h:Wq ss te fun _ xs=>∃ ns:List Str,xs=ns.map PV.str/\ns.length < 4000/\k (.int ((dd ns).length:Nat))) :
  Wp ss (tCB (fun xs H Q=>∃ l f n,xs=[.ref l]/\H l=some (ZWA P w l f n)/\Q (.int (n:Nat)) H) (ZAe (tCB (fun xs H Q=>∃ (p:Addr) (tp:Bool) (ss:List Str),xs=[.ref p]/\SqB K tp H p (ss.map V.str)/\ss.length < 4000/\∀ l,H l=none->Q (.ref l) (upd H l (ZWA P w l (fun k'=>(dd ss).any (· == k')) (dd ss).length))) (ZAe te ZCq)) ZCq)) k:=⟨fun E σ F H Q S q=>
 h.go E σ F H _ S fun v tp xs F1 H1 m1 sv ⟨ns,e,hz,kk⟩=>by
  subst e
  obtain ⟨l,vs,rfl,hl,r⟩:=sv.seq m1.st
  rw [r.strs] at hl
  refine ⟨l,tp,ns,rfl,HOq.sq hl,hz,fun a ha=>?_⟩
  have m2:=m1.st.make ha (ZWA P w a (fun k'=>(dd ns).any (· == k')) (dd ns).length)
  exact ⟨a,_,_,rfl,ZA6,q _ _ F1 _ (m1.trans m2) (.int _) kk⟩⟩
end
end Fz
namespace L2
section
variable {X:Cx}{pins:List (Addr×Obj)}{σ:St} {H:Hp}{s:Shared}
def ZWt (K:PySem.W.Frag):R2:=fun x y H Q=>∃ p q xs ys,x=.ref p/\y=.ref q/\SqL K H p xs/\SqL K H q ys/\xs.length=ys.length/\(∀ (j:Nat) (x y:V),xs[j]?=some x->ys[j]?=some y->EqT K H 8 x y)/\Q (.bl false) H
theorem ZSo:MtR X "list.pop" ZQJ:=ZRY
def tLR (t:TA):TE:=fun σ H Q=>t σ H fun vs H1=>∃ n:Nat,vs=[.int n]/\n<=1000/\∀ l,H1 l=none->Q (.ref l) (upd H1 l (.lst ((List.range n).map fun i:Nat=>V.int i)))
end
end L2
namespace Fz
open L2 Lw
section
variable [Xw]
variable {K:PySem.W.Frag}{E:Ent0}{ss:List Slot}{σ:L2.St} {F H:Hp}{te ta tb:TE}{k:PV->Prop}{nx:List Slot->Prop}{R:Ret}{xs ys:List PV}
theorem ZWq {k:List PV->Prop}(h:Wp ss te fun p=>∃ j:Int,p=.int j/\0<=j/\j<=1000/\k (ZOj j.toNat)):Wn ss (tLR (ZAe te ZCq)) k:=⟨fun E σ F H Q S q=>
 h.go E σ F H _ S fun v p F1 H1 m1 r ⟨j,e,h0,hz,kk⟩=>by
  subst e;cases r
  generalize hn:j.toNat=n at kk
  refine ⟨n,by rw [<- hn,Int.toNat_of_nonneg h0],by omega,fun a ha=>?_⟩
  have m2:=m1.st.make ha (.lst ((List.range n).map fun i:Nat=>V.int i))
  have rr:ZB5 F1 ((List.range n).map fun i:Nat=>V.int i) (ZOj n):=by
   have e1:ZOj n=((List.range n).map fun i:Nat=>(i:Int)).map PV.int:=by unfold ZOj;rw [List.map_map];rfl
   have e2:((List.range n).map fun i:Nat=>V.int (i:Int))=(ZOj n).map Fz.enc:=by rw [e1,ZNv,List.map_map];rfl
   rw [e2]
   exact ZHq (by rw [e1];exact ZL0 _)
  exact q a _ _ F1 _ (m1.trans m2) (m1.st.ZHI ha) (m1.none ha) ZA6 rr kk⟩
theorem ZPY {K:PySem.W.Frag}{F H:Hp}(fh:ZAk F H){v u:V}{a:Str×Str}(r1:Rep F v (ZRO a)) (r2:Rep F u (ZRO a)):EqT K H 8 v u:=by
 cases r1 with
 | tup h1 q1=>
  cases r2 with
  | tup h2 q2=>
   have e1:=q1.enc (ps:=[.str a.1,.str a.2]) rfl
   have e2:=q2.enc (ps:=[.str a.1,.str a.2]) rfl
   subst e1;subst e2
   refine .tup (d:=7) (SqT.of (fh _ _ h1)) (SqT.of (fh _ _ h2)) rfl fun j x y hx hy=>?_
   rw [hx] at hy;cases hy
   have hm:=List.mem_of_getElem? hx
   rcases List.mem_cons.mp hm with rfl | hm
   ·exact .flat rfl rfl (by simp [Fz.enc,eqV])
   ·have:=List.mem_singleton.mp hm
    subst this
    exact .flat rfl rfl (by simp [Fz.enc,eqV])
theorem ZTM (h:Wq ss ta fun tp xs=>tp=false/\Wq ss tb fun tp2 ys=>tp2=false/\(∃ ps:List (Str×Str),xs=ps.map ZRO/\ys=ps.map ZRO)/\k (.bl false)):Wp ss (tOp (ZWt K) ta tb) k:=⟨fun E σ F H Q S q=>
 h.go E σ F H _ S fun v tp xs F1 H1 m1 sv ⟨et,h2⟩=>h2.go E σ F1 H1 _ m1.st fun v2 tp2 ys F2 H2 m2 sv2 ⟨et2,⟨ps,ex,ey⟩,kk⟩=>by
  subst et;subst et2;subst ex;subst ey
  obtain ⟨l,vs,rfl,hl,r⟩:=(sv.mv m2).seq m2.st
  obtain ⟨l2,vs2,rfl,hl2,r2⟩:=sv2.seq m2.st
  refine ⟨l,l2,vs,vs2,rfl,rfl,SqL.of hl,SqL.of hl2,by rw [r.length,r2.length],fun j x y hx hy=>?_,q _ _ F2 H2 (m1.trans m2) (.bl _) kk⟩
  obtain ⟨p,hp,rp⟩:=r.get' hx
  obtain ⟨p2,hp2,rp2⟩:=r2.get' hy
  rw [hp] at hp2;cases hp2
  rw [List.getElem?_map] at hp
  cases ha:ps[j]? with
  | none=>rw [ha] at hp;cases hp
  | some a=>
   rw [ha] at hp;cases hp
   exact ZPY m2.st.fh rp rp2⟩
end
end Fz
namespace Fz
open L2 Lw
theorem ZS7 {α:Type} (ms:List α) (x:α) (j:Nat):(ms.take j++x :: ms.drop j).Perm (x :: ms):=by
 have h:=List.perm_middle (a:=x) (l₁:=ms.take j) (l₂:=ms.drop j)
 rwa [List.take_append_drop] at h
theorem ZIe {ms:List Str}{x:Str}(j:Nat) (h:ms.Nodup) (hx:x∉ms):(ms.take j++x :: ms.drop j).Nodup:=(ZS7 ms x j).nodup_iff.mpr (List.nodup_cons.mpr ⟨hx,h⟩)
end Fz
namespace Fz
open L2 Lw
def cC (cs ns:List Str):Nat:=(ns.filter fun x=>decide (x∈cs)).length
end Fz
namespace Fz
open L2 Lw
section
variable [Xw]
variable {E:Ent0}{ss:List Slot}{σ:L2.St} {F H F' H':Hp}{K:PySem.W.Frag}{ta tb tc te:TE}{k:PV->Prop}{v:V}{tp:Bool}{xs:List PV}{nx:List Slot->Prop}{R:Ret}
end
def rv (n:Nat):Nat->Nat
 | 0=>0
 | i+1=>2 * rv n i+n / 2 ^ i % 2
end Fz
namespace L2
open Lw
section
variable {X:Cx}
theorem ZPm:MtR X "list.extend" ZMl:=ZQK
end
end L2
namespace Fz
open L2 Lw
section
variable [Xw]
variable {E:Ent0}{ss:List Slot}{σ:L2.St} {F H F' H':Hp}{K:PySem.W.Frag}{ta tb tc te:TE}{k:PV->Prop}{v:V}{tp:Bool}{xs:List PV}{nx:List Slot->Prop}{R:Ret}
theorem ZQf {i:Nat}(hi:ss[i]?=some (.own xs)) (h:Wn ss te fun ys=>xs.length+ys.length<=100000/\nx (ss.set i (.own (xs++ys)))):Ws ss (ZKm (tBM K "list" ZMl (ZFG i) (ZAe te ZCq))) nx R:=⟨fun E D σ F H S hn hr=>by
 obtain ⟨l,vs,e,e1,e2,e3,r⟩:=S.ok i _ hi
 refine ⟨_,e,.inl ⟨rfl,_,SqL.of e3⟩,h.go E σ F H _ S fun l2 vs2 ys F1 H1 m1 fl hl hl1 rv ⟨hz,kk⟩=>?_⟩
 obtain ⟨l',vs',e',e1',e2',e3',r'⟩:=m1.st.ok i _ hi
 rw [e] at e'
 cases e'
 refine ⟨l,l2,vs',vs2,rfl,rfl,e3',hl1,small (by rw [r'.length,rv.length];exact hz),?_⟩
 exact hn _ σ F1 _ kk (m1.st.put hi e e1' e2' (r'.append rv)) m1.ff⟩
end
end Fz
namespace L2
end L2
namespace Lw
open L2
end Lw
namespace Lw
open L2
end Lw
namespace Lw
open L2
end Lw
namespace Lw
open L2
def ZGV (H:Hp) (t c:Addr) (r:Str) (g:Int) (ss:List Str):Prop:=H t=some (.tup [.str r,.int g,.ref c])/\H c=some (.tup (ss.map V.str))
theorem ZGV.h {H:Hp}{t c:Addr}{r:Str}{g:Int}{ss:List Str}(h:ZGV H t c r g ss):ZTi H t r g ss:=⟨c,h⟩
theorem ZGV.same {H H':Hp}{t c:Addr}{r:Str}{g:Int}{ss:List Str}(s:ZAk H H') (h:ZGV H t c r g ss):ZGV H' t c r g ss:=⟨s _ _ h.1,s _ _ h.2⟩
def ZMS:Sp:=fun vs H Q _=>∃ (a tl td c0:Addr) (ns:List Str) (r:Str) (g:Nat) (ss:List Str) (d:ZBm),vs=[.ref a,.ref tl,.ref td]/\H a=some (.lst (ns.map V.str))/\ZGV H tl c0 r g ss/\H td=some (.tup d.vals)/\d.Ok 40 ns/\ZBW ns r g ss/\ns.length<=40/\
 ∀ t' c' H',H t'=none->(H c'=none∨c'=c0)->ZAk H H'->ZGV H' t' c' r (d.gap ns g:Nat) (d.com r g ss)->Q (.ref t') H'
def ZTT (H H':Hp) (t' t:Addr) (ns:List Str) (r:Str) (g:Nat) (ss:List Str):Prop:=
 (ZE6 ns g ss=[]/\H' t'=some (.tup [.non,.ref t]))∨∃ x rst t2 c2,ZE6 ns g ss=x :: rst/\H t2=none/\H c2=none/\H' t'=some (.tup [.str x,.ref t2])/\ZGV H' t2 c2 r ((ns.idxOf x:Nat)+1) (wo ss x)
def ZUB (K:PySem.W.Frag):Sp:=fun vs H Q _=>∃ (a:Addr) (tp:Bool) (ns:List Str) (t:Addr) (r:Str) (g:Nat) (ss:List Str),vs=[.ref a,.ref t]/\H a=some (HOq tp (ns.map V.str))/\ZTi H t r g ss/\ss.length < 64/\ZVk ns r g ss=true/\ns.length<=1000/\
 ∀ t' H',H t'=none->ZAk H H'->ZTT H H' t' t ns r g ss->Q (.ref t') H'
def ZJp:Sp:=fun vs H Q _=>∃ (a:Addr) (ns:List Str) (t:Addr) (r:Str) (g:Nat) (ss:List Str),vs=[.ref a,.ref t]/\H a=some (.lst (ns.map V.str))/\ZTi H t r g ss/\ss.length < 64/\ns.length<=1000/\
 ∀ t' H',H t'=none->ZAk H H'->ZTT H H' t' t ns r g ss->Q (.ref t') H'
end Lw
namespace Fz
open L2 Lw
def ZD1 (r:Str) (g:Nat) (ss:List Str):PV:=.tup [.str r,.int g,.tup (ss.map .str)]
section
variable [Xw]
variable {E:Ent0}{ss:List Slot}{σ:L2.St} {F H F1 F' H':Hp}{K:PySem.W.Frag}{js:List Nat}{ta tb tc te:TE}{nx:List Slot->Prop}{R:Ret}{k:PV->Prop}
theorem Mv.adopt (m:Mv E ss σ F H F1 H') (S:Sg E ss σ F H){t:Addr}{o:HO}(ht:H t=Option.none) (e:H' t=some o):Mv E ss σ F H (upd F1 t o) H':=by
 have sm:ZAk F1 (upd F1 t o):=fun a u q=>by
  by_cases z:a=t
  ·subst z
   have w:=m.st.fh _ _ q
   rw [e] at w
   rw [ZA6];exact w
  ·rw [ZAT z];exact q
 refine S.step (m.ff.trans sm) (fun a u q=>?_) m.hh (fun a u q=>?_) fun i l hi ei=>m.st.ZG0 hi ei
 ·by_cases z:a=t
  ·subst z;rw [ZA6] at q;rw [<- q];exact e
  ·rw [ZAT z] at q;exact m.st.fh a u q
 ·by_cases z:a=t
  ·subst z;exact .inr ht
  ·rw [ZAT z] at q;exact m.nn a u q
theorem ZKf {v:V}{r:Str}{g:Nat}{cs:List Str}(h:Rep F v (ZD1 r g cs)):∃ t c,v=.ref t/\ZGV F t c r g cs:=by
 cases h with
 | tup e q=>cases q with
  | cons a q=>cases q with
   | cons b q=>cases q with
    | cons c q=>
     cases q;cases a;cases b
     cases c with
     | tup e2 q2=>rw [q2.strs] at e2;exact ⟨_,_,rfl,e,e2⟩
theorem ZIX {t c:Addr}{r:Str}{g:Nat}{cs:List Str}(h:ZGV F t c r g cs):Rep F (.ref t) (ZD1 r g cs):=.tup h.1 (.cons (.str _) (.cons (.int _) (.one (.tup h.2 (ZDR cs)))))
theorem Mv.ZVe (m:Mv E ss σ F H F1 H') (S:Sg E ss σ F H){t c c0:Addr}{o:HO}{r:Str}{g:Nat}{cs:List Str}(ht:H t=Option.none) (hc:H c=Option.none∨c=c0) (h0:F c0=some o) (e:ZGV H' t c r g cs):∃ F2,Mv E ss σ F H F2 H'/\ZAk F1 F2/\Rep F2 (.ref t) (ZD1 r g cs):=by
 have key:∃ F2,Mv E ss σ F H F2 H'/\ZAk F1 F2/\F2 c=some (.tup (cs.map V.str)):=by
  rcases hc with hc | rfl
  ·refine ⟨_,m.adopt S hc e.2,fun a u q=>?_,ZA6⟩
   by_cases z:a=c
   ·subst z
    have w:=m.st.fh _ _ q
    rw [e.2] at w
    rw [ZA6];exact w
   ·rw [ZAT z];exact q
  ·refine ⟨F1,m,ZAk.refl _,?_⟩
   have w:=m.ff _ _ h0
   have w2:=m.st.fh _ _ w
   rw [e.2] at w2
   rw [w,<- w2]
 obtain ⟨F2,m2,s2,hc2⟩:=key
 have sm:ZAk F2 (upd F2 t (.tup [.str r,.int g,.ref c])):=fun a u q=>by
  by_cases z:a=t
  ·subst z
   have w:=m2.st.fh _ _ q
   rw [e.1] at w
   rw [ZA6];exact w
  ·rw [ZAT z];exact q
 exact ⟨_,m2.adopt S ht e.1,s2.trans sm,ZIX ⟨ZA6,sm _ _ hc2⟩⟩
theorem ZPA (h:Wq ss ta fun tp xs=>tp=false/\∃ ns:List Str,xs=ns.map PV.str/\Wp ss tb fun p=>∃ (r:Str) (g:Nat) (cs:List Str),p=ZD1 r g cs/\Wp ss tc fun p2=>∃ d:ZBm,p2=dP d/\d.Ok 40 ns/\ZBW ns r g cs/\ns.length<=40/\k (ZD1 r (d.gap ns g) (d.com r g cs))) :
  Wp ss (ZDr ZMS [] E0 (ZAe ta (ZAe tb (ZAe tc ZCq)))) k:=⟨fun E σ F H Q S q=>
 h.go E σ F H _ S fun v tp xs F1 H1 m1 sv ⟨et,ns,ex,h2⟩=>h2.go E σ F1 H1 _ m1.st fun v2 p2 F2 H2 m2 r2 ⟨r,g,cs,ep,h3⟩=>h3.go E σ F2 H2 _ m2.st fun v3 p3 F3 H3 m3 r3 ⟨d,ed,hd,gd,hz,kk⟩=>by
  subst et;subst ex;subst ep;subst ed
  obtain ⟨l,vs,rfl,hl,rr⟩:=(sv.mv (m2.trans m3)).seq m3.st
  rw [rr.strs] at hl
  obtain ⟨tl,c0,rfl,lc⟩:=ZKf (r2.mono m3.ff)
  obtain ⟨t,rfl,ht⟩:=ZPc r3
  refine ⟨l,tl,t,c0,ns,r,g,cs,d,rfl,hl,lc.same m3.st.fh,m3.st.fh _ _ ht,hd,gd,hz,fun t' c' H4 ht' hc' s4 e4=>?_⟩
  obtain ⟨F4,m4,_,r4⟩:=(m3.st.grow s4).ZVe m3.st ht' hc' lc.2 e4
  exact q _ _ F4 H4 (m1.trans (m2.trans (m3.trans m4))) r4 kk⟩
def ZJD (ns:List Str) (r:Str) (g:Nat) (cs:List Str):PV:=match ZE6 ns g cs with
 | []=>.tup [.non,ZD1 r g cs]
 | x :: _=>.tup [.str x,ZD1 r (ns.idxOf x+1) (wo cs x)]
theorem Mv.ZVj (m:Mv E ss σ F H F1 H') (S:Sg E ss σ F H){t t' c:Addr}{ns:List Str}{r:Str}{g:Nat}{cs:List Str}(ht:H t'=Option.none) (h0:ZGV F t c r g cs) (e:ZTT H H' t' t ns r g cs):∃ F2,Mv E ss σ F H F2 H'/\Rep F2 (.ref t') (ZJD ns r g cs):=by
 rcases e with ⟨er,e⟩ | ⟨x,rst,t2,c2,er,h2,h3,e,lc⟩
 ·refine ⟨_,m.adopt S ht e,?_⟩
  have sm:=(m.adopt S ht e).ff
  unfold ZJD
  rw [er]
  exact .tup ZA6 (.cons .non (.one (ZIX (h0.same sm))))
 ·have lc':ZGV H' t2 c2 r ((ns.idxOf x+1:Nat):Int) (wo cs x):=lc
  obtain ⟨F2,m2,_,r2⟩:=m.ZVe S h2 (.inl h3) h0.1 lc'
  refine ⟨_,m2.adopt S ht e,?_⟩
  have sm:ZAk F2 (upd F2 t' (.tup [.str x,.ref t2])):=fun a u q=>by
   by_cases z:a=t'
   ·subst z
    have w:=m2.st.fh _ _ q
    rw [e] at w
    rw [ZA6];exact w
   ·rw [ZAT z];exact q
  unfold ZJD
  rw [er]
  exact .tup ZA6 (.cons (.str _) (.one (r2.mono sm)))
theorem wp_step (h:Wq ss ta fun tp xs=>∃ ns:List Str,xs=ns.map PV.str/\Wp ss tb fun p=>∃ (r:Str) (g:Nat) (cs:List Str),p=ZD1 r g cs/\ZBW ns r g cs/\ns.length<=60/\k (ZJD ns r g cs)) :
  Wp ss (ZDr (ZUB K) [] E0 (ZAe ta (ZAe tb ZCq))) k:=⟨fun E σ F H Q S q=>
 h.go E σ F H _ S fun v tp xs F1 H1 m1 sv ⟨ns,ex,h2⟩=>h2.go E σ F1 H1 _ m1.st fun v2 p2 F2 H2 m2 r2 ⟨r,g,cs,ep,gd,hz,kk⟩=>by
  subst ex;subst ep
  obtain ⟨l,vs,rfl,hl,rr⟩:=(sv.mv m2).seq m2.st
  rw [rr.strs] at hl
  obtain ⟨tl,c0,rfl,lc⟩:=ZKf r2
  have hlen:=gd.len
  refine ⟨l,tp,ns,tl,r,g,cs,rfl,hl,(lc.same m2.st.fh).h,by omega,gd.ZVk,by omega,fun t' H4 ht' s4 e4=>?_⟩
  obtain ⟨F4,m4,r4⟩:=(m2.st.grow s4).ZVj m2.st ht' lc e4
  exact q _ _ F4 H4 (m1.trans (m2.trans m4)) r4 kk⟩
theorem ZNQ (h:Wq ss ta fun tp xs=>tp=false/\∃ ns:List Str,xs=ns.map PV.str/\Wp ss tb fun p=>∃ (r:Str) (g:Nat) (cs:List Str),p=ZD1 r g cs/\ZBW ns r g cs/\ns.length<=60/\k (ZJD ns r g cs)) :
  Wp ss (ZDr ZJp [] E0 (ZAe ta (ZAe tb ZCq))) k:=⟨fun E σ F H Q S q=>
 h.go E σ F H _ S fun v tp xs F1 H1 m1 sv ⟨et,ns,ex,h2⟩=>h2.go E σ F1 H1 _ m1.st fun v2 p2 F2 H2 m2 r2 ⟨r,g,cs,ep,gd,hz,kk⟩=>by
  subst et;subst ex;subst ep
  obtain ⟨l,vs,rfl,hl,rr⟩:=(sv.mv m2).seq m2.st
  rw [rr.strs] at hl
  obtain ⟨tl,c0,rfl,lc⟩:=ZKf r2
  have hlen:=gd.len
  refine ⟨l,ns,tl,r,g,cs,rfl,hl,(lc.same m2.st.fh).h,by omega,by omega,fun t' H4 ht' s4 e4=>?_⟩
  obtain ⟨F4,m4,r4⟩:=(m2.st.grow s4).ZVj m2.st ht' lc e4
  exact q _ _ F4 H4 (m1.trans (m2.trans m4)) r4 kk⟩
theorem ZIg {i:Nat}(hi:ss[i]?=some .pot) (h:Wq ss ta fun tp xs=>tp=false/\∃ ns:List Str,xs=ns.map PV.str/\ns.length<=40/\ns.Nodup/\∀ (r:Str) (g:Nat) (cs:List Str),ZBW ns r g cs->cs.length<=40->k (ZD1 r g cs)) :
  Wp ss (ZDr ZH2 [] E0 (ZAe (ZFG i) (ZAe ta ZCq))) k:=⟨fun E σ F H Q S q=>by
 obtain ⟨p,e,_⟩:=S.ok i _ hi
 refine ⟨_,e,h.go E σ F H _ S fun v tp xs F1 H1 m1 sv ⟨et,ns,ex,hz,nd,kk⟩=>?_⟩
 subst et;subst ex
 obtain ⟨l,vs,ev,hn,hl,r⟩:=sv
 subst ev
 rw [r.strs] at hl
 refine ⟨p,l,ns,rfl,m1.st.ZG0 hi e,hl,fun z=>hn i hi (z▸e),hz,nd,fun t c r g cs H3 ht hc s e1 e2 hW=>?_⟩
 obtain ⟨w1,w2,w3,w4,w5,w6⟩:=hW
 obtain ⟨n,rfl⟩:=Int.eq_ofNat_of_zero_le w2
 have m3:=(m1.st.ZQ3 hi e s).adopt m1.st hc e2
 have m4:=m3.adopt m1.st ht e1
 refine q _ _ _ H3 (m1.trans m4) (ZIX (c:=c) ⟨ZA6,?_⟩) (kk r n cs ⟨w1,w2,w3,w4,w5⟩ w6)
 by_cases z:c=t
 ·subst z;rw [ZA6];exact e1.symm.trans e2
 ·rw [ZAT z,ZA6]⟩
end
end Fz
namespace Fz
open L2 Lw
section
variable [Xw]
variable {E:Ent0}{ss:List Slot}{σ:L2.St} {F H F1 F' H':Hp}{K:PySem.W.Frag}{js:List Nat}{ta tb tc te ti:TE}{nx:List Slot->Prop}{R:Ret}{k:PV->Prop}{xs:List PV}
theorem ZB5.set {vs:List V}:∀ {xs:List PV}(j:Nat){v:V}{p:PV},ZB5 F vs xs->Rep F v p->ZB5 F (vs.set j v) (xs.set j p):=by
 intro xs
 induction vs generalizing xs with
 | nil=>intro j v p h r;cases h;exact .nil
 | cons a vs ih=>
  intro j v p h r
  cases h with
  | cons r1 t=>
   cases j with
   | zero=>exact .cons r t
   | succ j=>exact .cons r1 (ih j t r)
end
end Fz
namespace Fz
open L2 Lw
mutual
def eqP:PV->PV->Bool
 | .lst xs,.lst ys=>ZGT xs ys
 | .tup xs,.tup ys=>ZGT xs ys
 | .tup xs,.con _ ys=>ZGT xs ys
 | .con _ xs,.tup ys=>ZGT xs ys
 | .con _ xs,.con _ ys=>ZGT xs ys
 | .non,.non=>true
 | .bl a,.bl b=>a == b
 | .bl a,.int b=>(if a then 1 else 0) == b
 | .int a,.bl b=>a == (if b then 1 else 0)
 | .int a,.int b=>a == b
 | .str a,.str b=>a == b
 | _,_=>false
def ZGT:List PV->List PV->Bool
 | [],[]=>true
 | x :: r,y :: t=>eqP x y && ZGT r t
 | _,_=>false
end
theorem ZCn (x y:PV) (r t:List PV):ZGT (x :: r) (y :: t)=(eqP x y && ZGT r t):=by rw [ZGT]
theorem ZEI:∀ (xs ys:List PV),xs.length≠ys.length->ZGT xs ys=false
 | [],[],h=>absurd rfl h
 | [],_ :: _,_=>by rw [ZGT];all_goals simp
 | _ :: _,[],_=>by rw [ZGT];all_goals simp
 | x :: r,y :: t,h=>by rw [ZCn,ZEI r t (by simpa using h),Bool.and_false]
theorem ZGw:∀ (xs ys:List PV),xs.length=ys.length->ZGT xs ys=(List.range xs.length).all fun j=>eqP (xs.getD j .non) (ys.getD j .non)
 | [],[],_=>by rw [ZGT];rfl
 | x :: r,y :: t,h=>by
  rw [ZCn,ZGw r t (by simpa using h),List.length_cons,List.range_succ_eq_map,List.all_cons,List.all_map]
  rfl
def dat (K:PySem.W.Frag):Nat->PV->Prop
 | _,.non=>True
 | _,.bl _=>True
 | _,.int _=>True
 | _,.str _=>True
 | d+1,.lst xs=>∀ x∈xs,dat K d x
 | d+1,.tup xs=>∀ x∈xs,dat K d x
 | d+1,.con a xs=>(∀ x∈xs,dat K d x)/\xs.all flat=true/\∀ H,SqT K H a (xs.map Fz.enc)
 | _,_=>False
inductive Sqs (K:PySem.W.Frag) (H:Hp):V->PV->Bool->Addr->List V->List PV->Prop where
 | lst {a:Addr}{vs:List V}{xs:List PV}:SqL K H a vs->ZB5 H vs xs->Sqs K H (.ref a) (.lst xs) false a vs xs
 | tup {a:Addr}{vs:List V}{xs:List PV}:SqT K H a vs->ZB5 H vs xs->Sqs K H (.ref a) (.tup xs) true a vs xs
 | con {a:Addr}{vs:List V}{xs:List PV}:SqT K H a vs->ZB5 H vs xs->Sqs K H (.ref a) (.con a xs) true a vs xs
theorem ZCZ {K:PySem.W.Frag}{H:Hp}:∀ {d:Nat}{x:V}{p:PV},dat K d p->Rep H x p->(flat p=true/\x=Fz.enc p)∨∃ d' tp a vs xs,d=d'+1/\Sqs K H x p tp a vs xs/\∀ y∈xs,dat K d' y:=by
 intro d x p h r
 cases r with
 | non=>exact .inl ⟨rfl,rfl⟩
 | bl b=>exact .inl ⟨rfl,rfl⟩
 | int b=>exact .inl ⟨rfl,rfl⟩
 | str b=>exact .inl ⟨rfl,rfl⟩
 | lst e r=>cases d with
  | zero=>exact h.elim
  | succ d=>exact .inr ⟨d,_,_,_,_,rfl,.lst (SqL.of e) r,h⟩
 | tup e r=>cases d with
  | zero=>exact h.elim
  | succ d=>exact .inr ⟨d,_,_,_,_,rfl,.tup (SqT.of e) r,h⟩
 | con=>cases d with
  | zero=>exact h.elim
  | succ d=>obtain ⟨h1,h2,h3⟩:=h;exact .inr ⟨d,_,_,_,_,rfl,.con (h3 H) (ZHq h2),h1⟩
 | dct _ _ _=>cases d <;> exact h.elim
 | obj _ _ _ _=>cases d <;> exact h.elim
 | exc0 _=>cases d <;> exact h.elim
 | exc _ _ _ _=>cases d <;> exact h.elim
section
variable {X:Cx}{pins:List (Addr×Obj)}{σ:L2.St} {H:Hp}{s:Shared}
theorem ZRh {A:Around}{vs ws:List V}{its its2:List Value}{xs ys:List PV}(r1:Vals vs its) (r2:Vals ws its2) (q1:ZB5 H vs xs) (q2:ZB5 H ws ys)
  (h:∀ (x y:V) (p q:PV) (u v:Value),p∈xs->q∈ys->Rep H x p->Rep H y q->RelV x u->RelV y v->SeqAt.EqAt A s u v (eqP p q)) :
  ∀ j (h1:j < its.toArray.size) (h2:j < its2.toArray.size),SeqAt.EqAt A s its.toArray[j] its2.toArray[j] ((fun j=>eqP (xs.getD j .non) (ys.getD j .non)) j):=fun j h1 h2=>by
 have l1:=r1.length
 have l2:=r2.length
 have l3:=q1.length
 have l4:=q2.length
 have h1':j < its.length:=by simpa using h1
 have h2':j < its2.length:=by simpa using h2
 have a1:j < xs.length:=by omega
 have a2:j < ys.length:=by omega
 obtain ⟨x,hx,rx⟩:=q1.get (i:=j) (p:=xs[j]) (List.getElem?_eq_getElem a1)
 obtain ⟨y,hy,ry⟩:=q2.get (i:=j) (p:=ys[j]) (List.getElem?_eq_getElem a2)
 obtain ⟨u,hu,ru⟩:=r1.get hx
 obtain ⟨v,hv,rv⟩:=r2.get hy
 rw [List.getElem?_eq_getElem h1'] at hu
 rw [List.getElem?_eq_getElem h2'] at hv
 have hu':its[j]=u:=Option.some.inj hu
 have hv':its2[j]=v:=Option.some.inj hv
 have q:=h x y _ _ u v (List.getElem_mem a1) (List.getElem_mem a2) rx ry ru rv
 rw [<- hu',<- hv'] at q
 show SeqAt.EqAt A s _ _ (eqP (xs.getD j .non) (ys.getD j .non))
 rw [List.getD_eq_getElem?_getD,List.getElem?_eq_getElem a1,List.getD_eq_getElem?_getD,List.getElem?_eq_getElem a2]
 simpa using q
theorem ZHg {p:PV}{x:V}{tp:Bool}{a:Addr}{vs:List V}{xs:List PV}{q:PV}(h:Sqs X.K H x p tp a vs xs) (f:flat q=true):eqP p q=false/\eqP q p=false:=by
 cases h <;> cases q <;> first | (cases f;done) | exact ⟨by rw [eqP] <;> simp,by rw [eqP] <;> simp⟩
theorem ZNF {p q:PV}{x y:V}{a b:Addr}{tp tp2:Bool}{vs ws:List V}{xs ys:List PV}(h:Sqs X.K H x p tp a vs xs) (h2:Sqs X.K H y q tp2 b ws ys):eqP p q=(if tp=tp2 then ZGT xs ys else false):=by
 cases h <;> cases h2 <;> first | (rw [if_pos rfl,eqP];done) | (rw [if_neg (by decide),eqP] <;> simp)
theorem ZG3 {p q:PV}(h:flat p=true) (h2:flat q=true):eqP p q=eqV (Fz.enc p) (Fz.enc q):=by
 cases p <;> cases q <;> first | (cases h;done) | (cases h2;done) | (rw [eqP] <;> first | rfl | simp [Fz.enc,eqV];done)
theorem ZU2 {A:Around}{p q:PV}{u v:Value}(h:flat p=true) (h2:flat q=true) (ru:RelV (Fz.enc p) u) (rv:RelV (Fz.enc q) v):SeqAt.RcAt A s u v (eqP p q)/\SeqAt.RcNeAt A s u v (!eqP p q):=by
 cases p <;> first | (cases h;done) | skip
 all_goals cases q <;> first | (cases h2;done) | skip
 all_goals simp only [Fz.enc,L2.RelV] at ru rv
 ·subst ru;subst rv;rw [eqP];exact ⟨.none_none,.none_none⟩
 ·subst ru;subst rv;rw [eqP] <;> first | exact ⟨.none_bool _,.none_bool _⟩ | simp
 ·subst ru;obtain ⟨t,rfl⟩:=rv;rw [eqP] <;> first | exact ⟨.none_int _ _,.none_int _ _⟩ | simp
 ·subst ru;obtain ⟨t,rfl⟩:=rv;rw [eqP] <;> first | exact ⟨.none_str _ _,.none_str _ _⟩ | simp
 ·subst ru;subst rv;rw [eqP] <;> first | exact ⟨.bool_none _,.bool_none _⟩ | simp
 ·subst ru;subst rv;rw [eqP];exact ⟨.bool_bool _ _,.bool_bool _ _⟩
 ·subst ru;obtain ⟨t,rfl⟩:=rv;rw [eqP];exact ⟨.bool_int _ _ _,.bool_int _ _ _⟩
 ·subst ru;obtain ⟨t,rfl⟩:=rv;rw [eqP] <;> first | exact ⟨.bool_str _ _ _,.bool_str _ _ _⟩ | simp
 ·obtain ⟨t,rfl⟩:=ru;subst rv;rw [eqP] <;> first | exact ⟨.int_none _ _,.int_none _ _⟩ | simp
 ·obtain ⟨t,rfl⟩:=ru;subst rv;rw [eqP];exact ⟨.int_bool _ _ _,.int_bool _ _ _⟩
 ·obtain ⟨t,rfl⟩:=ru;obtain ⟨t2,rfl⟩:=rv;rw [eqP];exact ⟨.int_int _ _ _ _,.int_int _ _ _ _⟩
 ·obtain ⟨t,rfl⟩:=ru;obtain ⟨t2,rfl⟩:=rv;rw [eqP] <;> first | exact ⟨.int_str _ _ _ _,.int_str _ _ _ _⟩ | simp
 ·obtain ⟨t,rfl⟩:=ru;subst rv;rw [eqP] <;> first | exact ⟨.str_none _ _,.str_none _ _⟩ | simp
 ·obtain ⟨t,rfl⟩:=ru;subst rv;rw [eqP] <;> first | exact ⟨.str_bool _ _ _,.str_bool _ _ _⟩ | simp
 ·obtain ⟨t,rfl⟩:=ru;obtain ⟨t2,rfl⟩:=rv;rw [eqP] <;> first | exact ⟨.str_int _ _ _ _,.str_int _ _ _ _⟩ | simp
 ·obtain ⟨t,rfl⟩:=ru;obtain ⟨t2,rfl⟩:=rv;rw [eqP];exact ⟨.str_str _ _ _ _,.str_str _ _ _ _⟩
def ZWB (h:Heap) (tp:Bool) (a:Addr) (its:Array Value):Prop:=if tp then IsTup h a its else h.IsList a its
theorem Sqs.ZOk (I:Inv X pins σ H s){x:V}{p:PV}{tp:Bool}{a:Addr}{vs:List V}{xs:List PV}(h:Sqs X.K H x p tp a vs xs):∃ its:List Value,x=.ref a/\Vals vs its/\ZWB s.heap tp a its.toArray/\ZB5 H vs xs:=by
 cases h with
 | lst h r=>obtain ⟨its,r1,p1,_⟩:=I.list h;exact ⟨its,rfl,r1,p1.isList,r⟩
 | tup h r=>obtain ⟨its,r1,p1,_⟩:=I.tuple h;exact ⟨its,rfl,r1,p1,r⟩
 | con h r=>obtain ⟨its,r1,p1,_⟩:=I.tuple h;exact ⟨its,rfl,r1,p1,r⟩
theorem ZKO {A:Around}{tp:Bool}{a:Addr}{its:Array Value}{q:PV}{v:Value}(h:ZWB s.heap tp a its) (f:flat q=true) (rv:RelV (Fz.enc q) v) (hu:A.units < cLine) :
  (SeqAt.EqAt A s (.ref a) v false/\SeqAt.EqAt A s v (.ref a) false)/\(SeqAt.RcAt A s (.ref a) v false/\SeqAt.RcAt A s v (.ref a) false)/\(SeqAt.RcNeAt A s (.ref a) v true/\SeqAt.RcNeAt A s v (.ref a) true):=by
 cases tp with
 | false=>
  have h':s.heap.IsList a its:=h
  cases q <;> first | (cases f;done) | skip
  all_goals simp only [Fz.enc,L2.RelV] at rv
  ·subst rv;exact ⟨⟨.list_none h' hu,.none_list h' hu⟩,⟨.list_none h' hu,.none_list h' hu⟩,⟨.list_none h' hu,.none_list h' hu⟩⟩
  ·subst rv;exact ⟨⟨.list_bool _ h' hu,.bool_list _ h' hu⟩,⟨.list_bool _ h' hu,.bool_list _ h' hu⟩,⟨.list_bool _ h' hu,.bool_list _ h' hu⟩⟩
  ·obtain ⟨t,rfl⟩:=rv;exact ⟨⟨.list_int _ _ h' hu,.int_list _ _ h' hu⟩,⟨.list_int _ _ h' hu,.int_list _ _ h' hu⟩,⟨.list_int _ _ h' hu,.int_list _ _ h' hu⟩⟩
  ·obtain ⟨t,rfl⟩:=rv;exact ⟨⟨.list_str _ _ h' hu,.str_list _ _ h' hu⟩,⟨.list_str _ _ h' hu,.str_list _ _ h' hu⟩,⟨.list_str _ _ h' hu,.str_list _ _ h' hu⟩⟩
 | true=>
  have h':IsTup s.heap a its:=h
  cases q <;> first | (cases f;done) | skip
  all_goals simp only [Fz.enc,L2.RelV] at rv
  ·subst rv;exact ⟨⟨.tuple_none h' hu,.none_tuple h' hu⟩,⟨.tuple_none h' hu,.none_tuple h' hu⟩,⟨.tuple_none h' hu,.none_tuple h' hu⟩⟩
  ·subst rv;exact ⟨⟨.tuple_bool _ h' hu,.bool_tuple _ h' hu⟩,⟨.tuple_bool _ h' hu,.bool_tuple _ h' hu⟩,⟨.tuple_bool _ h' hu,.bool_tuple _ h' hu⟩⟩
  ·obtain ⟨t,rfl⟩:=rv;exact ⟨⟨.tuple_int _ _ h' hu,.int_tuple _ _ h' hu⟩,⟨.tuple_int _ _ h' hu,.int_tuple _ _ h' hu⟩,⟨.tuple_int _ _ h' hu,.int_tuple _ _ h' hu⟩⟩
  ·obtain ⟨t,rfl⟩:=rv;exact ⟨⟨.tuple_str _ _ h' hu,.str_tuple _ _ h' hu⟩,⟨.tuple_str _ _ h' hu,.str_tuple _ _ h' hu⟩,⟨.tuple_str _ _ h' hu,.str_tuple _ _ h' hu⟩⟩
theorem Sqs.inj (I:Inv X pins σ H s){x y:V}{p q:PV}{tp tp2:Bool}{a:Addr}{vs ws:List V}{xs ys:List PV}(h:Sqs X.K H x p tp a vs xs) (h2:Sqs X.K H y q tp2 a ws ys):tp=tp2/\vs=ws:=by
 have no:∀ {vs ws:List V},SqL X.K H a vs->SqT X.K H a ws->False:=fun {vs ws} h1 h2=>by
  obtain ⟨its,_,p1,_⟩:=I.list h1
  obtain ⟨its2,_,p2,_⟩:=I.tuple h2
  obtain ⟨o,n,e,c,_⟩:=p1
  obtain ⟨o2,e2,c2,_⟩:=p2
  rw [e] at e2;cases e2;rw [c] at c2
  exact absurd c2 (by decide)
 cases h with
 | lst h r=>cases h2 with
  | lst h2 _=>exact ⟨rfl,I.ZNS h h2⟩
  | tup h2 _=>exact (no h h2).elim
  | con h2 _=>exact (no h h2).elim
 | tup h r=>cases h2 with
  | lst h2 _=>exact (no h2 h).elim
  | tup h2 _=>exact ⟨rfl,I.ZEr h h2⟩
  | con h2 _=>exact ⟨rfl,I.ZEr h h2⟩
 | con h r=>cases h2 with
  | lst h2 _=>exact (no h2 h).elim
  | tup h2 _=>exact ⟨rfl,I.ZEr h h2⟩
  | con h2 _=>exact ⟨rfl,I.ZEr h h2⟩
theorem ZNa {p:PV}(h:flat p=true):eqV (Fz.enc p) (Fz.enc p)=true:=by cases p <;> first | (cases h;done) | simp [Fz.enc,eqV]
theorem ZNZ (ih:∀ (x:V) (p q:PV),Rep H x p->Rep H x q->dat X.K d p->dat X.K d q->eqP p q=true):∀ {vs:List V}{xs ys:List PV},ZB5 H vs xs->ZB5 H vs ys->(∀ x∈xs,dat X.K d x)->(∀ y∈ys,dat X.K d y)->ZGT xs ys=true
 | _,_,_,.nil,.nil,_,_=>by rw [ZGT]
 | _,_,_,.cons r1 t1,.cons r2 t2,h1,h2=>by
  rw [ZCn,ih _ _ _ r1 r2 (h1 _ (by simp)) (h2 _ (by simp)),ZNZ ih t1 t2 (fun x hx=>h1 x (by simp [hx])) (fun x hx=>h2 x (by simp [hx]))];rfl
theorem ZTb (I:Inv X pins σ H s):∀ (d:Nat) (x:V) (p q:PV),Rep H x p->Rep H x q->dat X.K d p->dat X.K d q->eqP p q=true:=fun d=>by
 induction d with
 | zero=>
  intro x p q r1 r2 h1 h2
  rcases ZCZ h1 r1 with ⟨f1,e1⟩ | ⟨d',_,_,_,_,e,_⟩
  ·rcases ZCZ h2 r2 with ⟨f2,e2⟩ | ⟨d',_,_,_,_,e,_⟩
   ·rw [ZG3 f1 f2,<- e1,e2];exact ZNa f2
   ·cases e
  ·cases e
 | succ d ih=>
  intro x p q r1 r2 h1 h2
  rcases ZCZ h1 r1 with ⟨f1,e1⟩ | ⟨d1,tp,a,vs,xs,e,q1,k1⟩
  ·rcases ZCZ h2 r2 with ⟨f2,e2⟩ | ⟨d2,tp2,b,ws,ys,e,q2,k2⟩
   ·rw [ZG3 f1 f2,<- e1,e2];exact ZNa f2
   ·obtain ⟨_,ex,_⟩:=q2.ZOk I
    subst ex
    cases p <;> first | (cases f1;done) | (cases e1;done)
  ·cases e
   rcases ZCZ h2 r2 with ⟨f2,e2⟩ | ⟨d2,tp2,b,ws,ys,e,q2,k2⟩
   ·obtain ⟨_,ex,_⟩:=q1.ZOk I
    subst ex
    cases q <;> first | (cases f2;done) | (cases e2;done)
   ·cases e
    obtain ⟨_,ex,_,_,r3⟩:=q1.ZOk I
    obtain ⟨_,ey,_,_,r4⟩:=q2.ZOk I
    rw [ex] at ey;cases ey
    obtain ⟨et,ev⟩:=q1.inj I q2
    subst ev
    rw [ZNF q1 q2,if_pos et]
    exact ZNZ ih r3 r4 k1 k2
theorem ZOr {vs ws:List V}{its its2:List Value}{xs ys:List PV}(r1:Vals vs its) (r2:Vals ws its2) (q1:ZB5 H vs xs) (q2:ZB5 H ws ys):its.toArray.size=xs.length/\its2.toArray.size=ys.length:=by
 have l1:=r1.length;have l2:=r2.length;have l3:=q1.length;have l4:=q2.length
 simp only [List.size_toArray]
 omega
theorem ZVs {A:Around}{tp tp2:Bool}{a b:Addr}{vs ws:List V}{its its2:List Value}{xs ys:List PV}(h1:ZWB s.heap tp a its.toArray) (h2:ZWB s.heap tp2 b its2.toArray) (r1:Vals vs its) (r2:Vals ws its2) (q1:ZB5 H vs xs) (q2:ZB5 H ws ys) (hu:A.units < cLine)
  (h:∀ (x y:V) (p q:PV) (u v:Value),p∈xs->q∈ys->Rep H x p->Rep H y q->RelV x u->RelV y v->SeqAt.EqAt A.in1 s u v (eqP p q)) :
  SeqAt.RcAt A s (.ref a) (.ref b) (if tp=tp2 then ZGT xs ys else false)/\SeqAt.RcNeAt A s (.ref a) (.ref b) (!(if tp=tp2 then ZGT xs ys else false)):=by
 obtain ⟨z1,z2⟩:=ZOr r1 r2 q1 q2
 have it:=ZRh (A:=A.in1) r1 r2 q1 q2 h
 cases tp with
 | false=>cases tp2 with
  | false=>
   rw [if_pos rfl]
   have h1':s.heap.IsList a its.toArray:=h1
   have h2':s.heap.IsList b its2.toArray:=h2
   by_cases hl:xs.length=ys.length
   ·rw [ZGw xs ys hl,<- z1]
    exact ⟨.lists h1' h2' (by omega) hu it,.lists h1' h2' (by omega) hu it⟩
   ·rw [ZEI xs ys hl]
    have hne:(its.toArray.size != its2.toArray.size)=true:=by simp only [bne_iff_ne,ne_eq];omega
    exact ⟨.lists_lengths h1' h2' hne hu,.lists_lengths h1' h2' hne hu⟩
  | true=>rw [if_neg (by decide)];exact ⟨.list_tuple h1 h2 hu,.list_tuple h1 h2 hu⟩
 | true=>cases tp2 with
  | false=>rw [if_neg (by decide)];exact ⟨.tuple_list h1 h2 hu,.tuple_list h1 h2 hu⟩
  | true=>
   rw [if_pos rfl]
   have h1':IsTup s.heap a its.toArray:=h1
   have h2':IsTup s.heap b its2.toArray:=h2
   have e:((List.range (min its.toArray.size its2.toArray.size)).all (fun j=>eqP (xs.getD j .non) (ys.getD j .non)) && its.toArray.size == its2.toArray.size)=ZGT xs ys:=by
    by_cases hl:xs.length=ys.length
    ·rw [ZGw xs ys hl,z1,z2,<- hl,Nat.min_self,beq_self_eq_true,Bool.and_true]
    ·rw [ZEI xs ys hl,z1,z2,show (xs.length == ys.length)=false from by simpa using hl,Bool.and_false]
   have k1:=SeqAt.RcAt.tuples (A:=A) (e:=fun j=>eqP (xs.getD j .non) (ys.getD j .non)) h1' h2' hu it
   have k2:=SeqAt.RcNeAt.tuples (A:=A) (e:=fun j=>eqP (xs.getD j .non) (ys.getD j .non)) h1' h2' hu it
   rw [e] at k1 k2
   exact ⟨k1,k2⟩
theorem ZWx (I:Inv X pins σ H s):∀ (d:Nat) (x y:V) (p q:PV),Rep H x p->Rep H y q->dat X.K d p->dat X.K d q->∀ (A:Around) (u v:Value),RelV x u->RelV y v->A.units+d < cLine->SeqAt.EqAt A s u v (eqP p q):=fun d=>by
 induction d with
 | zero=>
  intro x y p q r1 r2 h1 h2 A u v ru rv hu
  rcases ZCZ h1 r1 with ⟨f1,e1⟩ | ⟨_,_,_,_,_,e,_⟩
  ·rcases ZCZ h2 r2 with ⟨f2,e2⟩ | ⟨_,_,_,_,_,e,_⟩
   ·subst e1;subst e2
    rw [ZG3 f1 f2]
    exact ZNT ru rv (ZHe f1) (ZHe f2)
   ·cases e
  ·cases e
 | succ d ih=>
  intro x y p q r1 r2 h1 h2 A u v ru rv hu
  rcases ZCZ h1 r1 with ⟨f1,e1⟩ | ⟨d1,tp,a,vs,xs,e,q1,k1⟩
  ·rcases ZCZ h2 r2 with ⟨f2,e2⟩ | ⟨d2,tp2,b,ws,ys,e,q2,k2⟩
   ·subst e1;subst e2
    rw [ZG3 f1 f2]
    exact ZNT ru rv (ZHe f1) (ZHe f2)
   ·obtain ⟨its,ey,_,j,_⟩:=q2.ZOk I
    subst e1;subst ey
    cases (show v=Value.ref b from rv)
    rw [(ZHg q2 f1).2]
    exact (ZKO j f1 ru (by omega)).1.2
  ·cases e
   rcases ZCZ h2 r2 with ⟨f2,e2⟩ | ⟨d2,tp2,b,ws,ys,e,q2,k2⟩
   ·obtain ⟨its,ex,_,j,_⟩:=q1.ZOk I
    subst e2;subst ex
    cases (show u=Value.ref a from ru)
    rw [(ZHg q1 f2).1]
    exact (ZKO j f2 rv (by omega)).1.1
   ·cases e
    obtain ⟨its,ex,v1,j1,w1⟩:=q1.ZOk I
    obtain ⟨its2,ey,v2,j2,w2⟩:=q2.ZOk I
    subst ex;subst ey
    cases (show u=Value.ref a from ru)
    cases (show v=Value.ref b from rv)
    by_cases hab:a=b
    ·subst hab
     rw [ZTb I (d+1) _ p q r1 r2 h1 h2]
     exact .same _
    ·rw [ZNF q1 q2]
     refine SeqAt.EqAt.of_refs hab (ZVs j1 j2 v1 v2 w1 w2 (by omega) fun x y p q u v hp hq r1 r2 ru rv=>?_).1
     exact ih x y p q r1 r2 (k1 p hp) (k2 q hq) A.in1 u v ru rv (by show A.units+1+d < cLine;omega)
theorem ZUf (I:Inv X pins σ H s) (d:Nat) (x y:V) (p q:PV) (r1:Rep H x p) (r2:Rep H y q) (h1:dat X.K d p) (h2:dat X.K d q) (A:Around) (u v:Value) (ru:RelV x u) (rv:RelV y v) (hu:A.units+d < cLine):SeqAt.RcAt A s u v (eqP p q)/\SeqAt.RcNeAt A s u v (!eqP p q):=by
 rcases ZCZ h1 r1 with ⟨f1,e1⟩ | ⟨d1,tp,a,vs,xs,e,q1,k1⟩
 ·rcases ZCZ h2 r2 with ⟨f2,e2⟩ | ⟨d2,tp2,b,ws,ys,e,q2,k2⟩
  ·subst e1;subst e2
   exact ZU2 f1 f2 ru rv
  ·obtain ⟨its,ey,_,j,_⟩:=q2.ZOk I
   subst e1;subst ey
   cases (show v=Value.ref b from rv)
   rw [(ZHg q2 f1).2]
   have z:=ZKO (A:=A) j f1 ru (by omega)
   exact ⟨z.2.1.2,z.2.2.2⟩
 ·rcases ZCZ h2 r2 with ⟨f2,e2⟩ | ⟨d2,tp2,b,ws,ys,e2,q2,k2⟩
  ·obtain ⟨its,ex,_,j,_⟩:=q1.ZOk I
   subst e2;subst ex
   cases (show u=Value.ref a from ru)
   rw [(ZHg q1 f2).1]
   have z:=ZKO (A:=A) j f2 rv (by omega)
   exact ⟨z.2.1.1,z.2.2.1⟩
  ·subst e;cases e2
   obtain ⟨its,ex,v1,j1,w1⟩:=q1.ZOk I
   obtain ⟨its2,ey,v2,j2,w2⟩:=q2.ZOk I
   subst ex;subst ey
   cases (show u=Value.ref a from ru)
   cases (show v=Value.ref b from rv)
   rw [ZNF q1 q2]
   exact ZVs j1 j2 v1 v2 w1 w2 (by omega) fun x y p q u v hp hq r1 r2 ru rv=>ZWx I d1 x y p q r1 r2 (k1 p hp) (k2 q hq) A.in1 u v ru rv (by show A.units+1+d1 < cLine;omega)
def ZWF (K:PySem.W.Frag) (neg:Bool):R2:=fun x y H Q=>∃ p q,Rep H x p/\Rep H y q/\dat K 40 p/\dat K 40 q/\Q (.bl (if neg then !eqP p q else eqP p q)) H
theorem ZIJ (hu:X.A.units+64 < cLine):OpR X (compareOp .Eq) (ZWF X.K false):=by
 intro pins s σ H x y v u Q I rx ry h
 obtain ⟨p,q,r1,r2,d1,d2,hQ⟩:=h
 exact (ZUf I 40 x y p q r1 r2 d1 d2 X.A _ _ rx ry (by omega)).1 _ _ _ _ ⟨.bl (eqP p q),H,I,rfl,hQ⟩
theorem ZLs (hu:X.A.units+64 < cLine):OpR X (compareOp .NotEq) (ZWF X.K true):=by
 intro pins s σ H x y v u Q I rx ry h
 obtain ⟨p,q,r1,r2,d1,d2,hQ⟩:=h
 exact (ZUf I 40 x y p q r1 r2 d1 d2 X.A _ _ rx ry (by omega)).2 _ _ _ _ ⟨.bl (!eqP p q),H,I,rfl,hQ⟩
end
section
variable [Xw]
variable {ss:List Slot}{K:PySem.W.Frag}{ta tb:TE}{k:PV->Prop}
theorem ZHD (h:Wp ss ta fun p=>Wp ss tb fun q=>dat K 40 p/\dat K 40 q/\k (.bl (eqP p q))):Wp ss (tOp (ZWF K false) ta tb) k:=⟨fun E σ F H Q S q=>
 h.go E σ F H _ S fun v p F1 H1 m1 r1 h2=>h2.go E σ F1 H1 _ m1.st fun v2 p2 F2 H2 m2 r2 ⟨d1,d2,kk⟩=>
  ⟨p,p2,(r1.mono m2.ff).mono m2.st.fh,r2.mono m2.st.fh,d1,d2,q _ _ F2 H2 (m1.trans m2) (.bl _) kk⟩⟩
theorem ZI7 (h:Wp ss ta fun p=>Wp ss tb fun q=>dat K 40 p/\dat K 40 q/\k (.bl (!eqP p q))):Wp ss (tOp (ZWF K true) ta tb) k:=⟨fun E σ F H Q S q=>
 h.go E σ F H _ S fun v p F1 H1 m1 r1 h2=>h2.go E σ F1 H1 _ m1.st fun v2 p2 F2 H2 m2 r2 ⟨d1,d2,kk⟩=>
  ⟨p,p2,(r1.mono m2.ff).mono m2.st.fh,r2.mono m2.st.fh,d1,d2,q _ _ F2 H2 (m1.trans m2) (.bl _) kk⟩⟩
end
end Fz
namespace Fz
open L2 Lw
def OV.at:OV->List Nat->Option OV
 | t,[]=>some t
 | .nd _ _ xs,j :: p=>(xs[j]?).bind fun x=>x.at p
 | .tp xs,j :: p=>(xs[j]?).bind fun x=>x.at p
 | .fz _,_ :: _=>none
termination_by _ p=>p.length
def OV.put:OV->List Nat->OV->OV
 | _,[],n=>n
 | .nd k a xs,j :: p,n=>match xs[j]? with
  | some x=>.nd k a (xs.set j (x.put p n))
  | none=>.nd k a xs
 | .tp xs,j :: p,n=>match xs[j]? with
  | some x=>.tp (xs.set j (x.put p n))
  | none=>.tp xs
 | .fz p,_ :: _,_=>.fz p
termination_by _ p=>p.length
theorem OV.ZM1 {t:OV}:t.at []=some t:=by rw [OV.at]
theorem OV.ZRL {k:NK}{a:Addr}{xs:List OV}{j:Nat}{p:List Nat}:(OV.nd k a xs).at (j :: p)=(xs[j]?).bind fun x=>x.at p:=by rw [OV.at]
theorem OV.ZRb {xs:List OV}{j:Nat}{p:List Nat}:(OV.tp xs).at (j :: p)=(xs[j]?).bind fun x=>x.at p:=by rw [OV.at]
theorem OV.ZTK {t n:OV}:t.put [] n=n:=by rw [OV.put]
theorem OV.ZVX {k:NK}{a:Addr}{xs:List OV}{j:Nat}{p:List Nat}{n x:OV}(h:xs[j]?=some x):(OV.nd k a xs).put (j :: p) n=.nd k a (xs.set j (x.put p n)):=by rw [OV.put,h]
theorem OV.ZVh {xs:List OV}{j:Nat}{p:List Nat}{n x:OV}(h:xs[j]?=some x):(OV.tp xs).put (j :: p) n=.tp (xs.set j (x.put p n)):=by rw [OV.put,h]
theorem OV.ZKC {u w:OV}:∀ {p:List Nat}{t:OV}{j:Nat},t.at p=some u->u.at [j]=some w->t.at (p++[j])=some w
 | [],t,j,h,h2=>by rw [OV.ZM1] at h;cases h;exact h2
 | i :: p,.nd k a xs,j,h,h2=>by
  rw [OV.ZRL] at h
  rw [List.cons_append,OV.ZRL]
  cases e:xs[i]? with
  | none=>rw [e] at h;cases h
  | some x=>rw [e] at h;exact OV.ZKC (t:=x) h h2
 | i :: p,.tp xs,j,h,h2=>by
  rw [OV.ZRb] at h
  rw [List.cons_append,OV.ZRb]
  cases e:xs[i]? with
  | none=>rw [e] at h;cases h
  | some x=>rw [e] at h;exact OV.ZKC (t:=x) h h2
 | i :: p,.fz q,j,h,h2=>by rw [OV.at] at h;cases h
theorem ZEe:∀ {xs:List OV}{j:Nat}{x:OV},xs[j]?=some x->∃ l r,OV.ZDH xs=l++x.addrs++r/\∀ y:OV,OV.ZDH (xs.set j y)=l++y.addrs++r
 | x :: xs,0,z,h=>by
  simp at h;subst h
  exact ⟨[],OV.ZDH xs,by rw [OV.ZCX];rfl,fun y=>by rw [List.set_cons_zero,OV.ZCX];rfl⟩
 | x :: xs,j+1,z,h=>by
  obtain ⟨l,r,e1,e2⟩:=ZEe (xs:=xs) (j:=j) (x:=z) (by simpa using h)
  refine ⟨x.addrs++l,r,by rw [OV.ZCX,e1];simp [List.append_assoc],fun y=>by rw [List.set_cons_succ,OV.ZCX,e2];simp [List.append_assoc]⟩
theorem OV.split {u:OV}:∀ {p:List Nat}{t:OV},t.at p=some u->∃ l r,t.addrs=l++u.addrs++r/\∀ n:OV,(t.put p n).addrs=l++n.addrs++r
 | [],t,h=>by rw [OV.ZM1] at h;cases h;exact ⟨[],[],by simp,fun n=>by rw [OV.ZTK];simp⟩
 | j :: p,.nd k a xs,h=>by
  rw [OV.ZRL] at h
  cases e:xs[j]? with
  | none=>rw [e] at h;cases h
  | some x=>
   rw [e] at h
   obtain ⟨l,r,e1,e2⟩:=ZEe e
   obtain ⟨l2,r2,f1,f2⟩:=OV.split (t:=x) h
   refine ⟨a :: (k.more++(l++l2)),r2++r,by rw [OV.ZGJ,e1,f1];simp [List.append_assoc],fun n=>by rw [OV.ZVX e,OV.ZGJ,e2,f2];simp [List.append_assoc]⟩
 | j :: p,.tp xs,h=>by
  rw [OV.ZRb] at h
  cases e:xs[j]? with
  | none=>rw [e] at h;cases h
  | some x=>
   rw [e] at h
   obtain ⟨l,r,e1,e2⟩:=ZEe e
   obtain ⟨l2,r2,f1,f2⟩:=OV.split (t:=x) h
   refine ⟨l++l2,r2++r,by rw [OV.ZHn,e1,f1];simp [List.append_assoc],fun n=>by rw [OV.ZVh e,OV.ZHn,e2,f2];simp [List.append_assoc]⟩
 | j :: p,.fz q,h=>by rw [OV.at] at h;cases h
theorem ZCt.get {F H:Hp}:∀ {vs:List V}{ts:List OV}{j:Nat}{t:OV},ZCt F H vs ts->ts[j]?=some t->∃ v,vs[j]?=some v/\ZJY F H v t
 | _,_,_,_,.nil,e=>by simp at e
 | _,_,0,_,.cons r _,e=>by simp at e;subst e;exact ⟨_,rfl,r⟩
 | _,_,j+1,t,.cons _ q,e=>by
  obtain ⟨u,h1,h2⟩:=ZCt.get (j:=j) (t:=t) q (by simpa using e)
  exact ⟨u,by simpa using h1,h2⟩
theorem ZCt.fzs {F H:Hp}:∀ {vs:List V}{xs:List PV},ZCt F H vs (xs.map .fz)->ZB5 F vs xs
 | _,[],.nil=>.nil
 | _,_ :: _,.cons (.fz r) t=>.cons r (ZCt.fzs t)
end Fz
namespace Fz
open L2 Lw
section
variable {E:Ent0}{ss:List Slot}{σ:L2.St} {F H F' H':Hp}
end
structure Wl [Xw] (ss:List Slot) (i:Nat) (t:OV) (te:TE) (k:List Nat->OV->Prop):Prop where
 hi:∃ lt,ss[i]?=some (.ow lt t)
 go:∀ (E:Ent) (σ:L2.St) (F H:Hp) (Q:VK),Sg E ss σ F H->(∀ v p u F' H',Mv E ss σ F H F' H'->ZJY F' H' v u->t.at p=some u->k p u->Q v H')->te σ H Q
section
variable [Xw]
variable {ss:List Slot}{K:PySem.W.Frag}{ta tb tc te ti:TE}{nx:List Slot->Prop}{R:Ret}{k:PV->Prop}{xs:List PV}{i:Nat}{t:OV}
theorem OV.ZSc {u:OV}{p:List Nat}(h:t.at p=some u):∀ a∈u.addrs,a∈t.addrs:=fun a ha=>by
 obtain ⟨l,r,e,_⟩:=OV.split h
 rw [e];simp [ha]
theorem ZJY.mv {E:Ent0}{σ:L2.St} {F H F' H':Hp}{v:V}{u:OV}{p:List Nat}(r:ZJY F H v u) (S:Sg E ss σ F H) (hi:∃ lt,ss[i]?=some (.ow lt t)) (h:t.at p=some u) (m:Mv E ss σ F H F' H'):ZJY F' H' v u:=
 r.mono m.ff fun a ha o e=>m.hh a o (S.ZHb hi.choose_spec (OV.ZSc h a ha) (by simp)) e
theorem ZEw {lt:Bool}{k:List Nat->OV->Prop}(hi:ss[i]?=some (.ow lt t)) (hk:k [] t):Wl ss i t (ZFG i) k:=⟨⟨lt,hi⟩,fun E σ F H Q S q=>by
 obtain ⟨v,e,r,_,_⟩:=S.ok i _ hi
 exact ⟨v,e,q v [] t F H (.refl S) r OV.ZM1 hk⟩⟩
theorem ZJX {k:List Nat->OV->Prop}(h:Wl ss i t ta fun p u=>∃ a xs,u=.nd .lst a xs/\Wp ss tb fun q=>∃ (j:Int) (n:Nat) (w:OV),q=.int j/\ixN xs.length j=some n/\xs[n]?=some w/\k (p++[n]) w):Wl ss i t (tOp (ZVr K) ta tb) k:=⟨h.hi,fun E σ F H Q S q=>
 h.go E σ F H _ S fun v p u F1 H1 m1 r1 h1 ⟨a,xs,eu,h2⟩=>h2.go E σ F1 H1 _ m1.st fun v2 p2 F2 H2 m2 r2 ⟨j,n,w,e,hn,hw,kk⟩=>by
  subst e;cases r2
  have r3:=r1.mv m1.st h.hi h1 m2
  subst eu
  cases r3 with
  | nd ha sd ft rr=>
   obtain ⟨x,hx,rx⟩:=rr.get hw
   refine ⟨a,_,j,x,rfl,rfl,SqL.of ha,?_,q x (p++[n]) w F2 H2 (m1.trans m2) rx (OV.ZKC h1 (by rw [OV.ZRL,hw];exact OV.ZM1)) kk⟩
   unfold L2.atI
   rw [rr.length,hn]
   exact hx⟩
theorem ZJJ {k:List Nat->OV->Prop}(h:Wl ss i t ta fun p u=>∃ xs,u=.tp xs/\Wp ss tb fun q=>∃ (j:Int) (n:Nat) (w:OV),q=.int j/\ixN xs.length j=some n/\xs[n]?=some w/\k (p++[n]) w):Wl ss i t (tOp (ZTW K) ta tb) k:=⟨h.hi,fun E σ F H Q S q=>
 h.go E σ F H _ S fun v p u F1 H1 m1 r1 h1 ⟨xs,eu,h2⟩=>h2.go E σ F1 H1 _ m1.st fun v2 p2 F2 H2 m2 r2 ⟨j,n,w,e,hn,hw,kk⟩=>by
  subst e;cases r2
  have r3:=r1.mv m1.st h.hi h1 m2
  subst eu
  cases r3 with
  | tp ha rr=>
   obtain ⟨x,hx,rx⟩:=rr.get hw
   refine ⟨_,_,j,x,rfl,rfl,SqT.of (m2.st.fh _ _ ha),?_,q x (p++[n]) w F2 H2 (m1.trans m2) rx (OV.ZKC h1 (by rw [OV.ZRb,hw];exact OV.ZM1)) kk⟩
   unfold L2.atI
   rw [rr.length,hn]
   exact hx⟩
theorem ZV4 (h:Wl ss i t te fun _ u=>∃ p,u=.fz p/\k p):Wp ss te k:=⟨fun E σ F H Q S q=>
 h.go E σ F H _ S fun v p u F1 H1 m1 r1 h1 ⟨p,eu,kk⟩=>by subst eu;cases r1 with | fz r=>exact q v p F1 H1 m1 r kk⟩
theorem ZWY {k:Bool->List PV->Prop}(h:Wl ss i t te fun _ u=>∃ a ps,u=.nd .lst a (ps.map .fz)/\k false ps):Wq ss te k:=⟨fun E σ F H Q S q=>
 h.go E σ F H _ S fun v p u F1 H1 m1 r1 h1 ⟨a,ps,eu,kk⟩=>by
  subst eu
  have np:ZMj ss σ a:=m1.st.ZHb h.hi.choose_spec (OV.ZSc h1 a (by rw [OV.ZGJ];simp)) (by simp)
  cases r1 with
  | nd ha sd ft rr=>exact q _ false ps F1 H1 m1 ⟨a,_,rfl,np,ha,rr.fzs⟩ kk⟩
theorem ZMd (h:Wl ss i t te fun _ u=>∃ a xs,u=.nd .lst a xs/\k (.int xs.length)):Wp ss (tCB (ZRA K) (ZAe te ZCq)) k:=⟨fun E σ F H Q S q=>
 h.go E σ F H _ S fun v p u F1 H1 m1 r1 h1 ⟨a,xs,eu,kk⟩=>by
  subst eu
  cases r1 with
  | nd ha sd ft rr=>
   refine ⟨a,_,rfl,.inl (SqL.of ha),?_⟩
   rw [rr.length]
   exact q _ _ F1 H1 m1 (.int _) kk⟩
end
end Fz
namespace Fz
open L2 Lw
section
variable [Xw]
variable {ss:List Slot}{K:PySem.W.Frag}{ta tb tc te ti:TE}{nx:List Slot->Prop}{R:Ret}{k:PV->Prop}{xs:List PV}{i:Nat}{t:OV}{lt:Bool}
end
end Fz
namespace Fz
open L2 Lw
section
variable [Xw]
variable {ss:List Slot}{K:PySem.W.Frag}{ta tb tc te ti:TE}{nx:List Slot->Prop}{R:Ret}{k:PV->Prop}{xs ps:List PV}{i j:Nat}{t:OV}{lt:Bool}{p:List Nat}{a:Addr}
theorem ZB5.erase {F:Hp}:∀ {vs:List V}{xs:List PV}(n:Nat),ZB5 F vs xs->ZB5 F (vs.eraseIdx n) (xs.eraseIdx n)
 | _,_,_,.nil=>.nil
 | _,_,0,.cons _ t=>t
 | _,_,n+1,.cons r t=>.cons r (ZB5.erase n t)
end
end Fz
namespace Fz
open L2 Lw
section
variable {E:Ent0}{ss:List Slot}{σ:L2.St} {F H F' H':Hp}
end
section
variable [Xw]
variable {ss:List Slot}{K:PySem.W.Frag}{ta tb tc te ti:TE}{tr:TA}{nx:List Slot->Prop}{R:Ret}{k:PV->Prop}{xs ps:List PV}{i j:Nat}{t:OV}{lt:Bool}{pre:Pre}
end
end Fz
namespace Fz
open L2 Lw
section
variable [Xw]
variable {ss:List Slot}{K:PySem.W.Frag}{ta tb tc te ti:TE}{tr:TA}{nx:List Slot->Prop}{R:Ret}{k:PV->Prop}{xs ps:List PV}{i j:Nat}{t:OV}{lt:Bool}{pre:Pre}
end
theorem ZG2:∀ {xs:List PV},(∀ x∈xs,eqP x x=true)->ZGT xs xs=true
 | [],_=>by rw [ZGT]
 | x :: r,h=>by rw [ZCn,h x (by simp),ZG2 (xs:=r) fun y hy=>h y (by simp [hy])];rfl
theorem ZNW {K:PySem.W.Frag}:∀ (d:Nat){p:PV},dat K d p->eqP p p=true:=by
 intro d
 induction d with
 | zero=>intro p h;cases p <;> first | exact h.elim | (rw [eqP] <;> simp)
 | succ d ih=>
  intro p h
  cases p with
  | lst xs=>rw [eqP];exact ZG2 fun x hx=>ih (h x hx)
  | tup xs=>rw [eqP];exact ZG2 fun x hx=>ih (h x hx)
  | con a xs=>rw [eqP];exact ZG2 fun x hx=>ih (h.1 x hx)
  | _=>first | exact h.elim | (rw [eqP] <;> simp)
end Fz
namespace L2
structure Exn (h:Heap) (ea:Addr) (C:Value) (dx tb:Option Addr):Prop where
 obj:∃ oe vs,h.get? ea=some oe/\oe.cls=C/\oe.dict=dx/\oe.data=.fields vs/\1 < vs.size/\vs[1]?=some (tb.elim Value.none Value.ref)
 ent:∀ T,tb=some T->T≠ea/\∃ oT ts,h.get? T=some oT/\oT.data=.fields ts/\3 < ts.size/\ts[3]?=some Value.none
section
variable {M:Model}{A:Around}{E:Value->Shared->Prop}{s:Shared}{base:Heap}{env:Env}{outer:List Env}{L ea:Addr}{C:Value}{dx tb:Option Addr}{Q:Unit->Shared->Prop}
theorem ZRC (o:Obj) (g:Array Value->Array Value):(o.mapFields g).dict=o.dict:=by
 obtain ⟨c,d,dt,sl⟩:=o
 cases dt <;> rfl
structure Kp (l:List Env) (ea:Addr) (tb:Option Addr) (h h':Heap):Prop where
 keep:∀ b o,h.get? b=some o->b∉frs l->b≠ea->tb≠some b->h'.get? b=some o
 slot:∀ b o,h.get? b=some o->b∈frs l->∃ sl,h'.get? b=some { o with slots:=sl }
 size:h.objs.size<=h'.objs.size
theorem ZNP (hl:s.heap.FunFrames base (env :: outer)){b:Addr}{o:Obj}{vs:Array Value}(ho:s.heap.get? b=some o) (hd:o.data=.fields vs):b∉frs (env :: outer):=fun hm=>by
 obtain ⟨_,u,hu,hn⟩:=hl.mem hm
 rw [ho] at hu
 cases hu
 exact hn vs hd
theorem ZJd {head:Value}{more:Bool}{oe:Obj}{vs:Array Value}(hfr:A.frames=some (env :: outer)) (hl:s.heap.FunFrames base (env :: outer)) (hf:env.frame=some L)
  (he:s.heap.get? ea=some oe) (hc:oe.cls=C) (hdx:oe.dict=dx) (hd:oe.data=.fields vs) (hz:1 < vs.size)
  (h:∀ h' T,Kp (env :: outer) ea none s.heap h'->s.heap.objs.size<=T->Exn h' ea C dx (some T)->Q () { s with heap:=h' }) :
  wpAny M A (do
   let fr <- frameOf env
   let pl <- entryPlaceOf L more
   let b <- EntryCells.newEntry head fr Value.none (rawInt L) Value.none pl
   setField (.ref ea) 1 b) (fun _ s'=>wpAny M A (setFlight (.ref ea) none) Q E s') E s:=by
 have nfe:=ZNP hl he hd
 refine wpAny_bind (wpAny_frameOf_fun hfr hl hf fun g so=>?_)
 refine wpAny_bind (wpAny_entryPlaceOf fun pl ip=>?_)
 unfold EntryCells.newEntry newFields
 refine wpAny_bind (wpAny_newObj_type ?_ (ip.sizeOk5 _ _ _ _ _))
 generalize hT:([head,Value.ref L,Value.none,rawInt L,Value.none]++(if pl.isEmpty then List.replicate 6 Value.none else pl)).toArray=ts
 have tz:3 < ts.size:=by
  rw [<- hT]
  simp only [List.size_toArray,List.length_append,List.length_cons,List.length_nil]
  omega
 have eg:g.get? ea=some oe:=(so.2.1 ea nfe).trans he
 have gT:(g.push { cls:=.type "traceback", dict:=none,data:=.fields ts }).get? g.objs.size=some { cls:=.type "traceback", dict:=none,data:=.fields ts }:=Heap.get?_push_size g rfl
 have ge:=Heap.get?_push_of_some (h:=g) { cls:=.type "traceback", dict:=none,data:=.fields ts } eg
 refine wpAny_setField ge hd hz ?_
 have tne:g.objs.size≠ea:=Nat.ne_of_gt (Heap.lt_size eg)
 have d3:=Obj.data_mapFields hd (·.setIfInBounds 1 (Value.ref g.objs.size))
 have e3:=Heap.get?_update_self (Obj.mapFields (·.setIfInBounds 1 (Value.ref g.objs.size))) ge (Obj.isFreed_of_fields d3)
 have T3:=(Heap.get?_update_other (g.push { cls:=.type "traceback", dict:=none,data:=.fields ts }) (Obj.mapFields (·.setIfInBounds 1 (Value.ref g.objs.size))) (Ne.symm tne)).trans gT
 unfold setFlight
 refine wpAny_bind (wpAny_field e3 d3 (x:=.ref g.objs.size) (by simp [hz]) ?_)
 rw [if_pos (show (Value.ref g.objs.size != Value.none)=true from by simp)]
 refine wpAny_setField T3 rfl tz (h _ g.objs.size ⟨fun b o hb hnf hbe _=>?_,fun b o hb hbf=>?_,?_⟩ ?_ ⟨⟨_,_,?_,?_,?_,d3,?_,?_⟩,fun T eT=>?_⟩)
 ·have gb:g.get? b=some o:=(so.2.1 b hnf).trans hb
  rw [Heap.get?_update_other _ _ (Nat.ne_of_gt (Heap.lt_size gb)),Heap.get?_update_other _ _ (Ne.symm hbe)]
  exact Heap.get?_push_of_some _ gb
 ·obtain ⟨sl,gb⟩:=so.2.2 b o hb
  refine ⟨sl,?_⟩
  rw [Heap.get?_update_other _ _ (Nat.ne_of_gt (Heap.lt_size gb)),Heap.get?_update_other _ _ (by rintro rfl;exact nfe hbf)]
  exact Heap.get?_push_of_some _ gb
 ·rw [Heap.size_after_update,Heap.size_after_update,Heap.size_push,so.1]
  exact Nat.le_succ _
 ·rw [so.1];exact Nat.le_refl _
 ·rw [Heap.get?_update_other _ _ tne];exact e3
 ·rw [Obj.cls_mapFields];exact hc
 ·rw [ZRC];exact hdx
 ·simpa using hz
 ·simp [hz]
 ·cases eT
  refine ⟨tne,_,_,Heap.get?_update_self _ T3 (Obj.isFreed_of_fields (Obj.data_mapFields rfl _)),Obj.data_mapFields rfl _,by simpa using tz,?_⟩
  simp [tz]
theorem ZJG (hfr:A.frames=some (env :: outer)) (hl:s.heap.FunFrames base (env :: outer)) (hf:env.frame=some L) (hx:Exn s.heap ea C dx tb)
  (h:∀ h' T,Kp (env :: outer) ea tb s.heap h'->s.heap.objs.size<=T->Exn h' ea C dx (some T)->Q () { s with heap:=h' }) :
  wpAny M A (noteFrame (.ref ea) env) (fun _ s'=>wpAny M A (setFlight (.ref ea) none) Q E s') E s:=by
 obtain ⟨oe,vs,he,hc,hd,hdat,hz,h1⟩:=hx.obj
 unfold noteFrame
 simp only [hf]
 refine wpAny_bind (wpAny_field he hdat h1 ?_)
 cases tb with
 | none=>
  rw [if_neg (by decide)]
  exact ZJd hfr hl hf he hc hd hdat hz h
 | some T=>
  obtain ⟨tne,oT,ts,hT,hTd,tz,h3⟩:=hx.ent T rfl
  show wpAny M A (do if (Value.ref T != Value.none)=true then _ else _) _ _ _
  rw [if_pos (show (Value.ref T != Value.none)=true from by simp)]
  refine wpAny_bind (wpAny_field hT hTd h3 ?_)
  rw [if_neg (show ¬ ((Value.none == rawInt L)=true) from by simp [rawInt])]
  refine wpAny_bind (wpAny_setField hT hTd tz ?_)
  have oth:∀ b,b≠T->(s.heap.update T (Obj.mapFields (·.setIfInBounds 3 Value.none))).get? b=s.heap.get? b:=fun b hb=>Heap.get?_update_other _ _ (Ne.symm hb)
  have nT:=ZNP hl hT hTd
  refine ZJd (s:={ s with heap:=s.heap.update T (Obj.mapFields (·.setIfInBounds 3 Value.none)) }) hfr (hl.of_keeps fun b o hb hn=>⟨o,(oth b (by rintro rfl;rw [hT] at hb;cases hb;exact hn ts hTd)).trans hb,rfl⟩) hf ((oth ea (Ne.symm tne)).trans he) hc hd hdat hz fun h' T' k hn x=>?_
  have hT2:=Heap.get?_update_self (Obj.mapFields (·.setIfInBounds 3 Value.none)) hT (Obj.isFreed_of_fields (Obj.data_mapFields hTd _))
  refine h h' T' ⟨fun b o hb hnf hbe hbt=>k.keep b o ((oth b (by rintro rfl;exact hbt rfl)).trans hb) hnf hbe (by simp),fun b o hb hbf=>k.slot b o ((oth b (by rintro rfl;exact nT hbf)).trans hb) hbf,?_⟩ ?_ x
  ·have z:=k.size
   rw [show (s.heap.update T (Obj.mapFields (·.setIfInBounds 3 Value.none))).objs.size=s.heap.objs.size from Heap.size_after_update ..] at z
   exact z
  ·have z:=hn
   rw [show (s.heap.update T (Obj.mapFields (·.setIfInBounds 3 Value.none))).objs.size=s.heap.objs.size from Heap.size_after_update ..] at z
   exact z
theorem ZNG (hfr:A.frames=some (env :: outer)) (hl:s.heap.FunFrames base (env :: outer)) (hf:env.frame=some L) (hx:Exn s.heap ea C dx tb)
  (h:∀ h' T,Kp (env :: outer) ea tb s.heap h'->s.heap.objs.size<=T->Exn h' ea C dx (some T)->Q () { s with heap:=h' }):wpAny M A (leaving env (.ref ea)) Q E s:=by
 unfold leaving
 exact wpAny_bind (ZJG hfr hl hf hx h)
end
end L2
namespace L2
def CX1 (P:Program) (w:World):CXT:=fun outer H s E e s'=>∃ (ea C:Addr) (dx tb:Option Addr) (H':Hp),e=.ref ea/\s'.os=s.os/\AllBare s'.gens/\Un (frs outer) [] H H' s.heap s'.heap/\HOk P w H' s'.heap/\
 Exn s'.heap ea (.ref C) dx tb/\(H' ea=none/\s.heap.get? ea=none)/\(∀ T,tb=some T->H' T=none/\s.heap.get? T=none)/\E (.ref C) dx H'
def ZQL (X:Cx) (E:XK) (e:Value) (s':Shared):Prop:=∃ (pins:List (Addr×Obj)) (σ:St) (H':Hp) (ea C:Addr) (dx tb:Option Addr),e=.ref ea/\Inv X pins σ H' s'/\
 Exn s'.heap ea (.ref C) dx tb/\(H' ea=none/\X.s₀.heap.get? ea=none)/\(∀ T,tb=some T->H' T=none/\X.s₀.heap.get? T=none)/\E (.ref C) dx H'
section
variable {P:Program}{w:World}{K:PySem.W.Frag}{mg:Str->Option Value}{base:Heap}{N:List Str}{qual:Str}{scope:Scope}{f:Addr}{cd:Value}{A:Around}{outer:List Env}{s:Shared}{H:Hp}{E:XK}
theorem HOk.ZV3 {H':Hp}{h h':Heap}(ok:HOk P w H' h) (k:∀ b u,H' b≠none->h.get? b=some u->h'.get? b=some u):HOk P w H' h':=fun a o e=>
 (ok a o e).ZSa (fun b u hb hu=>k b u (by rcases hb with rfl | hb;(rw [e];simp);(rw [hb];simp)) hu) (fun _ z=>z) fun _ _ z=>z
theorem ZQL.leave {e:Value}{s':Shared}(r:ZQL (ZLH (CX1 P w) P w K mg base N qual scope f cd A outer s H E) E e s'):(ZLH (CX1 P w) P w K mg base N qual scope f cd A outer s H E).xe e s':=by
 obtain ⟨pins,σ,H',ea,C,dx,tb,rfl,I,x,⟨u1,u2⟩,ut,hE⟩:=r
 have fr:=I.ok.frames
 change s.heap.get? ea=none at u2
 have ut:∀ T,tb=some T->H' T=none/\s.heap.get? T=none:=ut
 refine ZNG (outer:=outer) (L:=s.heap.objs.size) fr I.stack rfl x fun h' T kp hT x'=>?_
 have nfr:∀ b o,s.heap.get? b=some o->b≠s.heap.objs.size:=fun b o hb=>Nat.ne_of_lt (Heap.lt_size hb)
 have mem:∀ b,b∈frs (envOfC qual scope s.heap.objs.size f cd :: outer)->b=s.heap.objs.size∨b∈frs outer:=fun b hb=>by
  rcases List.mem_cons.mp (I.ZLJ b hb) with z | z
  ·exact .inl z
  ·exact .inr z
 have old:∀ b o,s'.heap.get? b=some o->H' b≠none->h'.get? b=some o:=fun b o hb hn=>kp.keep b o hb (fun z=>hn (I.ZKn b z)) (fun z=>hn (z▸u1)) fun z=>hn (ut b z).1
 refine ⟨ea,C,dx,some T,H',rfl,I.os,I.bare,⟨fun b o hb hn hf _=>?_,fun b o hb hn hf _=>?_,fun b o hb hn hx=>I.base.free b o hb hn hx,fun b o hb hx=>?_,I.base.tups,I.base.frzs,I.base.tbls⟩,I.hok.ZV3 fun b u hn hb=>old b u hb hn,x',⟨u1,u2⟩,fun T' eT=>?_,hE⟩
 ·refine kp.keep b o (I.base.keep b o hb hn hf (by simp [ZLH])) (fun z=>(mem b z).elim (nfr b o hb) hf) (by rintro rfl;rw [u2] at hb;cases hb) fun z=>?_
  rw [(ut b z).2] at hb;cases hb
 ·obtain ⟨sl,h1⟩:=I.base.slot b o hb hn hf (by simp [ZLH])
  have hin:b∈frs (envOfC qual scope s.heap.objs.size f cd :: outer):=by
   show b∈List.filterMap _ (_ :: _)
   rw [List.filterMap_cons]
   exact List.mem_cons_of_mem _ hf
  obtain ⟨sl2,h2⟩:=kp.slot b _ h1 hin
  exact ⟨sl2,h2⟩
 ·obtain ⟨o1,h1⟩:=I.base.there b o hb (by simp [ZLH])
  by_cases hf:b∈frs (envOfC qual scope s.heap.objs.size f cd :: outer)
  ·obtain ⟨sl2,h2⟩:=kp.slot b _ h1 hf
   exact ⟨_,h2⟩
  ·exact ⟨o1,kp.keep b o1 h1 hf (by rintro rfl;rw [u2] at hb;cases hb) fun z=>by rw [(ut b z).2] at hb;cases hb⟩
 ·cases eT
  exact ⟨I.hok.fresh hT,Heap.get?_none_of_le (Nat.le_trans I.sz hT)⟩
end
section
variable {X:Cx}{P:Program}{w:World}
end
end L2
namespace L2
abbrev ZXG:List Value:=[.type "ValueError", .type "Exception", .type "BaseException", .type "object"]
structure ZUp (h:Heap) (C:Addr) (ini:Option Value):Prop where
 obj:∃ bm N nm q bs hdct sn sub ab col dd k0 k1 k2 k3 k5 mN,h.get? C=some (excClassObj nm q C N bs bm hdct sn sub ab col dd k0 k1 k2 k3 k5 "ValueError.__new__")/\h.Ns N mN/\mN "__init__" = ini/\OwnTail h ZXG bm
def ZNH (K:PySem.W.Frag) (C:Addr) (ini:Option Value):Bool:=match K.lookup C with
 | some ⟨.type "type", _,.cls cd,sl⟩=>(match cd.mro,sl.toList with
  | .ref C' :: bm,[_,_,_,_,some (.builtin n),_]=>C' == C && n == "ValueError.__new__" && !cd.hasDel && PySem.W.tailIn K ZXG bm && PySem.W.nsOkIn K cd.ns && PySem.W.nsIn K cd.ns "__init__" == some ini
  | _,_=>false)
 | _=>false
theorem ZG8 {K:PySem.W.Frag}{h:Heap}{C:Addr}{ini:Option Value}(X:K.In h) (q:ZNH K C ini=true):ZUp h C ini:=by
 unfold ZNH at q
 split at q
 ·rename_i dd cd sl ho
  split at q
  ·rename_i C' bm k0 k1 k2 k3 n k5 hm hs
   simp only [Bool.and_eq_true,beq_iff_eq,Bool.not_eq_true'] at q
   obtain ⟨⟨⟨⟨⟨rfl,rfl⟩,hdel⟩,ht⟩,hok⟩,hni⟩:=q
   obtain ⟨nm,bs,mro,ns,qn,hd,sn,sub,ab,col,del⟩:=cd
   dsimp only at hm hdel hok hni
   subst hm hdel
   obtain ⟨l⟩:=sl
   simp only at hs
   subst hs
   have G:h.Ns ns (h.nsMap ns):=.of_isNs (PySem.W.isNs_of_in X hok)
   refine ⟨bm,ns,nm,qn,bs,hd,sn,sub,ab,col,dd,k0,k1,k2,k3,k5,_,X _ _ ho,G,?_,PySem.W.tail_of_in X ht⟩
   cases ini with
   | none=>exact PySem.W.ns_none_of X G hni
   | some v=>
    obtain ⟨o,es,ep,hoo,hd2,_,hf⟩:=G
    unfold PySem.W.nsIn at hni
    split at hni
    ·rename_i c d es' n' sl q2
     have z:=X _ _ q2
     rw [hoo] at z
     cases z
     cases hd2
     split at hni
     ·rename_i e he
      rw [<- hf]
      unfold nsFind findBy
      rw [<- Array.find?_toList,he]
      simpa using hni
     ·split at hni <;> cases hni
    ·cases hni
  ·cases q
 ·cases q
theorem ZCr.there {P:Program}{w:World}{H:Hp}{h:Heap}{a:Addr}{o:HO}(x:ZCr P w H h a o):∃ u,h.get? a=some u:=by
 induction o with
 | lst xs=>obtain ⟨_,_,_,_,e⟩:=x;exact ⟨_,e⟩
 | tup xs=>obtain ⟨_,_,_,⟨_,e,_⟩,_⟩:=x;exact ⟨_,e⟩
 | dK kvs=>obtain ⟨_,_,_,_,_,_,_,e,_⟩:=x;exact ⟨_,e⟩
 | dT kvs=>obtain ⟨_,_,_,_,_,_,_,e,_⟩:=x;exact ⟨_,e⟩
 | set S n=>obtain ⟨_,_,_,_,e,_⟩:=x;exact ⟨_,e⟩
 | ins C dx fs=>obtain ⟨_,_,_,e,_⟩:=x;exact ⟨_,e⟩
 | own y=>exact x
 | xd fs=>obtain ⟨_,⟨_,_,_,e,_⟩,_⟩:=x;exact ⟨_,e⟩
 | met f y=>exact ⟨_,x⟩
 | rng lo hi=>obtain ⟨_,_,_,e⟩:=x;exact ⟨_,e⟩
 | frz ob u _=>exact ⟨_,x.1⟩
 | tbl ps=>exact ⟨_,x⟩
 | ext φ=>exact x.2.1
theorem HOk.there {P:Program}{w:World}{H:Hp}{h:Heap}{a:Addr}{o:HO}(x:HOk P w H h) (e:H a=some o):∃ u,h.get? a=some u:=(x a o e).there
section
variable {X:Cx}{x:Str}{C:Addr}{E':St->XK}{np cpos pos:Pos}{e0:Expr}{es:List Expr}{t:TA}{E:XK}
def ZMw (C:Addr) (E:St->XK) (t:TA):TS:=fun _ σ H=>t σ H fun vs H1=>vs.length<=1000/\E σ (.ref C) none H1
def Goes (X:Cx) (E:St->XK):Prop:=∀ (pins:List (Addr×Obj)) (σ:St) (H':Hp) (s':Shared) (ea C:Addr) (dx tb:Option Addr),Inv X pins σ H' s'->Exn s'.heap ea (.ref C) dx tb->(H' ea=none/\X.s₀.heap.get? ea=none)->(∀ T,tb=some T->H' T=none/\X.s₀.heap.get? T=none)->
 (∀ p∈X.pn++pins,p.1≠ea/\tb≠some p.1)->E σ (.ref C) dx H'->X.xe (.ref ea) s'
theorem ZOv (hg:Gl X x) (hm:X.mg x=some (.ref C)) (q:ZNH X.K C none=true) (hc:X.calm=true) (hex:X.ex=[]) (go:Goes X E') (ha:PA X (e0 :: es) t)
  (hdb:(x == ("__debug__" : Str))=false:=by decide) (he:starEach (e0 :: es) X.env=(false,eval e0 X.env) :: starEach es X.env:=by rfl) (hpl:(backTo cpos (starEach es X.env)).any (·.1)=false:=by rfl) :
  PS X (.Raise (some (.Call (.Name x np) (e0 :: es) [] cpos)) none pos) (ZMw C E' t):=by
 intro pins s σ H D I h
 have mk:∀ h':Heap,X.K.In h'->ZUp h' C none:=fun h' k=>ZG8 k q
 obtain ⟨bm,N,nm,qn,bs,hdct,sn,sub,ab,col,dd,k0,k1,k2,k3,k5,mN,hC,hN,hni,T⟩:=(ZG8 (X:=I.mod.kin) q).obj
 refine wpAny_Raise_call_subT (C:=C) (nm:=nm) (q:=qn) (N:=N) (bs:=bs) (bm:=bm) (hdct:=hdct) (sn:=sn) (sub:=sub) (ab:=ab) (col:=col) (dd:=dd) (k0:=k0) (k1:=k1) (k2:=k2) (k3:=k3) (k5:=k5)
  PySem.F.excBase_ValueError (mN:=mN) (T.hasType rfl) (I.ok.hd hc) (by rw [he];show (false || (backTo cpos (starEach es X.env)).any (·.1))=false;rw [hpl];rfl) hni (ZFc I hg hm ⟨rfl,?_⟩ hdb)
 rw [he]
 have ha':=ha cpos pins s σ H _ I h
 rw [he] at ha'
 refine Calls.evalArgs_plain (thn ha' fun us s2 ⟨vs,H2,I2,r,hz,hE⟩=>⟨rfl,?_,I2.bk _ _ hC,hN.keeps I2.bk,T.keeps I2.bk,fun h' e hm=>?_⟩)
 ·rw [<- r.length];exact Nat.le_trans hz (by decide +kernel)
 ·obtain ⟨t',he',ht',_⟩:=hm.there
  have e2:s2.heap.get? e=none:=hm.new
  have I3:=I2.call (h':=h') (g':=s2.gens) (d':=s2.drawn) (t':=s2.toks) (ch:=[]) (Un.kept hm.keeps) (I2.hok.kept hm.keeps) I2.bare (fun b z=>absurd z (by simp))
  refine go pins σ H2 _ e C none none I3 ⟨⟨_,_,he',rfl,rfl,rfl,by simp,rfl⟩,fun T z=>by cases z⟩ ⟨?_,?_⟩ (fun T z=>by cases z) (fun p hp=>⟨fun z=>?_,by simp⟩) hE
  ·cases z:H2 e with
   | none=>rfl
   | some o=>obtain ⟨u,hu⟩:=I2.hok.there z;rw [e2] at hu;cases hu
  ·cases z:X.s₀.heap.get? e with
   | none=>rfl
   | some o=>obtain ⟨u,hu⟩:=I2.base.there e o z (by rw [hex];simp);rw [e2] at hu;cases hu
  ·have:=(I2.pin p hp).1
   rw [z,e2] at this;cases this
end
end L2
namespace L2
abbrev exO (C t:Addr) (dx:Option Addr):Obj:={ cls:=.ref C,dict:=dx,data:=.fields #[.ref t,.none,.none,.none,.bool false,.none] }
section
variable {M:Model}{A:Around}{E:Value->Shared->Prop}{env:Env}
variable {nm qn:Str}{C N:Addr}{bs bm:List Value}{hdct:Bool}{sn:List Str}{sub:List Value}{ab:Bool}{col:Option Bool}{dd:Option Addr}{k0 k1 k2 k3 k5:Option Value}{newId:String}
theorem ZQT {s:Shared}{y:Sem Value}{Q:Flow->Shared->Prop}(hb:bm.contains (.type "BaseException")=true) (hh:A.handled=none)
  (hy:wpAny M A y (fun v z=>∃ ea t dx,v=.ref ea/\z.heap.get? C=some (excClassObj nm qn C N bs bm hdct sn sub ab col dd k0 k1 k2 k3 k5 newId)/\z.heap.get? ea=some (exO C t dx)/\E (.ref ea) z) E s) :
  wpAny M A (raiseStmt env (some y) none) Q E s:=by
 have cb:(Value.ref C :: bm).contains (.type "BaseException")=true:=by
  rw [List.contains_cons,hb,Bool.or_true]
 unfold raiseStmt
 refine wpAny_bind (wpAny_mono hy (fun v z hz=>?_) fun _ _ q=>q)
 obtain ⟨ea,t,dx,rfl,oC,oe,hE⟩:=hz
 obtain ⟨hp,g,d,tk,os⟩:=z
 repeat (first
  | with_reducible refine wpAny_loadPart_at oe ?_
  | with_reducible refine wpAny_loadPart_at oC ?_
  | (with_reducible refine wpAny_isSubtype_exc oC ?_;rw [cb])
  | wp_step)
 exact wpAny_raiseNew_none hh hE
end
section
variable {prog:Program}{w:World}{A:Around}{E:Value->Shared->Prop}{h:Heap}{g:Array GenState}{d:Drawn}{t:Nat}{os:OsState}
variable {nm qn:Str}{C N:Addr}{bs bm bmB:List Value}{hdct:Bool}{sn:List Str}{sub:List Value}{ab:Bool}{col:Option Bool}{dd:Option Addr}{k0 k1 k2 k3 k5:Option Value}{B newId initId:String}
theorem ZMB (F:ExcBaseFacts B newId initId bmB) (T:OwnTail h bmB bm){mN:Str->Option Value}{us:List Value}{fI:Addr}{oI:Obj}{Q:PySem.Fin->Shared->Prop}
  (oC:h.get? C=some (excClassObj nm qn C N bs bm hdct sn sub ab col dd k0 k1 k2 k3 k5 newId)) (hn:h.Ns N mN) (hi:mN "__init__" = some (.ref fI)) (hfI:h.get? fI=some oI) (hfc:oI.cls=.type "function") (hus:us.length<=sizeLine)
  (hq:∀ h' ea,h.objs.size<=ea->Heap.MadeExcOf h h' ea (.ref C) us->wpAny (model prog w) A (call (.ref fI) (.ref ea :: us)) (fun r s'=>r=.none/\Q (.done (.ret (.ref ea))) s') E ⟨h',g,d,t,os⟩) :
  wpAny (model prog w) A (Builtin.«type.__call__» ⟨.ref C :: us,[]⟩) Q E ⟨h,g,d,t,os⟩:=by
 repeat (first
  | with_reducible refine wpAny_loadPart_at oC ?_
  | with_reducible refine wpAny_madeBy_exc oC ?_
  | wp_step)
 refine codeAny_call_builtin_code (Code.quiet_builtin _ F.quiet) (wpAny_check_new_subT F T oC ?_)
 refine codeAny_exc_new_subT F T oC ?_ hus
 show wpAny _ _ _ _ _ _
 generalize ho1:({ cls:=.type "tuple", data:=.seq us.toArray }:Obj)=o1
 generalize ho2:({ cls:=.ref C,data:=.fields #[.ref h.objs.size,.none,.none,.none,.bool false,.none] }:Obj)=o2
 have up:∀ {b:Addr}{o:Obj},h.get? b=some o->((h.push o1).push o2).get? b=some o:=fun e=>Heap.get?_push_of_some _ (Heap.get?_push_of_some _ e)
 have g2:((h.push o1).push o2).get? (h.objs.size+1)=some o2:=by
  rw [<- Heap.size_push h o1]
  exact Heap.get?_push_size _ (by rw [<- ho2];rfl)
 have g1:((h.push o1).push o2).get? h.objs.size=some o1:=Heap.get?_push_of_some _ (Heap.get?_push_size h (by rw [<- ho1];rfl))
 have n2:((h.push o1).push o2).Ns N mN:=hn.keeps fun b o e=>up e
 have oC2:=up oC
 have hfI2:=up hfI
 have T2:=T.keeps (h':=(h.push o1).push o2) fun b o e=>up e
 have cc:(Value.ref C :: bm).contains (.ref C)=true:=by simp
 have ec:o2.cls=.ref C:=by rw [<- ho2]
 unfold isInstance
 subst ho2
 repeat (first
  | with_reducible refine wpAny_loadPart_at g2 ?_
  | (with_reducible refine wpAny_isSubtype_exc oC2 ?_;rw [cc])
  | wp_step)
 show wpAny _ _ (typeLookup (.ref C) _) _ _ _
 refine wpAny_typeLookup_tail oC2 n2 T2 F.mroIs F.init.lookup ?_
 rw [hi]
 refine wpAny_holding (wpAny_bind ?_)
 unfold bindSpecial
 refine wpAny_bind (wpAny_typeOf (T := "function") ⟨_,hfI2,hfc⟩ ?_)
 rw [if_pos (by decide)]
 subst ho1
 refine wpAny_pure (wpAny_bind (wpAny_mono (hq _ (h.objs.size+1) (Nat.le_succ _) ⟨fun b o hb=>up hb,Heap.get?_none_of_le (Nat.le_succ _),h.objs.size,g2,Heap.get?_none_of_le (Nat.le_refl _),g1⟩) (fun r s' hr=>?_) fun _ _ q=>q))
 obtain ⟨rfl,hQ⟩:=hr
 wp_walk
 exact hQ
theorem ZUd (F:ExcBaseFacts B newId initId bmB) (T:OwnTail h bmB bm){mN:Str->Option Value}{us:List Value}{fI:Addr}{oI:Obj}{Q:Value->Shared->Prop}
  (oC:h.get? C=some (excClassObj nm qn C N bs bm hdct sn sub ab col dd k0 k1 k2 k3 k5 newId)) (hn:h.Ns N mN) (hi:mN "__init__" = some (.ref fI)) (hfI:h.get? fI=some oI) (hfc:oI.cls=.type "function") (hus:us.length<=sizeLine)
  (hq:∀ h' ea,h.objs.size<=ea->Heap.MadeExcOf h h' ea (.ref C) us->wpAny (model prog w) (A.under (.builtin "type.__call__" ⟨.ref C :: us,[]⟩)) (call (.ref fI) (.ref ea :: us)) (fun r s'=>r=.none/\Q (.ref ea) s') E ⟨h',g,d,t,os⟩) :
  wpAny (model prog w) A (call (.ref C) us) Q E ⟨h,g,d,t,os⟩:=by
 have f1:=tc_lookup
 have f2:=tc_bind (.ref C)
 have ty:(⟨h,g,d,t,os⟩:Shared).TypeIs (.ref C) "type" := ⟨_,oC,rfl⟩
 refine wpAny_call (codeAny_of_tree ?_)
 show wpAny _ _ (callAny (.ref C) _) _ _ _
 repeat (any_goals (first
  | assumption
  | with_reducible refine wpAny_loadPart_at oC ?_
  | wp_step))
 refine ⟨rfl,?_⟩
 exact codeAny_call_builtin_at (Code.quiet_builtin _ (by decide +kernel)) entry_typeCall (wpAny_check_type_call_sub oC (ZMB F T oC hn hi hfI hfc hus hq))
end
end L2
namespace L2
section
variable {prog:Program}{w:World}{A:Around}{E:Value->Shared->Prop}{s:Shared}{K:PySem.W.Frag}{x C t:Addr}{name:Str}{v:Value}
def ZMz:List Value->Bool
 | [.type a,.type b,.type c,.type d]=>a == "ValueError" && (b == "Exception" && (c == "BaseException" && d == "object"))
 | .ref _ :: r=>ZMz r
 | _=>false
theorem ZNE (self:Value):PySem.refuseLoop self "__setattr__" [.type "ValueError", .type "Exception", .type "BaseException", .type "object"]=pure ():=by
 first | rfl | kernel_rfl
theorem ZIc {l:List Value}(h:ZMz l=true):l=[.type "ValueError", .type "Exception", .type "BaseException", .type "object"]∨∃ c r,l=.ref c :: r/\ZMz r=true:=by
 unfold ZMz at h
 split at h
 ·simp only [Bool.and_eq_true,beq_iff_eq] at h
  obtain ⟨rfl,rfl,rfl,rfl⟩:=h
  exact .inl rfl
 ·exact .inr ⟨_,_,rfl,h⟩
 ·cases h
theorem ZRg (self:Value):∀ {l:List Value},ZMz l=true->PySem.refuseLoop self "__setattr__" l=pure ():=by
 intro l
 induction l with
 | nil=>intro h;cases h
 | cons x r ih=>
  intro h
  rcases ZIc h with e | ⟨c,r',e,h'⟩
  ·rw [e];exact ZNE self
  ·cases e
   rw [PySem.refuseLoop_ref];exact ih h'
theorem ZOu:∀ {l:List Value},ZMz l=true->l.contains (.type "object")=true:=by
 intro l
 induction l with
 | nil=>intro h;cases h
 | cons x r ih=>
  intro h
  rcases ZIc h with e | ⟨c,r',e,h'⟩
  ·rw [e];decide
  ·cases e
   rw [List.contains_cons,ih h',Bool.or_true]
def ZIa (K:PySem.W.Frag) (C:Addr):Bool:=(PySem.W.clsIn K C).any fun cd=>ZMz cd.mro
section
open PySem.Builtin PySem.Builtin.ObjectAttr
theorem ZPh {A:Around}{R:Result->Shared->Prop}{ox:Obj}{od:Option Obj}{name:Str}{tk:Tok}{v:Value}{r:Option Value}(X:K.In s.heap) (I:PySem.W.InstAt s.heap x ox C od) (hp:ZIa K C=true) (ht:PySem.W.takerIn K C name=some r)
  (h:∀ b,wpAny (model prog w) A.in1 (match r with | some a=>setByDescriptor a (.ref x) v | none=>storeInOwnDict (.ref x) (.ref C) (.str name tk) name v b)
   (fun fin s'=>match fin with | .done f=>R (.ok f) s' | .again c'=>c'.quiet=true/\codeAny (model prog w) A c' R s') (fun e s'=>R (.error e) s') s) :
  codeAny (model prog w) A (.call (.builtin "object.__setattr__") ⟨[.ref x,.str name tk,v],[]⟩) R s:=by
 have SF:=PySem.F.store_object
 obtain ⟨cd,hc,ho⟩:=PySem.W.any_some hp
 have ne:cd.mro.isEmpty=false:=by cases q:cd.mro with | nil=>rw [q] at ho;cases ho | cons _ _=>rfl
 have sub:PySem.W.Looks (model prog w) s.heap (isInstance (.ref x) (.type "object")) true:=I.type.andThen (PySem.W.looks_mroIn X (by unfold PySem.W.mroIn;rw [hc,Option.bind_some,if_neg (by rw [ne];decide),ZOu ho]))
 refine codeAny_call_builtin SF.slot.plain SF.entry (@PySem.W.check_slot (model prog w) _ _ s "object.__setattr__" "object" "__setattr__" (.ref x) [.str name tk,v] [] _ SF.kind SF.split sub (SF.args (.ref x) (.str name tk) v) ?_)
 obtain ⟨attr,ha,hr⟩:=Option.bind_eq_some_iff.mp ht
 have hm:PySem.W.Looks (model prog w) s.heap (mroOf (.ref C)) cd.mro:=(PySem.W.looks_clsIn X hc).andThen .now
 have L3:PySem.W.Looks (model prog w) s.heap (storeTaker? attr) r:=by
  cases attr with
  | none=>cases hr;exact .now
  | some a=>
   obtain ⟨b,hb,rfl⟩:=Option.map_eq_some_iff.mp hr
   refine (PySem.W.looks_takesIn X hb).andThen ?_
   cases b <;> exact .now
 rw [PySem.W.osa_eq,PySem.refuse_eq]
 refine wpAny_bind (wpAny_bind (I.type.here (wpAny_bind (hm.here ?_))))
 rw [ZRg _ ho]
 refine wpAny_pure (wpAny_bind (I.type.here (wpAny_bind ((PySem.W.looks_findIn X ha).here (wpAny_bind (L3.here ?_))))))
 exact h _
end
theorem ZTZ (h:Heap):(h.push { cls:=.type "dict", data:=.dict #[] }).Ns1 h.objs.size (fun _=>none):=by
 refine ⟨_,#[],_,Heap.get?_push_size h rfl,rfl,?_⟩
 refine ⟨fun e he=>?_,?_,fun _=>rfl⟩
 ·simp at he
 ·simp [UniqKeys]
theorem ZT5 {Q:Unit->Shared->Prop}(X:K.In s.heap) (ho:s.heap.get? x=some (exO C t none))
  (hs:PySem.W.findIn K (.ref C) "__setattr__" = some (some (.builtin "object.__setattr__"))) (hp:ZIa K C=true) (ht:PySem.W.takerIn K C name=some none) (hh:PySem.W.hasDictIn K C=true)
  (h:∀ h' d,s.heap.objs.size<=d->h'.get? x=some (exO C t (some d))->h'.Ns1 d (fun y=>if y=name then some v else none)->(∀ b o,b≠x->s.heap.get? b=some o->h'.get? b=some o)->s.heap.objs.size<=h'.objs.size->Q () { s with heap:=h',toks:=s.toks+2 }) :
  wpAny (model prog w) A (setAttr (.ref x) name v) Q E s:=by
 have J:PySem.W.InstAt s.heap x (exO C t none) C none:=⟨ho,rfl,rfl,trivial⟩
 refine PySem.W.set_plain X J hs (ZPh (s:={ s with toks:=s.toks+1 }) (r:=none) X J hp ht fun b=>?_)
 obtain ⟨cd,hc,hd'⟩:=PySem.W.any_some hh
 refine wpAny_bind (wpAny_pure (wpAny_bind (wpAny_bind (wpAny_loadPart ho (wpAny_bind (PySem.W.Looks.here (s:={ s with toks:=s.toks+1 }) (PySem.W.looks_clsIn X hc) ?_))))))
 rw [hd',if_neg (by decide)]
 show wpAny _ _ (do
  let d <- alloc { cls:=Value.type "dict", data:=Data.dict #[] }
  update x fun o=>{ o with dict:=some d }
  dictMade (Value.ref C) x d) _ _ _
 have hxs:x < s.heap.objs.size:=Heap.lt_size ho
 refine wpAny_bind (wpAny_alloc (wpAny_bind (wpAny_update (Heap.get?_push_of_some _ ho) ?_)))
 refine wpAny_bind (wpAny_pure (wpAny_pure ?_))
 generalize hg1:((s.heap.push { cls:=Value.type "dict", data:=Data.dict #[] }).update x fun o=>{ o with dict:=some s.heap.objs.size })=g
 have gx:g.get? x=some (exO C t (some s.heap.objs.size)):=by
  rw [<- hg1]
  exact Heap.get?_update_self _ (Heap.get?_push_of_some _ ho) rfl
 have gb:∀ b o,b≠x->s.heap.get? b=some o->g.get? b=some o:=fun b o hb e=>by
  rw [<- hg1,Heap.get?_update_other _ _ (Ne.symm hb)]
  exact Heap.get?_push_of_some _ e
 have gz:g.objs.size=s.heap.objs.size+1:=by rw [<- hg1,Heap.size_after_update,Heap.size_push]
 have gd:g.Ns1 s.heap.objs.size (fun _=>none):=(ZTZ s.heap).at fun o e=>by
  rw [<- hg1,Heap.get?_update_other _ _ (Nat.ne_of_lt hxs)];exact e
 refine wpAny_bind (wpAny_pure (wpAny_bind ?_))
 refine wpAny_nsSet1 (s:=⟨g,s.gens,s.drawn,s.toks+1,s.os⟩) gd fun h' hn2 hs2=>?_
 obtain ⟨oD,esD,epD,hoD,hdD,hcD⟩:=hn2.count (PySem.Within.cons (ns:=[]) name v PySem.Within.nil)
 refine wpAny_bind (wpAny_lookBehind hoD (by rw [hdD];exact pastItsLine_dict (Nat.le_trans hcD (Nat.succ_le_succ (Nat.zero_le _)))) ?_)
 exact wpAny_pure (h h' s.heap.objs.size (Nat.le_refl _) ((hs2.2 x (Nat.ne_of_lt hxs)).trans gx) hn2 (fun b o hb e=>(hs2.2 b (Nat.ne_of_lt (Heap.lt_size e))).trans (gb b o hb e)) (by rw [hs2.1,gz];exact Nat.le_succ _))
end
end L2
namespace L2
def ZM8 (ea C:Addr) (dx:Option Addr):HO:=.ext fun h=>∃ t,h.get? ea=some (exO C t dx)
section
variable {X:Cx}{pins:List (Addr×Obj)}{σ:St} {H:Hp}{s:Shared}
theorem ZMh {P:Program}{w:World}{h:Heap}{ea C t:Addr}{dx:Option Addr}(e:h.get? ea=some (exO C t dx)):ZCr P w H h ea (ZM8 ea C dx):=
 ⟨⟨t,e⟩,⟨_,e⟩,fun _ _ ⟨t',e'⟩ k=>⟨t',k _ e'⟩⟩
theorem Inv.exc (I:Inv X pins σ H s){ea C:Addr}{dx:Option Addr}(e:H ea=some (ZM8 ea C dx)):∃ t,s.heap.get? ea=some (exO C t dx):=(I.hok ea _ e).1
theorem Inv.ZWg {h':Heap}{t':Nat}{ea C t:Addr}{dx dx':Option Addr}(I:Inv X pins σ H s) (e:H ea=some (ZM8 ea C dx)) (k:∀ b u,b≠ea->s.heap.get? b=some u->h'.get? b=some u) (he:h'.get? ea=some (exO C t dx')) :
  Inv X pins σ (upd H ea (ZM8 ea C dx')) { s with heap:=h',toks:=t' }:=by
 have mu:Mut (H ea):=by rw [e];trivial
 exact I.write mu (.inl rfl) k ⟨_,he⟩ (ZMh he)
end
end L2
namespace L2
def Say:V->Prop
 | .str x=>(reprText x).length<=100000
 | .int i=>i.natAbs.log2 < 1920
 | _=>False
section
variable {X:Cx}{e:Expr}{te:TE}{pos p1 p2 p3:Pos}{k1 k2:Nat}{c1 c2:Str}
theorem ZOy {pins:List (Addr×Obj)}{s:Shared}{σ:St} {H:Hp}{R:St->Hp->Prop}(he:PE X e te) (I:Inv X pins σ H s) (h:te σ H fun v H1=>Say v/\R σ H1){Q:Value->Shared->Prop}
  (hQ:∀ y t s1 H1,y.length<=200000->Inv X pins σ H1 s1->R σ H1->Q (.str y t) s1):wpAny (model X.prog X.w) X.A (eval (.FormattedValue e 114 none pos) X.env) Q X.xe s:=by
 refine wpAny_FormattedValue_repr (thn (he pins s σ H _ I h) fun u s1 ⟨v,H1,I1,rv,sv,hR⟩=>?_)
 cases v with
 | str x=>
  obtain ⟨t,rfl⟩:=rv
  have sz:(reprText x).length<=sizeLine:=Nat.le_trans sv (by decide +kernel)
  refine wpAny_pyReprObj_str ?_ sz
  refine wpAny_formatField_str ?_ ?_ sz
  ·exact hQ _ _ _ H1 (Nat.le_trans sv (by decide)) (I1.tok _) hR
  ·exact hQ _ _ _ H1 (Nat.le_trans sv (by decide)) (I1.tok _) hR
 | int i=>
  obtain ⟨t,rfl⟩:=rv
  have l1:(Str.ofString (toString i)).length<=sizeLine:=int_text_fits sv
  have sv':i.natAbs.log2 < 1920:=sv
  have l2:(Str.ofString (toString i)).length<=200000:=by
   have h1:i.natAbs < 10 ^ 600:=by
    by_cases z:i.natAbs=0
    ·rw [z];decide +kernel
    ·exact Nat.lt_trans ((Nat.log2_lt z).mp sv') (by decide +kernel)
   have e:=int_text_length_le10 (k:=600) (by decide) h1
   clear h1
   rw [PySem.ofString_length];omega
  refine wpAny_pyReprObj_gives (typeIs_int _ i t) F.slot_int_repr F.entry_int_repr (F.args_int_repr_1 _) (gives_int_repr i t sv) ?_ rfl l1
  refine wpAny_formatField_str ?_ ?_ l1
  ·exact hQ _ _ _ H1 l2 (I1.tok _) hR
  ·exact hQ _ _ _ H1 l2 (I1.tok _) hR
 | _=>exact sv.elim
def ZXL (te:TE):TE:=fun σ H Q=>te σ H fun v H1=>Say v/\∀ y,Q (.str y) H1
theorem len_app (a b:Str):(a++b).length=a.length+b.length:=strLen_append a b
theorem ZKJ (he:PE X e te) (h1:c1.length<=1000):PE X (.JoinedStr [.Constant (.str c1) k1 p1,.FormattedValue e 114 none p2] pos) (ZXL te):=by
 intro pins s σ H Q I h
 have z0:(Str.empty++c1).length<=1000:=by rw [len_app];show 0+_<=_;omega
 refine wpAny_JoinedStr (show wpAny _ _ (eval (.Constant (.str c1) k1 p1) X.env) _ _ s from fun _ _ _=>⟨c1,_,rfl,Nat.le_trans z0 (by decide +kernel),?_⟩)
 refine ZOy (R:=fun _ H1=>∀ y,Q (.str y) H1) he (I.tok _) h fun y t s1 H1 hy I1 hR=>⟨y,t,rfl,?_,?_,?_⟩
 ·rw [len_app];exact Nat.le_trans (show _<=201000 by omega) (by decide +kernel)
 ·rw [len_app];exact Nat.le_trans (show _<=201000 by omega) (by decide +kernel)
 ·exact ⟨.str _,H1,I1.tok _,⟨_,rfl⟩,hR _⟩
end
end L2
namespace L2
structure Sup (K:PySem.W.Frag) (S:Addr):Prop where
 ga:PySem.W.specialIn K (.ref S) "__getattribute__" = some (some (.builtin "type.__getattribute__"))
 rd:PySem.W.readsIn K S (.type "type")=true
 fd:PySem.W.findCls K (.ref S) (.type "type") "__init__" = some (.val (.builtin "ValueError.__init__"))
 hd:PySem.W.handedIn (.builtin "ValueError.__init__")=true
structure ExI (K:PySem.W.Frag) (C fI:Addr) (fld:Str):Prop where
 ex:ZNH K C (some (.ref fI))=true
 sa:PySem.W.findIn K (.ref C) "__setattr__" = some (some (.builtin "object.__setattr__"))
 po:ZIa K C=true
 tk:PySem.W.takerIn K C fld=some none
 hd:PySem.W.hasDictIn K C=true
 fn:PySem.W.isFn K (.ref fI)=true
 kp:PySem.W.keepIn K (.ref C)=true
theorem ZLS {x:V}{xs:List V}{us:List Value}(r:Vals (x :: xs) us):∃ u us',us=u :: us'/\RelV x u/\Vals xs us':=by
 cases r with
 | cons a b=>exact ⟨_,_,rfl,a,b⟩
theorem ZVM {H:Hp}{a:Addr}{o:HO}(h:H a=some o):upd H a o=H:=by
 funext b
 unfold upd
 split
 ·rename_i e;rw [e,h]
 ·rfl
section
variable {X:Cx}{S C fI:Addr}{fld:Str}{ini:Option Value}
theorem ZRD {pins:List (Addr×Obj)}{σ:St} {H:Hp}{s:Shared}{ea t:Addr}{u:Value}{Q:Value->Shared->Prop}(I:Inv X pins σ H s) (hx:H ea=some (ZM8 ea C none)) (q:ZNH X.K C ini=true)
  (hQ:∀ s',Inv X pins σ H s'->Q .none s'):wpAny (model X.prog X.w) X.A (call (.builtin "ValueError.__init__") [.ref ea,u]) Q X.xe s:=by
 obtain ⟨t0,ho⟩:=I.exc hx
 obtain ⟨bm,N,nm,qn,bs,hdct,sn,sub,ab,col,dd,k0,k1,k2,k3,k5,mN,hC,hN,hni,T⟩:=(ZG8 I.kIn q).obj
 have F:=PySem.F.excBase_ValueError
 have hcl:H C=none:=by
  cases z:X.base.get? C with
  | some o=>exact (I.bs C o z).2
  | none=>
   obtain ⟨_,_,_,_,_,_,_,_,_,_,_,_,_,_,_,_,_,hC2,_⟩:=(ZG8 I.mod.kin q).obj
   rw [z] at hC2;cases hC2
 obtain ⟨hp,g,d,tk,os⟩:=s
 refine wpAny_call (codeAny_call_builtin F.init.plain F.initEntry (wpAny_check_init_subT F T hC ho rfl ?_))
 wp_walk
 refine hQ _ ?_
 have I2:=I.ZWg (h':=(hp.push { cls:=Value.type "tuple", data:=Data.seq #[u] }).update ea (Obj.mapFields fun x=>x.setIfInBounds 0 (Value.ref hp.objs.size))) (t':=tk) (t:=hp.objs.size) (dx':=none) hx (fun b u' hb e=>by
  rw [Heap.get?_update_other _ _ (Ne.symm hb)]
  exact Heap.get?_push_of_some _ e) (by
  rw [Heap.get?_update_self _ (Heap.get?_push_of_some _ ho) rfl]
  rfl)
 rw [ZVM hx] at I2
 exact I2
def ZO3 (C:Addr) (t:TA):TE:=fun σ H Q=>t σ H fun vs H1=>∃ ea v,vs=[.ref ea,v]/\H1 ea=some (ZM8 ea C none)/\Q .non H1
theorem ZF8 {pl:Sem Bool}{x:Str}{p apos pos:Pos}{e:Expr}{es:List Expr}{t:TA}(sp:Sup X.K S) (hg:Gl X x) (hm:X.mg x=some (.ref S)) (q:ZNH X.K C ini=true) (ha:PA X (e :: es) t)
  (hdb:(x == ("__debug__" : Str))=false:=by decide) (hst:starEach (e :: es) X.env=(false,eval e X.env) :: starEach es X.env:=by rfl) (hpl:(backTo pos (starEach es X.env)).any (·.1)=false:=by rfl)
  (ht:eval (.Call (.Attribute (.Name x p) "__init__" apos) (e :: es) [] pos) X.env=(do
   let ov <- eval (.Name x p) X.env
   standAt apos.atName
   let (f,first) <- holding [ov] (getMethod ov "__init__" pl)
   callWith pos f first (backTo pos (starEach (e :: es) X.env)) (backToKw pos (keywordEach [] X.env))):=by rfl) :
  PE X (.Call (.Attribute (.Name x p) "__init__" apos) (e :: es) [] pos) (ZO3 C t):=by
 intro pins s σ H Q I h
 refine PySem.W.methodCall_KW (pl:=pl) (ZFc I hg hm ?_ hdb) ht
 refine PySem.W.method_cls I.kIn sp.ga (PySem.W.cls_value I.kIn sp.rd sp.fd sp.hd ?_)
 have hA:=ha pos pins { s with toks:=s.toks+1 } σ H _ (I.tok _) h
 show wpAny _ _ (callWith pos (.builtin "ValueError.__init__") [] (backTo pos (starEach (e :: es) X.env)) _) _ _ _
 rw [hst] at hA ⊢
 refine Calls.callWith_builtin (by show (false || (backTo pos (starEach es X.env)).any (·.1))=false;rw [hpl] <;> rfl) (Calls.evalArgs_plain ?_)
 refine thn hA fun us s2 ⟨vs,H2,I2,r2,ea,v,ev,hx,hQ⟩=>?_
 subst ev
 obtain ⟨u1,us1,rfl,ru,r3⟩:=ZLS r2
 obtain ⟨u2,us2,rfl,ru2,r4⟩:=ZLS r3
 cases r4
 cases (show u1=Value.ref ea from ru)
 exact ZRD (t:=ea) I2 hx q fun s' I'=>⟨.non,H2,I',rfl,hQ⟩
def ZXN (C:Addr) (f:Str) (ta tv:TE):TS:=fun D σ H=>tv σ H fun y H1=>ta σ H1 fun x H2=>∃ ea,x=.ref ea/\H2 ea=some (ZM8 ea C none)/\∀ d,H2 d=none->D.nx σ (upd (upd H2 d (.xd [(f,y)])) ea (ZM8 ea C (some d)))
theorem ZGB {o value:Expr}{pos pos':Pos}{ta tv:TE}(c:ExI X.K C fI fld) (ha:PE X o ta) (hv:PE X value tv) (hs:swapsWith value (some (.Attribute o fld pos')) pos.line X.env=pure false):PS X (.Assign [.Attribute o fld pos'] value pos) (ZXN C fld ta tv):=by
 intro pins s σ H D I h
 refine plainObj_wpAny_Assign_Attribute (thn (hv pins s σ H _ I h) fun u s1 ⟨y,H1,I1,ry,q⟩=>thn (ha pins s1 σ H1 _ I1 q) fun ov s2 ⟨x,H2,I2,rx,ea,ex,hx,q2⟩=>?_) hs
 subst ex
 obtain rfl:ov=Value.ref ea:=rx
 obtain ⟨t0,ho⟩:=I2.exc hx
 refine ZT5 I2.kIn ho c.sa c.po c.tk c.hd fun h' d hd he hn k hz=>?_
 have hdn:H2 d=none:=I2.hok.fresh hd
 have hde:d≠ea:=by rintro rfl;rw [hx] at hdn;cases hdn
 refine ⟨σ,_,I2.un (t':=s2.toks+2) (h':=h') ⟨fun b o e n _ _=>k b o (by rintro rfl;rw [hx] at n;cases n) e,fun b o e n _ _=>⟨o.slots,k b o (by rintro rfl;rw [hx] at n;cases n) e⟩,fun b o e n _=>?_,fun b o e _=>?_,fun b xs e=>?_,fun b o' u' e=>?_,fun b ps e=>?_⟩ ?_,q2 d hdn⟩
 ·rw [ZAT (by rintro rfl;rw [hx] at n;cases n),ZAT (by rintro rfl;exact absurd (Heap.lt_size e) (Nat.not_lt.mpr hd))];exact n
 ·by_cases z:b=ea
  ·subst z;exact ⟨_,he⟩
  ·exact ⟨o,k b o z e⟩
 ·rw [ZAT (by rintro rfl;rw [hx] at e;cases e),ZAT (ZAg e hdn)];exact e
 ·rw [ZAT (by rintro rfl;rw [hx] at e;cases e),ZAT (ZAg e hdn)];exact e
 ·exact ⟨#[],by rw [ZAT (by rintro rfl;rw [hx] at e;cases e),ZAT (ZAg e hdn),e];simp⟩
 ·intro b o e
  by_cases z:b=ea
  ·subst z;rw [ZA6] at e;cases e;exact ZMh he
  ·rw [ZAT z] at e
   by_cases z2:b=d
   ·subst z2
    rw [ZA6] at e;cases e
    refine ⟨_,hn,fun f'=>?_⟩
    by_cases ef:f'=fld
    ·subst ef
     rw [if_pos rfl,List.lookup_cons_self]
     exact ry
    ·rw [if_neg ef,List.lookup_cons]
     rw [show (f' == fld)=false from by simpa using ef]
     exact trivial
   ·rw [ZAT z2] at e
    refine (I2.hok b o e).ZSa (fun c u' hc hu=>k c u' ?_ hu) (fun c hc=>?_) fun c xs hc=>?_
    ·rcases hc with rfl | hc
     ·exact z
     ·rintro rfl;rw [hx] at hc;cases hc
    ·rw [ZAT (by rintro rfl;rw [hx] at hc;cases hc),ZAT (ZAg hc hdn)];exact hc
    ·rw [ZAT (by rintro rfl;rw [hx] at hc;cases hc),ZAT (ZAg hc hdn)];exact hc
end
end L2
namespace L2
def ZOX (C:Addr) (fld:Str):Sp:=fun vs H Q _=>∃ (ea:Addr) (v:V),vs=[.ref ea,v]/\Say v/\H ea=some (ZM8 ea C none)/\∀ d,H d=none->Q .non (upd (upd H d (.xd [(fld,v)])) ea (ZM8 ea C (some d)))
def ZKX (C:Addr) (fld:Str) (E:St->XK) (t:TA):TS:=fun _ σ H=>t σ H fun vs H1=>∃ v,vs=[v]/\Say v/\∀ d,H1 d=none->E σ (.ref C) (some d) (upd H1 d (.xd [(fld,v)]))
def unT (H:Hp) (a:Addr):Hp:=fun b=>if b=a then none else H b
theorem ZNo {H:Hp}{a b:Addr}(h:b≠a):unT H a b=H b:=if_neg h
theorem ZKv {H:Hp}{a:Addr}:unT H a a=none:=if_pos rfl
section
variable {X:Cx}{pins:List (Addr×Obj)}{σ:St} {H:Hp}{s:Shared}
theorem Inv.forget (I:Inv X pins σ H s){a:Addr}{φ:Heap->Prop} (e:H a=some (.ext φ)) (hp:∀ p∈X.pn++pins,p.1≠a):Inv X pins σ (unT H a) s:=by
 have keep:∀ b o,b≠a->H b=o->unT H a b=o:=fun b o h q=>by rw [ZNo h];exact q
 have ofN:∀ b,H b=none->unT H a b=none:=fun b q=>by
  by_cases z:b=a
  ·subst z;exact ZKv
  ·rw [ZNo z];exact q
 refine ⟨I.ok,I.os,I.bare,⟨I.base.keep,I.base.slot,fun b o q n hx=>ofN b (I.base.free b o q n hx),I.base.there,fun b xs q=>?_,fun b o u q=>?_,fun b ps q=>?_⟩,I.loc,I.cell,ofN _ I.free,fun x c q=>ofN c (I.freeC x c q),fun p hp'=>?_,fun b o q=>?_,I.len⟩
 ·have z:=I.base.tups b xs q
  exact keep b _ (by rintro rfl;rw [e] at z;cases z) z
 ·have z:=I.base.frzs b o u q
  exact keep b _ (by rintro rfl;rw [e] at z;cases z) z
 ·obtain ⟨m,z⟩:=I.base.tbls b ps q
  exact ⟨m,keep b _ (by rintro rfl;rw [e] at z;cases z) z⟩
 ·obtain ⟨h1,h2,h3⟩:=I.pin p hp'
  exact ⟨h1,ofN _ h2,h3⟩
 ·have hb:b≠a:=by rintro rfl;rw [ZKv] at q;cases q
  rw [ZNo hb] at q
  refine (I.hok b o q).ZSa (fun c u _ hu=>hu) (fun c hc=>keep c _ (by rintro rfl;rw [e] at hc;cases hc) hc) fun c xs hc=>keep c _ (by rintro rfl;rw [e] at hc;cases hc) hc
end
section
variable {X:Cx}{x:Str}{C fI:Addr}{fld par:Str}{E':St->XK}{np cpos pos:Pos}{e0:Expr}{t:TA}{kk:Nat}{fd:FuncData}
theorem ZPD (c:ExI X.K C fI fld) (hg:Gl X x) (hm:X.mg x=some (.ref C)) (Fn:ZJ2 X.prog X.w X.K X.mg X.base CX0 kk fI fd ["self", par] (ZOX C fld)) (hb:Binds X.K fd ["self", par] []) (hr:ZFW (kk+1) X.A) (hc:X.calm=true) (hex:X.ex=[]) (go:Goes X E') (ha:PA X [e0] t)
  (hdb:(x == ("__debug__" : Str))=false:=by decide) (he:starEach [e0] X.env=(false,eval e0 X.env) :: starEach [] X.env:=by rfl) (hpl:(backTo cpos (starEach [] X.env)).any (·.1)=false:=by rfl) :
  PS X (.Raise (some (.Call (.Name x np) [e0] [] cpos)) none pos) (ZKX C fld E' t):=by
 intro pins s σ H D I h
 obtain ⟨bm,N,nm,qn,bs,hdct,sn,sub,ab,col,dd,k0,k1,k2,k3,k5,mN,hC,hN,hni,T⟩:=(ZG8 I.mod.kin c.ex).obj
 rw [arm_exec_Raise]
 show wpAny _ _ (do standAt pos;raiseStmt X.env (some (do let v <- eval (.Call (.Name x np) [e0] [] cpos) X.env;standAt pos;pure v)) none) _ _ s
 refine wpAny_bind (wpAny_standAt (ZQT (C:=C) (nm:=nm) (qn:=qn) (N:=N) (bs:=bs) (bm:=bm) (hdct:=hdct) (sn:=sn) (sub:=sub) (ab:=ab) (col:=col) (dd:=dd) (k0:=k0) (k1:=k1) (k2:=k2) (k3:=k3) (k5:=k5) (newId := "ValueError.__new__") (T.hasType rfl) (I.ok.hd hc) (wpAny_bind ?_)))
 refine wpAny_Call_Name_kw (ZFc I hg hm ?_ hdb)
 refine PySem.W.callWith_K (h₀:=X.base) I.ok.mod.kin c.kp (thn (ha cpos pins s σ H _ I h) fun us s1 ⟨vs,H1,I1,r,v,ev,sv,hE⟩=>⟨I1.kIn,?_⟩) he hpl
 subst ev
 obtain ⟨u,rfl,rv⟩:=vals1 r
 obtain ⟨hp,g,d,tk,os⟩:=s1
 have hfn:∃ oI,hp.get? fI=some oI/\oI.cls=.type "function" := by
  have z:=beq_iff_eq.mp c.fn
  unfold PySem.W.typeIn at z
  obtain ⟨o,ho,hc⟩:=Option.map_eq_some_iff.mp z
  exact ⟨o,I1.kIn _ _ ho,hc⟩
 obtain ⟨oI,hoI,hoc⟩:=hfn
 refine ZUd PySem.F.excBase_ValueError (T.keeps I1.bk) (I1.bk _ _ hC) (hN.keeps I1.bk) hni hoI hoc (by show 1<=sizeLine;decide +kernel) fun h' ea hea hmade=>?_
 obtain ⟨t',he',_,_⟩:=hmade.there
 have hn1:H1 ea=none:=I1.hok.fresh hea
 have I2:Inv X pins σ (upd H1 ea (ZM8 ea C none)) ⟨h',g,d,tk,os⟩:=I1.laid (t':=tk) hmade.keeps hea (ZMh he')
 have q0:ZOX C fld ([.ref ea,v]++[]) (upd H1 ea (ZM8 ea C none)) (fun w H3=>w=.non/\∃ d,H1 d=none/\d≠ea/\H3=upd (upd (upd H1 ea (ZM8 ea C none)) d (.xd [(fld,v)])) ea (ZM8 ea C (some d))) E0:=
  ⟨ea,v,rfl,sv,ZA6,fun d hd=>by
   have hde:d≠ea:=by rintro rfl;rw [ZA6] at hd;cases hd
   rw [ZAT hde] at hd
   exact ⟨rfl,d,hd,hde,rfl⟩⟩
 refine wpAny_call (codeAny_mono (Fn.run _ X.stack _ _ ⟨[.ref ea,u],[]⟩ [.ref ea,u] [.ref ea,v] _ E0 (hr.make C [u] []) (I2.ZWz.make C [u] []) (hb _ [.ref ea,u] I2.kIn rfl) (.cons rfl (.cons rv .nil)) q0) fun rr s' hq=>?_)
 cases rr with
 | error e=>exact False.elim hq
 | ok fl=>
  cases fl with
  | ret ur=>
   obtain ⟨w3,H3,I3,rw3,ew,d3,hd3,hde,eH⟩:=I2.after hq
   subst ew;subst eH
   cases (show ur=Value.none from rw3)
   refine ⟨rfl,wpAny_bind (wpAny_standAt (wpAny_pure ?_))⟩
   obtain ⟨t3,o3⟩:=I3.exc (C:=C) (dx:=some d3) ZA6
   refine ⟨ea,t3,some d3,rfl,I3.bk _ _ hC,o3,?_⟩
   have pne:∀ p∈X.pn++pins,p.1≠ea:=fun p hp' z=>by
    have:=Heap.lt_size (I1.pin p hp').1
    rw [z] at this
    exact absurd this (Nat.not_lt.mpr hea)
   have I4:=I3.forget (a:=ea) ZA6 pne
   have eH4:unT (upd (upd (upd H1 ea (ZM8 ea C none)) d3 (.xd [(fld,v)])) ea (ZM8 ea C (some d3))) ea=upd H1 d3 (.xd [(fld,v)]):=by
    funext b
    by_cases z:b=ea
    ·subst z;rw [ZKv,ZAT (Ne.symm hde),hn1]
    ·rw [ZNo z,ZAT z]
     by_cases z2:b=d3
     ·subst z2;rw [ZA6,ZA6]
     ·rw [ZAT z2,ZAT z2,ZAT z]
   rw [eH4] at I4
   refine go pins σ _ s' ea C (some d3) none I4 ⟨⟨_,_,o3,rfl,rfl,rfl,by simp,rfl⟩,fun T z=>by cases z⟩ ⟨by rw [ZAT (Ne.symm hde)];exact hn1,?_⟩ (fun T z=>by cases z) (fun p hp'=>⟨pne p hp',by simp⟩) (hE d3 hd3)
   exact Heap.get?_none_of_le (Nat.le_trans I1.sz hea)
  | next=>exact False.elim hq
  | brk=>exact False.elim hq
  | cont=>exact False.elim hq
end
end L2
namespace L2
section
variable {X:Cx}{pins:List (Addr×Obj)}{σ:St} {H:Hp}{s:Shared}{ea:Addr}{C:Value}{dx tb:Option Addr}
theorem Inv.ZUW (I:Inv X pins σ H s) (hst:X.stack=X.env :: X.outer) (x:Exn s.heap ea C dx tb) (u1:H ea=none) (u2:X.s₀.heap.get? ea=none) (ut:∀ T,tb=some T->H T=none/\X.s₀.heap.get? T=none)
  (hp:∀ p∈X.pn++pins,p.1≠ea/\tb≠some p.1){h':Heap}(kp:Kp (X.env :: X.outer) ea tb s.heap h'):Inv X pins σ H { s with heap:=h' }:=by
 obtain ⟨oe,vs,he,_,_,hed,_⟩:=x.obj
 have mem:∀ b,b∈frs (X.env :: X.outer)->b=X.env.locals∨b∈X.fs:=fun b hb=>by
  rw [<- hst] at hb
  exact List.mem_cons.mp (I.ZLJ b hb)
 have frm:∀ b,b=X.env.locals∨b∈X.fs->b∈frs (X.env :: X.outer):=fun b hb=>by
  have hf:X.env.frame=some X.env.locals:=by
   rcases I.ok.stk with e | ⟨_,hf⟩
   ·rw [e] at hst
    exact absurd (congrArg List.length hst) (by simp)
   ·exact hf
  unfold frs
  rw [List.filterMap_cons,hf]
  rcases hb with rfl | hb
  ·exact List.mem_cons_self
  ·exact List.mem_cons_of_mem _ hb
 have plain:∀ b o,s.heap.get? b=some o->(∀ vs,o.data≠.fields vs)->∃ sl,h'.get? b=some { o with slots:=sl }:=fun b o hb hd=>by
  by_cases hf:b∈frs (X.env :: X.outer)
  ·exact kp.slot b o hb hf
  ·refine ⟨o.slots,kp.keep b o hb hf (by rintro rfl;rw [he] at hb;cases hb;exact hd _ hed) fun z=>?_⟩
   obtain ⟨_,oT,ts,hT,hTd,_⟩:=x.ent b z
   rw [hT] at hb;cases hb;exact hd _ hTd
 have old:∀ b o,s.heap.get? b=some o->H b≠none->h'.get? b=some o:=fun b o hb hn=>kp.keep b o hb (fun z=>hn (I.ZKn b (by rw [hst];exact z))) (fun z=>hn (z▸u1)) fun z=>hn (ut b z).1
 have low:∀ b o,X.s₀.heap.get? b=some o->b≠X.env.locals:=fun b o hb z=>absurd (Heap.lt_size hb) (Nat.not_lt.mpr (z▸I.ok.above))
 have cel:∀ c v,s.heap.IsCell c v->h'.IsCell c v:=fun c v ⟨o,ho,hd⟩=>by
  obtain ⟨sl,h1⟩:=plain c o ho (by rw [hd];intro vs z;cases z)
  exact ⟨_,h1,hd⟩
 refine ⟨I.ok,I.os,I.bare,⟨fun b o hb hn hf hx=>?_,fun b o hb hn hf hx=>?_,I.base.free,fun b o hb hx=>?_,I.base.tups,I.base.frzs,I.base.tbls⟩,?_,fun y c q=>?_,I.free,I.freeC,fun p hp'=>?_,I.hok.ZV3 fun b u hn hb=>old b u hb hn,I.len⟩
 ·exact kp.keep b o (I.base.keep b o hb hn hf hx) (fun z=>(mem b z).elim (low b o hb) hf) (by rintro rfl;rw [u2] at hb;cases hb) fun z=>by rw [(ut b z).2] at hb;cases hb
 ·obtain ⟨sl,h1⟩:=I.base.slot b o hb hn hf hx
  obtain ⟨sl2,h2⟩:=kp.slot b _ h1 (frm b (.inr hf))
  exact ⟨sl2,h2⟩
 ·obtain ⟨o1,h1⟩:=I.base.there b o hb hx
  by_cases hf:b∈frs (X.env :: X.outer)
  ·obtain ⟨sl2,h2⟩:=kp.slot b _ h1 hf
   exact ⟨_,h2⟩
  ·exact ⟨o1,kp.keep b o1 h1 hf (by rintro rfl;rw [u2] at hb;cases hb) fun z=>by rw [(ut b z).2] at hb;cases hb⟩
 ·obtain ⟨m,⟨o,es,ep,ho,r⟩,hl⟩:=I.loc
  obtain ⟨sl,h1⟩:=kp.slot _ _ ho (frm _ (.inl rfl))
  refine ⟨m,⟨_,es,ep,h1,r⟩,fun i y v hi hv hy=>?_⟩
  obtain ⟨u,ru,lk⟩:=hl i y v hi hv hy
  refine ⟨u,ru,?_⟩
  rcases lk with lk | ⟨k,c,hc,ic⟩
  ·exact .inl lk
  ·exact .inr ⟨k,c,hc,cel c _ ic⟩
 ·obtain ⟨v,hv⟩:=I.cell y c q
  exact ⟨v,cel c v hv⟩
 ·obtain ⟨h1,h2,h3,h4,h5⟩:=I.pin p hp'
  exact ⟨kp.keep _ _ h1 (fun z=>(mem _ z).elim h3 h4) (hp p hp').1 (hp p hp').2,h2,h3,h4,h5⟩
theorem ZOY {M:Model}{A:Around}{E:Value->Shared->Prop}{Q:Unit->Shared->Prop}{l:List Env}(x:Exn s.heap ea C dx tb) (hl:∀ b∈frs l,∃ o,s.heap.get? b=some o/\∀ vs,o.data≠.fields vs)
  (h:∀ h',Kp l ea tb s.heap h'->Exn h' ea C dx tb->Q () { s with heap:=h' }):wpAny M A (setFlight (.ref ea) none) Q E s:=by
 obtain ⟨oe,vs,he,hc,hd,hdat,hz,h1⟩:=x.obj
 unfold setFlight
 refine wpAny_bind (wpAny_field he hdat h1 ?_)
 cases tb with
 | none=>
  rw [if_neg (by decide)]
  exact wpAny_pure (h s.heap ⟨fun b o hb _ _ _=>hb,fun b o hb _=>⟨o.slots,hb⟩,Nat.le_refl _⟩ x)
 | some T=>
  obtain ⟨tne,oT,ts,hT,hTd,tz,h3⟩:=x.ent T rfl
  rw [if_pos (show ((some T).elim Value.none Value.ref != Value.none)=true from by simp)]
  have oth:∀ b,b≠T->(s.heap.update T (Obj.mapFields (·.setIfInBounds 3 Value.none))).get? b=s.heap.get? b:=fun b hb=>Heap.get?_update_other _ _ (Ne.symm hb)
  have hT2:=Heap.get?_update_self (Obj.mapFields (·.setIfInBounds 3 Value.none)) hT (Obj.isFreed_of_fields (Obj.data_mapFields hTd _))
  refine wpAny_setField hT hTd tz (h _ ⟨fun b o hb _ _ hbt=>(oth b (by rintro rfl;exact hbt rfl)).trans hb,fun b o hb hbf=>⟨o.slots,(oth b ?_).trans hb⟩,by rw [Heap.size_after_update];exact Nat.le_refl _⟩ ⟨⟨oe,vs,(oth ea (Ne.symm tne)).trans he,hc,hd,hdat,hz,h1⟩,fun T' eT=>?_⟩)
  ·rintro rfl
   obtain ⟨o',ho',hn⟩:=hl b hbf
   rw [hT] at ho';cases ho'
   exact hn ts hTd
  ·cases eT
   exact ⟨tne,_,_,hT2,Obj.data_mapFields hTd _,by simpa using tz,by simp [tz]⟩
end
end L2
namespace L2
section
variable {X:Cx}{pins:List (Addr×Obj)}{σ:St} {H:Hp}{s:Shared}{ea C:Addr}{dx tb:Option Addr}
end
end L2
namespace L2
abbrev Cx.ZHW (X:Cx) (pn:List (Addr×Obj)) (xe:Value->Shared->Prop):Cx:={ X with pn:=pn,xe:=xe }
abbrev Cx.ZEW (X:Cx) (e:Value):Cx:={ X with A:=X.A.mark (some e),calm:=false,xe:=fun _ _=>False }
section
variable {X:Cx}{pins pins2:List (Addr×Obj)}{σ:St} {H:Hp}{s:Shared}{ea C:Addr}{dx tb:Option Addr}{xe:Value->Shared->Prop}{e:Value}
theorem Cx.Ok.ZHW (ok:X.Ok){pn:List (Addr×Obj)}:(X.ZHW pn xe).Ok:=⟨ok.mod,ok.kind,ok.glob,ok.blt,ok.above,ok.inj,ok.has,ok.cab,ok.hd,ok.frames,ok.stk,ok.exf,ok.bs,ok.bsz,ok.noex,ok.exfs,ok.ZMQ,ok.frf⟩
theorem Cx.Ok.ZFi {pn:List (Addr×Obj)}(ok:(X.ZHW pn xe).Ok):X.Ok:=⟨ok.mod,ok.kind,ok.glob,ok.blt,ok.above,ok.inj,ok.has,ok.cab,ok.hd,ok.frames,ok.stk,ok.exf,ok.bs,ok.bsz,ok.noex,ok.exfs,ok.ZMQ,ok.frf⟩
theorem Cx.Ok.ZEW (ok:X.Ok):(X.ZEW e).Ok:=⟨ok.mod,ok.kind,ok.glob,ok.blt,ok.above,ok.inj,ok.has,ok.cab,fun z=>(by cases z),ok.frames,ok.stk,ok.exf,ok.bs,ok.bsz,ok.noex,ok.exfs,ok.ZMQ,ok.frf⟩
theorem Inv.ZHW (I:Inv X pins σ H s):Inv (X.ZHW (X.pn++pins) xe) [] σ H s:=⟨I.ok.ZHW,I.os,I.bare,I.base,I.loc,I.cell,I.free,I.freeC,fun p hp=>I.pin p (by simpa using hp),I.hok,I.len⟩
theorem Inv.ZFi (I:Inv (X.ZHW (X.pn++pins) xe) pins2 σ H s):Inv X pins σ H s:=⟨I.ok.ZFi,I.os,I.bare,I.base,I.loc,I.cell,I.free,I.freeC,fun p hp=>I.pin p (List.mem_append_left _ hp),I.hok,I.len⟩
theorem Inv.ZEW (I:Inv X pins σ H s):Inv (X.ZEW e) pins σ H s:=⟨I.ok.ZEW,I.os,I.bare,I.base,I.loc,I.cell,I.free,I.freeC,I.pin,I.hok,I.len⟩
theorem Inv.ZJs (ok:X.Ok) (I:Inv (X.ZEW e) pins σ H s):Inv X pins σ H s:=⟨ok,I.os,I.bare,I.base,I.loc,I.cell,I.free,I.freeC,I.pin,I.hok,I.len⟩
end
section
variable {X:Cx}{x n:Str}{S:Addr}{j:Nat}{body ZEW:List Stmt}{b0:Stmt}{np hpos pos:Pos}{tbd:(St->XK)->TS}{th:TS}
end
end L2
namespace L2
def ZNn (sp:Sp) (E:St->XK) (t:TA):TE:=fun σ H Q=>t σ H fun vs H1=>sp vs H1 Q (E σ)
def ZET (P:Program) (w:World) (K:PySem.W.Frag) (mg:Str->Option Value) (base:Heap) (x:Str) (k:Nat) (ps:List Str) (sp:Sp):Prop:=
 ∃ f fd,ZJ2 P w K mg base (CX1 P w) k f fd ps sp/\Binds K fd ps []/\PySem.W.keepIn K (.ref f)=true/\mg x=some (.ref f)
section
variable {P:Program}{w:World}{K:PySem.W.Frag}{mg:Str->Option Value}{base:Heap}{x qual:Str}{k:Nat}{ps:List Str}{sp:Sp}{st:Stmt}{f:Addr}{fd:FuncData}
theorem ZET.mk (F:Fun K x qual st f fd) (b:Binds K fd ps []) (m:mg x=some (.ref f)) (h:ZJ2 P w K mg base (CX1 P w) k f fd ps sp):ZET P w K mg base x k ps sp:=⟨f,fd,h,b,F.kp,m⟩
end
section
variable {X:Cx}{x:Str}{j k:Nat}{ps:List Str}{sp:Sp}{p pos:Pos}{e:Expr}{es:List Expr}{t:TA}{E:St->XK}
theorem Goes.call (go:Goes X E) (hex:X.ex=[]){pins:List (Addr×Obj)}{σ:St} {H:Hp}{s s':Shared}{e:Value}(I:Inv X pins σ H s) (h:CX1 X.prog X.w X.stack H s (E σ) e s'):X.xe e s':=by
 have ZR8:∀ a,s.heap.get? a=none->X.s₀.heap.get? a=none:=fun a ha=>by
  cases q:X.s₀.heap.get? a with
  | none=>rfl
  | some o=>
   obtain ⟨o1,h1⟩:=I.base.there a o q (by rw [hex];simp)
   rw [ha] at h1;cases h1
 obtain ⟨ea,C,dx,tb,H',rfl,os,bare,un,hok,x,⟨u1,u2⟩,ut,hE⟩:=h
 obtain ⟨hh,g,d,t,os'⟩:=s'
 obtain rfl:os'=s.os:=os
 have I2:=I.call (h':=hh) (g':=g) (d':=d) (t':=t) (ch:=[]) un hok bare (fun b z=>absurd z (by simp))
 refine go pins σ H' _ ea C dx tb I2 x ⟨u1,ZR8 _ u2⟩ (fun T eT=>⟨(ut T eT).1,ZR8 _ (ut T eT).2⟩) (fun p hp=>⟨fun z=>?_,fun z=>?_⟩) hE
 ·have:=(I.pin p hp).1
  rw [z,u2] at this;cases this
 ·have:=(I.pin p hp).1
  rw [(ut _ z).2] at this;cases this
theorem ZUU (h:ZET X.prog X.w X.K X.mg X.base x k ps sp) (hr:ZFW j X.A) (hk:k<=j) (go:Goes X E) (hex:X.ex=[]) (ha:PA X (e :: es) t) (hg:Gl X x:=by rfl) (hdb:(x == ("__debug__" : Str))=false:=by decide)
  (he:starEach (e :: es) X.env=(false,eval e X.env) :: starEach es X.env:=by rfl) (hpl:(backTo pos (starEach es X.env)).any (·.1)=false:=by rfl) :
  PE X (.Call (.Name x p) (e :: es) [] pos) (ZNn sp E t):=by
 obtain ⟨f,fd,F,b,kp,m⟩:=h
 have F:=F.mono hk
 intro pins s σ H Q I h
 refine wpAny_Call_Name_kw (ZFc I hg m ?_ hdb)
 refine PySem.W.callWith_K (h₀:=X.base) I.ok.mod.kin kp (thn (ha pos pins s σ H _ I h) fun us s1 ⟨vs,H1,I1,r,q⟩=>⟨I1.kIn,?_⟩) he hpl
 have hl:us.length=ps.length:=by rw [<- r.length];exact F.len _ _ _ _ q
 refine wpAny_call (codeAny_mono (F.run X.A X.stack s1 H1 ⟨us,[]⟩ us vs Q (E σ) hr I1.ZWz (by have z:=b s1 us I1.kIn (by rw [List.append_nil];exact hl);rw [List.append_nil] at z;exact z) r q) fun r s' hq=>?_)
 cases r with
 | error e=>exact go.call hex I1 hq
 | ok fl=>
  cases fl with
  | ret u=>exact I1.after hq
  | next=>exact False.elim hq
  | brk=>exact False.elim hq
  | cont=>exact False.elim hq
end
section
variable {P:Program}{w:World}{K:PySem.W.Frag}{mg:Str->Option Value}{base:Heap}{N:List Str}{qual:Str}{scope:Scope}{f:Addr}{cd:Value}{A:Around}{outer:List Env}{s:Shared}{H:Hp}{E:XK}
theorem ZB6:Goes (ZLH (CX1 P w) P w K mg base N qual scope f cd A outer s H E) (fun _=>E):=fun pins σ H' s' ea C dx tb I x u ut _ hE=>
 ZQL.leave ⟨pins,σ,H',ea,C,dx,tb,rfl,I,x,u,ut,hE⟩
theorem ZTd:PassesOwn (model P w) (ZLH (CX1 P w) P w K mg base N qual scope f cd A outer s H E).A (ZLH (CX1 P w) P w K mg base N qual scope f cd A outer s H E).env (ZLH (CX1 P w) P w K mg base N qual scope f cd A outer s H E).xe:=PassesOwn.leaving
end
theorem Fun.okx {P:Program}{w:World}{K:PySem.W.Frag}{mg:Str->Option Value}{base:Heap}{x qual:Str}{st:Stmt}{f:Addr}{fd:FuncData}{N ps:List Str}{k:Nat}{sp:Sp}(F:Fun K x qual st f fd) (S:ZAP N ps (ZA4 st)) (len:∀ vs H Q E,sp vs H Q E->vs.length=ps.length)
  (hbody:∀ (cdv:Value) (A:Around) (outer:List Env) (s:Shared) (H:Hp) (vs:List V) (Q:VK) (E:XK),ZFW k (A.deeper (envOfC qual (ZA4 st) s.heap.objs.size f cdv))->sp vs H Q E->
   ∃ t,QSs (ZLH (CX1 P w) P w K mg base N qual (ZA4 st) f cdv A outer s H E) (ZAN st) t/\t { nx:=fun _ H'=>Q .non H',rt:=Q } (start N vs) H):ZJ2 P w K mg base (CX1 P w) (k+1) f fd ps sp:=by
 obtain ⟨oc,od,kV,doc,pm,an,cdv,ct,osl,rfl,lk,hcd⟩:=F.ex
 refine ZV0 lk hcd S len fun A outer s H vs Q E hr hsp=>?_
 obtain ⟨t,h,q⟩:=hbody cdv A outer s H vs Q E hr hsp
 exact ⟨t,h.h,q⟩
section
variable {X:Cx}{x n:Str}{S C fI:Addr}{i j k kk:Nat}{ps:List Str}{sp:Sp}{p np cpos hpos pos:Pos}{e e0:Expr}{es:List Expr}{t:TA}{E:St->XK}{body ZEW:List Stmt}{b0:Stmt}{tbd:(St->XK)->TS}{th:TS}{fd:FuncData}{fld par:Str}
theorem ZCp (h:ZET X.prog X.w X.K X.mg X.base x k ps sp) (hr:ZFW j X.A) (hk:k<=j) (go:Goes X E) (hex:X.ex=[]) (ha:QA X (e :: es) t) (hg:Gl X x:=by rfl) (hdb:(x == ("__debug__" : Str))=false:=by decide)
  (he:starEach (e :: es) X.env=(false,eval e X.env) :: starEach es X.env:=by rfl) (hpl:(backTo pos (starEach es X.env)).any (·.1)=false:=by rfl):QE X (.Call (.Name x p) (e :: es) [] pos) (ZNn sp E t):=⟨ZUU h hr hk go hex ha.h hg hdb he hpl⟩
theorem ZM0 (hg:Gl X x) (hm:X.mg x=some (.ref C)) (q:ZNH X.K C none=true) (hc:X.calm=true) (hex:X.ex=[]) (go:Goes X E) (ha:QA X (e0 :: es) t)
  (hdb:(x == ("__debug__" : Str))=false:=by decide) (he:starEach (e0 :: es) X.env=(false,eval e0 X.env) :: starEach es X.env:=by rfl) (hpl:(backTo cpos (starEach es X.env)).any (·.1)=false:=by rfl) :
  QS X (.Raise (some (.Call (.Name x np) (e0 :: es) [] cpos)) none pos) (ZMw C E t):=⟨ZOv hg hm q hc hex go ha.h hdb he hpl⟩
theorem ZQQ (c:ExI X.K C fI fld) (hg:Gl X x) (hm:X.mg x=some (.ref C)) (Fn:ZJ2 X.prog X.w X.K X.mg X.base CX0 kk fI fd ["self", par] (ZOX C fld)) (hb:Binds X.K fd ["self", par] []) (hr:ZFW (kk+1) X.A) (hc:X.calm=true) (hex:X.ex=[]) (go:Goes X E) (ha:QA X [e0] t)
  (hdb:(x == ("__debug__" : Str))=false:=by decide) (he:starEach [e0] X.env=(false,eval e0 X.env) :: starEach [] X.env:=by rfl) (hpl:(backTo cpos (starEach [] X.env)).any (·.1)=false:=by rfl) :
  QS X (.Raise (some (.Call (.Name x np) [e0] [] cpos)) none pos) (ZKX C fld E t):=⟨ZPD c hg hm Fn hb hr hc hex go ha.h hdb he hpl⟩
end
end L2
namespace L2
section
variable {prog:Program}{w:World}{A:Around}{E:Value->Shared->Prop}{s:Shared}{K:PySem.W.Frag}{x C:Addr}{ox:Obj}{od:Option Obj}{name:Str}{fill expr:Bool}{tk:Tok}
end
end L2
namespace L2
section
variable {X:Cx}
end
end L2
namespace L2
section
variable {X:Cx}{e:Expr}{ta:TE}{f:Str}{pos:Pos}
end
end L2
namespace L2
section
variable {prog:Program}{w:World}{A:Around}{E:Value->Shared->Prop}{s:Shared}
end
section
variable {X:Cx}
end
end L2
namespace L2
section
variable {X:Cx}
end
end L2
namespace Fz
open L2 Lw
theorem ZNi (x:Int):∀ ns:List Int,inV (.int x) (ns.map V.int)=decide (x∈ns)
 | []=>by simp [inV]
 | n :: r=>by
  have ih:=ZNi x r
  unfold inV at ih ⊢
  rw [List.map_cons,List.any_cons,ih]
  by_cases h:n=x
  ·subst h;simp [eqV]
  ·have h':¬ x=n:=fun e=>h e.symm
   simp [eqV,h,h']
theorem ZQN (ns:List Int):(ns.map V.int).all ZEA=true:=by
 rw [List.all_eq_true];intro x hx
 obtain ⟨y,_,rfl⟩:=List.mem_map.mp hx;rfl
structure Con (K:PySem.W.Frag) (a:Addr) (xs:List PV):Prop where
 flt:xs.all flat=true
 sq:∀ H,SqT K H a (xs.map Fz.enc)
 ob:∃ o:Obj,K.lookup a=some o/\o.cls=.type "tuple"
theorem Con.of {K:PySem.W.Frag}{a:Addr}{xs:List PV}{vs:List V}(h:∀ H,SqT K H a vs) (e:xs.map Fz.enc=vs) (f:xs.all flat=true):Con K a xs:=by
 subst e
 refine ⟨f,h,?_⟩
 rcases h (fun _=>none) with h | ⟨o,its,n,h1,h2,_⟩
 ·rcases h with h | ⟨_,h⟩
  ·cases h
  ·cases h
 ·exact ⟨o,h1,h2⟩
theorem Con.dat {K:PySem.W.Frag}{a:Addr}{xs:List PV}{d:Nat}(h:Con K a xs) (hd:∀ x∈xs,dat K d x):dat K (d+1) (.con a xs):=⟨hd,h.flt,h.sq⟩
section
variable [Xw]
variable {E:Ent0}{ss:List Slot}{σ:L2.St} {F H F' H':Hp}{K:PySem.W.Frag}{ta tb tc te:TE}{k:PV->Prop}{v:V}{tp:Bool}{xs:List PV}{nx:List Slot->Prop}{R:Ret}
theorem ZSJ {a:Addr}(xs:List PV) (hk:k (.con a xs)):Wp ss (tC (.ref a)) k:=⟨fun E σ F H Q S q=>q _ _ F H (.refl S) .con hk⟩
theorem ZVG {neg:Bool}(h:Wp ss ta fun p=>∃ x,p=.int x/\Wq ss tb fun _ ys=>∃ ns:List Int,ys=ns.map PV.int/\k (.bl (if neg then !decide (x∈ns) else decide (x∈ns)))):Wp ss (tOp (rIn K neg) ta tb) k:=⟨fun E σ F H Q S q=>
 h.go E σ F H _ S fun v p F1 H1 m1 r1 ⟨x,e,h2⟩=>by
  subst e;cases r1
  exact h2.go E σ F1 H1 _ m1.st fun v2 tp ys F2 H2 m2 sv ⟨ns,e2,kk⟩=>by
   subst e2
   obtain ⟨l,vs,rfl,hl,r⟩:=sv.seq m2.st
   rw [r.ints] at hl
   refine ⟨l,_,rfl,(HOq.sq (K:=K) hl).or,rfl,ZQN ns,?_⟩
   rw [ZNi]
   exact q _ _ F2 H2 (m1.trans m2) (.bl _) kk⟩
end
end Fz
namespace Fz
open L2 Lw
theorem ZRa {α:Type} (xs:List α){i j:Nat}(hi:i<=j) (hj:j<=xs.length):ZKu xs (some (i:Int)) (some (j:Int))=(xs.drop i).take (j - i):=by
 unfold ZKu
 rw [HT.ZEh,HT.ZEh,Nat.min_eq_left hj,Nat.min_eq_left (Nat.le_trans hi hj)]
theorem ZPe (ns:List Str) (x:Str):(ns.filter fun y=>!alike (.str y) (.str x))=wo ns x:=by
 unfold wo alike;rfl
end Fz
namespace Fz
open L2 Lw
section
variable [Xw]
variable {E:Ent0}{ss:List Slot}{σ:L2.St} {F H F1 F' H':Hp}{K:PySem.W.Frag}{js:List Nat}{ta tb tc te ti:TE}{nx:List Slot->Prop}{R:Ret}{k:PV->Prop}{xs:List PV}
theorem ZR0 {sp:Sp}{i:Nat}{ns:List Int}{k:List PV->Prop}(hsp:sp=ZQw) (hi:ss[i]?=some (.raw (ZDK K ns))) (h:Wp ss te fun x=>∃ m,x=.int m/\0<=m/\m<=1000/\Wp ss tb fun y=>∃ m2,y=.int m2/\1<=m2/\m2<=100/\∀ rs:List Str,(rs.length:Int)<=m2->(∀ x∈rs,Nm x)->rs.Nodup->k (rs.map PV.str)) :
  Wn ss (ZDr sp [] E0 (ZAe (ZDr (ZRr K) [] E0 (ZAe (ZFG i) (ZAe te ZCq))) (ZAe tb ZCq))) k:=⟨fun E σ F H Q S q=>by
 subst hsp
 obtain ⟨v,e,⟨a,ev,hq⟩,st⟩:=S.ok i _ hi
 subst ev
 refine ⟨_,e,h.go E σ F H _ S fun v x F1 H1 m1 r ⟨m,em,m0,m1',hw⟩=>?_⟩
 subst em;cases r
 obtain ⟨v',e',hq1,_⟩:=m1.st.ok i _ hi
 rw [e] at e';cases e'
 obtain ⟨a',ea,hq'⟩:=ZDb K ns _ F1 H1 m1.st.fh hq1
 cases ea
 refine ⟨a,ns,m,rfl,hq',m0,m1',fun p H2 hp s pp=>?_⟩
 have m2:=m1.st.grow s
 refine hw.go E σ F1 H2 _ m2.st fun v2 y F3 H3 m3 r3 ⟨mm,emm,mm0,mm1,kk⟩=>?_
 subst emm;cases r3
 have pslot:∀ (j:Nat) s,ss[j]?=some s->¬ ZIv s σ[j]? p:=fun j s hj=>m1.st.ZIU hj hp
 have np:ZMj ss σ p:=fun j hj=>pslot j _ hj
 have pp3:Pot H3 p:=Pot.keep pp fun o eo=>m3.hh p o np eo
 have fp3:F3 p=Option.none:=by
  cases z:F3 p with
  | none=>rfl
  | some o=>
   obtain ⟨_,_,w,_⟩:=pp
   rcases m3.nn p o z with z | z
   ·rw [m1.st.ZHI hp] at z;cases z
   ·rw [w] at z;cases z
 refine ⟨p,mm,rfl,pp3,mm0,mm1,fun l H4 rs hl s4 hl2 hz hN nd=>?_⟩
 have m13:=m1.trans (m2.trans m3)
 have m14:Mv E ss σ F H F3 H4:=by
  refine S.step m13.ff (fun b o z=>s4.same b o (ZAg z fp3) (m13.st.fh b o z)) (fun b o n z=>s4.same b o (fun w=>?_) (m13.hh b o n z)) m13.nn fun j l' hj ej=>?_
  ·subst w;rw [m1.none hp] at z;cases z
  ·exact Pot.keep (m13.st.ZG0 hj ej) fun o z=>s4.same l' o (fun w=>pslot j _ hj (w▸ej)) z
 exact q l _ _ F3 H4 m14 (m13.st.ZHI hl) (m13.none hl) hl2 (ZDR rs) (kk rs hz hN nd)⟩
theorem ZMo {i:Nat}(hi:ss[i]?=some .pot) (h:Wq ss ta fun tp xs=>tp=false/\∃ ns:List Str,xs=ns.map PV.str/\(∀ x∈ns,Nm x)/\ns.length<=1000/\∀ x:Str,Nm x->x∉ns->k (.str x)) :
  Wp ss (ZDr (ZL9 K) [] E0 (ZAe (ZFG i) (ZAe ta ZCq))) k:=⟨fun E σ F H Q S q=>by
 obtain ⟨p,e,_⟩:=S.ok i _ hi
 refine ⟨_,e,h.go E σ F H _ S fun v tp xs F1 H1 m1 sv ⟨et,ns,ex,hN,hz,kk⟩=>?_⟩
 subst et;subst ex
 obtain ⟨l,vs,ev,hn,hl,r⟩:=sv
 subst ev
 rw [r.strs] at hl
 exact ⟨p,l,ns,rfl,m1.st.ZG0 hi e,SqL.of hl,fun z=>hn i hi (z▸e),hN,hz,fun x H3 hx hx2 s=>q _ _ F1 H3 (m1.trans (m1.st.ZQ3 hi e s)) (.str x) (kk x hx hx2)⟩⟩
def ZCi:Option Str->PV
 | none=>.non
 | some x=>.str x
theorem ZK7 (ns:List Str) (r:Str) (g:Nat) (cs:List Str):ZJD ns r g cs=.tup [ZCi (stO ns g cs),ZD1 r (stG ns g cs) (stS ns g cs)]:=by
 unfold ZJD stG stS stO
 cases ZE6 ns g cs with
 | nil=>rfl
 | cons x t=>rfl
end
end Fz
namespace L2
section
variable {X:Cx}
def jw (sep:Str) (ys:List Str):Nat:=(ys.map (·.length)).sum+ys.length * sep.length
def rJoin (K:PySem.W.Frag):V->List V->Hp->VK->Prop:=fun x xs H Q=>∃ (sep:Str) (p:Addr) (tp:Bool) (ys:List Str),x=.str sep/\xs=[.ref p]/\SqB K tp H p (ys.map V.str)/\jw sep ys<=16777216/\Q (.str (Txt.join sep ys)) H
def ZXb:List V->Hp->VK->Prop:=fun xs H Q=>(∃ i,xs=[.int i]/\i.natAbs < 2 ^ 1000/\Q (.str (toString i)) H)∨∃ x,xs=[.str x]/\Q (.str x) H
end
end L2
namespace Fz
open L2 Lw
def ZXi:PV->Str
 | .int i=>toString i
 | .str x=>x
 | _ => ""
def ZWe:PV->Prop
 | .int i=>i.natAbs < 2 ^ 1000
 | .str _=>True
 | _=>False
section
variable [Xw]
variable {E:Ent0}{ss:List Slot}{σ:L2.St} {F H F' H':Hp}{K:PySem.W.Frag}{ta tb tc te:TE}{k:PV->Prop}{v:V}{tp:Bool}{xs:List PV}{nx:List Slot->Prop}{R:Ret}
theorem ZT9 (h:Wp ss te fun p=>ZWe p/\k (.str (ZXi p))):Wp ss (tCB ZXb (ZAe te ZCq)) k:=⟨fun E σ F H Q S q=>
 h.go E σ F H _ S fun v p F1 H1 m1 r ⟨ok,kk⟩=>by
  cases r with
  | int i=>exact .inl ⟨i,rfl,ok,q _ _ F1 H1 m1 (.str _) kk⟩
  | str x=>exact .inr ⟨x,rfl,q _ _ F1 H1 m1 (.str _) kk⟩
  | _=>exact ok.elim⟩
theorem ZTh (h:Wp ss ta fun p=>∃ sep,p=.str sep/\Wq ss tb fun _ ys=>∃ zs:List Str,ys=zs.map PV.str/\jw sep zs<=16777216/\k (.str (Txt.join sep zs))):Wp ss (tBM K "str" (rJoin K) ta (ZAe tb ZCq)) k:=⟨fun E σ F H Q S q=>
 h.go E σ F H _ S fun v p F1 H1 m1 r1 ⟨sep,e,h2⟩=>by
  subst e;cases r1
  refine ⟨rfl,h2.go E σ F1 H1 _ m1.st fun v2 tp ys F2 H2 m2 sv ⟨zs,e2,hz,kk⟩=>?_⟩
  subst e2
  obtain ⟨l,vs,rfl,hl,r⟩:=sv.seq m2.st
  rw [r.strs] at hl
  exact ⟨sep,l,tp,zs,rfl,rfl,HOq.sq hl,hz,q _ _ F2 H2 (m1.trans m2) (.str _) kk⟩⟩
end
end Fz
namespace Fz
open L2 Lw
end Fz
namespace Fz
open L2 Lw
abbrev ZNM:=List Slot->Ret->(Ex->Prop)->Prop
def spX (pre:ZNM):Sp:=fun vs H Q X=>∃ (ss:List Slot) (R:Ret) (D:Ex->Prop) (F:Hp) (A:List Addr),pre ss R D/\Sg (E3 A F H) ss (vs.map some) F H/\(∀ v F' H',Fin (E3 A F H) F' H'->R.ok (E3 A F H) F' H' v->Q v H')/\
 ∀ (x:Ex) (C:Value) (dx:Option Addr) F' H',Fin (E3 A F H) F' H'->D x->x.at F' C dx->X C dx H'
@[reducible] def xwOf (X:XK) (D:Ex->Prop):Xw:=⟨fun _=>X,fun _=>True,D⟩
@[reducible] def xwT (E:Ent0) (J:List Slot->Prop) (D:Ex->Prop):Xw:=⟨fun σ C dx H=>∃ ss F x,J ss/\Sg E ss σ F H/\D x/\x.at F C dx,J,D⟩
def ZXg:PV->Prop
 | .str x=>(reprText x).length<=100000
 | .int i=>i.natAbs.log2 < 1920
 | _=>False
section
variable [Xw]
variable {E:Ent0}{ss:List Slot}{σ:L2.St} {F H F' H':Hp}{pre:ZNM}{t:TA}{te:TE}{k:PV->Prop}{nx:List Slot->Prop}{R:Ret}{K:PySem.W.Frag}{C S:Addr}{fld:Str}
theorem ZBu (h:Wa ss t fun l=>∃ k' D,pre l (.is k') D/\Xw.J ss/\(∀ x,D x->Xw.D x)/\∀ p,k' p->k p):Wp ss (ZNn (spX pre) Xw.e t) k:=⟨fun E σ F H Q S q=>
 h.go E σ F H _ S fun vs l F1 H1 m1 a ⟨k',D,hp,hJ,hD,kk⟩=>by
  refine ⟨l,.is k',D,F1,[],hp,m1.st.ZRP a,fun v F' H' f ⟨p,r,kp⟩=>?_,fun x C dx F' H' f d hat=>?_⟩
  ·exact q v p F' H' (m1.trans (m1.st.back (fun _ h=>absurd h List.not_mem_nil) f)) r (kk p kp)
  ·exact E.hx ss σ F' H' x C dx hJ (m1.st.back (fun _ h=>absurd h List.not_mem_nil) f).st (hD x d) hat⟩
theorem ZLK (h:We ss t fun ps=>ps.length<=1000/\Xw.J ss/\Xw.D ⟨C,[],[]⟩):Ws ss (ZMw C Xw.e t) nx R:=⟨fun E D σ F H S hn hr=>
 h.go E σ F H _ S fun vs ps F1 H1 m1 rs ⟨hl,hJ,hD⟩=>⟨by rw [rs.length];exact hl,E.hx ss σ F1 H1 ⟨C,[],[]⟩ (.ref C) none hJ m1.st hD ⟨rfl,.inl ⟨rfl,rfl,rfl⟩⟩⟩⟩
theorem ZBo (h:Wp ss te fun p=>ZXg p/\Xw.J ss/\Xw.D ⟨C,[fld],[p]⟩):Ws ss (ZKX C fld Xw.e (ZAe te ZCq)) nx R:=⟨fun E D σ F H S hn hr=>
 h.go E σ F H _ S fun v p F1 H1 m1 r ⟨sp,hJ,hD⟩=>by
  refine ⟨v,rfl,?_,fun d hd=>?_⟩
  ·cases r <;> first | exact sp | exact sp.elim
  ·have m2:=m1.st.alloc hd (.xd [(fld,v)])
   exact E.hx ss σ _ _ ⟨C,[fld],[p]⟩ (.ref C) (some d) hJ m2.st hD ⟨rfl,.inr ⟨d,[v],rfl,ZA6,rfl,.cons (r.mono m2.ff) .nil⟩⟩⟩
end
section
variable {pre:ZNM}{H:Hp}
theorem ZDe {N:List Str}{n:Nat}{vs:List V}{Q:VK}{X:XK}{t:TS}(h:spX pre vs H Q X) (hl:∀ ss R D,pre ss R D->ss.length=n)
  (hw:∀ ss R D,pre ss R D->let _i:Xw:=xwOf X D;Ws (ss++List.replicate (N.length - n) .any) t (fun _=>∃ k,R=.is k/\k .non) R):t { nx:=fun _ H'=>Q .non H',rt:=Q } (L2.start N vs) H:=by
 obtain ⟨ss,R,D,F,A,hp,S,q,qx⟩:=h
 have e:vs.length=n:=by have:=S.len;rw [List.length_map] at this;rw [<- this];exact hl ss R D hp
 unfold L2.start
 rw [e]
 letI:Xw:=xwOf X D
 refine (hw ss R D hp).go ⟨E3 A F H,fun ss' σ' F' H' x C dx _ S' d hat=>qx x C dx F' H' S'.toFin d hat⟩ _ _ F H (S.grown _) (fun ss' σ' F' H' ⟨k,e,kn⟩ S' _=>?_) fun v F' H' f ok=>q v F' H' f ok
 subst e
 exact q .non F' H' S'.toFin ⟨.non,.non,kn⟩
theorem ZDt {n:Nat}{vs:List V}{Q:VK}{X:XK}(hl:∀ ss R D,pre ss R D->ss.length=n) (h:spX pre vs H Q X):vs.length=n:=by
 obtain ⟨ss,R,D,F,A,hp,S,q⟩:=h
 have:=S.len
 rw [List.length_map] at this
 rw [<- this];exact hl ss R D hp
end
end Fz
namespace Fz
open L2 Lw
section
variable {E:Ent0}{ss:List Slot}{σ:L2.St} {F H F' H':Hp}
abbrev Ent0.at (E:Ent0) (F:Hp):Ent0:=⟨E.A,F,E.H0,E.B⟩
theorem Fin.un (S:Fin E F H) (f:Fin (E.at F) F' H'):Fin E F' H':=⟨f.fh,S.f0.trans f.f0,f.keep,fun a o e=>(f.fresh a o e).elim (fun e=>S.fresh a o e) .inr,f.pots,f.potF,f.a0,f.bF,f.bH,f.b0⟩
theorem Ok.un {G:Hp}{s:Slot}{o:Option (Option V)}:Ok (E.at G) F H s o↔Ok E F H s o:=by
 cases s with
 | sq tp xs=>cases tp <;> exact Iff.rfl
 | _=>exact Iff.rfl
theorem Sg.un {ss':List Slot}{σ':L2.St} (S:Sg E ss σ F H) (S':Sg (E.at F) ss' σ' F' H'):Sg E ss' σ' F' H':=⟨S.toFin.un S'.toFin,S'.len,fun i s hi=>Ok.un.mp (S'.ok i s hi),S'.dis⟩
theorem Sg.atF (S:Sg E ss σ F H):Sg (E.at F) ss σ F H:=⟨⟨S.fh,ZAk.refl _,S.keep,fun _ _ e=>.inl e,S.pots,S.potF,S.a0,S.bF,S.bH,S.b0⟩,S.len,fun i s hi=>Ok.un.mpr (S.ok i s hi),S.dis⟩
theorem Ret.un {R:Ret}{G:Hp}{v:V}(h:R.ok (E.at G) F H v):R.ok E F H v:=by
 cases R <;> exact h
end
section
variable [Xw]
variable {ss:List Slot}{nx:List Slot->Prop}{R:Ret}{K:PySem.W.Frag}{S:Addr}{j:Nat}{tb:(L2.St->XK)->TS}{th:TS}
end
end Fz
namespace Fz
open L2 Lw
section
variable [Xw]
variable {E:Ent0}{ss:List Slot}{σ:L2.St} {F H F' H':Hp}{K:PySem.W.Frag}{te:TE}{k:PV->Prop}{v:V}{fld:Str}
end
end Fz
namespace L2
def ZNV (s:Stmt):Stmt:=match s with
 | .ClassDef _ _ _ (d :: _) ..=>d
 | s=>s
def ZHz (P:Program) (w:World) (K:PySem.W.Frag) (mg:Str->Option Value) (base:Heap) (C:Addr) (fld:Str):Prop:=
 ∃ (fI:Addr) (fd:FuncData) (par:Str),ExI K C fI fld/\ZJ2 P w K mg base CX0 1 fI fd ["self", par] (ZOX C fld)/\Binds K fd ["self", par] []
theorem ZGC {C:Addr}{fld:Str}{a b:Str}:∀ vs H Q E,ZOX C fld vs H Q E->vs.length=[a,b].length:=fun vs H Q E h=>by obtain ⟨ea,v,rfl,_⟩:=h;rfl
theorem ZHf {C:Addr}{fld:Str}{vs:List V}{H:Hp}{Q:VK}{E:XK}{N:List Str}(hN:N.length=2) (h:ZOX C fld vs H Q E) :
  ZTs (ZKm (ZO3 C (ZAe (ZFG 0) (ZAe (ZXL (ZFG 1)) ZCq)))) (ZTs (ZXN C fld (ZFG 0) (ZFG 1)) ZRB) { nx:=fun _ H'=>Q .non H',rt:=Q } (start N vs) H:=by
 obtain ⟨ea,v,rfl,sv,hx,q⟩:=h
 have e0:(start N [V.ref ea,v])=[some (.ref ea),some v]:=by
  unfold start
  simp [hN]
 rw [e0]
 refine ⟨_,rfl,_,rfl,sv,fun y=>⟨ea,_,rfl,hx,?_⟩⟩
 refine ⟨_,rfl,_,rfl,ea,rfl,hx,fun d hd=>q d hd⟩
theorem ZEu {X:Cx}:Goes X (fun _=>E0):=fun _ _ _ _ _ _ _ _ _ _ _ _ _ h=>h.elim
section
variable {X:Cx}{x:Str}{C:Addr}{fld:Str}{E:St->XK}{np cpos pos:Pos}{e0:Expr}{t:TA}{j:Nat}
theorem ZDP (c:ZHz X.prog X.w X.K X.mg X.base C fld) (hg:Gl X x) (hm:X.mg x=some (.ref C)) (hr:ZFW j X.A) (hj:2<=j) (hc:X.calm=true) (hex:X.ex=[]) (go:Goes X E) (ha:QA X [e0] t)
  (hdb:(x == ("__debug__" : Str))=false:=by decide) (he:starEach [e0] X.env=(false,eval e0 X.env) :: starEach [] X.env:=by rfl) (hpl:(backTo cpos (starEach [] X.env)).any (·.1)=false:=by rfl) :
  QS X (.Raise (some (.Call (.Name x np) [e0] [] cpos)) none pos) (ZKX C fld E t):=by
 obtain ⟨fI,fd,par,ci,Fn,hb⟩:=c
 exact ZQQ ci hg hm Fn hb (hr.mono hj) hc hex go ha hdb he hpl
end
end L2
namespace L2
def ZTO (K:PySem.W.Frag) (S:Addr) (tb:(St->XK)->TS) (th:TS):TS:=fun D σ H=>∃ E1:St->XK,tb E1 D σ H/\
 ∀ σ1 C dx ea H1,E1 σ1 (.ref C) dx H1->H1 ea=none->PySem.W.exmOne K (.ref C) (.ref S)=some true/\th D σ1 H1
section
variable {X:Cx}{x:Str}{S:Addr}{body ZEW:List Stmt}{b0:Stmt}{np hpos pos:Pos}{tbd:(St->XK)->TS}{th:TS}
theorem ZSr (hst:X.stack=X.env :: X.outer) (hex:X.ex=[]) (hg:Gl X x) (hm:X.mg x=some (.ref S))
  (hb:∀ (pn:List (Addr×Obj)) (xe:Value->Shared->Prop) (E1:St->XK),Goes (X.ZHW pn xe) E1->PSs (X.ZHW pn xe) body (tbd E1))
  (hh:∀ e,PSs (X.ZEW e) (b0 :: ZEW) th) (hdb:(x == ("__debug__" : Str))=false:=by decide) :
  PS X (.Try body [.ExceptHandler (some (.Name x np)) none (b0 :: ZEW) hpos] [] [] pos) (ZTO X.K S tbd th):=by
 intro pins s σ H D I h
 obtain ⟨E1,h1,h2⟩:=h
 have hf:X.env.frame=some X.env.locals:=by
  rcases I.ok.stk with e | ⟨_,hf⟩
  ·rw [e] at hst
   exact absurd (congrArg List.length hst) (by simp)
  ·exact hf
 refine wpAny_Try_except ?_
 refine wpAny_mono (hb (X.pn++pins) _ E1 ?_ [] s σ H D I.ZHW h1) (fun f s1 q=>?_) (fun e s1 q=>q)
 ·intro pins2 σ1 H1 s1 ea C dx tb I1 x1 ⟨u1,u2⟩ ut hp hE
  have I1':Inv X pins σ1 H1 s1:=I1.ZFi
  have u2:X.s₀.heap.get? ea=none:=u2
  have ut:∀ T,tb=some T->H1 T=none/\X.s₀.heap.get? T=none:=ut
  have hp:∀ p∈X.pn++pins,p.1≠ea/\tb≠some p.1:=fun p q=>hp p (List.mem_append_left _ q)
  refine ZJG (outer:=X.outer) (L:=X.env.locals) (by rw [<- hst];exact I1'.ok.frames) (base:=X.base) (by rw [<- hst];exact I1'.stack) hf x1 fun h' T kp hT x'=>?_
  have I2:=I1'.ZUW hst x1 u1 u2 ut hp kp
  obtain ⟨ok1,ok2⟩:=h2 σ1 C dx ea H1 hE u1
  refine wpAny_handleBy_cons ?_ (fun z=>by cases z)
  refine codeAny_handlers_test ?_
  refine ZFc (X:=X.ZEW (.ref ea)) I2.ZEW hg hm ?_ hdb
  obtain ⟨oe,vs,he,hc,hd,hdat,hz,h3⟩:=x'.obj
  have LT:PySem.W.Looks (model X.prog X.w) h' (typeOf (.ref ea)) (.ref C):=by
   rw [<- hc]
   exact (PySem.W.Looks.ld he).andThen .now
  refine (PySem.W.exm_one (K:=X.K) I2.kIn LT ok1).here ?_
  refine codeAny_handlers_suite ?_
  have fl:∀ b∈frs (X.env :: X.outer),∃ o,h'.get? b=some o/\∀ vs,o.data≠.fields vs:=fun b hb=>by
   have st:=I2.stack
   rw [hst] at st
   obtain ⟨_,o,ho,hn⟩:=st.mem hb
   exact ⟨o,ho,hn⟩
  refine ZOY (s:={ s1 with heap:=h' }) (l:=X.env :: X.outer) x' fl fun h4 kp4 x4=>?_
  have utT:∀ T',some T=some T'->H1 T'=none/\X.s₀.heap.get? T'=none:=fun T' eT=>by
   cases eT
   exact ⟨I1'.hok.fresh hT,Heap.get?_none_of_le (Nat.le_trans I1'.sz hT)⟩
  have hpT:∀ p∈X.pn++pins,p.1≠ea/\some T≠some p.1:=fun p q=>⟨(hp p q).1,fun z=>by
   have e1:=Heap.lt_size (I1'.pin p q).1
   rw [<- Option.some.inj z] at e1
   exact absurd e1 (Nat.not_lt.mpr hT)⟩
  have I4:=I2.ZUW hst x' u1 u2 utT hpT kp4
  refine wpAny_mono (hh (.ref ea) pins _ _ _ D I4.ZEW ok2) (fun f s7 q=>?_) (fun _ _ z=>z.elim)
  cases f with
  | next=>
   obtain ⟨σ7,H7,I7,d⟩:=q
   exact ⟨_,_,I7.ZJs I.ok,d⟩
  | brk=>
   obtain ⟨σ7,H7,I7,d⟩:=q
   exact ⟨_,_,I7.ZJs I.ok,d⟩
  | cont=>
   obtain ⟨σ7,H7,I7,d⟩:=q
   exact ⟨_,_,I7.ZJs I.ok,d⟩
  | ret u=>
   obtain ⟨v,σ7,H7,I7,r,d⟩:=q
   exact ⟨v,_,_,I7.ZJs I.ok,r,d⟩
 ·cases f with
  | next=>
   obtain ⟨σ7,H7,I7,d⟩:=q
   exact wpAny_execs_nil ⟨_,_,I7.ZFi,d⟩
  | brk=>
   obtain ⟨σ7,H7,I7,d⟩:=q
   exact ⟨_,_,I7.ZFi,d⟩
  | cont=>
   obtain ⟨σ7,H7,I7,d⟩:=q
   exact ⟨_,_,I7.ZFi,d⟩
  | ret u=>
   obtain ⟨v,σ7,H7,I7,r,d⟩:=q
   exact ⟨v,_,_,I7.ZFi,r,d⟩
theorem ZTa (hst:X.stack=X.env :: X.outer) (hex:X.ex=[]) (hg:Gl X x) (hm:X.mg x=some (.ref S))
  (hb:∀ (pn:List (Addr×Obj)) (xe:Value->Shared->Prop) (E1:St->XK),Goes (X.ZHW pn xe) E1->QSs (X.ZHW pn xe) body (tbd E1))
  (hh:∀ e,QSs (X.ZEW e) (b0 :: ZEW) th) (hdb:(x == ("__debug__" : Str))=false:=by decide) :
  QS X (.Try body [.ExceptHandler (some (.Name x np)) none (b0 :: ZEW) hpos] [] [] pos) (ZTO X.K S tbd th):=⟨ZSr hst hex hg hm (fun pn xe E1 g=>(hb pn xe E1 g).h) (fun e=>(hh e).h) hdb⟩
end
end L2
namespace L2
section
variable {X:Cx}
end
end L2
namespace Fz
open L2 Lw
end Fz
namespace Fz
open L2 Lw
section
variable [Xw]
variable {ss:List Slot}{K:PySem.W.Frag}{ta:TE}{k:PV->Prop}{a:Addr}{ns:List Str}
theorem ZUj {neg:Bool}(c:Con K a (ns.map .str)) (h:Wp ss ta fun p=>∃ x,p=.str x/\k (.bl (if neg then !decide (x∈ns) else decide (x∈ns)))):Wp ss (tOp (rIn K neg) ta (tC (.ref a))) k:=⟨fun E σ F H Q S q=>
 h.go E σ F H _ S fun v p F1 H1 m1 r1 ⟨x,e,kk⟩=>by
  subst e;cases r1
  have sq:=c.sq H1
  rw [ZKe] at sq
  refine ⟨a,ns.map V.str,rfl,.inr sq,rfl,ZBr ns,?_⟩
  rw [ZHi]
  exact q _ _ F1 H1 m1 (.bl _) kk⟩
end
def ZLA (r:Str):Bool:=decide (r∈([("none" : Str), "ahead", "all"]))
theorem ZLo {x:Str}(h:x.length<=100) (hx:∀ c∈x.cps.toList,c < 16 ^ 8):(reprText x).length<=100000:=by
 have:=PySem.StrLaws.reprText_len x hx
 omega
theorem ZVt {x:Str}(h:Nm x):(reprText x).length<=100000:=ZLo (Nat.le_trans h.2.1 (by decide)) fun c hc=>Nat.lt_of_le_of_lt (h.2.2 c hc).2 (by decide)
end Fz
namespace Fz
open L2 Lw
def ZSp (ns ts:List Str):Bool:=if decide (Up ts)=true then (ts.map fun x=>decide (x∈ns)).all id else false
def ZKp:Pre:=fun l R=>∃ (tp:Bool) (ns ts:List Str),l=[.sq tp (ns.map .str),.is (.tup (ts.map .str))]/\ts.length < 64/\R=.is fun p=>p=.bl (ZSp ns ts)
end Fz
namespace Fz
open L2 Lw
def ZLq:PV->Bool
 | .non=>true
 | _=>false
theorem Rep.ZLq {F:Hp}{v:V}{p:PV}(r:Rep F v p):decide (v=.non)=ZLq p:=by
 cases r <;> rfl
section
variable [Xw]
variable {ss:List Slot}{ta tb:TE}{k:PV->Prop}
theorem ZKD (h:Wp ss ta fun p=>Wp ss tb fun q=>q=.non/\k (.bl (ZLq p))):Wp ss (tOp (fun x y H Q=>y=.non/\Q (.bl (decide (x=.non))) H) ta tb) k:=⟨fun E σ F H Q S q=>
 h.go E σ F H _ S fun v p F1 H1 m1 r1 h2=>h2.go E σ F1 H1 _ m1.st fun v2 p2 F2 H2 m2 r2 ⟨e,kk⟩=>by
  subst e;cases r2
  refine ⟨rfl,?_⟩
  rw [r1.ZLq]
  exact q _ _ F2 H2 (m1.trans m2) (.bl _) kk⟩
theorem ZKt (h:Wp ss ta fun p=>Wp ss tb fun q=>q=.non/\k (.bl (!ZLq p))):Wp ss (tOp (fun x y H Q=>y=.non/\Q (.bl (!decide (x=.non))) H) ta tb) k:=⟨fun E σ F H Q S q=>
 h.go E σ F H _ S fun v p F1 H1 m1 r1 h2=>h2.go E σ F1 H1 _ m1.st fun v2 p2 F2 H2 m2 r2 ⟨e,kk⟩=>by
  subst e;cases r2
  refine ⟨rfl,?_⟩
  rw [r1.ZLq]
  exact q _ _ F2 H2 (m1.trans m2) (.bl _) kk⟩
end
end Fz
namespace Fz
open L2 Lw
section
variable [Xw]
variable {ss:List Slot}{K:PySem.W.Frag}{ta tb te t u:TE}{k:PV->Prop}{pre:ZNM}{tA:TA}
theorem ZTR (h:Wp ss t k):Wp ss (ZX4 t u) k:=⟨fun E σ F H Q S q=>.inl (h.go E σ F H Q S q)⟩
theorem ZUK (h:Wp ss u k):Wp ss (ZX4 t u) k:=⟨fun E σ F H Q S q=>.inr (h.go E σ F H Q S q)⟩
theorem ZPU (h:Wq ss ta fun tp xs=>tp=true/\∃ ns:List Str,xs=ns.map PV.str/\Wp ss tb fun p=>∃ x,p=.str x/\x∈ns/\k (.int (ns.idxOf x:Nat))):Wp ss (tBM K "tuple" (ZQ5 K) ta (ZAe tb ZCq)) k:=⟨fun E σ F H Q S q=>
 h.go E σ F H _ S fun v tp xs F1 H1 m1 sv ⟨et,ns,e,h2⟩=>by
  subst e;subst et
  obtain ⟨l,vs,rfl,hl,r⟩:=sv.seq m1.st
  refine ⟨.inr (.inr (.inr (.inr ⟨rfl,_,hl⟩))),h2.go E σ F1 H1 _ m1.st fun v2 p2 F2 H2 m2 r2 ⟨x,e2,hx,kk⟩=>?_⟩
  subst e2;cases r2
  obtain ⟨l',vs',e',hl',r'⟩:=(sv.mv m2).seq m2.st
  cases e'
  rw [r'.strs] at hl'
  exact ⟨l,ns,x,rfl,rfl,SqT.of hl',hx,q _ _ F2 H2 (m1.trans m2) (.int _) kk⟩⟩
theorem ZLR (h:Wp ss te fun p=>∃ x,p=.str x/\x.length<=1000/\k (.bl (isNm x))):Wp ss (ZDr ZGD [] E0 (ZAe te ZCq)) k:=⟨fun E σ F H Q S q=>
 h.go E σ F H _ S fun v p F1 H1 m1 r ⟨x,e,hx,kk⟩=>by
  subst e;cases r
  exact ⟨x,rfl,hx,fun H3 s=>q _ _ F1 H3 (m1.trans (m1.st.grow s)) (.bl _) kk⟩⟩
theorem ZPu (h:Wp ss ta fun p=>∃ x,p=.str x/\Wp ss tb fun q=>∃ y,q=.str y/\x.length+y.length<=100000/\k (.str (x++y))):Wp ss (tOp (fun x y H Q=>∃ i j,x=.str i/\y=.str j/\i.length+j.length<=sizeLine/\Q (.str (i++j)) H) ta tb) k:=⟨fun E σ F H Q S q=>
 h.go E σ F H _ S fun v p F1 H1 m1 r1 ⟨x,e,h2⟩=>h2.go E σ F1 H1 _ m1.st fun v2 p2 F2 H2 m2 r2 ⟨y,e2,hz,kk⟩=>by
  subst e;subst e2;cases r1;cases r2
  exact ⟨x,y,rfl,rfl,Nat.le_trans hz (by decide +kernel),q _ _ F2 H2 (m1.trans m2) (.str _) kk⟩⟩
theorem ZPZ {tl th:TO}(h:Wp ss te fun p=>∃ x,p=.str x/\x.length<=100000/\Wo ss tl fun lo=>Wo ss th fun hi=>k (.str (Txt.slice x lo hi))):Wp ss (tSl ZXI te tl th) k:=⟨fun E σ F H Q S q=>
 h.go E σ F H _ S fun v p F1 H1 m1 r1 ⟨x,e,hz,h2⟩=>h2.go E σ F1 H1 _ m1.st fun lo F2 H2 m2 h3=>h3.go E σ F2 H2 _ m2.st fun hi F3 H3 m3 kk=>by
  subst e;cases r1
  exact ⟨x,rfl,Nat.le_trans hz (by decide +kernel),q _ _ F3 H3 (m1.trans (m2.trans m3)) (.str _) kk⟩⟩
theorem ZHh {k:List PV->Prop}(h:Wa ss tA fun l=>∃ k' D,pre l (.new k') D/\Xw.J ss/\(∀ x,D x->Xw.D x)/\∀ xs,k' xs->k xs):Wn ss (ZNn (spX pre) Xw.e tA) k:=⟨fun E σ F H Q S q=>
 h.go E σ F H _ S fun vs l F1 H1 m1 a ⟨k',D,hp,hJ,hD,kk⟩=>by
  refine ⟨l,.new k',D,F1,[],hp,m1.st.ZRP a,fun v F' H' f ⟨l,vs,xs,e,fl,hl,hl',r,kx⟩=>?_,fun x C dx F' H' f d hat=>?_⟩
  ·subst e
   exact q l vs xs F' H' (m1.trans (m1.st.back (fun _ h=>absurd h List.not_mem_nil) f)) fl (m1.none hl) hl' r (kk xs kx)
  ·exact E.hx ss σ F' H' x C dx hJ (m1.st.back (fun _ h=>absurd h List.not_mem_nil) f).st (hD x d) hat⟩
end
end Fz
namespace Fz
open L2 Lw
section
variable [Xw]
variable {ss:List Slot}{K:PySem.W.Frag}{ta tb:TE}
end
end Fz
namespace Fz
open L2 Lw
section
variable [Xw]
variable {ss:List Slot}{nx:List Slot->Prop}{R:Ret}{K:PySem.W.Frag}{S:Addr}{tb:(L2.St->XK)->TS}{th:TS}{ta te ti:TE}{xs:List PV}{F:Hp}
theorem ZUH (J:List Slot->Prop) (Dx:Ex->Prop) (hb:∀ E:Ent0,@Ws (xwT E J Dx) ss (tb (xwT E J Dx).e) nx R)
  (hh:∀ ss1 x,J ss1->Dx x->PySem.W.exmOne K (.ref x.C) (.ref S)=some true/\Ws ss1 th nx R):Ws ss (ZTO K S tb th) nx R:=⟨fun E D σ F H S0 hn hr=>by
 refine ⟨(xwT (E.toEnt0.at F) J Dx).e,@Ws.go (xwT (E.toEnt0.at F) J Dx) _ _ _ _ (hb (E.toEnt0.at F)) (@Ent.mk (xwT (E.toEnt0.at F) J Dx) (E.toEnt0.at F) fun ss σ F H x C dx hJ S d hat=>⟨ss,F,x,hJ,S,d,hat⟩) D σ F H S0.atF (fun ss' σ' F' H' n S' ff=>hn ss' σ' F' H' n (S0.un S') ff) (fun v F' H' f ok=>hr v F' H' (S0.toFin.un f) (Ret.un ok)),fun σ1 C dx ea H1 he hea=>?_⟩
 obtain ⟨ss1,F1,x,hJ,S1,hD,eC,hat⟩:=he
 obtain ⟨hx1,hw⟩:=hh ss1 x hJ hD
 cases eC
 have S1':=S0.un S1
 exact ⟨hx1,hw.go E D _ _ _ S1' (fun ss2 σ2 F3 H3 n2 S2 ff=>hn _ _ F3 H3 n2 S2 (S1.f0.trans ff)) fun v F' H' f ok=>hr v F' H' f ok⟩⟩
theorem ZB5.rep {vs:List V}(h:ZB5 F vs xs):∀ n:Nat,ZB5 F (List.replicate n vs).flatten (List.replicate n xs).flatten
 | 0=>.nil
 | n+1=>by rw [List.replicate_succ,List.replicate_succ,List.flatten_cons,List.flatten_cons];exact h.append (ZB5.rep h n)
theorem ZSU {k:List PV->Prop}(h:Wq ss ta fun tp xs=>tp=false/\Wp ss te fun p=>∃ n:Int,p=.int n/\-1000<=n/\n<=1000/\xs.length<=10/\k (List.replicate n.toNat xs).flatten):Wn ss (tOp ZXX ta te) k:=⟨fun E σ F H Q S q=>
 h.go E σ F H _ S fun v tp xs F1 H1 m1 sv ⟨et,h2⟩=>h2.go E σ F1 H1 _ m1.st fun v2 p F2 H2 m2 r2 ⟨n,en,n0,n1,hz,kk⟩=>by
  subst et;subst en;cases r2
  obtain ⟨l,vs,rfl,hl,r⟩:=(sv.mv m2).seq m2.st
  have hm:vs.length * n.toNat<=10 * 1000:=Nat.mul_le_mul (by rw [r.length];exact hz) (by omega)
  refine ⟨l,n,vs,rfl,rfl,hl,by omega,by omega,small (Nat.le_trans hm (by decide)),fun a ha=>?_⟩
  have m3:=m2.st.make ha (.lst (List.replicate n.toNat vs).flatten)
  exact q a _ _ F2 _ (m1.trans (m2.trans m3)) (m2.st.ZHI ha) ((m1.trans m2).none ha) ZA6 (r.rep _) kk⟩
theorem ZRT {i:Nat}(hi:ss[i]?=some (.own xs)) (h:Wp ss te fun p=>Wp ss ti fun q=>∃ (n:Int) (j:Nat),q=.int n/\ixN xs.length n=some j/\nx (ss.set i (.own (xs.set j p)))):Ws ss (ZPW te (ZWU (ZFG i) ti ZVY)) nx R:=⟨fun E D σ F H S hn hr=>
 h.go E σ F H _ S fun v p F1 H1 m1 rv h2=>by
  obtain ⟨l,vs,e,e1,e2,e3,r⟩:=m1.st.ok i _ hi
  refine ⟨_,e,h2.go E σ F1 H1 _ m1.st fun v2 q F2 H2 m2 r2 ⟨n,j,ej,hj,kk⟩=>?_⟩
  subst ej;cases r2
  obtain ⟨l',vs',e',e1',e2',e3',r'⟩:=m2.st.ok i _ hi
  rw [e] at e'
  cases e'
  refine ⟨l,vs',_,j,rfl,rfl,e3',by rw [r'.length];exact hj,?_⟩
  exact hn _ σ F2 _ kk (m2.st.put hi e e1' e2' (r'.set j (rv.mono m2.ff))) (m1.ff.trans m2.ff)⟩
theorem ZSg {i:Nat}(hi:ss[i]?=some (.own xs)) (h:Wp ss te fun q=>∃ (n:Int) (j:Nat),q=.int n/\-1000<=n/\n<=1000/\ixN xs.length n=some j/\nx (ss.set i (.own (xs.eraseIdx j)))):Ws ss (ZKm (tBM K "list" ZQJ (ZFG i) (ZAe te ZCq))) nx R:=⟨fun E D σ F H S hn hr=>by
 obtain ⟨l,vs,e,e1,e2,e3,r⟩:=S.ok i _ hi
 refine ⟨_,e,.inl ⟨rfl,_,SqL.of e3⟩,h.go E σ F H _ S fun v p F1 H1 m1 rv ⟨n,j,ej,n0,n1,hj,kk⟩=>?_⟩
 subst ej;cases rv
 obtain ⟨l',vs',e',e1',e2',e3',r'⟩:=m1.st.ok i _ hi
 rw [e] at e'
 cases e'
 obtain ⟨q1,q2,_,_⟩:=ZML hj
 rw [<- r'.length] at q1 q2
 refine ⟨l,vs',n,j,vs'[j],rfl,rfl,e3',by omega,by omega,q1,List.getElem?_eq_getElem q2,?_⟩
 exact hn _ σ F1 _ kk (m1.st.put hi e e1' e2' (r'.erase j)) m1.ff⟩
end
end Fz
namespace Fz
open L2 Lw
inductive ZAV where
 | put (x:Str) (i:Int) | take (x:Str) | move (x:Str) (i:Int) | turn (lo hi:Int)
def aP:ZAV->PV
 | .put x i=>.tup [.str "put", .str x,.int i]
 | .take x=>.tup [.str "take", .str x]
 | .move x i=>.tup [.str "move", .str x,.int i]
 | .turn lo hi=>.tup [.str "turn", .int lo,.int hi]
structure ExC where
 noName:Addr
 there:Addr
 gone:Addr
 noPlace:Addr
 full:Addr
def ZLu (C:Addr) (nm:Str):Ex:=⟨C,["name"],[.str nm]⟩
def atX (C:Addr) (i:Int):Ex:=⟨C,["at"],[.int i]⟩
def ZUI (C:Addr):Ex:=⟨C,[],[]⟩
def inR (i:Int) (lo hi:Int):Prop:=lo<=i/\i<=hi
instance {i lo hi:Int}:Decidable (inR i lo hi):=by unfold inR;infer_instance
def ZAV.due (c:ExC) (ns:List Str):ZAV->Option Ex
 | .put x i=>if isNm x=false then some (ZLu c.noName x) else if x∈ns then some (ZLu c.there x) else if ¬ inR i 0 ns.length then some (atX c.noPlace i) else if 40<=ns.length then some (ZUI c.full) else none
 | .take x=>if x∉ns then some (ZLu c.gone x) else none
 | .move x i=>if x∉ns then some (ZLu c.gone x) else if ¬ inR i 0 (ns.length - 1) then some (atX c.noPlace i) else none
 | .turn lo hi=>if ¬ inR lo 0 ns.length then some (atX c.noPlace lo) else if ¬ inR hi lo ns.length then some (atX c.noPlace hi) else none
def ZK6 (x:Str):Prop:=(reprText x).length<=100000/\x.length<=1000
def ZJI (i:Int):Prop:=i.natAbs.log2 < 1920
def ZAV.say:ZAV->Prop
 | .put x i=>ZK6 x/\ZJI i
 | .take x=>ZK6 x
 | .move x i=>ZK6 x/\ZJI i
 | .turn lo hi=>ZJI lo/\ZJI hi
def ZAV.Is (d:ZAV) (ns:List Str) (d':ZBm):Prop:=aP d=dP d'/\d'.Ok 40 ns
theorem ZS4 {c:Nat}(h:ZMV c=true):97<=c/\c<=122:=by
 refine Decidable.byContradiction fun hn=>?_
 have e:∀ i,i < 26->abc.cps.extract i (i+1)=#[97+i]:=by decide +kernel
 have no:∀ i,i+(Str.length ⟨#[c]⟩)<=abc.length->Builtin.Str.subAt abc ⟨#[c]⟩ i=false:=fun i hi=>by
  have hi':i+1<=26:=hi
  show (abc.cps.extract i (i+1) == #[c])=false
  rw [e i (by omega)]
  cases hc:(#[97+i] == #[c]) with
  | false=>rfl
  | true=>
   have q:=eq_of_beq hc
   simp at q
   exact absurd ⟨by omega,by omega⟩ hn
 unfold ZMV at h
 rw [PySem.W.occ_nil_of_no _ _ 1 no] at h
 exact absurd h (by decide)
theorem ZTo {x:Str}(h:isNm x=true):Nm x:=by
 unfold isNm at h
 simp only [Bool.and_eq_true,decide_eq_true_eq,List.all_eq_true] at h
 obtain ⟨h1,h2,h3⟩:=h
 exact ⟨by omega,by omega,fun c hc=>ZS4 (h3 c hc)⟩
theorem ZAV.good {c:ExC}{ns:List Str}{d:ZAV}(h:d.due c ns=none):∃ d':ZBm,d.Is ns d':=by
 cases d with
 | put x i=>
  simp only [ZAV.due] at h
  split at h
  ·cases h
  ·next h1=>
   split at h
   ·cases h
   ·next h2=>
    split at h
    ·cases h
    ·next h3=>
     split at h
     ·cases h
     ·next h4=>
      have h3':inR i 0 ns.length:=Decidable.not_not.mp h3
      obtain ⟨a,b⟩:=h3'
      obtain ⟨n,rfl⟩:=Int.eq_ofNat_of_zero_le a
      refine ⟨.put x n,rfl,ZTo (by cases e:isNm x <;> simp_all),h2,by omega,by omega⟩
 | take x=>
  simp only [ZAV.due] at h
  split at h
  ·cases h
  ·next h1=>exact ⟨.take x,rfl,(Decidable.not_not.mp h1:x∈ns)⟩
 | move x i=>
  simp only [ZAV.due] at h
  split at h
  ·cases h
  ·next h1=>
   split at h
   ·cases h
   ·next h3=>
    have h3':inR i 0 (ns.length - 1):=Decidable.not_not.mp h3
    obtain ⟨a,b⟩:=h3'
    obtain ⟨n,rfl⟩:=Int.eq_ofNat_of_zero_le a
    exact ⟨.move x n,rfl,Decidable.not_not.mp h1,by omega⟩
 | turn lo hi=>
  simp only [ZAV.due] at h
  split at h
  ·cases h
  ·next h1=>
   split at h
   ·cases h
   ·next h3=>
    have h1':inR lo 0 ns.length:=Decidable.not_not.mp h1
    have h3':inR hi lo ns.length:=Decidable.not_not.mp h3
    obtain ⟨a,b⟩:=h1'
    obtain ⟨a',b'⟩:=h3'
    obtain ⟨n,rfl⟩:=Int.eq_ofNat_of_zero_le a
    obtain ⟨m,rfl⟩:=Int.eq_ofNat_of_zero_le (Int.le_trans a a')
    exact ⟨.turn n m,rfl,by omega,by omega⟩
def ZQH:ZBm->ZAV
 | .put x i=>.put x i
 | .take x=>.take x
 | .move x i=>.move x i
 | .turn lo hi=>.turn lo hi
theorem ZUR (d:ZBm):aP (ZQH d)=dP d:=by cases d <;> rfl
theorem ZRG {c:ExC}{ns:List Str}{d:ZBm}(h:d.Ok 40 ns):(ZQH d).due c ns=none:=by
 cases d with
 | put x i=>
  obtain ⟨h1,h2,h3,h4⟩:=h
  simp only [ZQH,ZAV.due]
  rw [if_neg (by rw [ZTY h1];decide),if_neg h2,if_neg (Decidable.not_not.mpr ⟨by omega,by omega⟩),if_neg (by omega)]
 | take x=>simp only [ZQH,ZAV.due];rw [if_neg (Decidable.not_not.mpr (show x∈ns from h))]
 | move x i=>
  obtain ⟨h1,h2⟩:=h
  simp only [ZQH,ZAV.due];rw [if_neg (Decidable.not_not.mpr h1),if_neg (Decidable.not_not.mpr ⟨by omega,by omega⟩)]
 | turn lo hi=>
  obtain ⟨h1,h2⟩:=h
  simp only [ZQH,ZAV.due];rw [if_neg (Decidable.not_not.mpr ⟨by omega,by omega⟩),if_neg (Decidable.not_not.mpr ⟨by omega,by omega⟩)]
theorem ZP2:¬ Str.ofString "put" = Str.ofString "move" := by decide +kernel
theorem ZOz {i:Int}(h:i.natAbs < 2 ^ 1000):ZJI i:=by
 unfold ZJI
 by_cases z:i.natAbs=0
 ·rw [z];decide
 ·have:=(Nat.log2_lt z).mpr h;omega
theorem ZGF {i:Nat}(h:i<=1000000):ZJI i:=ZOz (by
 have:(1000000:Nat) < 2 ^ 1000:=by decide +kernel
 show Int.natAbs (i:Int) < _
 rw [Int.natAbs_natCast];omega)
theorem ZGu {x:Str}(h:Nm x):ZK6 x:=⟨ZVt h,by have:=h.2.1;omega⟩
theorem ZAV.ZPE {d:ZAV}{ns:List Str}{d':ZBm}(h:d.say) (e:d.Is ns d'):∀ x,d'=.take x∨(∃ i,d'=.move x i)->ZK6 x:=by
 rintro x (rfl | ⟨i,rfl⟩)
 ·have q:=e.1
  cases d with
  | take y=>simp [aP,dP] at q;subst q;exact h
  | _=>simp [aP,dP] at q
 ·have q:=e.1
  cases d with
  | move y j=>simp [aP,dP] at q;rw [<- q.1];exact h.1
  | put y j=>simp [aP,dP] at q;exact absurd q.1 ZP2
  | _=>simp [aP,dP] at q
theorem ZS6 {d:ZBm}{ns:List Str}(h:d.Ok 40 ns) (hN:∀ x∈ns,Nm x) (hz:ns.length<=40):(ZQH d).say:=by
 cases d with
 | put x i=>exact ⟨ZGu h.1,ZGF (by have:=h.2.2.1;omega)⟩
 | take x=>exact ZGu (hN x h)
 | move x i=>exact ⟨ZGu (hN x h.1),ZGF (by have:=h.2;omega)⟩
 | turn lo hi=>exact ⟨ZGF (by have:=h.1;have:=h.2;omega),ZGF (by have:=h.2;omega)⟩
def ZDw (C:Addr):ZNM:=fun l R D=>∃ (tp:Bool) (ns:List Str) (x:Str),l=[.sq tp (ns.map .str),.is (.str x)]/\ZK6 x/\(R=.is fun p=>x∈ns/\p=.int (ns.idxOf x:Nat))/\D=fun e=>x∉ns/\e=ZLu C x
def ZIR (c:ExC):ZNM:=fun l R D=>∃ (tp:Bool) (ns:List Str) (x:Str) (i:Int),l=[.sq tp (ns.map .str),.is (.str x),.is (.int i)]/\(ZK6 x/\ZJI i)/\(R=.is fun p=>(ZAV.put x i).due c ns=none)/\D=fun e=>(ZAV.put x i).due c ns=some e
def ZGm (c:ExC):ZNM:=fun l R D=>∃ (tp:Bool) (ns:List Str) (x:Str) (i:Int),l=[.sq tp (ns.map .str),.is (.str x),.is (.int i)]/\(ZK6 x/\ZJI i)/\(R=.is fun p=>(ZAV.move x i).due c ns=none)/\D=fun e=>(ZAV.move x i).due c ns=some e
def ZGy (c:ExC):ZNM:=fun l R D=>∃ (tp:Bool) (ns:List Str) (lo hi:Int),l=[.sq tp (ns.map .str),.is (.int lo),.is (.int hi)]/\(ZJI lo/\ZJI hi)/\(R=.is fun p=>(ZAV.turn lo hi).due c ns=none)/\D=fun e=>(ZAV.turn lo hi).due c ns=some e
def ZPK (c:ExC):ZNM:=fun l R D=>∃ (tp:Bool) (ns:List Str) (d:ZAV),l=[.sq tp (ns.map .str),.is (aP d)]/\d.say/\(R=.is fun p=>d.due c ns=none)/\D=fun e=>d.due c ns=some e
def ZIN:Pre:=fun l R=>∃ (g i:Nat),l=[.is (.int g),.is (.int i)]/\R=.is fun p=>p=.int (ZOl i g:Nat)
def ZGc:Pre:=fun l R=>∃ (g i:Nat),l=[.is (.int g),.is (.int i)]/\R=.is fun p=>p=.int (ZGS i g:Nat)
def ZII:Pre:=fun l R=>∃ (tp:Bool) (ns:List Str) (g:Int),l=[.sq tp (ns.map .str),.is (.int g)]/\R=.is fun p=>p=.bl (decide (inR g 0 ns.length))
def ZIn:Pre:=fun l R=>∃ (tp:Bool) (ns:List Str) (g:Nat) (d:ZBm),l=[.sq tp (ns.map .str),.is (.int g),.is (dP d)]/\d.Ok 40 ns/\(∀ x,d=.take x∨(∃ i,d=.move x i)->ZK6 x)/\R=.is fun p=>p=.int (d.gap ns g:Nat)
def ZJm (c:ExC):ZNM:=fun l R D=>∃ (tp:Bool) (ns:List Str) (d:ZAV),l=[.sq tp (ns.map .str),.is (aP d)]/\d.say/\ns.length<=40/\(R=.new fun xs=>∃ d':ZBm,d.Is ns d'/\xs=(d'.done ns).map .str)/\D=fun e=>d.due c ns=some e
def ZGx:Pre:=fun l R=>∃ (tp:Bool) (ns:List Str) (x:Str) (i:Nat),l=[.sq tp (ns.map .str),.is (.str x),.is (.int i)]/\ns.length<=1000/\R=.new fun xs=>xs=(ins ns x i).map .str
def ZEF:Pre:=fun l R=>∃ (tp:Bool) (ns:List Str) (x:Str),l=[.sq tp (ns.map .str),.is (.str x)]/\ns.length<=1000/\R=.new fun xs=>xs=(wo ns x).map .str
def ZF0:Pre:=fun l R=>∃ (tp:Bool) (ns:List Str) (lo hi:Nat),l=[.sq tp (ns.map .str),.is (.int lo),.is (.int hi)]/\ns.length<=1000/\lo<=hi/\hi<=ns.length/\R=.new fun xs=>xs=(trn ns lo hi).map .str
theorem ZF5 {x:Str}(h:x.length<=100) (hx:∀ c∈x.cps.toList,c < 16 ^ 8):ZK6 x:=⟨ZLo h hx,by omega⟩
theorem ZQa {x y:Str}(h:x.length+y.length<=100) (hx:∀ c∈x.cps.toList,c < 16 ^ 8) (hy:∀ c∈y.cps.toList,c < 16 ^ 8):ZK6 (x++y):=by
 refine ZF5 (by rw [ZH4];exact h) fun c hc=>?_
 rw [ZGs] at hc
 exact (List.mem_append.mp hc).elim (hx c) (hy c)
theorem ZSL {x:Str}(h:Nm x):∀ c∈x.cps.toList,c < 16 ^ 8:=fun c hc=>Nat.lt_of_le_of_lt (h.2.2 c hc).2 (by decide)
theorem ZVm {x:Str}(hx:Nm x){k:Nat}(h:k < 6):∃ y:Str,ZK6 y/\L2.atI [PV.str "", .str "A", .str "a b", .str "abcdefghi", .str (Txt.slice x none (some 7) ++ "-"),.str (x ++ " ")] (k:Int)=some (.str y):=by
 have:k=0∨k=1∨k=2∨k=3∨k=4∨k=5:=by omega
 rcases this with rfl | rfl | rfl | rfl | rfl | rfl
 ·exact ⟨"", ZF5 (by decide) (by decide),rfl⟩
 ·exact ⟨"A", ZF5 (by decide) (by decide),rfl⟩
 ·exact ⟨"a b", ZF5 (by decide) (by decide),rfl⟩
 ·exact ⟨"abcdefghi", ZF5 (by decide) (by decide),rfl⟩
 ·have n:Nm (Txt.slice x none (some 7)):=ZHs (by decide) (by decide) hx.1 hx.2.2
  have n1:=n.2.1
  exact ⟨_,ZQa (by show _+1<=100;omega) (ZSL n) (by decide),rfl⟩
 ·have n1:=hx.2.1
  exact ⟨_,ZQa (by show _+1<=100;omega) (ZSL hx) (by decide),rfl⟩
theorem ZUm {n:Nat}(hn:n<=40){k:Nat}(h:k < 4):∃ i:Int,ZJI i/\L2.atI [PV.int (10 ^ (59:Int).toNat),.int (-(10 ^ (59:Int).toNat)),.int ((n:Int)+1),.int (-1)] (k:Int)=some (.int i):=by
 have:k=0∨k=1∨k=2∨k=3:=by omega
 rcases this with rfl | rfl | rfl | rfl
 ·exact ⟨_,by unfold ZJI;decide +kernel,rfl⟩
 ·exact ⟨_,by unfold ZJI;decide +kernel,rfl⟩
 ·exact ⟨_,ZGF (i:=n+1) (by omega),rfl⟩
 ·exact ⟨_,by unfold ZJI;decide +kernel,rfl⟩
theorem ZQ2 {r:Int}(h0:0<=r) (h1:r < 1000):ZJI (r - 1):=ZOz (by
 have:(1000:Nat) < 2 ^ 1000:=by decide +kernel
 omega)
def ZGW:Pre:=fun l R=>∃ (ns:List Str),l=[.pot,.sq false (ns.map .str)]/\ns.length<=40/\(∀ x∈ns,Nm x)/\R=.is fun p=>∃ d:ZAV,p=aP d/\d.say
theorem ZNf {ns:List Str}{k:Nat}(h:k < ns.length):∃ x,x∈ns/\L2.atI (ns.map PV.str) (k:Int)=some (.str x):=
 ⟨ns[k],List.getElem_mem h,ZFT (by rw [List.getElem?_map,List.getElem?_eq_getElem h];rfl)⟩
end Fz
namespace Fz
open L2 Lw
section
variable [Xw]
variable {ss:List Slot}{te:TE}
end
def ZUN (c:ExC) (e:Ex) (j:Nat) (v:PV):Prop:=(j=0/\∃ x,v=.str x/\e=ZLu c.noName x)∨(j=1/\∃ x,v=.str x/\e=ZLu c.there x)∨(j=2/\∃ x,v=.str x/\e=ZLu c.gone x)∨(j=3/\∃ i,v=.int i/\e=atX c.noPlace i)∨(j=9/\v=.non/\e=ZUI c.full)
def ZXc (c:ExC) (ns:List Str) (d:ZAV) (p:PV):Prop:=(d.due c ns=none/\p=.non)∨∃ e j v,d.due c ns=some e/\ZUN c e j v/\p=.tup [.int (j:Nat),v]
theorem ZXD {c:ExC}{ns:List Str}{d:ZAV}{e:Ex}(h:d.due c ns=some e):∃ j v,ZUN c e j v:=by
 cases d with
 | put x i=>
  simp only [ZAV.due] at h
  split at h
  ·cases h;exact ⟨0,_,.inl ⟨rfl,x,rfl,rfl⟩⟩
  ·split at h
   ·cases h;exact ⟨1,_,.inr (.inl ⟨rfl,x,rfl,rfl⟩)⟩
   ·split at h
    ·cases h;exact ⟨3,_,.inr (.inr (.inr (.inl ⟨rfl,i,rfl,rfl⟩)))⟩
    ·split at h
     ·cases h;exact ⟨9,_,.inr (.inr (.inr (.inr ⟨rfl,rfl,rfl⟩)))⟩
     ·cases h
 | take x=>
  simp only [ZAV.due] at h
  split at h
  ·cases h;exact ⟨2,_,.inr (.inr (.inl ⟨rfl,x,rfl,rfl⟩))⟩
  ·cases h
 | move x i=>
  simp only [ZAV.due] at h
  split at h
  ·cases h;exact ⟨2,_,.inr (.inr (.inl ⟨rfl,x,rfl,rfl⟩))⟩
  ·split at h
   ·cases h;exact ⟨3,_,.inr (.inr (.inr (.inl ⟨rfl,i,rfl,rfl⟩)))⟩
   ·cases h
 | turn lo hi=>
  simp only [ZAV.due] at h
  split at h
  ·cases h;exact ⟨3,_,.inr (.inr (.inr (.inl ⟨rfl,lo,rfl,rfl⟩)))⟩
  ·split at h
   ·cases h;exact ⟨3,_,.inr (.inr (.inr (.inl ⟨rfl,hi,rfl,rfl⟩)))⟩
   ·cases h
theorem is_none {c:ExC}{ns:List Str}{d:ZAV}{d':ZBm}(h:d.Is ns d'):d.due c ns=none:=by
 obtain ⟨e,hd⟩:=h
 have:d=ZQH d':=by
  cases d <;> cases d' <;> simp [aP,dP] at e <;> first | (exact absurd e.1 ZP2) | (exact absurd e.1.symm ZP2) | (obtain ⟨a,b⟩:=e;subst a;subst b;rfl) | (subst e;rfl)
 rw [this];exact ZRG hd
theorem Is.ZXd {d:ZAV}{ns:List Str}{d':ZBm}(h:d.say) (e:d.Is ns d'):(∀ x,d'=.take x->ZK6 x)/\∀ x i,d'=.move x i->ZK6 x:=⟨fun x q=>ZAV.ZPE h e x (.inl q),fun x i q=>ZAV.ZPE h e x (.inr ⟨i,q⟩)⟩
def ZN2 (c:ExC):Pre:=fun l R=>∃ (ns:List Str) (d:ZAV),l=[.sq false (ns.map .str),.is (aP d)]/\d.say/\R=.is (ZXc c ns d)
end Fz
namespace Fz
open L2 Lw
def lpP (r:Str) (g:Int) (cs:List Str):PV:=.tup [.str r,.int g,.tup (cs.map .str)]
def lpB (ns:List Str) (r:Str) (g:Int) (cs:List Str):Bool:=ZLA r && (decide (inR g 0 ns.length) && ZSp ns cs)
theorem ZT3 {ns cs:List Str}(h:ZSp ns cs=true):Up cs/\∀ x∈cs,x∈ns:=by
 unfold ZSp at h
 split at h
 ·next c=>
  refine ⟨of_decide_eq_true c,fun x hx=>?_⟩
  rw [List.all_eq_true] at h
  exact of_decide_eq_true (h _ (List.mem_map.mpr ⟨x,hx,rfl⟩))
 ·cases h
theorem ZSn {ns cs:List Str}(h:Up cs) (h2:∀ x∈cs,x∈ns):ZSp ns cs=true:=by
 unfold ZSp
 rw [if_pos (decide_eq_true h),List.all_eq_true]
 intro b hb
 obtain ⟨x,hx,rfl⟩:=List.mem_map.mp hb
 exact decide_eq_true (h2 x hx)
theorem ZTP {ns:List Str}{r:Str}{g:Int}{cs:List Str}(h:lpB ns r g cs=true):∃ n:Nat,g=n/\ZBW ns r n cs:=by
 unfold lpB at h
 rw [Bool.and_eq_true,Bool.and_eq_true] at h
 obtain ⟨h1,h2,h3⟩:=h
 have h2:inR g 0 ns.length:=of_decide_eq_true h2
 obtain ⟨a,b⟩:=h2
 obtain ⟨n,rfl⟩:=Int.eq_ofNat_of_zero_le a
 obtain ⟨u,v⟩:=ZT3 h3
 exact ⟨n,rfl,⟨of_decide_eq_true h1,a,b,u,v⟩⟩
theorem ZMR {ns:List Str}{r:Str}{n:Nat}{cs:List Str}(h:ZBW ns r n cs):lpB ns r n cs=true:=by
 unfold lpB ZLA
 rw [decide_eq_true (show r∈([("none" : Str), "ahead", "all"]) from h.rule),decide_eq_true (show inR n 0 ns.length from ⟨h.g0,h.g1⟩),ZSn h.up h.sub];rfl
section
variable [Xw]
variable {ss:List Slot}{K:PySem.W.Frag}{ta tb tc te:TE}{k:PV->Prop}{F:Hp}
theorem ZM7 {k:List PV->Prop}(h:Wp ss ta fun p=>∃ cs:List Str,p=.tup (cs.map .str)/\Wp ss tb fun q=>∃ ys:List Str,q=.tup (ys.map .str)/\ys≠[]/\(cs++ys).length < 64/\∀ ns':List Str,ns'.Perm (cs++ys)->sortedS ns'=true->k (ns'.map PV.str)):Wn ss (tCB (ZMg K) (ZAe (tOp (ZVI K) ta tb) ZCq)) k:=⟨fun E σ F H Q S q=>
 h.go E σ F H _ S fun v p F1 H1 m1 r1 ⟨cs,e,h2⟩=>h2.go E σ F1 H1 _ m1.st fun v2 p2 F2 H2 m2 r2 ⟨ys,e2,hy,hz,kk⟩=>by
  subst e;subst e2
  cases r1 with
  | @tup a vs _ f1 s1=>
   cases r2 with
   | @tup b ws _ f2 s2=>
    rw [s1.strs] at f1
    rw [s2.strs] at f2
    rw [List.length_append] at hz
    refine ⟨a,b,_,_,rfl,rfl,SqT.of (m2.st.fh _ _ (m2.ff _ _ f1)),SqT.of (m2.st.fh _ _ f2),fun z=>hy (by simpa using z),small (by rw [List.length_map,List.length_map];omega),fun c H3 s hq=>?_⟩
    have m3:=m2.st.grow s
    rw [<- List.map_append] at hq
    refine ⟨c,true,cs++ys,rfl,hq,by rw [List.length_append];exact hz,fun a ns' ha hp hs=>?_⟩
    have m4:=m3.st.make ha (.lst (ns'.map V.str))
    have m14:=m1.trans (m2.trans m3)
    exact q a _ _ F2 _ (m14.trans m4) (m3.st.ZHI ha) (m14.none ha) ZA6 (ZDR ns') (kk ns' hp hs)⟩
end
def ZWs (C:Addr) (ns:List Str) (r:Str) (g:Int) (cs:List Str) (e:Ex):Prop:=lpB ns r g cs=false/\e=ZUI C
def ZGf:Pre:=fun l R=>∃ (tp:Bool) (ns:List Str) (r:Str) (g:Int) (cs:List Str),l=[.sq tp (ns.map .str),.is (lpP r g cs)]/\cs.length < 64/\R=.is fun p=>p=.bl (lpB ns r g cs)
def ZDV (C:Addr):ZNM:=fun l R D=>∃ (tp:Bool) (ns:List Str) (r:Str) (g:Int) (cs:List Str),l=[.sq tp (ns.map .str),.is (lpP r g cs)]/\cs.length < 64/\(R=.is fun p=>lpB ns r g cs=true)/\D=ZWs C ns r g cs
def ZH1:Pre:=fun l R=>∃ (tp:Bool) (ns:List Str) (r:Str) (g:Int) (cs:List Str),l=[.sq tp (ns.map .str),.is (lpP r g cs)]/\ns.length<=1000/\R=.new fun xs=>xs=(ns.filter (inL cs)).map .str
def ZK1 (C:Addr):ZNM:=fun l R D=>∃ (tp:Bool) (ns:List Str) (r:Str) (g:Int) (cs:List Str),l=[.sq tp (ns.map .str),.is (lpP r g cs)]/\cs.length < 64/\ns.length<=1000/\(R=.new fun xs=>∃ n:Nat,g=n/\ZBW ns r n cs/\xs=(ZE6 ns n cs).map .str)/\D=ZWs C ns r g cs
def ZGP:Pre:=fun l R=>∃ (cs:List Str) (x:Str),l=[.is (.tup (cs.map .str)),.is (.str x)]/\cs.length<=1000/\R=.is fun p=>p=.tup ((wo cs x).map .str)
def ZJn:Pre:=fun l R=>∃ (tp:Bool) (ns:List Str) (r:Str) (g:Nat) (cs:List Str) (x:Str),l=[.sq tp (ns.map .str),.is (lpP r g cs),.is (.str x)]/\cs.length<=1000/\ZK6 x/\x∈ns/\R=.is fun p=>p=ZD1 r (ns.idxOf x+1) (wo cs x)
def ZJj (C:Addr):ZNM:=fun l R D=>∃ (tp:Bool) (ns:List Str) (r:Str) (g:Int) (cs:List Str),l=[.sq tp (ns.map .str),.is (lpP r g cs)]/\cs.length < 64/\ns.length<=1000/\(∀ x∈ns,ZK6 x)/\(R=.is fun p=>∃ n:Nat,g=n/\ZBW ns r n cs/\p=ZJD ns r n cs)/\D=ZWs C ns r g cs
def ZIT:Pre:=fun l R=>∃ (r:Str) (g i:Nat) (xs:List PV),l=[.is (.tup (.str r :: .int g :: xs)),.is (.int i)]/\R=.is fun p=>p=.bl (ZFF r g i)
def ZEG:Pre:=fun l R=>∃ (r:Str) (g:Nat) (cs:List Str) (d:ZBm),l=[.is (lpP r g cs),.is (dP d)]/\cs.length<=60/\Up cs/\(∀ x i,d=.put x i->x∉cs)/\R=.is fun p=>p=.tup ((d.com r g cs).map .str)
def ZFo:Pre:=fun l R=>∃ (tp:Bool) (ns:List Str) (r:Str) (g:Nat) (cs:List Str) (d:ZBm),l=[.sq tp (ns.map .str),.is (lpP r g cs),.is (dP d)]/\d.Ok 40 ns/\ZBW ns r g cs/\ns.length<=40/\(∀ x,d=.take x∨(∃ i,d=.move x i)->ZK6 x)/\R=.is fun p=>p=ZD1 r (d.gap ns g) (d.com r g cs)
end Fz
namespace Fz
open L2 Lw
section
variable [Xw]
variable {E:Ent0}{ss:List Slot}{σ:L2.St} {F H F1 F' H':Hp}{K:PySem.W.Frag}{js:List Nat}{ta tb tc te ti:TE}{nx:List Slot->Prop}{R:Ret}{k:PV->Prop}{xs:List PV}
end
theorem ZBW.step {ns:List Str}{r:Str}{g:Nat}{cs:List Str}(h:ZBW ns r g cs):ZBW ns r (stG ns g cs:Nat) (stS ns g cs):=by
 unfold stG stS
 cases e:stO ns g cs with
 | none=>exact h
 | some x=>
  have hm:x∈ZE6 ns g cs:=by
   unfold stO at e
   exact List.mem_of_mem_head? (by rw [e];rfl)
  obtain ⟨m1,m2⟩:=ZEy.mp hm
  have:=List.idxOf_lt_length_iff.mpr m1
  exact ⟨h.rule,by show (0:Int)<=((ns.idxOf x+1:Nat):Int);omega,by show ((ns.idxOf x+1:Nat):Int)<=_;omega,ZRN x h.up,fun y hy=>h.sub y (ZEY.mp hy).1⟩
theorem ZTf {cs:List Str}(h:Up cs) (n:Nat):Up (cs.take n):=List.Pairwise.sublist (List.take_sublist n cs) h
end Fz
namespace Fz
open L2 Lw
end Fz
namespace Fz
open L2 Lw
section
variable [Xw]
end
structure ZHY (m:Nat) (ns:List Str):Prop where
 len:ns.length<=m
 nm:∀ x∈ns,Nm x
 nd:ns.Nodup
theorem ZHY.done {m:Nat}{ns:List Str}{d:ZBm}(h:ZHY m ns) (ok:d.Ok m ns):ZHY m (d.done ns):=by
 obtain ⟨a,b,c⟩:=ZBm.step ok h.nd h.nm h.len
 exact ⟨c,b,a⟩
structure Lp where
 r:Str
 g:Nat
 cs:List Str
def Lp.P (l:Lp):PV:=ZD1 l.r l.g l.cs
def Lp.led (ns:List Str) (d:ZBm) (l:Lp):Lp:=⟨l.r,d.gap ns l.g,d.com l.r l.g l.cs⟩
def Lp.stp (ns:List Str) (l:Lp):Lp:=⟨l.r,stG ns l.g l.cs,stS ns l.g l.cs⟩
def Lp.Good (ns:List Str) (l:Lp):Prop:=ZBW ns l.r l.g l.cs
theorem ZPr {k:Nat}(h:k < 3):∃ r:Str,r∈ZHO/\L2.atI [PV.str "none", .str "ahead", .str "all"] (k:Int)=some (.str r):=by
 have:k=0∨k=1∨k=2:=by omega
 rcases this with rfl | rfl | rfl
 ·exact ⟨_,by decide,rfl⟩
 ·exact ⟨_,by decide,rfl⟩
 ·exact ⟨_,by decide,rfl⟩
end Fz
namespace Fz
open L2 Lw
inductive Et where
 | stp | ZHp (d:ZAV)
def etP:Et->PV
 | .stp=>.tup [.str "step"]
 | .ZHp d=>aP d
def Et.say:Et->Prop
 | .stp=>True
 | .ZHp d=>d.say
def toD:ZAV->ZBm
 | .put x i=>.put x i.toNat
 | .take x=>.take x
 | .move x i=>.move x i.toNat
 | .turn a b=>.turn a.toNat b.toNat
theorem ZVn {d:ZAV}{ns:List Str}{d':ZBm}(h:d.Is ns d'):toD d=d':=by
 obtain ⟨e,hd⟩:=h
 have:d=ZQH d':=by
  cases d <;> cases d' <;> simp [aP,dP] at e <;> first | (exact absurd e.1 ZP2) | (exact absurd e.1.symm ZP2) | (obtain ⟨a,b⟩:=e;subst a;subst b;rfl) | (subst e;rfl)
 subst this
 cases d' <;> simp [ZQH,toD]
def tell (c:ExC):List Str->Lp->List Et->Option (List (Option Str))
 | _,_,[]=>some []
 | ns,l,.stp :: t=>(tell c ns (l.stp ns) t).map (stO ns l.g l.cs :: ·)
 | ns,l,.ZHp d :: t=>match d.due c ns with
  | some _=>none
  | none=>tell c ((toD d).done ns) (l.led ns (toD d)) t
def ZO6:Et->Bool
 | .stp=>true
 | _=>false
theorem ZKE {c:ExC}:∀ {es:List Et}{ns:List Str}{l:Lp}{a:List (Option Str)},tell c ns l es=some a->a.length=(es.filter ZO6).length
 | [],ns,l,a,h=>by cases h;rfl
 | .stp :: t,ns,l,a,h=>by
  rw [tell] at h
  cases e:tell c ns (l.stp ns) t with
  | none=>rw [e] at h;cases h
  | some b=>
   rw [e] at h;cases h
   rw [List.length_cons,ZKE e];rfl
 | .ZHp d :: t,ns,l,a,h=>by
  rw [tell] at h
  cases e:d.due c ns with
  | some x=>rw [e] at h;cases h
  | none=>rw [e] at h;rw [ZKE h];rfl
theorem ZOw {c:ExC}{es:List Et}{ns:List Str}{l:Lp}{a:List (Option Str)}(h:tell c ns l es=some a) (hl:es.getLast?=some .stp):a≠[]:=fun z=>by
 have:=ZKE h
 rw [z] at this
 have hm:Et.stp∈es.filter ZO6:=List.mem_filter.mpr ⟨List.mem_of_getLast? hl,rfl⟩
 rw [List.length_eq_zero_iff.mp this.symm] at hm
 cases hm
structure TI (c:ExC) (ns0:List Str) (l0:Lp) (es:List Et) (i:Nat) (ns:List Str) (l:Lp) (acc:List (Option Str)):Prop where
 eq:tell c ns0 l0 es=(tell c ns l (es.drop i)).map (acc++·)
 row:ZHY 40 ns
 gd:l.Good ns
 len:acc.length<=i
section
variable {c:ExC}{ns0 ns:List Str}{l0 l:Lp}{es:List Et}{i:Nat}{acc:List (Option Str)}
theorem TI.zero (r:ZHY 40 ns) (g:l.Good ns):TI c ns l es 0 ns l []:=⟨by rw [List.drop_zero];cases tell c ns l es <;> rfl,r,g,Nat.le_refl _⟩
theorem ZMU {α:Type} {es:List α}{i:Nat}{e:α}(h:es[i]?=some e):es.drop i=e :: es.drop (i+1):=by
 obtain ⟨hi,rfl⟩:=List.getElem?_eq_some_iff.mp h
 exact List.drop_eq_getElem_cons hi
theorem TI.stp (h:TI c ns0 l0 es i ns l acc) (he:es[i]?=some .stp):TI c ns0 l0 es (i+1) ns (l.stp ns) (acc++[stO ns l.g l.cs]):=by
 refine ⟨?_,h.row,(ZSt h.gd).1,by rw [List.length_append];have:=h.len;show _+1<=_;omega⟩
 rw [h.eq,ZMU he,tell]
 cases tell c ns (l.stp ns) (es.drop (i+1)) with
 | none=>rfl
 | some b=>simp
theorem TI.bad {d:ZAV}{e:Ex}(h:TI c ns0 l0 es i ns l acc) (he:es[i]?=some (.ZHp d)) (hd:d.due c ns=some e):tell c ns0 l0 es=none:=by
 rw [h.eq,ZMU he,tell,hd];rfl
theorem TI.ZHp {d:ZAV}{d':ZBm}(h:TI c ns0 l0 es i ns l acc) (he:es[i]?=some (.ZHp d)) (hd:d.Is ns d'):TI c ns0 l0 es (i+1) (d'.done ns) (l.led ns d') acc:=by
 refine ⟨?_,h.row.done hd.2,ZBW.led h.gd hd.2 h.row.nd,by have:=h.len;omega⟩
 rw [h.eq,ZMU he,tell,is_none hd,ZVn hd]
theorem TI.fin (h:TI c ns0 l0 es es.length ns l acc):tell c ns0 l0 es=some acc:=by
 rw [h.eq,List.drop_length,tell]
 show some (acc++[])=_
 rw [List.append_nil]
end
theorem ZKY:∀ (a b:List (Option Str)),ZGT (a.map ZCi) (b.map ZCi)=decide (a=b)
 | [],[]=>by rw [List.map_nil,ZGT];rfl
 | [],_ :: _=>by rw [List.map_nil,ZEI _ _ (by simp)];simp
 | _ :: _,[]=>by rw [List.map_nil,ZEI _ _ (by simp)];simp
 | x :: r,y :: t=>by
  rw [List.map_cons,List.map_cons,ZCn,ZKY r t]
  have e:eqP (ZCi x) (ZCi y)=decide (x=y):=by
   cases x with
   | none=>cases y with
    | none=>simp [ZCi,eqP]
    | some y=>simp [ZCi,eqP]
   | some x=>cases y with
    | none=>simp [ZCi,eqP]
    | some y=>
     simp only [ZCi,eqP]
     rw [Bool.eq_iff_iff]
     simp
  rw [e,Bool.eq_iff_iff]
  simp
theorem ZI6 (a b:List (Option Str)):eqP (.lst (a.map ZCi)) (.lst (b.map ZCi))=decide (a=b):=by rw [eqP,ZKY]
theorem ZO1 (a b a2 b2:List (Option Str)):eqP (.tup [.lst (a.map ZCi),.lst (b.map ZCi)]) (.tup [.lst (a2.map ZCi),.lst (b2.map ZCi)])=decide (a=a2/\b=b2):=by
 rw [eqP,ZCn,ZCn,ZI6,ZI6,ZGT,Bool.and_true,Bool.eq_iff_iff]
 simp
theorem ZOm (e:Et):eqP (etP e) (.tup [.str "step"])=ZO6 e:=by
 cases e with
 | stp=>simp [etP,eqP,ZGT,ZO6]
 | ZHp d=>cases d <;> (unfold etP aP;rw [eqP,ZEI _ _ (by simp)];rfl)
theorem ZNb (e:Et) (a:Addr):eqP (etP e) (.con a [.str "step"])=ZO6 e:=by
 cases e with
 | stp=>simp [etP,eqP,ZGT,ZO6]
 | ZHp d=>cases d <;> (unfold etP aP;rw [eqP,ZEI _ _ (by simp)];rfl)
theorem ZMt (K:PySem.W.Frag) (n:Nat) (o:Option Str):dat K n (ZCi o):=by cases o <;> cases n <;> trivial
theorem ZCU (K:PySem.W.Frag) (n:Nat) (a:List (Option Str)):dat K (n+1) (.lst (a.map ZCi)):=fun x hx=>by obtain ⟨o,_,rfl⟩:=List.mem_map.mp hx;exact ZMt K n o
theorem ZG1 (K:PySem.W.Frag) (a b:List (Option Str)):dat K 40 (.tup [.lst (a.map ZCi),.lst (b.map ZCi)]):=fun x hx=>by
 simp only [List.mem_cons,List.not_mem_nil,or_false] at hx
 rcases hx with rfl | rfl <;> exact ZCU K 38 _
theorem ZId (K:PySem.W.Frag) (n:Nat) (e:Et):dat K (n+1) (etP e):=by
 cases e with
 | stp=>intro x hx;rw [List.mem_singleton.mp hx];cases n <;> trivial
 | ZHp d=>cases d <;> (intro x hx;simp only [List.mem_cons,List.not_mem_nil,or_false] at hx;rcases hx with rfl | rfl | rfl <;> cases n <;> trivial)
theorem ZT6 (K:PySem.W.Frag) (n:Nat) (es:List Et):dat K (n+2) (.lst (es.map etP)):=fun x hx=>by obtain ⟨o,_,rfl⟩:=List.mem_map.mp hx;exact ZId K n o
theorem ZJh (K:PySem.W.Frag) (es:List Et) (a b:List (Option Str)):dat K 40 (.lst [.lst (es.map etP),.lst (a.map ZCi),.lst (b.map ZCi)]):=fun x hx=>by
 simp only [List.mem_cons,List.not_mem_nil,or_false] at hx
 rcases hx with rfl | rfl | rfl
 ·exact ZT6 K 37 es
 ·exact ZCU K 38 a
 ·exact ZCU K 38 b
theorem ZHo {α:Type} (xs:List α):ZKu xs none (some (-1))=xs.dropLast:=by
 unfold ZKu
 rw [List.dropLast_eq_take]
 show (xs.drop 0).take ((-1+(xs.length:Int)).toNat - 0)=_
 rw [List.drop_zero,Nat.sub_zero]
 congr 1;omega
theorem ZFy {α:Type} {xs:List α}{x:α}(h:xs.getLast?=some x):L2.atI xs (-1)=some x:=by
 obtain ⟨a',rfl⟩:=List.getLast?_eq_some_iff.mp h
 exact ZNs a' x
theorem ZHm {α β:Type} (f:α->β) (xs:List α):(xs.map f).dropLast=xs.dropLast.map f:=by rw [List.map_dropLast]
theorem ZPl {α:Type} (n:Nat) (x:α):(List.replicate n [x]).flatten=List.replicate n x:=by
 induction n with
 | zero=>rfl
 | succ n ih=>rw [List.replicate_succ,List.flatten_cons,ih];rfl
theorem ZPn {n:Nat}{i:Int}(h:-1<=i) (h2:i < n) (hn:0 < n):∃ j,ixN n i=some j:=by
 unfold ixN
 by_cases c:0<=i
 ·rw [if_pos c,if_pos h2];exact ⟨_,rfl⟩
 ·rw [if_neg c,if_pos (by omega)];exact ⟨_,rfl⟩
theorem ZTX (a:List (Option Str)) (j:Nat) (o:Option Str):(a.map ZCi).set j (ZCi o)=(a.set j o).map ZCi:=by rw [List.map_set]
theorem ZJP {α β:Type} (f:α->β):∀ (a:List α) (j:Nat),(a.map f).eraseIdx j=(a.eraseIdx j).map f
 | [],_=>rfl
 | _ :: _,0=>rfl
 | x :: t,j+1=>by rw [List.map_cons,List.eraseIdx_cons_succ,ZJP f t j];rfl
theorem ZVf {r:Int}(h0:0<=r) (h1:r < 4):∃ v:Int,L2.atI [PV.int 12,.int 12,.int 12,.int 37] r=some (.int v)/\1<=v/\v<=37:=by
 have:r=0∨r=1∨r=2∨r=3:=by omega
 rcases this with rfl | rfl | rfl | rfl
 ·exact ⟨12,rfl,by decide,by decide⟩
 ·exact ⟨12,rfl,by decide,by decide⟩
 ·exact ⟨12,rfl,by decide,by decide⟩
 ·exact ⟨37,rfl,by decide,by decide⟩
theorem ZRX (b:Bool) (xs:List PV):∃ tp,L2.atI [PV.lst xs,.tup xs] (if b=true then 1 else 0)=some (ZWH tp xs):=by
 cases b with
 | false=>exact ⟨false,rfl⟩
 | true=>exact ⟨true,rfl⟩
theorem ZPj {r:Int}(h0:0<=r) (h1:r < 2):∃ o:Option Str,L2.atI [PV.str "a", .non] r=some (ZCi o):=by
 have:r=0∨r=1:=by omega
 rcases this with rfl | rfl
 ·exact ⟨some "a", rfl⟩
 ·exact ⟨none,rfl⟩
theorem ZOt {r:Int}(h0:0<=r) (h1:r < 3):∃ o:Option Str,L2.atI [PV.str "a", .non,.str ""] r=some (ZCi o):=by
 have:r=0∨r=1∨r=2:=by omega
 rcases this with rfl | rfl | rfl
 ·exact ⟨some "a", rfl⟩
 ·exact ⟨none,rfl⟩
 ·exact ⟨some "", rfl⟩
theorem ZOi {α:Type} {a b:List α}{x y:α}(ha:a.getLast?=some x) (hb:b.getLast?=some y) (h:a.dropLast=b.dropLast):x≠y↔a≠b:=by
 obtain ⟨a',rfl⟩:=List.getLast?_eq_some_iff.mp ha
 obtain ⟨b',rfl⟩:=List.getLast?_eq_some_iff.mp hb
 rw [List.dropLast_concat,List.dropLast_concat] at h
 subst h
 simp
theorem ZUq {ns:List Str}{r1 r2 r3:Str}{g1 g2 g3:Int}{c1 c2 c3:List Str}(h1:ZBW ns r1 g1 c1) (h2:ZBW ns r2 g2 c2) (h3:ZBW ns r3 g3 c3):ZBW ns r1 g2 c3:=⟨h1.rule,h2.g0,h2.g1,h3.up,h3.sub⟩
theorem ZQV {ns ts cs ys:List Str}{x r:Str}{g:Int}(h:ZBW ns r g cs) (hx:x∈ns) (hy:ys=wo cs x∨(x∉cs/\ys=wo cs x++[x])) (pm:ts.Perm ys) (st:sortedS ts=true):ZBW ns r g ts:=by
 have hn:ys.Nodup/\∀ y∈ys,y∈ns:=by
  have n1:(wo cs x).Nodup:=ZHr (ZRN x h.up)
  rcases hy with rfl | ⟨_,rfl⟩
  ·exact ⟨n1,fun y hy=>h.sub y (ZEY.mp hy).1⟩
  ·refine ⟨List.nodup_append.mpr ⟨n1,List.pairwise_singleton _ x,fun a ha b hb e=>?_⟩,fun y hy=>?_⟩
   ·rw [List.mem_singleton.mp hb] at e
    exact (ZEY.mp ha).2 e
   ·rcases List.mem_append.mp hy with hy | hy
    ·exact h.sub y (ZEY.mp hy).1
    ·rw [List.mem_singleton.mp hy];exact hx
 exact ⟨h.rule,h.g0,h.g1,ZGR st (pm.nodup_iff.mpr hn.1),fun y hy=>hn.2 y (pm.mem_iff.mp hy)⟩
def ZUv (s:Slot) (tp:Bool) (ns:List Str):Prop:=s=.sq tp (ns.map .str)∨(tp=false/\(s=.is (.lst (ns.map .str))∨s=.own (ns.map .str)))
section
variable [Xw]
theorem ZCu {ss:List Slot}{i:Nat}{s:Slot}{tp:Bool}{ns:List Str}{k:Bool->List PV->Prop}(hi:ss[i]?=some s) (h:ZUv s tp ns) (kk:k tp (ns.map .str)):Wq ss (ZFG i) k:=by
 rcases h with rfl | ⟨rfl,rfl | rfl⟩
 ·exact ZBl hi kk
 ·exact ZCH hi kk
 ·exact ZNz hi kk
theorem ZU4 {ss:List Slot}{i:Nat}{tp:Bool}{xs:List PV}{k:Bool->List PV->Prop}(hi:ss[i]?=some (.is (ZWH tp xs))) (kk:k tp xs):Wq ss (ZFG i) k:=by
 cases tp with
 | false=>exact ZCH hi kk
 | true=>exact ZLZ hi kk
end
def ZPG (K:PySem.W.Frag) (S:Addr) (c:ExC):Bool:=PySem.W.exmOne K (.ref c.noName) (.ref S) == some true && (PySem.W.exmOne K (.ref c.there) (.ref S) == some true && (PySem.W.exmOne K (.ref c.gone) (.ref S) == some true && (PySem.W.exmOne K (.ref c.noPlace) (.ref S) == some true && PySem.W.exmOne K (.ref c.full) (.ref S) == some true)))
theorem ZTS {K:PySem.W.Frag}{S:Addr}{c:ExC}(h:ZPG K S c=true){e:Ex}{j:Nat}{v:PV}(hj:ZUN c e j v):PySem.W.exmOne K (.ref e.C) (.ref S)=some true:=by
 unfold ZPG at h
 simp only [Bool.and_eq_true,beq_iff_eq] at h
 obtain ⟨x0,x1,x2,x3,x9⟩:=h
 rcases hj with ⟨_,x,_,rfl⟩ | ⟨_,x,_,rfl⟩ | ⟨_,x,_,rfl⟩ | ⟨_,i,_,rfl⟩ | ⟨_,_,rfl⟩
 ·exact x0
 ·exact x1
 ·exact x2
 ·exact x3
 ·exact x9
def Parts (c:ExC) (ns:List Str) (l1 l2:Lp) (es:List Et) (a b:List (Option Str)):Prop:=
 es.length<=100/\es.getLast?=some .stp/\tell c ns l1 es=some a/\tell c ns l2 es=some b/\a.dropLast=b.dropLast/\a≠b
def ZQr (a b:List (Option Str)):PV:=.tup [.lst (a.map ZCi),.lst (b.map ZCi)]
def TrR (c:ExC) (ns:List Str) (l1 l2:Lp) (es:List Et) (p:PV):Prop:=
 (tell c ns l1 es=none/\tell c ns l2 es=none/\p=.non)∨∃ a b,tell c ns l1 es=some a/\tell c ns l2 es=some b/\a.length<=es.length/\b.length<=es.length/\p=ZQr a b
def PaR (c:ExC) (ns:List Str) (l1 l2:Lp) (es:List Et) (p:PV):Prop:=(p=.non/\∀ a b,¬ Parts c ns l1 l2 es a b)∨∃ a b,Parts c ns l1 l2 es a b/\p=ZQr a b
structure ZV1 (ns:List Str) (l1 l2:Lp) (es:List Et):Prop where
 row:ZHY 40 ns
 g1:l1.Good ns
 g2:l2.Good ns
 say:∀ e∈es,e.say
 len:es.length<=300
def ZIY:Pre:=fun l R=>∃ (ns:List Str),l=[.pot,.sq false (ns.map .str)]/\ZHY 40 ns/\R=.is fun p=>∃ l1 l2:Lp,p=.tup [l1.P,l2.P]/\l1.Good ns/\l2.Good ns
def ZDa (c:ExC):Pre:=fun l R=>∃ (ns:List Str) (l1 l2:Lp) (es:List Et),l=[.sq false (ns.map .str),.is l1.P,.is l2.P,.sq false (es.map etP)]/\ZV1 ns l1 l2 es/\R=.is (TrR c ns l1 l2 es)
def ZHd (c:ExC):Pre:=fun l R=>∃ (ns:List Str) (l1 l2:Lp) (es:List Et),l=[.sq false (ns.map .str),.is l1.P,.is l2.P,.sq false (es.map etP)]/\ZV1 ns l1 l2 es/\R=.is (PaR c ns l1 l2 es)
def ZEp:Pre:=fun l R=>∃ (ns:List Str) (l1 l2:Lp),l=[.pot,.is (.lst (ns.map .str)),.is l1.P,.is l2.P]/\ZHY 40 ns/\l1.Good ns/\l2.Good ns/\R=.new fun xs=>∃ es:List Et,xs=es.map etP/\(∀ e∈es,e.say)/\es.length<=100
def ZFm:Pre:=fun l R=>∃ a:List (Option Str),l=[.pot,.sq false (a.map ZCi)]/\a.length<=300/\R=.new fun xs=>∃ b:List (Option Str),xs=b.map ZCi/\b.length<=400
def ZEt:Pre:=fun l R=>∃ (tp:Bool) (ns:List Str) (l1 l2:Lp),l=[.sq tp (ns.map .str),.is l1.P,.is l2.P]/\ZHY 37 ns/\l1.Good ns/\l2.Good ns/\R=.is fun _=>True
def ZIH (c:ExC):ZNM:=fun l R D=>∃ (tp:Bool) (ns:List Str) (l1:Lp) (es:List Et),l=[.sq tp (ns.map .str),.is l1.P,.sq false (es.map etP)]/\ZV1 ns l1 l1 es/\(R=.new fun xs=>∃ a,tell c ns l1 es=some a/\a.length<=es.length/\xs=a.map ZCi)/\D=fun e=>tell c ns l1 es=none/\∃ j v,ZUN c e j v
def ZMm:Pre:=fun l R=>∃ (a b:List (Option Str)),l=[.is (.lst (a.map ZCi)),.is (.lst (b.map ZCi))]/\a≠[]/\b≠[]/\R=.is fun p=>p=.bl (decide (a.dropLast=b.dropLast/\a≠b))
def ZIL (c:ExC):Pre:=fun l R=>∃ (tp:Bool) (ns:List Str) (l1 l2:Lp) (es:List Et) (a b:List (Option Str)),l=[.sq tp (ns.map .str),.is l1.P,.is l2.P,.sq false (es.map etP),.is (.lst (a.map ZCi)),.is (.lst (b.map ZCi))]/\ZV1 ns l1 l2 es/\ns.length<=37/\R=.is fun p=>∃ t:Bool,p=.bl t/\(t=true↔Parts c ns l1 l2 es a b)
end Fz
set_option maxHeartbeats 8000000
set_option exponentiation.threshold 5000
namespace Pf
open L2 Lw
abbrev St:=L2.St
def top (i:Nat):Stmt:=PySem.Challenge.pw_stirround_k51_trials_judged.main.body.getD i (.Pass ⟨0,0,0,0⟩)
abbrev ZD8:Stmt:=top 49
abbrev ZCf:Stmt:=top 50
abbrev ZBd:Stmt:=top 51
abbrev ZCg:Stmt:=top 52
abbrev ZCO:Stmt:=top 53
abbrev ZD7:Stmt:=top 54
abbrev ZBI:Stmt:=top 60
abbrev ZC8:Stmt:=top 64
abbrev ZCD:Stmt:=top 56
abbrev ZBU:Stmt:=top 61
abbrev ZCd:Stmt:=top 55
abbrev ZBq:Stmt:=top 59
abbrev ZDB:Stmt:=top 57
abbrev ZCa:Stmt:=top 58
abbrev ZBN:Stmt:=top 62
abbrev ZD4:Stmt:=top 63
abbrev ZBB:Stmt:=top 65
abbrev ZCI:Stmt:=top 66
abbrev ZBh:Stmt:=top 67
abbrev ZBs:Stmt:=top 68
abbrev ZF9:Stmt:=top 17
abbrev ZCE:Stmt:=top 35
abbrev ZE2:Stmt:=top 29
abbrev ZCG:Stmt:=top 34
abbrev ZCQ:Stmt:=top 45
abbrev ZBf:Stmt:=top 47
abbrev ZAy:Stmt:=top 36
abbrev ZJa:Stmt:=top 31
abbrev ZB1:Stmt:=top 38
abbrev ZD5:Stmt:=top 14
abbrev ZBe:Stmt:=top 33
abbrev ZJc:Stmt:=top 30
abbrev ZDO:Stmt:=top 12
abbrev ZCe:Stmt:=top 19
abbrev ZCM:Stmt:=top 20
abbrev ZCP:Stmt:=top 21
abbrev ZCN:Stmt:=top 18
abbrev ZCL:Stmt:=top 24
abbrev ZD9:Stmt:=top 22
abbrev ZBa:Stmt:=top 23
abbrev ZJV:Stmt:=top 15
abbrev ZBK:Stmt:=top 25
abbrev ZBC:Stmt:=top 26
abbrev ZE7:Stmt:=top 16
abbrev ZGe:Stmt:=top 39
abbrev ZBT:Stmt:=top 37
abbrev ZD6:Stmt:=top 32
abbrev ZE4:Stmt:=top 46
abbrev ZBg:Stmt:=top 44
abbrev ZKs:Stmt:=top 69
variable {P:Program}{w:World}{K:PySem.W.Frag}{mg:Str->Option Value}{base:Heap}{f:Addr}{fd:FuncData}
abbrev ZFe:Stmt:=ZNV (top 4)
theorem ZRF:ZAP ["self", "name"] ["self", "name"] (ZA4 ZFe):=⟨rfl,rfl,rfl,by decide +kernel,rfl,by decide +kernel,by decide +kernel⟩
theorem ZRe {C S:Addr}(F:Fun K "__init__" "Gone.__init__" ZFe f fd) (bd:Binds K fd ["self", "name"] []) (c:ExI K C f "name") (sup:Sup K S) (m_S:mg "StirError" = some (.ref S)):ZHz P w K mg base C "name" := by
 refine ⟨f,fd, "name", c,F.ok (k:=0) ZRF ZGC (fun cdv A outer s H vs Q E hr h=>?_),bd⟩
 refine ⟨_,?_,ZHf (N:=["self", "name"]) rfl h⟩
 exact ZCy (ZIV (ZF8 (S:=S) sup (by rfl) m_S c.ex (ZE8 (pv 0) (ZE8 (ZKJ (pv 1) (by decide)) ZL2)))) (ZCy (ZGB c (pv 0) (pv 1) rfl) ZIW)
abbrev ZDM:Stmt:=ZNV (top 2)
theorem ZOh:ZAP ["self", "name"] ["self", "name"] (ZA4 ZDM):=⟨rfl,rfl,rfl,by decide +kernel,rfl,by decide +kernel,by decide +kernel⟩
theorem ZOA {C S:Addr}(F:Fun K "__init__" "NoName.__init__" ZDM f fd) (bd:Binds K fd ["self", "name"] []) (c:ExI K C f "name") (sup:Sup K S) (m_S:mg "StirError" = some (.ref S)):ZHz P w K mg base C "name" := by
 refine ⟨f,fd, "name", c,F.ok (k:=0) ZOh ZGC (fun cdv A outer s H vs Q E hr h=>?_),bd⟩
 refine ⟨_,?_,ZHf (N:=["self", "name"]) rfl h⟩
 exact ZCy (ZIV (ZF8 (S:=S) sup (by rfl) m_S c.ex (ZE8 (pv 0) (ZE8 (ZKJ (pv 1) (by decide)) ZL2)))) (ZCy (ZGB c (pv 0) (pv 1) rfl) ZIW)
abbrev ZCc:Stmt:=ZNV (top 5)
theorem ZMx:ZAP ["self", "at"] ["self", "at"] (ZA4 ZCc):=⟨rfl,rfl,rfl,by decide +kernel,rfl,by decide +kernel,by decide +kernel⟩
theorem ZMZ {C S:Addr}(F:Fun K "__init__" "NoPlace.__init__" ZCc f fd) (bd:Binds K fd ["self", "at"] []) (c:ExI K C f "at") (sup:Sup K S) (m_S:mg "StirError" = some (.ref S)):ZHz P w K mg base C "at" := by
 refine ⟨f,fd, "at", c,F.ok (k:=0) ZMx ZGC (fun cdv A outer s H vs Q E hr h=>?_),bd⟩
 refine ⟨_,?_,ZHf (N:=["self", "at"]) rfl h⟩
 exact ZCy (ZIV (ZF8 (S:=S) sup (by rfl) m_S c.ex (ZE8 (pv 0) (ZE8 (ZKJ (pv 1) (by decide)) ZL2)))) (ZCy (ZGB c (pv 0) (pv 1) rfl) ZIW)
abbrev ZEL:Stmt:=ZNV (top 3)
theorem ZQO:ZAP ["self", "name"] ["self", "name"] (ZA4 ZEL):=⟨rfl,rfl,rfl,by decide +kernel,rfl,by decide +kernel,by decide +kernel⟩
theorem ZQg {C S:Addr}(F:Fun K "__init__" "There.__init__" ZEL f fd) (bd:Binds K fd ["self", "name"] []) (c:ExI K C f "name") (sup:Sup K S) (m_S:mg "StirError" = some (.ref S)):ZHz P w K mg base C "name" := by
 refine ⟨f,fd, "name", c,F.ok (k:=0) ZQO ZGC (fun cdv A outer s H vs Q E hr h=>?_),bd⟩
 refine ⟨_,?_,ZHf (N:=["self", "name"]) rfl h⟩
 exact ZCy (ZIV (ZF8 (S:=S) sup (by rfl) m_S c.ex (ZE8 (pv 0) (ZE8 (ZKJ (pv 1) (by decide)) ZL2)))) (ZCy (ZGB c (pv 0) (pv 1) rfl) ZIW)
open Fz
local macro_rules | `(tactic| walk_at "wp")=>`(tactic| first
 | (refine' ZT9 ?_)
 | (with_reducible refine' ZTh ?_)
 | ((with_reducible refine' ZMo ?wk ?_);(case wk=>rfl))
 | ((with_reducible refine' ZV4 (ZJJ (ZEw ?wk ?_)));(case wk=>rfl))
 | ((with_reducible refine' ZV4 (ZJX (ZEw ?wk ?_)));(case wk=>rfl))
 | ((with_reducible refine' ZV4 (ZJJ (ZJJ (ZEw ?wk ?_))));(case wk=>rfl))
 | ((with_reducible refine' ZV4 (ZJX (ZJX (ZEw ?wk ?_))));(case wk=>rfl))
 | ((with_reducible refine' ZV4 (ZJX (ZJJ (ZEw ?wk ?_))));(case wk=>rfl))
 | ((with_reducible refine' ZMd (ZEw ?wk ?_));(case wk=>rfl))
 | ((with_reducible refine' ZMd (ZJX (ZEw ?wk ?_)));(case wk=>rfl))
 | ((with_reducible refine' ZMd (ZJJ (ZEw ?wk ?_)));(case wk=>rfl))
 | ((with_reducible refine' ZMo ?wk ?_);(case wk=>rfl))
 | ((with_reducible refine' ZAG ?wk ?_);(case wk=>rfl))
 | (with_reducible refine' ZCm ?_)
 | (with_reducible refine' ZJS ?_)
 | (with_reducible refine' ZMO ?_)
 | (with_reducible refine' ZCw ?_)
 | (with_reducible refine' ZVU ?_)
 | (with_reducible refine' ZSF ?_)
 | (with_reducible refine' ZUP ?_)
 | (with_reducible refine' ZMJ ?_)
 | (with_reducible refine' ZVq ?_)
 | (with_reducible refine' ZHv ?_)
 | (with_reducible refine' ZUz ?_)
 | (with_reducible refine' ZUn ?_)
 | (with_reducible refine' ZCV ?_)
 | (with_reducible refine' ZJQ ?_)
 | ((with_reducible refine' ZSf ?wk ?_);(case wk=>rfl))
 | (with_reducible refine' ZVx ?_)
 | (with_reducible refine' ZFu ?_)
 | (with_reducible refine' ZLY ?_)
 | (with_reducible refine' ZUs ?_)
 | (with_reducible refine' ZUu ?_)
 | (with_reducible refine' ZUh ?_)
 | (with_reducible refine' ZE1 ?_)
 | (with_reducible refine' ZLr ?_)
 | (with_reducible refine' ZTL ?_)
 | (with_reducible refine' ZTH ?_)
 | (with_reducible refine' ZHD ?_)
 | (with_reducible refine' ZI7 ?_)
 | ((with_reducible refine' ZPv ?wk ?_);(case wk=>rfl))
 | (with_reducible refine' ZRE ?_)
 | (with_reducible refine' ZVZ ?_)
 | (with_reducible refine' ZQE ?_)
 | (refine' ZPX ?_)
 | (with_reducible refine' ZLv ?_)
 | (with_reducible refine' ZVQ ?_)
 | (with_reducible refine' ZVc ?_)
 | (with_reducible refine' ZTM ?_)
 | (refine' ZVb ?wk ?_;(case wk=>rfl))
 | (refine' ZMp ?wk ?_;(case wk=>rfl))
 | (refine' ZVu ?wk ?_;(case wk=>rfl))
 | ((with_reducible refine' ZQP ?wk ?_);(case wk=>rfl))
 | (refine' ZUe ?wk ?_;(case wk=>rfl))
 | (refine' ZVd ?wk ?_;(case wk=>rfl))
 | (refine' ZUx ?wk ?_;(case wk=>rfl))
 | (refine' ZFD ?wk ?_;(case wk=>rfl)))
local macro_rules | `(tactic| walk_at "wn")=>`(tactic| first
 | (refine' ZR0 ?wj ?wk ?_;(case wj=>rfl);(case wk=>rfl))
 | (with_reducible refine' ZDu ?_)
 | (with_reducible refine' ZSV ?_)
 | (with_reducible refine' ZRZ ?_)
 | (with_reducible refine' ZQR ?_)
 | (refine' ZL1 ?_)
 | (with_reducible refine' ZUi ?_)
 | (with_reducible refine' ZWq ?_)
 | (with_reducible refine' ZJv ?_)
 | (refine' ZI0 ?wk ?_;(case wk=>rfl))
 | (refine' ZRw ?wj ?wk ?_;(case wj=>rfl);(case wk=>rfl)))
local macro_rules | `(tactic| walk_at "wq")=>`(tactic| first
 | ((with_reducible refine' ZWY (ZEw ?wk ?_));(case wk=>rfl))
 | ((with_reducible refine' ZWY (ZJJ (ZEw ?wk ?_)));(case wk=>rfl))
 | ((with_reducible refine' ZWY (ZJX (ZEw ?wk ?_)));(case wk=>rfl))
 | ((with_reducible refine' ZNz ?wk ?_);(case wk=>rfl))
 | ((with_reducible refine' ZBl ?wk ?_);(case wk=>rfl))
 | ((with_reducible refine' ZCH ?wk ?_);(case wk=>rfl))
 | ((with_reducible refine' ZLZ ?wk ?_);(case wk=>rfl))
 | (with_reducible refine' ZQG ?_)
 | (refine ZBP (ZAn ?_);walk_at "wn")
 | (refine ZBP ?_;walk_at "wp"))
local macro_rules | `(tactic| walk_at "wz")=>`(tactic| first
 | ((with_reducible refine' ZW6 ?wk ?_);(case wk=>rfl))
 | (with_reducible refine' ZLN ?_)
 | (refine ZKg (ZAn ?_);walk_at "wn")
 | (refine ZKg ?_;walk_at "wp"))
local macro_rules | `(tactic| walk_at "wt")=>`(tactic| first
 | (with_reducible refine' ZAm ?_)
 | (with_reducible refine' ZUO ?_)
 | (with_reducible refine' ZPx ?_)
 | (with_reducible refine' ZDX ?_)
 | (with_reducible refine' ZLG ?_)
 | (with_reducible refine' ZN6 ?_))
local macro_rules | `(tactic| walk_at "we")=>`(tactic| first
 | (with_reducible refine' ZAl ?_)
 | (with_reducible refine' ZBO ?_)
 | (with_reducible refine' ZTA ?_)
 | (with_reducible refine' ZTD ?_)
 | (with_reducible refine' ZVw ?_)
 | (with_reducible refine' ZTJ ?_)
 | (with_reducible refine' ZSk ?_)
 | (with_reducible refine' ZWp ?_))
local macro_rules | `(tactic| walk_at "w")=>`(tactic| first
 | ((with_reducible show ∃ _,_=OV.tp _/\_);refine ⟨_,rfl,?_⟩)
 | ((with_reducible show ∃ _,_=OV.fz _/\_);refine ⟨_,rfl,?_⟩)
 | ((with_reducible show ∃ _ _,_=OV.nd NK.lst _ (List.map OV.fz _)/\_);refine ⟨_,_,rfl,?_⟩)
 | ((with_reducible show ∃ _ _,_=OV.nd NK.lst _ _/\_);refine ⟨_,_,rfl,?_⟩)
 | ((with_reducible show ∃ _ _ _,_=PV.int _/\_/\_/\_);refine ⟨_,_,_,rfl,rfl,rfl,?_⟩)
 | ((with_reducible show Wp _ _ _);first | walk_at "wp" | (refine ZAn ?_;walk_at "wn"))
 | ((with_reducible show Wn _ _ _);walk_at "wn")
 | ((with_reducible show Wq _ _ _);walk_at "wq")
 | ((with_reducible show Wz _ _ _);walk_at "wz")
 | ((with_reducible show Wt _ _ _);walk_at "wt")
 | ((with_reducible show We _ _ _);walk_at "we")
 | ((with_reducible show Wo _ _ _);walk_at "we")
 | ((with_reducible show Wi _ _ _);walk_at "we")
 | ((with_reducible show Ws _ _ _ _);first
  | (with_reducible refine' ZAZ ?_)
  | (with_reducible refine' ZBv ?_)
  | (with_reducible refine' ZCW ?_)
  | (with_reducible refine' ZAC ?_)
  | ((with_reducible refine' ZDQ ?wk ?_);(case wk=>rfl))
  | ((with_reducible refine' ZQI ?wk ?_);(case wk=>rfl))
  | ((with_reducible refine' ZOf ?wk ?_);(case wk=>rfl))
  | ((with_reducible refine' ZUa ?wk ?_);(case wk=>rfl))
  | ((with_reducible refine' ZCb ?_);walk_at "wn")
  | ((with_reducible refine' ZC1 ?_);walk_at "wp")
  | ((with_reducible refine' ZKo ?wk ?_);(case wk=>rfl))
  | ((with_reducible refine' ZFZ ?_);walk_at "wn")
  | ((with_reducible refine' ZBF ?_);walk_at "wp"))
 | ((with_reducible show ∃ _,_=PV.int _/\_);refine ⟨_,rfl,?_⟩)
 | ((with_reducible show ∃ _,_=PV.str _/\_);refine ⟨_,rfl,?_⟩)
 | ((with_reducible show ∃ _,_=PV.bl _/\_);refine ⟨_,rfl,?_⟩)
 | ((with_reducible show _=false/\_);refine ⟨rfl,?_⟩)
 | ((with_reducible show _=true/\_);refine ⟨rfl,?_⟩)
 | ((with_reducible show (_:Bool)=_/\_);refine ⟨rfl,?_⟩)
 | ((with_reducible show ∃ _ _,_=PV.int _/\L2.atI _ _=some _/\_);refine ⟨_,_,rfl,rfl,?_⟩)
 | ((with_reducible show ∃ _,(_=PV.lst _/\_)∨(_=PV.tup _/\_));first | refine ⟨_,.inl ⟨rfl,?_⟩⟩ | refine ⟨_,.inr ⟨rfl,?_⟩⟩)
 | ((with_reducible show ∃ _,_=List.map _ _/\_);first | refine ⟨_,rfl,?_⟩ | refine ⟨[],rfl,?_⟩ | refine ⟨_,ZR2 _ _ _ _,?_⟩ | refine ⟨_,ZUD _ _ _,?_⟩ | refine ⟨_,ZVL _ _,?_⟩))
local macro_rules | `(tactic| walk_at "ww")=>`(tactic| repeat walk_at "w")
theorem ZDF:ZAP ["script", "k", "cell", "rest_here"] ["script", "k"] (ZA4 ZD8):=⟨rfl,rfl,rfl,by decide +kernel,rfl,by decide +kernel,by decide +kernel⟩
theorem ZMc (F:Fun K "_law_pot" "_law_pot" ZD8 f fd) (bd:Binds K fd ["script", "k"] []) (m:mg "_law_pot" = some (.ref f)) (ZAf:mg "len" = none) :
  Has P w K mg base "_law_pot" 1 ["script", "k"] (ZRr K):=by
 refine Has.mk F bd m (F.okq (k:=0) ZDF (fun vs H Q E h=>?_) (fun cdv A outer s H vs Q E hr h=>?_))
 ·obtain ⟨a,ns,k,rfl,hS,k0,k1,q⟩:=h;rfl
 obtain ⟨a,ns,k,rfl,hS,k0,k1,q⟩:=h
 refine ⟨_,(ZAF rfl (ZAL (i:=2) ZDF.nd rfl (Or.inl rfl) ZA2)
   (ZAF rfl (ZAv (ZAa (ZA9 ZI8 (qv 1) (ZAQ ZAu (by rfl) ZAf (by decide +kernel) (ZA0 (qv 0) ZA1)) (ZAI _)) (ZAJ rfl (ZAL (i:=2) ZDF.nd rfl (Or.inl rfl) (ZAc ZHN (ZAK ZAz (qv 0) (qv 1) (fun _ _=>rfl)) (ZAc ZF4 (ZAc ZF4 (ZAc ZF4 (ZAc ZHK ZA2 ZA2) (ZAc ZHK ZA2 ZA2)) (ZAc ZHK ZA2 ZA2)) (ZAc ZHK ZA2 ZA2))))) ZAE))
   (ZAF rfl (ZAL (i:=3) ZDF.nd rfl (Or.inl rfl) ZA2)
   (ZAF rfl (ZAv (ZAa (ZA9 ZOI (qv 2) (ZAc ZHK ZA2 ZA2) (ZAI _)) (ZAJ rfl (ZAL (i:=3) ZDF.nd rfl (Or.inl rfl) (qv 2))) ZAE))
   (ZAJ rfl (ZAM (ZBV (ZA0 (qv 3) (ZA0 (ZAc ZHN (ZAc ZF4 (ZAc ZBc (ZAc ZBc (ZAc ZHN (qv 2) ZA2) (ZAc ZF4 ZA2 (qv 1))) ZA2) ZA2) ZA2) ZA1))))))))),?_⟩
 have hl:(ns.map V.int).length=ns.length:=List.length_map _
 refine ⟨fun σ' H'=>∃ c:Int,σ'=[some (.ref a),some (.int k),some (.int c),none]/\H=H'/\0<=c/\c < 10 ^ 256,?_,?_⟩
 ·refine ⟨_,rfl,_,rfl,a,_,rfl,.inl hS,_,_,rfl,rfl,_,rfl,?_⟩
  refine ZB4 (fun c=>?_) (fun c=>?_)
  ·have c':k < (((ns.map V.int).length:Nat):Int):=of_decide_eq_true c
   rw [hl] at c'
   have hk:k.toNat < ns.length:=by omega
   have hv:atI (ns.map V.int) k=some (.int ns[k.toNat]):=ZM3 k0 (by rw [List.getElem?_map,List.getElem?_eq_getElem hk] <;> rfl)
   refine ⟨_,rfl,_,rfl,a,_,_,_,rfl,rfl,hS,hv,_,_,rfl,rfl,⟨by decide,by decide,by decide +kernel⟩,_,_,rfl,rfl,⟨by decide,by decide,by decide +kernel⟩,_,_,rfl,rfl,⟨by decide +kernel,by decide +kernel⟩,_,_,rfl,rfl,⟨by decide,by decide,by decide +kernel⟩,_,_,rfl,rfl,⟨by decide +kernel,by decide +kernel⟩,
    _,_,rfl,rfl,⟨by decide,by decide,by decide +kernel⟩,_,_,rfl,rfl,⟨by decide +kernel,by decide +kernel⟩,_,_,rfl,rfl,(by show (0:Int) < _;decide +kernel),?_⟩
   exact ⟨_,rfl,rfl,Int.emod_nonneg _ (by decide +kernel),Int.emod_lt_of_pos _ (by decide +kernel)⟩
  ·exact ⟨0,rfl,rfl,by decide,by decide +kernel⟩
 rintro σ' H' ⟨c,rfl,rfl,c0,c1⟩
 refine ⟨fun σ' H'=>∃ d:Int,σ'=[some (.ref a),some (.int k),some (.int c),some (.int d)]/\H=H'/\0<=d/\d < 10 ^ 256,?_,?_⟩
 ·refine ⟨_,rfl,_,_,rfl,rfl,⟨by decide,by decide,by decide +kernel⟩,_,_,rfl,rfl,_,rfl,?_⟩
  refine ZB4 (fun _=>?_) (fun _=>?_)
  ·exact ⟨_,rfl,c,rfl,rfl,c0,c1⟩
  ·exact ⟨0,rfl,rfl,by decide,by decide +kernel⟩
 rintro σ' H' ⟨d,rfl,rfl,d0,d1⟩
 have e0:0<=c % 2147483629:=Int.emod_nonneg _ (by decide)
 have e1:c % 2147483629 < 2147483629:=Int.emod_lt_of_pos _ (by decide)
 refine ⟨_,rfl,_,rfl,_,_,rfl,rfl,(by show (0:Int) < 2147483629;decide),_,rfl,_,_,rfl,rfl,⟨by decide +kernel,ZE3 (by omega) (by omega)⟩,_,_,rfl,rfl,_,_,rfl,rfl,_,_,rfl,rfl,⟨ZE3 (by omega) (by omega),by decide +kernel⟩,_,_,rfl,rfl,(by show (0:Int) < 2147483647;decide),?_⟩
 refine ⟨(by show 2<=sizeLine;decide),fun p hp=>?_⟩
 exact q p _ hp (ZAD hp _) ⟨d,_,ZA6,d0,d1,Int.emod_nonneg _ (by decide),Int.emod_lt_of_pos _ (by decide)⟩
theorem ZHL:ZAP ["pot", "many", "found"] ["pot", "many"] (ZA4 ZCf):=⟨rfl,rfl,rfl,by decide +kernel,rfl,by decide +kernel,by decide +kernel⟩
theorem ZLP (F:Fun K "_law_take" "_law_take" ZCf f fd) (bd:Binds K fd ["pot", "many"] []) (m:mg "_law_take" = some (.ref f))  :
  Has P w K mg base "_law_take" 1 ["pot", "many"] (ZEx):=by
 refine Has.mk F bd m (F.okq (k:=0) ZHL (fun vs H Q E h=>?_) (fun cdv A outer s H vs Q E hr h=>?_))
 ·obtain ⟨p,m,rfl,⟨a,b,hp,a0,a1,b0,b1⟩,m0,m1,q⟩:=h;rfl
 obtain ⟨p,m,rfl,⟨a,b,hp,a0,a1,b0,b1⟩,m0,m1,q⟩:=h
 refine ⟨_,(ZAF rfl (ZAa (ZA9 ZPo (ZAK ZAz (qv 0) ZA2 (fun _ _=>rfl)) ZA2 (ZAI _)) (ZAF rfl (ZAL (i:=2) ZHL.nd rfl (Or.inl rfl) (ZAc ZHN (ZAK ZAz (qv 0) ZA2 (fun _ _=>rfl)) (qv 1)))
   (ZAF rfl (ZGQ (ZAc ZJk (ZAK ZAz (qv 0) ZA2 (fun _ _=>rfl)) (qv 1)) (ZQq (qv 0) ZA2 set_list))
   (ZAJ rfl (ZAM (qv 2))))) ZAE)
   (ZAF rfl (ZGQ (ZAc ZHN (ZAc ZBc (ZAc ZF4 (ZAK ZAz (qv 0) ZA2 (fun _ _=>rfl)) ZA2) ZA2) ZA2) (ZQq (qv 0) ZA2 set_list))
   (ZAJ rfl (ZAM (ZAc ZHN (ZAc ZJk (ZAc ZHN (ZAc ZF4 (ZAK ZAz (qv 0) ZA2 (fun _ _=>rfl)) (ZAK ZAz (qv 0) ZA2 (fun _ _=>rfl))) ZA2) ZA2) (qv 1)))))),?_⟩
 refine ⟨_,rfl,p,_,_,_,rfl,rfl,SqL.of hp,rfl,_,_,rfl,rfl,_,rfl,?_⟩
 refine ZB4 (fun c=>?_) (fun c=>?_)
 ·have c':0 < a:=of_decide_eq_true c
  refine ⟨_,rfl,p,_,_,_,rfl,rfl,SqL.of hp,rfl,_,rfl,_,_,rfl,rfl,m0,?_⟩
  refine ⟨_,rfl,p,_,_,_,rfl,rfl,SqL.of hp,rfl,_,rfl,_,_,rfl,rfl,⟨m0,ZE3 (by omega) (by omega)⟩,?_⟩
  refine ⟨_,rfl,p,_,_,_,rfl,rfl,hp,rfl,?_⟩
  refine ⟨_,rfl,?_⟩
  refine q _ _ (Int.emod_nonneg _ (by omega)) (Int.emod_lt_of_pos _ m0) ⟨⟨a / m,b,ZA6,Int.ediv_nonneg a0 (by omega),Int.lt_of_le_of_lt (Int.ediv_le_self _ a0) a1,b0,b1⟩,ZHS.upd⟩
 ·refine ⟨_,rfl,p,_,_,_,rfl,rfl,SqL.of hp,rfl,_,_,rfl,rfl,⟨ZE3 (by omega) (by omega),by decide +kernel⟩,_,_,rfl,rfl,_,_,rfl,rfl,(by show (0:Int) < 2147483647;decide),?_⟩
  refine ⟨_,rfl,p,_,_,_,rfl,rfl,hp,rfl,?_⟩
  have hb0:0<=(b * 69621+12345) % 2147483647:=Int.emod_nonneg _ (by decide)
  have hb1:(b * 69621+12345) % 2147483647 < 2147483647:=Int.emod_lt_of_pos _ (by decide)
  generalize hb:(b * 69621+12345) % 2147483647=b' at hb0 hb1
  have hp':(upd H p (.lst [.int a,.int ((b * 69621+12345) % 2147483647)])) p=some (.lst [.int a,.int b']):=by rw [ZA6,hb]
  refine ⟨_,rfl,p,_,_,_,rfl,rfl,SqL.of hp',rfl,_,rfl,p,_,_,_,rfl,rfl,SqL.of hp',rfl,_,_,rfl,rfl,⟨ZE3 (by omega) (by omega),ZE3 (by omega) (by omega)⟩,_,_,rfl,rfl,(by show (0:Int) < 2147483629;decide),?_⟩
  refine ⟨_,_,rfl,rfl,⟨(by show (0:Int) < 64;decide),by decide +kernel⟩,_,rfl,_,_,rfl,rfl,m0,?_⟩
  exact q _ _ (Int.emod_nonneg _ (by omega)) (Int.emod_lt_of_pos _ m0) ⟨⟨a,b',hp',a0,a1,hb0,hb1⟩,ZHS.upd⟩
theorem ZCS:ZAP ["number", "word"] ["number"] (ZA4 ZBd):=⟨rfl,rfl,rfl,by decide +kernel,rfl,by decide +kernel,by decide +kernel⟩
theorem ZIQ (F:Fun K "_law_letters" "_law_letters" ZBd f fd) (bd:Binds K fd ["number"] []) (m:mg "_law_letters" = some (.ref f))  :
  Has P w K mg base "_law_letters" 1 ["number"] (ZLg):=by
 refine Has.mk F bd m (F.okq (k:=0) ZCS (fun vs H Q E h=>?_) (fun cdv A outer s H vs Q E hr h=>?_))
 ·obtain ⟨r,rfl,r0,r1,q⟩:=h;rfl
 obtain ⟨r,rfl,r0,r1,q⟩:=h
 refine ⟨_,(ZAF rfl (ZAL (i:=1) ZCS.nd rfl (Or.inl rfl) ZAR)
   (ZAF rfl (ZAv (ZNy PassesOwn.never (ZJo (ZA9 ZBG (qv 1) ZAR (ZAI _)) (ZIM (ZA9 ZPo (qv 0) ZA2 (ZAI _)))).pt (ZAF rfl (ZAL (i:=1) ZCS.nd rfl (Or.inl rfl) (ZAc ZF7 (qv 1) (ZAK ZUk ZAR (ZAc ZHN (qv 0) ZA2) (fun _ _=>rfl))))
   (ZAJ rfl (ZAL (i:=0) ZCS.nd rfl (Or.inl rfl) (ZAc ZJk (qv 0) ZA2))))))
   (ZAJ rfl (ZAM (qv 1))))),?_⟩
 obtain ⟨n,rfl⟩:=Int.eq_ofNat_of_zero_le r0
 have hn:n < 26 ^ 8:=by omega
 rw [Int.toNat_natCast] at q
 refine ⟨fun σ' H'=>∃ v,σ'=[some v,some (.str (ZIt (MA.lets n)))]/\H=H',?_,?_⟩
 ·refine ⟨fun m σ' H'=>∃ (k:Nat) (pre:List Nat),σ'=[some (.int k),some (.str (ZIt pre))]/\H=H'/\((pre=[]/\k=n/\m=n+2)∨(pre≠[]/\m=k+1/\(0 < k->pre++MA.lets k=MA.lets n)/\(k=0->pre=MA.lets n))),⟨n+2,n,[],rfl,rfl,.inl ⟨rfl,rfl,rfl⟩⟩,?_⟩
  rintro m σ' H' ⟨k,pre,rfl,rfl,hI⟩
  refine ⟨_,rfl,rfl,_,rfl,?_⟩
  refine ZB4 (fun c=>ZWy ?_) (fun c=>⟨_,rfl,_,_,rfl,rfl,_,rfl,?_⟩)
  ·have hp:pre=[]:=ZJH.mp (of_decide_eq_true c)
   obtain ⟨_,hk,hm⟩ | ⟨h,_⟩:=hI
   ·have he:pre++MA.lets k=MA.lets n:=by rw [hp,hk];rfl
    have hlen:pre.length+1<=8:=by
     have h1:=congrArg List.length he
     rw [List.length_append] at h1
     have h2:=MA.ZHa 7 n hn
     have h3:=MA.ZJq k
     omega
    refine ⟨fun σ' H'=>σ'=[some (.int ((k:Int) / 26)),some (.str (ZIt pre++⟨#[97+((k:Int) % 26).toNat]⟩))]/\H=H',?_,?_⟩
    ·rintro σ' H' ⟨rfl,rfl⟩
     have nx:=ZLX he
     have e1:((k:Int) % 26).toNat=k % 26:=by omega
     have e2:(k:Int) / 26=((k / 26:Nat):Int):=by omega
     exact ⟨k / 26+1,by omega,k / 26,pre++[97+k % 26],by rw [e1,e2,ZLV],rfl,.inr ⟨by simp,rfl,nx.1,nx.2⟩⟩
    ·refine ⟨_,rfl,_,rfl,_,_,rfl,rfl,(by show (0:Int) < 26;decide),_,_,_,rfl,rfl,(by decide +kernel),ZSE (Int.emod_nonneg _ (by decide)) (Int.emod_lt_of_pos _ (by decide)),_,_,rfl,rfl,?_,?_⟩
     ·rw [ZHk];exact small (show pre.length+1<=_ by omega)
     ·exact ⟨_,rfl,_,_,rfl,rfl,⟨(by show (0:Int) < 26;decide),by decide +kernel⟩,rfl,rfl⟩
   ·exact absurd hp h
  ·have hp:pre≠[]:=fun h=>c (decide_eq_true (ZJH.mpr h))
   obtain ⟨h,_⟩ | ⟨_,hm,h1,h2⟩:=hI
   ·exact absurd h hp
   refine ZB4 (fun c2=>?_) (fun c2=>?_)
   ·have hk:0 < k:=by have:(0:Int) < k:=of_decide_eq_true c2;omega
    have he:=h1 hk
    have hlen:pre.length+1<=8:=by
     have h1:=congrArg List.length he
     rw [List.length_append] at h1
     have h2:=MA.ZHa 7 n hn
     have h3:=MA.ZJq k
     omega
    refine ⟨fun σ' H'=>σ'=[some (.int ((k:Int) / 26)),some (.str (ZIt pre++⟨#[97+((k:Int) % 26).toNat]⟩))]/\H=H',?_,?_⟩
    ·rintro σ' H' ⟨rfl,rfl⟩
     have nx:=ZLX he
     have e1:((k:Int) % 26).toNat=k % 26:=by omega
     have e2:(k:Int) / 26=((k / 26:Nat):Int):=by omega
     exact ⟨k / 26+1,by omega,k / 26,pre++[97+k % 26],by rw [e1,e2,ZLV],rfl,.inr ⟨by simp,rfl,nx.1,nx.2⟩⟩
    ·refine ⟨_,rfl,_,rfl,_,_,rfl,rfl,(by show (0:Int) < 26;decide),_,_,_,rfl,rfl,(by decide +kernel),ZSE (Int.emod_nonneg _ (by decide)) (Int.emod_lt_of_pos _ (by decide)),_,_,rfl,rfl,?_,?_⟩
     ·rw [ZHk];exact small (show pre.length+1<=_ by omega)
     ·exact ⟨_,rfl,_,_,rfl,rfl,⟨(by show (0:Int) < 26;decide),by decide +kernel⟩,rfl,rfl⟩
   ·have hk:k=0:=by
     have:¬ (0:Int) < k:=fun z=>c2 (decide_eq_true z)
     omega
    exact ⟨_,by rw [h2 hk],rfl⟩
 ·rintro σ' H' ⟨v,rfl,rfl⟩
  exact ⟨_,rfl,q⟩
theorem ZAs:ZAP ["pot", "names", "some", "way", "name", "number"] ["pot", "names"] (ZA4 ZCg):=⟨rfl,rfl,rfl,by decide +kernel,rfl,by decide +kernel,by decide +kernel⟩
theorem ZLp (F:Fun K "_law_name" "_law_name" ZCg f fd) (bd:Binds K fd ["pot", "names"] []) (m:mg "_law_name" = some (.ref f)) (ZC0:Has P w K mg base "_law_letters" 1 ["number"] (ZLg)) (ZA7:Has P w K mg base "_law_take" 1 ["pot", "many"] (ZEx)) (ZAf:mg "len" = none) :
  Has P w K mg base "_law_name" 2 ["pot", "names"] (ZL9 K):=by
 refine Has.mk F bd m (F.okq (k:=1) ZAs (fun vs H Q E h=>?_) (fun cdv A outer s H vs Q E hr h=>?_))
 ·obtain ⟨p,q,ns,rfl,hp,hS,hne,hN,hL,K1⟩:=h;rfl
 obtain ⟨p,q,ns,rfl,hp,hS,hne,hN,hL,K1⟩:=h
 refine ⟨_,(ZAF rfl (ZAL (i:=2) ZAs.nd rfl (Or.inl rfl) (ZAU (ZA0 ZAR (ZA0 ZAR (ZA0 ZAR (ZA0 ZAR (ZA0 ZAR (ZA0 ZAR (ZA0 ZAR (ZA0 ZAR (ZA0 ZAR (ZA0 ZAR (ZA0 ZAR (ZA0 ZAR (ZA0 ZAR ZA1)))))))))))))))
   (ZAF rfl (ZAL (i:=3) ZAs.nd rfl (Or.inl rfl) (ZAS ZA7 hr (by decide) (ZA0 (qv 0) (ZA0 ZA2 ZA1))))
   (ZAF rfl (ZAL (i:=4) ZAs.nd rfl (Or.inl rfl) (ZAK ZAA (qv 2) (ZAS ZA7 hr (by decide) (ZA0 (qv 0) (ZA0 ZA2 ZA1))) (fun _ _=>rfl)))
   (ZAF rfl (ZAv (ZAa (ZA9 ZBG (qv 3) ZA2 (ZAI _)) (ZAJ rfl (ZAL (i:=4) ZAs.nd rfl (Or.inl rfl) (ZAS ZC0 hr (by decide) (ZA0 (ZAS ZA7 hr (by decide) (ZA0 (qv 0) (ZA0 (ZAc ZFP (ZAc ZHK ZA2 ZA2) ZA2) ZA1))) ZA1)))) ZAE))
   (ZAF rfl (ZAv (ZAa (ZEf (ZA9 ZBG (qv 3) ZA2 (ZAI _)) (ZDN (ZA9 (ZNr hr.ZEn) (qv 1) (ZBV ZA1) (ZAI _)))).pt (ZAF rfl (ZAL (i:=4) ZAs.nd rfl (Or.inl rfl) (ZAK ZAz (qv 1) (ZAS ZA7 hr (by decide) (ZA0 (qv 0) (ZA0 (ZAQ ZAu (by rfl) ZAf (by decide +kernel) (ZA0 (qv 1) ZA1)) ZA1))) (fun _ _=>rfl)))
   (ZAJ rfl (ZAL (i:=4) ZAs.nd rfl (Or.inl rfl) (ZAq ZOn (ZAc ZF7 (qv 4) (ZAS ZC0 hr (by decide) (ZA0 (ZAS ZA7 hr (by decide) (ZA0 (qv 0) (ZA0 ZA2 ZA1))) ZA1))) ZBM (ZB0 ZA2))))) ZAE))
   (ZAF rfl (ZAv (ZAa (ZEf (ZA9 ZBG (qv 3) ZA2 (ZAI _)) (ZDN (ZA9 (ZNr hr.ZEn) (qv 1) (ZBV ZA1) (ZAI _)))).pt (ZAF rfl (ZAL (i:=4) ZAs.nd rfl (Or.inl rfl) (ZAK ZAz (qv 1) (ZAS ZA7 hr (by decide) (ZA0 (qv 0) (ZA0 (ZAQ ZAu (by rfl) ZAf (by decide +kernel) (ZA0 (qv 1) ZA1)) ZA1))) (fun _ _=>rfl)))
   (ZAJ rfl (ZAL (i:=4) ZAs.nd rfl (Or.inl rfl) (ZAq ZOn (qv 4) ZBM (ZB0 (ZAc ZBc ZA2 (ZAS ZA7 hr (by decide) (ZA0 (qv 0) (ZA0 (ZAQ ZEZ (by rfl) ZAf (by decide +kernel) (ZA0 (qv 4) ZA1)) ZA1))))))))) ZAE))
   (ZAF rfl (ZAL (i:=5) ZAs.nd rfl (Or.inl rfl) ZA2)
   (ZAF rfl (ZAv (ZNy PassesOwn.never (ZA9 ZC2 (qv 4) (qv 1) (by with_unfolding_all rfl)) (ZAF rfl (ZAL (i:=4) ZAs.nd rfl (Or.inl rfl) (ZAS ZC0 hr (by decide) (ZA0 (qv 5) ZA1)))
   (ZAJ rfl (ZAL (i:=5) ZAs.nd rfl (Or.inl rfl) (ZAc ZBc (qv 5) ZA2))))))
   (ZAJ rfl (ZAM (qv 4))))))))))),?_⟩
 have hl:(ns.map V.str).length=ns.length:=List.length_map _
 refine ⟨(by show 13<=sizeLine;decide +kernel),fun sm hsm=>?_⟩
 have hsp:sm≠p:=by
  obtain ⟨_,_,e,_⟩:=hp
  exact (ZAg e hsm).symm
 have g0:ZB3 p H (upd H sm (.tup ZR1)):=ZB3.of hp (ZAD hsm _)
 refine ⟨_,rfl,p,4,rfl,g0.pot,by decide,by decide,fun way H1 w0 w1 s1=>?_⟩
 refine ⟨_,rfl,_,rfl,p,13,rfl,s1.pot,by decide,by decide,fun i H2 i0 i1 s2=>?_⟩
 have h2:H2 sm=some (.tup ZR1):=s2.at' (s1.at' ZA6 hsp) hsp
 obtain ⟨x,hx,nx⟩:=ZT8 i0 i1
 refine ⟨sm,_,_,_,rfl,rfl,SqT.of h2,hx,?_⟩
 have g2:=g0.trans (s1.trans s2)
 refine ⟨fun σ' H'=>∃ x,σ'=[some (.ref p),some (.ref q),some (.ref sm),some (.int way),some (.str x),none]/\Nm x/\ZB3 p H H',?_,?_⟩
 ·refine ⟨_,rfl,rfl,_,rfl,?_⟩
  refine ZB4 (fun c=>?_) (fun c=>?_)
  ·refine ⟨_,rfl,_,_,rfl,rfl,⟨by decide,by decide,by decide +kernel⟩,_,_,rfl,rfl,p,_,rfl,g2.pot,ZW5,ZVE,fun r H3 r0 r1 s3=>?_⟩
   have r2:r < 26 ^ 8:=Int.lt_trans r1 ZVF
   exact ⟨r,rfl,r0,r2,_,rfl,ZMY (ZSK r0 r2),g2.trans s3⟩
  ·exact ⟨x,rfl,nx,g2⟩
 clear h2 hx nx s2 g2 i0 i1
 rintro σ' H3 ⟨y,rfl,ny,g3⟩
 refine ⟨fun σ' H'=>∃ x,σ'=[some (.ref p),some (.ref q),some (.ref sm),some (.int way),some (.str x),none]/\Nm x/\ZB3 p H H',?_,?_⟩
 ·refine ⟨_,rfl,rfl,_,rfl,?_⟩
  refine ZB4 (fun c=>?_) (fun c=>ZMM ⟨y,rfl,ny,g3⟩)
  refine ⟨_,rfl,(by show 0<=sizeLine;decide),fun e he=>?_⟩
  have g4:=g3.trans (ZB3.of g3.pot (ZAD he (.lst [])))
  have hSq:=g4.sqL hS hne
  refine ⟨q,e,_,[],rfl,rfl,.inl ⟨hSq,SqL.of ZA6⟩,ZBr ns,rfl,_,rfl,?_⟩
  rw [ZGH]
  refine ZB4 (fun c2=>?_) (fun c2=>⟨y,rfl,ny,g4⟩)
  have hpos:0 < ns.length:=by
   cases ns with
   | nil=>simp at c2
   | cons a r=>simp
  refine ⟨_,rfl,_,rfl,_,rfl,q,_,rfl,.inl hSq,p,_,rfl,g4.pot,(by rw [hl];omega),(by rw [hl];omega),fun i H5 i0 i1 s5=>?_⟩
  rw [hl] at i1
  have g5:=g4.trans s5
  obtain ⟨z,hz,hzm,_⟩:=ZG4 i0 i1
  have nz:=hN z hzm
  refine ⟨q,_,_,_,rfl,rfl,g5.sqL hS hne,hz,?_⟩
  refine ⟨_,rfl,_,rfl,p,26,rfl,g5.pot,by decide,by decide,fun r H6 r0 r1 s6=>?_⟩
  have g6:=g5.trans s6
  have r2:r < 26 ^ 8:=Int.lt_trans r1 ZV5
  refine ⟨r,rfl,r0,r2,?_⟩
  have nl:=ZMY (n:=r.toNat) (ZSK r0 r2)
  have hlen:z.length+(ZIt (MA.lets r.toNat)).length<=16:=by have:=nz.2.1;have:=nl.2.1;omega
  refine ⟨_,_,rfl,rfl,small (by omega),?_⟩
  refine ⟨_,rfl,_,rfl,small (by rw [ZH4];omega),?_⟩
  refine ⟨_,rfl,ZHs (by decide) (by decide) (by rw [ZH4];have:=nz.1;omega) (fun c hc=>?_),g6⟩
  rw [ZGs] at hc
  rcases List.mem_append.mp hc with hc | hc
  ·exact nz.2.2 c hc
  ·exact nl.2.2 c hc
 clear ny g3
 rintro σ' H3 ⟨y,rfl,ny,g3⟩
 refine ⟨fun σ' H'=>∃ x,σ'=[some (.ref p),some (.ref q),some (.ref sm),some (.int way),some (.str x),none]/\Nm x/\ZB3 p H H',?_,?_⟩
 ·refine ⟨_,rfl,rfl,_,rfl,?_⟩
  refine ZB4 (fun c=>?_) (fun c=>ZMM ⟨y,rfl,ny,g3⟩)
  refine ⟨_,rfl,(by show 0<=sizeLine;decide),fun e he=>?_⟩
  have g4:=g3.trans (ZB3.of g3.pot (ZAD he (.lst [])))
  have hSq:=g4.sqL hS hne
  refine ⟨q,e,_,[],rfl,rfl,.inl ⟨hSq,SqL.of ZA6⟩,ZBr ns,rfl,_,rfl,?_⟩
  rw [ZGH]
  refine ZB4 (fun c2=>?_) (fun c2=>⟨y,rfl,ny,g4⟩)
  have hpos:0 < ns.length:=by
   cases ns with
   | nil=>simp at c2
   | cons a r=>simp
  refine ⟨_,rfl,_,rfl,_,rfl,q,_,rfl,.inl hSq,p,_,rfl,g4.pot,(by rw [hl];omega),(by rw [hl];omega),fun i H5 i0 i1 s5=>?_⟩
  rw [hl] at i1
  have g5:=g4.trans s5
  obtain ⟨z,hz,hzm,_⟩:=ZG4 i0 i1
  have nz:=hN z hzm
  refine ⟨q,_,_,_,rfl,rfl,g5.sqL hS hne,hz,?_⟩
  have nz1:=nz.1
  have nz2:=nz.2.1
  refine ⟨_,rfl,_,rfl,_,rfl,_,rfl,small (by omega),p,_,rfl,g5.pot,(by omega),(by omega),fun r H6 r0 r1 s6=>?_⟩
  refine ⟨_,_,rfl,rfl,_,rfl,_,rfl,small (by omega),?_⟩
  exact ⟨_,rfl,ZHs (by omega) (by omega) nz1 nz.2.2,g5.trans s6⟩
 clear ny g3
 rintro σ' H3 ⟨y,rfl,ny,g3⟩
 refine ⟨fun σ' H'=>∃ x v,σ'=[some (.ref p),some (.ref q),some (.ref sm),some (.int way),some (.str x),some v]/\Nm x/\x∉ns/\H3=H',?_,?_⟩
 ·refine ⟨fun m σ' H'=>∃ (k:Nat) (x:Str),σ'=[some (.ref p),some (.ref q),some (.ref sm),some (.int way),some (.str x),some (.int k)]/\H3=H'/\Nm x/\m=ns.length+1 - k/\k<=ns.length+1/\(0 < k->x=ZIt (MA.lets (k - 1)))/\(∀ j,j+1 < k->ZIt (MA.lets j)∈ns),
   ⟨ns.length+1,0,y,rfl,rfl,ny,rfl,Nat.zero_le _,fun h=>absurd h (by decide),fun j h=>absurd h (by omega)⟩,?_⟩
  rintro m σ' H' ⟨k,x,rfl,rfl,nx,rfl,hk,hx,hj⟩
  refine ⟨_,rfl,_,rfl,q,_,rfl,.inl (g3.sqL hS hne),rfl,ZBr ns,_,rfl,?_⟩
  rw [if_neg (by decide),ZHi]
  refine ZB4 (fun c=>?_) (fun c=>⟨x,_,rfl,nx,fun z=>c (decide_eq_true z),rfl⟩)
  have hin:x∈ns:=of_decide_eq_true c
  have hall:∀ j,j < k->ZIt (MA.lets j)∈ns:=fun j hj'=>by
   by_cases e:j+1 < k
   ·exact hj j e
   ·have e2:j=k - 1:=by omega
    rw [e2,<- hx (by omega)];exact hin
  have hkn:=ZP4 hall
  refine ⟨fun σ' H'=>σ'=[some (.ref p),some (.ref q),some (.ref sm),some (.int way),some (.str (ZIt (MA.lets k))),some (.int ((k:Int)+1))]/\H3=H',?_,?_⟩
  ·rintro σ' H' ⟨rfl,rfl⟩
   exact ⟨ns.length+1 - (k+1),by omega,k+1,ZIt (MA.lets k),rfl,rfl,ZMY (Nat.lt_of_le_of_lt (Nat.le_trans hkn hL) ZWa),rfl,by omega,fun _=>rfl,fun j hj'=>hall j (by omega)⟩
  ·refine ⟨_,rfl,k,rfl,by omega,?_,?_⟩
   ·have:(k:Int)<=1000:=by omega
    exact Int.lt_of_le_of_lt this ZW2
   ·rw [Int.toNat_natCast]
    exact ⟨_,rfl,_,_,rfl,rfl,rfl,rfl⟩
 rintro σ' H' ⟨x,v,rfl,nx,hx,rfl⟩
 exact ⟨_,rfl,K1 x H3 nx hx g3⟩
theorem ZEK:ZAP ["pot", "many", "names", "k"] ["pot", "many"] (ZA4 ZCO):=⟨rfl,rfl,rfl,by decide +kernel,rfl,by decide +kernel,by decide +kernel⟩
theorem ZKy (F:Fun K "_law_names" "_law_names" ZCO f fd) (bd:Binds K fd ["pot", "many"] []) (m:mg "_law_names" = some (.ref f)) (ZBX:Has P w K mg base "_law_name" 2 ["pot", "names"] (ZL9 K)) (ZDf:mg "range" = none) :
  Has P w K mg base "_law_names" 3 ["pot", "many"] (ZPH):=by
 refine Has.mk F bd m (F.okq (k:=2) ZEK (fun vs H Q E h=>?_) (fun cdv A outer s H vs Q E hr h=>?_))
 ·obtain ⟨p,m,rfl,hp,m0,m1,q⟩:=h;rfl
 obtain ⟨p,m,rfl,hp,m0,m1,q⟩:=h
 refine ⟨_,(ZAF rfl (ZAL (i:=2) ZEK.nd rfl (Or.inl rfl) (ZBV ZA1))
   (ZAF rfl (ZAv (ZHB PassesOwn.never rfl (ZFs rfl ZDf (ZA0 (qv 1) ZA1)) (ZBD (i:=3) ZEK.nd rfl (Or.inl rfl)) (ZAJ rfl (ZB7 (ZEV PySem.F.plainAttrs_list PySem.F.slot_list_append PySem.F.type_list_append ZBy (qv 2) (ZA0 (ZAS ZBX hr (by decide) (ZA0 (qv 0) (ZA0 (qv 2) ZA1))) ZA1))))))
   (ZAJ rfl (ZAM (qv 2))))),?_⟩
 refine ⟨(by show 0<=sizeLine;decide),fun l hl=>?_⟩
 have hne:=hp.ne hl
 refine ⟨fun σ' H'=>∃ (ns:List Str) (v:Option V),σ'=[some (.ref p),some (.int m),some (.ref l),v]/\ZB3 p H H'/\H' l=some (.lst (ns.map V.str))/\(ns.length:Int)=m/\(∀ x∈ns,Nm x)/\ns.Nodup,?_,?_⟩
 ·refine ⟨_,rfl,m,rfl,by omega,by omega,ZP5 (n:=m.toNat) (fun i σ' H'=>∃ (ns:List Str) (v:Option V),σ'=[some (.ref p),some (.int m),some (.ref l),v]/\ZB3 p H H'/\H' l=some (.lst (ns.map V.str))/\ns.length=i/\(∀ x∈ns,Nm x)/\ns.Nodup) ?_ ?_ ?_⟩
  ·exact ⟨[],none,rfl,(ZB3.of hp (ZAk.refl H)).upd hl hne,ZA6,rfl,fun x hx=>absurd hx (by simp),by simp⟩
  ·rintro i σ' H' hi ⟨ns,v,rfl,g,e,hlen,hN,nd⟩
   refine ⟨_,rfl,.inl ⟨rfl,_,SqL.of e⟩,_,rfl,_,rfl,p,l,ns,rfl,g.pot,SqL.of e,hne,hN,by omega,fun x H2 nx hx s2=>?_⟩
   refine ⟨l,_,_,rfl,rfl,s2.at' e hne,Nat.lt_of_le_of_lt (m:=100) (by rw [List.length_map];omega) (by decide +kernel),?_⟩
   refine ⟨ns++[x],_,rfl,(g.trans s2).upd hl hne,by rw [ZA6,List.map_append];rfl,by rw [List.length_append];simp [hlen],fun y hy=>?_,ZGb nd hx⟩
   rcases List.mem_append.mp hy with h | h
   ·exact hN y h
   ·have:y=x:=by simpa using h
    rw [this];exact nx
  ·rintro σ' H' ⟨ns,v,rfl,g,e,hlen,hN,nd⟩
   exact ⟨ns,v,rfl,g,e,by omega,hN,nd⟩
 rintro σ' H' ⟨ns,v,rfl,g,e,hlen,hN,nd⟩
 exact ⟨_,rfl,q l H' ns hl g e hlen hN nd⟩
theorem ZFb:ZAP ["pot", "most", "many"] ["pot", "most"] (ZA4 ZD7):=⟨rfl,rfl,rfl,by decide +kernel,rfl,by decide +kernel,by decide +kernel⟩
theorem ZNJ (F:Fun K "_law_row" "_law_row" ZD7 f fd) (bd:Binds K fd ["pot", "most"] []) (m:mg "_law_row" = some (.ref f)) (ZEq:Has P w K mg base "_law_names" 3 ["pot", "many"] (ZPH)) (ZA7:Has P w K mg base "_law_take" 1 ["pot", "many"] (ZEx)) :
  Has P w K mg base "_law_row" 4 ["pot", "most"] (ZQw):=by
 refine Has.mk F bd m (F.okq (k:=3) ZFb (fun vs H Q E h=>?_) (fun cdv A outer s H vs Q E hr h=>?_))
 ·obtain ⟨p,m,rfl,hp,m0,m1,q⟩:=h;rfl
 obtain ⟨p,m,rfl,hp,m0,m1,q⟩:=h
 refine ⟨_,(ZAF rfl (ZAL (i:=2) ZFb.nd rfl (Or.inl rfl) (ZAS ZA7 hr (by decide) (ZA0 (qv 0) (ZA0 (ZAc ZBc (qv 1) ZA2) ZA1))))
   (ZAF rfl (ZAv (ZAa (ZA9 ZBG (ZAS ZA7 hr (by decide) (ZA0 (qv 0) (ZA0 ZA2 ZA1))) ZA2 (ZAI _)) (ZAJ rfl (ZAL (i:=2) ZFb.nd rfl (Or.inl rfl) (ZAK ZAA (ZAU (ZA0 ZA2 (ZA0 ZA2 (ZA0 (qv 1) ZA1)))) (ZAS ZA7 hr (by decide) (ZA0 (qv 0) (ZA0 ZA2 ZA1))) (fun _ _=>rfl)))) ZAE))
   (ZAJ rfl (ZAM (ZAS ZEq hr (by decide) (ZA0 (qv 0) (ZA0 (qv 2) ZA1))))))),?_⟩
 refine ⟨_,rfl,_,rfl,_,_,rfl,rfl,p,_,rfl,hp,by omega,by omega,fun many H1 n0 n1 s1=>?_⟩
 refine ⟨fun σ' H'=>∃ k:Int,σ'=[some (.ref p),some (.int m),some (.int k)]/\0<=k/\k<=m/\ZB3 p H H',?_,?_⟩
 ·refine ⟨_,rfl,p,8,rfl,s1.pot,by decide,by decide,fun r H2 r0 r1 s2=>?_⟩
  have g2:=s1.trans s2
  refine ⟨rfl,_,rfl,?_⟩
  refine ZB4 (fun _=>?_) (fun _=>⟨many,rfl,n0,by omega,g2⟩)
  refine ⟨_,rfl,(by show 3<=sizeLine;decide +kernel),fun t ht=>?_⟩
  have hne:=g2.pot.ne ht
  have g3:=g2.trans (ZB3.of g2.pot (ZAD ht (.tup [.int 0,.int 1,.int m])))
  refine ⟨_,rfl,p,3,rfl,g3.pot,by decide,by decide,fun j H4 j0 j1 s4=>?_⟩
  obtain ⟨k,hk,k0,k1⟩:=ZX3 j0 j1 m0
  exact ⟨t,_,_,_,rfl,rfl,SqT.of (s4.at' ZA6 hne),hk,k,rfl,k0,k1,g3.trans s4⟩
 rintro σ' H' ⟨k,rfl,k0,k1,g⟩
 refine ⟨_,rfl,_,rfl,p,k,rfl,g.pot,k0,by omega,fun l H' ns hl s e hlen hN nd=>?_⟩
 exact q l H' ns (g.none hl) (g.trans s) e (by omega) hN nd
theorem ZBS:ZAP ["pot", "row", "coming", "share", "name", "rule"] ["pot", "row"] (ZA4 ZBI):=⟨rfl,rfl,rfl,by decide +kernel,rfl,by decide +kernel,by decide +kernel⟩
theorem ZGk (F:Fun K "_law_some_loop" "_law_some_loop" ZBI f fd) (bd:Binds K fd ["pot", "row"] []) (m:mg "_law_some_loop" = some (.ref f)) (ZA7:Has P w K mg base "_law_take" 1 ["pot", "many"] (ZEx)) (ZAf:mg "len" = none) (ZBZ:mg "sorted" = none) (ZBH:mg "tuple" = none) :
  Has P w K mg base "_law_some_loop" 2 ["pot", "row"] (ZH2):=by
 refine Has.mk F bd m (F.okq (k:=1) ZBS (fun vs H Q E h=>?_) (fun cdv A outer s H vs Q E hr h=>?_))
 ·obtain ⟨p,q,ns,rfl,hp,hq,hne,hz,nd,K1⟩:=h;rfl
 obtain ⟨p,q,ns,rfl,hp,hq,hne,hz,nd,K1⟩:=h
 refine ⟨_,(ZAF rfl (ZAL (i:=2) ZBS.nd rfl (Or.inl rfl) (ZBV ZA1))
   (ZAF rfl (ZAL (i:=3) ZBS.nd rfl (Or.inl rfl) (ZAc ZBc ZA2 (ZAS ZA7 hr (by decide) (ZA0 (qv 0) (ZA0 ZA2 ZA1)))))
   (ZAF rfl (ZAv (ZHB PassesOwn.never rfl (ZGY (qv 1)) (ZBD (i:=4) ZBS.nd rfl (Or.inl rfl)) (ZAJ rfl (ZAa (ZA9 ZI8 (ZAS ZA7 hr (by decide) (ZA0 (qv 0) (ZA0 ZA2 ZA1))) (qv 3) (ZAI _)) (ZAJ rfl (ZB7 (ZEV PySem.F.plainAttrs_list PySem.F.slot_list_append PySem.F.type_list_append ZBy (qv 2) (ZA0 (qv 4) ZA1)))) ZAE))))
   (ZAF rfl (ZAL (i:=5) ZBS.nd rfl (Or.inl rfl) (ZAK ZAA (ZAU (ZA0 ZAR (ZA0 ZAR (ZA0 ZAR ZA1)))) (ZAS ZA7 hr (by decide) (ZA0 (qv 0) (ZA0 ZA2 ZA1))) (fun _ _=>rfl)))
   (ZAJ rfl (ZAM (ZAU (ZA0 (qv 5) (ZA0 (ZAS ZA7 hr (by decide) (ZA0 (qv 0) (ZA0 (ZAc ZBc (ZAQ ZAu (by rfl) ZAf (by decide +kernel) (ZA0 (qv 1) ZA1)) ZA2) ZA1))) (ZA0 (ZAi ZBL (by rfl) ZBH (by decide +kernel) (ZA0 (ZAQ ZDZ (by rfl) ZBZ (by decide +kernel) (ZA0 (qv 2) ZA1)) ZA1)) ZA1)))))))))),?_⟩
 have hl:=ZO4 ns
 refine ⟨(by show 0<=sizeLine;decide),fun l hl0=>?_⟩
 have hlp:=hp.ne hl0
 have hlq:l≠q:=(ZAg hq hl0).symm
 have g0:ZB3 p H (upd H l (.lst [])):=ZB3.of hp (ZAD hl0 _)
 refine ⟨_,rfl,p,4,rfl,g0.pot,by decide,by decide,fun sh H1 _ _ s1=>⟨_,_,rfl,rfl,?_⟩⟩
 have g1:=g0.trans s1
 refine ⟨fun σ' H'=>∃ (cs:List Str) (v:Option V),σ'=[some (.ref p),some (.ref q),some (.ref l),some (.int (1+sh)),v,none]/\ZB3 p H H'/\H' l=some (.lst (cs.map V.str))/\cs.Sublist ns,?_,?_⟩
 ·refine ⟨_,rfl,false,q,_,rfl,SqL.of (g1.at' hq hne),ZVv (fun i σ' H'=>∃ (cs:List Str) (v:Option V),σ'=[some (.ref p),some (.ref q),some (.ref l),some (.int (1+sh)),v,none]/\ZB3 p H H'/\H' l=some (.lst (cs.map V.str))/\cs.Sublist (ns.take i)) ?_ ?_ ?_ ?_⟩
  ·exact ⟨[],none,rfl,g1,s1.at' ZA6 hlp,List.nil_sublist _⟩
  ·rintro i σ' H' _ ⟨cs,v,rfl,g,e,sb⟩
   exact SqL.of (g.at' hq hne)
  ·rintro i x σ' H' hx ⟨cs,v,rfl,g,e,sb⟩
   obtain ⟨y,rfl,hy⟩:=ZPt hx
   have hi:i < ns.length:=(List.getElem?_eq_some_iff.mp hy).1
   have htk:ns.take (i+1)=ns.take i++[y]:=by
    rw [List.take_succ,hy];rfl
   have hcl:cs.length<=40:=by
    have h1:=sb.length_le
    rw [List.length_take] at h1
    omega
   refine ⟨_,rfl,p,4,rfl,g.pot,by decide,by decide,fun r H2 r0 r1 s2=>⟨_,rfl,_,_,rfl,rfl,_,rfl,?_⟩⟩
   have e2:=s2.at' e hlp
   refine ZB4 (fun c=>?_) (fun c=>?_)
   ·refine ⟨_,rfl,.inl ⟨rfl,_,SqL.of e2⟩,_,rfl,l,_,_,rfl,rfl,e2,Nat.lt_of_le_of_lt (m:=40) (by rw [List.length_map];exact hcl) (by decide +kernel),?_⟩
    exact ⟨cs++[y],_,rfl,(g.trans s2).upd hl0 hlp,by rw [ZA6,List.map_append];rfl,by rw [htk];exact sb.append (List.Sublist.refl _)⟩
   ·exact ⟨cs,_,rfl,g.trans s2,e2,by rw [htk];exact sb.trans (List.sublist_append_left _ _)⟩
  ·rintro σ' H' ⟨cs,v,rfl,g,e,sb⟩
   rw [hl,List.take_length] at sb
   exact ⟨cs,v,rfl,g,e,sb⟩
 rintro σ' H2 ⟨cs,v,rfl,g2,e2,sb⟩
 refine ⟨(by show 3<=sizeLine;decide),fun t1 ht1=>?_⟩
 have h1p:=g2.pot.ne ht1
 have n3:=ZAD ht1 (.tup (ZHO.map V.str))
 have g3:=g2.trans (ZB3.of g2.pot n3)
 refine ⟨_,rfl,p,3,rfl,g3.pot,by decide,by decide,fun j H4 j0 j1 s4=>?_⟩
 obtain ⟨r,hr1,hr2⟩:=ZPr j0 j1
 refine ⟨t1,_,_,_,rfl,rfl,SqT.of (s4.at' ZA6 h1p),hr1,?_⟩
 have g4:=g3.trans s4
 have q4:=g4.at' hq hne
 refine ⟨_,rfl,_,rfl,_,rfl,q,_,rfl,.inl (SqL.of q4),_,_,rfl,rfl,p,_,rfl,g4.pot,(by rw [hl];omega),(by rw [hl];omega),fun gp H5 p0 p1 s5=>?_⟩
 rw [hl] at p1
 have g5:=g4.trans s5
 have e5:=s5.at' (s4.at' (n3 _ _ e2) hlp) hlp
 have hcl:cs.length<=40:=Nat.le_trans sb.length_le hz
 refine ⟨_,rfl,l,false,cs,rfl,SqL.of e5,by omega,fun l2 ts hl2 hpm hst=>?_⟩
 have n6:=ZAD hl2 (.lst (ts.map V.str))
 refine ⟨l2,_,rfl,.inl ⟨SqL.of ZA6,fun c hc=>?_⟩⟩
 have n7:=ZAD hc (.tup (ts.map V.str))
 refine ⟨(by show 3<=sizeLine;decide),fun t ht=>?_⟩
 have n8:=ZAD ht (.tup [.str r,.int gp,.ref c])
 have g8:=g5.trans (ZB3.of g5.pot (n6.trans (n7.trans n8)))
 have nds:ts.Nodup:=hpm.nodup_iff.mpr (nd.sublist sb)
 refine K1 t c r gp ts _ (g5.none (ZAk.none (n6.trans n7) ht)) (g5.none (ZAk.none n6 hc)) g8 ZA6 (n8 _ _ ZA6) ⟨hr2,p0,by omega,ZGR hst nds,fun x hx=>sb.subset (hpm.mem_iff.mp hx),by rw [hpm.length_eq];exact hcl⟩
theorem ZAo:ZAP ["pot", "row", "one", "other", "way", "name", "coming"] ["pot", "row"] (ZA4 ZC8):=⟨rfl,rfl,rfl,by decide +kernel,rfl,by decide +kernel,by decide +kernel⟩
def ZJC:Scope:={ kind:=.function,names:=[(".0", .local),("some", .local),("name", .free)],isGenerator:=false,isCoroutine:=false,more:=[] }
theorem ZIx:ZAr ["pot", "row", "one", "other", "way", "name", "coming"] (ZA4 ZC8) ZJC "some" ["name"] [5]:=⟨rfl,by decide +kernel,by decide +kernel,rfl,rfl,by decide +kernel,by decide +kernel,by decide +kernel,by decide +kernel⟩
theorem ZFz  : ∀ ss R,ZIY ss R->ss.length=2:=by rintro _ _ ⟨ns,rfl,_,rfl⟩;rfl
theorem ZM2 (F:Fun K "_law_pair" "_law_pair" ZC8 f fd) (bd:Binds K fd ["pot", "row"] []) (m:mg "_law_pair" = some (.ref f)) (ZC6:Has P w K mg base "_law_some_loop" 2 ["pot", "row"] (ZH2)) (ZA7:Has P w K mg base "_law_take" 1 ["pot", "many"] (ZEx)) (ZAf:mg "len" = none) (ZBZ:mg "sorted" = none) (ZBH:mg "tuple" = none) :
  Has P w K mg base "_law_pair" 3 ["pot", "row"] (spF ZIY):=by
 refine Has.mk F bd m (F.okq (k:=2) ZAo (fun vs H Q E h=>Fz.ZAx ZFz h) (fun cdv A outer s H vs Q E hr h=>?_))
 refine ⟨_,(ZAF rfl (ZAL (i:=2) ZAo.nd rfl (Or.inl rfl) (ZAS ZC6 hr (by decide) (ZA0 (qv 0) (ZA0 (qv 1) ZA1))))
   (ZAF rfl (ZAL (i:=3) ZAo.nd rfl (Or.inl rfl) (ZAS ZC6 hr (by decide) (ZA0 (qv 0) (ZA0 (qv 1) ZA1))))
   (ZAF rfl (ZAL (i:=4) ZAo.nd rfl (Or.inl rfl) (ZAS ZA7 hr (by decide) (ZA0 (qv 0) (ZA0 ZA2 ZA1))))
   (ZAF rfl (ZAv (ZAa (ZA9 ZBG (qv 4) ZA2 (ZAI _)) (ZAJ rfl (ZAL (i:=3) ZAo.nd rfl (Or.inl rfl) (ZAU (ZA0 (ZAK ZAA (qv 3) ZA2 (fun _ _=>rfl)) (ZA0 (ZAK ZAA (qv 2) ZA2 (fun _ _=>rfl)) (ZA0 (ZAK ZAA (qv 2) ZA2 (fun _ _=>rfl)) ZA1)))))) ZAE))
   (ZAF rfl (ZAv (ZAa (ZA9 ZBG (qv 4) ZA2 (ZAI _)) (ZAJ rfl (ZAL (i:=3) ZAo.nd rfl (Or.inl rfl) (ZAU (ZA0 (ZAK ZAA (qv 2) ZA2 (fun _ _=>rfl)) (ZA0 (ZAK ZAA (qv 3) ZA2 (fun _ _=>rfl)) (ZA0 (ZAK ZAA (qv 2) ZA2 (fun _ _=>rfl)) ZA1)))))) ZAE))
   (ZAF rfl (ZAv (ZAa (ZA9 ZBG (qv 4) ZA2 (ZAI _)) (ZAJ rfl (ZAL (i:=3) ZAo.nd rfl (Or.inl rfl) (ZAU (ZA0 (ZAK ZAA (qv 2) ZA2 (fun _ _=>rfl)) (ZA0 (ZAK ZAA (qv 2) ZA2 (fun _ _=>rfl)) (ZA0 (ZAK ZAA (qv 3) ZA2 (fun _ _=>rfl)) ZA1)))))) ZAE))
   (ZAF rfl (ZAv (ZAa (ZA9 ZBG (qv 4) ZA2 (ZAI _)) (ZAJ rfl (ZAL (i:=3) ZAo.nd rfl (Or.inl rfl) (ZAU (ZA0 (ZAK ZAA (qv 3) ZA2 (fun _ _=>rfl)) (ZA0 (ZAK ZAA (qv 3) ZA2 (fun _ _=>rfl)) (ZA0 (ZAK ZAA (qv 2) ZA2 (fun _ _=>rfl)) ZA1)))))) ZAE))
   (ZAF rfl (ZAv (ZAa (ZEf (ZA9 ZBG (qv 4) ZA2 (ZAI _)) (ZDN (ZA9 (ZNr hr.ZEn) (qv 1) (ZBV ZA1) (ZAI _)))).pt (ZAF rfl (ZAL (i:=5) ZAo.nd rfl (Or.inr rfl) (ZAK ZAz (qv 1) (ZAS ZA7 hr (by decide) (ZA0 (qv 0) (ZA0 (ZAQ ZAh (by rfl) ZAf (by decide +kernel) (ZA0 (qv 1) ZA1)) ZA1))) (fun _ _=>rfl)))
   (ZAF rfl (ZPC (i:=6) ZAo.nd rfl (Or.inl rfl) rfl ZIx (ZGY (ZAK ZAA (qv 2) ZA2 (fun _ _=>rfl))) (fun _ _ _ _=>by exact (ZEb (ZA9 ZLf (qv 1) (qv 0) (ZAI _)))) (fun _ _ _ _=>by exact (qv 1)))
   (ZAF rfl (ZAv (ZAa (ZA9 ZEk (qv 5) (ZAK ZAA (qv 2) ZA2 (fun _ _=>rfl)) (by with_unfolding_all rfl)) (ZAJ rfl (ZB7 (ZEV PySem.F.plainAttrs_list PySem.F.slot_list_append PySem.F.type_list_append ZBy (qv 6) (ZA0 (qv 5) ZA1)))) ZAE))
   (ZAJ rfl (ZAL (i:=3) ZAo.nd rfl (Or.inl rfl) (ZAU (ZA0 (ZAK ZAA (qv 2) ZA2 (fun _ _=>rfl)) (ZA0 (ZAK ZAA (qv 2) ZA2 (fun _ _=>rfl)) (ZA0 (ZAi ZBL (by rfl) ZBH (by decide +kernel) (ZA0 (ZAQ ZDZ (by rfl) ZBZ (by decide +kernel) (ZA0 (qv 6) ZA1)) ZA1)) ZA1))))))))) ZAE))
   (ZAF rfl (ZAv (ZAa (ZA9 ZBG (qv 4) ZA2 (ZAI _)) (ZAF rfl (ZAL (i:=2) ZAo.nd rfl (Or.inl rfl) (ZAU (ZA0 (ZAK ZAA (qv 2) ZA2 (fun _ _=>rfl)) (ZA0 (ZAK ZAA (qv 2) ZA2 (fun _ _=>rfl)) (ZA0 (ZAq Fz.ZH9 (ZAK ZAA (qv 2) ZA2 (fun _ _=>rfl)) ZBM (ZB0 (ZAS ZA7 hr (by decide) (ZA0 (qv 0) (ZA0 ZA2 ZA1))))) ZA1)))))
   (ZAJ rfl (ZAL (i:=3) ZAo.nd rfl (Or.inl rfl) (ZAU (ZA0 (ZAK ZAA (qv 2) ZA2 (fun _ _=>rfl)) (ZA0 (ZAK ZAA (qv 3) ZA2 (fun _ _=>rfl)) (ZA0 (ZAK ZAA (qv 2) ZA2 (fun _ _=>rfl)) ZA1))))))) ZAE))
   (ZAJ rfl (ZAM (ZAU (ZA0 (qv 2) (ZA0 (qv 3) ZA1)))))))))))))),?_⟩
 refine Fz.ZBb h ZFz ?_
 rintro _ _ ⟨ns,rfl,ro,rfl⟩
 show Ws [_,_,.any,.any,.any,.any,.any] _ _ _
 have hz:=ro.len
 refine ZAZ (ZC1 (ZIg rfl (ZBl rfl ⟨rfl,ns,rfl,hz,ro.nd,fun r1 g1 c1 gd1 hc1=>?_⟩)))
 refine ZAZ (ZC1 (ZIg rfl (ZBl rfl ⟨rfl,ns,rfl,hz,ro.nd,fun r2 g2 c2 gd2 hc2=>?_⟩)))
 walk_at "ww"
 refine ⟨by decide,by decide,fun w w0 w1=>?_⟩
 obtain ⟨k1,e1,q1⟩:∃ k1:Lp,ZD1 r1 g1 c1=k1.P/\k1.Good ns:=⟨⟨r1,g1,c1⟩,rfl,gd1⟩
 obtain ⟨k2,e2,q2⟩:∃ k2:Lp,ZD1 r2 g2 c2=k2.P/\k2.Good ns:=⟨⟨r2,g2,c2⟩,rfl,gd2⟩
 rw [e1,e2]
 clear e1 e2 gd1 gd2 hc1 hc2 r1 g1 c1 r2 g2 c2
 obtain ⟨s5,e5⟩:∃ s5:Slot,s5=.any:=⟨_,rfl⟩
 obtain ⟨s6,e6⟩:∃ s6:Slot,s6=.any:=⟨_,rfl⟩
 clear e5 e6
 refine ZBi (fun ss'=>∃ (l1 l2:Lp) (s5 s6:Slot),ss'=[.pot,.sq false (ns.map .str),.is l1.P,.is l2.P,.is (.int w),s5,s6]/\l1.Good ns/\l2.Good ns) ?_ ?_
 ·refine ZBv ?_
  walk_at "ww"
  refine ZB4 (fun c=>?_) (fun c=>ZAC ⟨k1,k2,_,_,rfl,q1,q2⟩)
  unfold Lp.P ZD1
  walk_at "ww"
  exact ⟨by simp,k1,⟨k2.r,k1.g,k1.cs⟩,_,_,rfl,q1,ZUq q2 q1 q1⟩
 clear q1 q2 k1 k2 s5 s6
 rintro _ ⟨k1,k2,s5,s6,rfl,q1,q2⟩
 refine ZBi (fun ss'=>∃ (l1 l2:Lp) (s5 s6:Slot),ss'=[.pot,.sq false (ns.map .str),.is l1.P,.is l2.P,.is (.int w),s5,s6]/\l1.Good ns/\l2.Good ns) ?_ ?_
 ·refine ZBv ?_
  walk_at "ww"
  refine ZB4 (fun c=>?_) (fun c=>ZAC ⟨k1,k2,_,_,rfl,q1,q2⟩)
  unfold Lp.P ZD1
  walk_at "ww"
  exact ⟨by simp,k1,⟨k1.r,k2.g,k1.cs⟩,_,_,rfl,q1,ZUq q1 q2 q1⟩
 clear q1 q2 k1 k2 s5 s6
 rintro _ ⟨k1,k2,s5,s6,rfl,q1,q2⟩
 refine ZBi (fun ss'=>∃ (l1 l2:Lp) (s5 s6:Slot),ss'=[.pot,.sq false (ns.map .str),.is l1.P,.is l2.P,.is (.int w),s5,s6]/\l1.Good ns/\l2.Good ns) ?_ ?_
 ·refine ZBv ?_
  walk_at "ww"
  refine ZB4 (fun c=>?_) (fun c=>ZAC ⟨k1,k2,_,_,rfl,q1,q2⟩)
  unfold Lp.P ZD1
  walk_at "ww"
  exact ⟨by simp,k1,⟨k1.r,k1.g,k2.cs⟩,_,_,rfl,q1,ZUq q1 q1 q2⟩
 clear q1 q2 k1 k2 s5 s6
 rintro _ ⟨k1,k2,s5,s6,rfl,q1,q2⟩
 refine ZBi (fun ss'=>∃ (l1 l2:Lp) (s5 s6:Slot),ss'=[.pot,.sq false (ns.map .str),.is l1.P,.is l2.P,.is (.int w),s5,s6]/\l1.Good ns/\l2.Good ns) ?_ ?_
 ·refine ZBv ?_
  walk_at "ww"
  refine ZB4 (fun c=>?_) (fun c=>ZAC ⟨k1,k2,_,_,rfl,q1,q2⟩)
  unfold Lp.P ZD1
  walk_at "ww"
  exact ⟨by simp,k1,⟨k2.r,k2.g,k1.cs⟩,_,_,rfl,q1,ZUq q2 q2 q1⟩
 clear q1 q2 k1 k2 s5 s6
 rintro _ ⟨k1,k2,s5,s6,rfl,q1,q2⟩
 refine ZBi (fun ss'=>∃ (l1 l2:Lp) (s5 s6:Slot),ss'=[.pot,.sq false (ns.map .str),.is l1.P,.is l2.P,.is (.int w),s5,s6]/\l1.Good ns/\l2.Good ns) ?_ ?_
 ·refine ZBv (ZCW (ZLG (ZAm (ZMJ ?_))))
  walk_at "ww"
  refine ZB4 (fun c=>?_) (fun c=>ZMM (ZAC ⟨k1,k2,_,_,rfl,q1,q2⟩))
  unfold Lp.P ZD1
  walk_at "ww"
  have cl:=ZBW.len q1
  refine ⟨by simp,_,.inl ⟨rfl,rfl,[],rfl,_,rfl,ZB4 (fun c2=>?_) (fun c2=>ZAC ⟨k1,k2,_,_,rfl,q1,q2⟩)⟩⟩
  have hp:0 < ns.length:=List.length_pos_iff.mpr (fun z=>by rw [z] at c2;cases c2)
  walk_at "ww"
  rw [List.length_map]
  refine ⟨by omega,by omega,fun r r0 r1=>?_⟩
  obtain ⟨j,rfl⟩:=Int.eq_ofNat_of_zero_le r0
  obtain ⟨x,hx,ex⟩:=ZNf (ns:=ns) (k:=j) (by omega)
  refine ⟨_,_,rfl,ex,?_⟩
  refine ZAZ (ZCb (ZFt PV.str (fun y=>!alike (.str y) (.str x)) PV.str ?_ str_inj))
  walk_at "ww"
  refine ⟨by omega,fun y hy=>by walk_at "ww"; rfl,fun y hy _=>by walk_at "ww"; rfl,?_⟩
  rw [ZPe]
  refine ZBi (fun ss'=>∃ ys:List Str,ss'=[.pot,.sq false (ns.map .str),.is k1.P,.is k2.P,.is (.int w),.is (.str x),.own (ys.map .str)]/\(ys=wo k1.cs x∨(x∉k1.cs/\ys=wo k1.cs x++[x]))) ?_ ?_
  ·refine ZBv ?_
   walk_at "ww"
   refine ZB4 (fun c3=>?_) (fun c3=>ZAC ⟨_,rfl,.inl rfl⟩)
   walk_at "ww"
   have wl:(wo k1.cs x).length<=k1.cs.length:=List.length_filter_le _ _
   refine ⟨by rw [List.length_map];omega,wo k1.cs x++[x],by rw [List.map_append];rfl,.inr ⟨fun z=>?_,rfl⟩⟩
   rw [decide_eq_true z] at c3;cases c3
  rintro _ ⟨ys,rfl,hy⟩
  have yl:ys.length<=41:=by
   have wl:(wo k1.cs x).length<=k1.cs.length:=List.length_filter_le _ _
   rcases hy with rfl | ⟨_,rfl⟩
   ·omega
   ·rw [List.length_append];show _+1<=_;omega
  unfold Lp.P ZD1
  walk_at "ww"
  refine ⟨by omega,fun ts pm st=>?_⟩
  walk_at "ww"
  exact ⟨by simp,k1,⟨k1.r,k1.g,ts⟩,_,_,rfl,q1,ZQV q1 hx hy pm st⟩
 clear q1 q2 k1 k2 s5 s6
 rintro _ ⟨k1,k2,s5,s6,rfl,q1,q2⟩
 refine ZBi (fun ss'=>∃ (l1 l2:Lp) (s5 s6:Slot),ss'=[.pot,.sq false (ns.map .str),.is l1.P,.is l2.P,.is (.int w),s5,s6]/\l1.Good ns/\l2.Good ns) ?_ ?_
 ·refine ZBv ?_
  walk_at "ww"
  refine ZB4 (fun c=>?_) (fun c=>ZAC ⟨k1,k2,_,_,rfl,q1,q2⟩)
  unfold Lp.P ZD1
  walk_at "ww"
  refine ⟨by decide,by decide,fun r r0 r1=>?_⟩
  obtain ⟨j,rfl⟩:=Int.eq_ofNat_of_zero_le r0
  refine ⟨_,rfl,ZBO ⟨by simp,?_⟩⟩
  rw [ZJi,<- List.map_take]
  have g6:ZBW ns k1.r k1.g (k1.cs.take j):=⟨q1.rule,q1.g0,q1.g1,ZTf q1.up j,fun x hx=>q1.sub x (List.mem_of_mem_take hx)⟩
  unfold ZWH
  refine ZC1 ?_
  walk_at "ww"
  exact ⟨by simp,⟨k1.r,k1.g,k1.cs.take j⟩,⟨k1.r,k2.g,k1.cs.take j⟩,_,_,rfl,g6,ZUq q1 q2 g6⟩
 clear q1 q2 k1 k2 s5 s6
 rintro _ ⟨k1,k2,s5,s6,rfl,q1,q2⟩
 exact ZBF (ZE1 (ZAl (ZAG rfl (ZAl (ZAG rfl (ZBO ⟨by simp,k1,k2,rfl,q1,q2⟩))))))
theorem ZDW:ZAP ["row", "deed", "made", "low", "high"] ["row", "deed"] (ZA4 ZCD):=⟨rfl,rfl,rfl,by decide +kernel,rfl,by decide +kernel,by decide +kernel⟩
def ZIz:Scope:={ kind:=.function,names:=[(".0", .local),("name", .local),("deed", .free)],isGenerator:=false,isCoroutine:=false,more:=[] }
theorem ZJ4:ZAr ["row", "deed", "made", "low", "high"] (ZA4 ZCD) ZIz "name" ["deed"] [1]:=⟨rfl,by decide +kernel,by decide +kernel,rfl,rfl,by decide +kernel,by decide +kernel,by decide +kernel,by decide +kernel⟩
theorem ZL4 (F:Fun K "_law_done" "_law_done" ZCD f fd) (bd:Binds K fd ["row", "deed"] []) (m:mg "_law_done" = some (.ref f)) (ZBk:mg "list" = none) (ZD3:mg "reversed" = none) :
  Has P w K mg base "_law_done" 1 ["row", "deed"] (ZJl):=by
 refine Has.mk F bd m (F.okq (k:=0) ZDW (fun vs H Q E h=>?_) (fun cdv A outer s H vs Q E hr h=>?_))
 ·obtain ⟨a,t,ns,d,rfl,hS,hT,hd,hz,nd,q⟩:=h;rfl
 obtain ⟨a,t,ns,d,rfl,hS,hT,hd,hz,nd,q⟩:=h
 refine ⟨_,(ZAF rfl (ZPC (i:=2) ZDW.nd rfl (Or.inl rfl) rfl ZJ4 (ZGY (qv 0)) (fun _ _ _ _=>by exact (ZEb (ZA9 ZLf (qv 1) (ZAK (show IxR _ (ZTW K) from ZAA) (qv 0) ZA2 (fun _ _=>rfl)) (ZAI _)))) (fun _ _ _ _=>by exact (qv 1)))
   (ZAF rfl (ZAa (ZA9 ZBG (ZAK ZAA (qv 1) ZA2 (fun _ _=>rfl)) ZAR (ZAI _)) (ZAF rfl (ZGQ (ZAq ZSS (qv 1) (ZB0 ZA2) ZBM) (ZIA rfl (ZBQ (ZBD (i:=3) ZDW.nd rfl (Or.inl rfl)) (ZBQ (ZBD (i:=4) ZDW.nd rfl (Or.inl rfl)) ZFj))))
   (ZAJ rfl (ZAM (ZAc ZFw (ZAc ZFw (ZAq ZCs (qv 0) ZBM (ZB0 (qv 3))) (ZSd rfl rfl ZBk rfl ZD3 (ZA0 (ZAq ZCs (qv 0) (ZB0 (qv 3)) (ZB0 (qv 4))) ZA1))) (ZAq ZCs (qv 0) (ZB0 (qv 4)) ZBM))))) ZAE)
   (ZAF rfl (ZAv (ZAa (ZA9 ZLf (ZAK ZAA (qv 1) ZA2 (fun _ _=>rfl)) ZAR (ZAI _)) (ZAJ rfl (ZB7 (ZEV PySem.F.plainAttrs_list PySem.F.slot_list_insert PySem.F.type_list_insert ZLB (qv 2) (ZA0 (ZAK ZAA (qv 1) ZA2 (fun _ _=>rfl)) (ZA0 (ZAK ZAA (qv 1) ZA2 (fun _ _=>rfl)) ZA1))))) ZAE))
   (ZAJ rfl (ZAM (qv 2)))))),?_⟩
 have hl:=ZO4 ns
 have zz:∀ n:Nat,n<=2001->n<=sizeLine:=fun n h=>Nat.le_trans h (by decide +kernel)
 have hS':SqB K false H a (ns.map V.str):=SqL.of hS
 cases d with
 | put x i=>
  obtain ⟨h1,h2,h3,h4⟩:=hd
  have hwl:(wo ns x).length<=ns.length:=List.length_filter_le _ _
  refine ⟨_,rfl,false,a,_,rfl,hS',fun acc hacc=>ZFV (ZQs (.str x)) (fun v=>v) hS' hacc (by rw [hl];exact small (by omega)) (fun i v H' Q' hv s1 h=>?_) (fun i v H' Q' hv _ s1 h=>?_) (fun H' s1 e1=>?_)⟩
  ·obtain ⟨y,rfl,hm⟩:=ZEE hv
   exact ⟨_,rfl,_,rfl,t,_,_,_,rfl,rfl,SqT.of (s1 _ _ hT),rfl,rfl,_,rfl,h H' (ZAk.refl _)⟩
  ·exact ⟨_,rfl,h H' (ZAk.refl _)⟩
  have hT1:=s1 _ _ hT
  rw [ZLk] at e1
  refine ⟨_,rfl,t,_,_,_,rfl,rfl,SqT.of hT1,rfl,rfl,_,rfl,ZCx (by decide +kernel) ?_⟩
  refine ⟨fun σ' H'=>σ'=[some (.ref a),some (.ref t),some (.ref acc),none,none]/\ZAk H H'/\H' acc=some (.lst ((ins (wo ns x) x i).map V.str)),?_,?_⟩
  ·refine ⟨_,rfl,t,_,_,_,rfl,rfl,SqT.of hT1,rfl,rfl,_,rfl,ZX5 (by decide +kernel) ?_⟩
   refine ⟨_,rfl,.inl ⟨rfl,_,SqL.of e1⟩,_,rfl,t,_,_,_,rfl,rfl,SqT.of hT1,rfl,_,rfl,t,_,_,_,rfl,rfl,SqT.of hT1,rfl,acc,_,_,_,rfl,rfl,e1,by omega,by rw [ZO4];rw [ZFC h2];omega,by rw [ZO4];exact Nat.lt_of_le_of_lt hwl (Nat.lt_of_le_of_lt hz (by decide +kernel)),?_⟩
   refine ⟨rfl,ZO0 s1 hacc,?_⟩
   rw [ZA6]
   unfold ins
   simp only [List.map_append,List.map_take,List.map_cons,List.map_drop,Int.toNat_natCast]
  ·rintro σ' H2 ⟨rfl,s2,e2⟩
   exact ⟨_,rfl,q acc H2 hacc s2 (by rw [ZFC h2] at e2;exact e2)⟩
 | take x=>
  have hwl:(wo ns x).length<=ns.length:=List.length_filter_le _ _
  refine ⟨_,rfl,false,a,_,rfl,hS',fun acc hacc=>ZFV (ZQs (.str x)) (fun v=>v) hS' hacc (by rw [hl];exact small (by omega)) (fun i v H' Q' hv s1 h=>?_) (fun i v H' Q' hv _ s1 h=>?_) (fun H' s1 e1=>?_)⟩
  ·obtain ⟨y,rfl,hm⟩:=ZEE hv
   exact ⟨_,rfl,_,rfl,t,_,_,_,rfl,rfl,SqT.of (s1 _ _ hT),rfl,rfl,_,rfl,h H' (ZAk.refl _)⟩
  ·exact ⟨_,rfl,h H' (ZAk.refl _)⟩
  have hT1:=s1 _ _ hT
  rw [ZLk] at e1
  refine ⟨_,rfl,t,_,_,_,rfl,rfl,SqT.of hT1,rfl,rfl,_,rfl,ZCx (by decide +kernel) ?_⟩
  refine ⟨fun σ' H'=>σ'=[some (.ref a),some (.ref t),some (.ref acc),none,none]/\ZAk H H'/\H' acc=some (.lst ((wo ns x).map V.str)),?_,?_⟩
  ·refine ⟨_,rfl,t,_,_,_,rfl,rfl,SqT.of hT1,rfl,rfl,_,rfl,ZCx (by decide +kernel) ?_⟩
   exact ⟨rfl,s1,e1⟩
  ·rintro σ' H2 ⟨rfl,s2,e2⟩
   exact ⟨_,rfl,q acc H2 hacc s2 e2⟩
 | move x i=>
  obtain ⟨h1,h2⟩:=hd
  have hwl:(wo ns x).length<=ns.length:=List.length_filter_le _ _
  have hwl2:=ZEa h1 nd
  refine ⟨_,rfl,false,a,_,rfl,hS',fun acc hacc=>ZFV (ZQs (.str x)) (fun v=>v) hS' hacc (by rw [hl];exact small (by omega)) (fun i v H' Q' hv s1 h=>?_) (fun i v H' Q' hv _ s1 h=>?_) (fun H' s1 e1=>?_)⟩
  ·obtain ⟨y,rfl,hm⟩:=ZEE hv
   exact ⟨_,rfl,_,rfl,t,_,_,_,rfl,rfl,SqT.of (s1 _ _ hT),rfl,rfl,_,rfl,h H' (ZAk.refl _)⟩
  ·exact ⟨_,rfl,h H' (ZAk.refl _)⟩
  have hT1:=s1 _ _ hT
  rw [ZLk] at e1
  refine ⟨_,rfl,t,_,_,_,rfl,rfl,SqT.of hT1,rfl,rfl,_,rfl,ZCx (by decide +kernel) ?_⟩
  refine ⟨fun σ' H'=>σ'=[some (.ref a),some (.ref t),some (.ref acc),none,none]/\ZAk H H'/\H' acc=some (.lst ((ins (wo ns x) x i).map V.str)),?_,?_⟩
  ·refine ⟨_,rfl,t,_,_,_,rfl,rfl,SqT.of hT1,rfl,rfl,_,rfl,ZX5 (by decide +kernel) ?_⟩
   refine ⟨_,rfl,.inl ⟨rfl,_,SqL.of e1⟩,_,rfl,t,_,_,_,rfl,rfl,SqT.of hT1,rfl,_,rfl,t,_,_,_,rfl,rfl,SqT.of hT1,rfl,acc,_,_,_,rfl,rfl,e1,by omega,by rw [ZO4];omega,by rw [ZO4];exact Nat.lt_of_le_of_lt hwl (Nat.lt_of_le_of_lt hz (by decide +kernel)),?_⟩
   refine ⟨rfl,ZO0 s1 hacc,?_⟩
   rw [ZA6]
   unfold ins
   simp only [List.map_append,List.map_take,List.map_cons,List.map_drop,Int.toNat_natCast]
  ·rintro σ' H2 ⟨rfl,s2,e2⟩
   exact ⟨_,rfl,q acc H2 hacc s2 e2⟩
 | turn lo hi=>
  obtain ⟨h1,h2⟩:=hd
  refine ⟨_,rfl,false,a,_,rfl,hS',fun acc hacc=>ZFV (ZQs (.int lo)) (fun v=>v) hS' hacc (by rw [hl];exact small (by omega)) (fun i v H' Q' hv s1 h=>?_) (fun i v H' Q' hv _ s1 h=>?_) (fun H' s1 e1=>?_)⟩
  ·obtain ⟨y,rfl,hm⟩:=ZEE hv
   exact ⟨_,rfl,_,rfl,t,_,_,_,rfl,rfl,SqT.of (s1 _ _ hT),rfl,rfl,_,rfl,h H' (ZAk.refl _)⟩
  ·exact ⟨_,rfl,h H' (ZAk.refl _)⟩
  have hT1:=s1 _ _ hT
  rw [ZU8] at e1
  refine ⟨_,rfl,t,_,_,_,rfl,rfl,SqT.of hT1,rfl,rfl,_,rfl,ZX5 (by decide +kernel) ?_⟩
  refine ⟨_,rfl,_,rfl,t,_,rfl,SqT.of hT1,(fun h=>absurd h.1 (show ¬ HT.sIx 3 0 (some 1)=0 by decide)),fun p n=>?_⟩
  have n1:=ZAD n (.tup (ZHA (ZBm.turn lo hi).vals (some 1) none))
  refine ⟨p,_,rfl,SqT.of ZA6,rfl,_,_,rfl,_,_,rfl,rfl,?_⟩
  have s2:=s1.trans n1
  have e2:=s2 _ _ hS
  refine ⟨_,rfl,_,rfl,_,rfl,a,_,rfl,SqL.of e2,fun l3 n3=>?_⟩
  rw [ZSW]
  have t3:=ZAD n3 (.lst ((ns.map V.str).take lo))
  have s3:=s2.trans t3
  refine ⟨_,rfl,_,rfl,_,rfl,_,rfl,_,rfl,a,_,rfl,SqL.of (s3 _ _ hS),fun l4 n4=>?_⟩
  rw [ZSq _ h1 (by rw [hl];exact h2)]
  have t4:=ZAD n4 (.lst (((ns.map V.str).drop lo).take (hi - lo)))
  refine ⟨l4,false,_,rfl,SqL.of ZA6,fun l5 n5=>?_⟩
  have t5:=ZAD n5 (.lst (((ns.map V.str).drop lo).take (hi - lo)).reverse)
  refine ⟨l3,l5,_,_,rfl,rfl,t5 _ _ (t4 _ _ ZA6),ZA6,zz _ (by simp only [List.length_take,List.length_reverse,List.length_drop];omega),fun l6 n6=>?_⟩
  have t6:=ZAD n6 (.lst ((ns.map V.str).take lo++(((ns.map V.str).drop lo).take (hi - lo)).reverse))
  have s6:=s3.trans (t4.trans (t5.trans t6))
  refine ⟨_,rfl,_,rfl,_,rfl,a,_,rfl,SqL.of (s6 _ _ hS),fun l7 n7=>?_⟩
  rw [ZNN]
  have t7:=ZAD n7 (.lst ((ns.map V.str).drop hi))
  refine ⟨l6,l7,_,_,rfl,rfl,t7 _ _ ZA6,ZA6,zz _ (by simp only [List.length_append,List.length_take,List.length_drop,List.length_reverse];omega),fun l8 n8=>?_⟩
  have s7:=s6.trans t7
  refine q l8 _ (ZAk.none s7 n8) (s7.trans (ZAD n8 _)) ?_
  rw [ZA6]
  show some (HO.lst _)=some (HO.lst ((trn ns lo hi).map V.str))
  unfold trn
  simp only [List.map_append,List.map_take,List.map_drop,List.map_reverse,List.append_assoc]
theorem ZAt:ZAP ["pot", "row", "way", "at", "other", "name"] ["pot", "row"] (ZA4 ZBU):=⟨rfl,rfl,rfl,by decide +kernel,rfl,by decide +kernel,by decide +kernel⟩
theorem ZE0  : ∀ ss R,ZGW ss R->ss.length=2:=by rintro _ _ ⟨ns,rfl,_,_,rfl⟩;rfl
theorem ZHV (F:Fun K "_law_any_deed" "_law_any_deed" ZBU f fd) (bd:Binds K fd ["pot", "row"] []) (m:mg "_law_any_deed" = some (.ref f)) (ZBX:Has P w K mg base "_law_name" 2 ["pot", "names"] (ZL9 K)) (ZA7:Has P w K mg base "_law_take" 1 ["pot", "many"] (ZEx)) (ZJ5:mg "int" = none) (ZAf:mg "len" = none) :
  Has P w K mg base "_law_any_deed" 3 ["pot", "row"] (spF ZGW):=by
 refine Has.mk F bd m (F.okq (k:=2) ZAt (fun vs H Q E h=>Fz.ZAx ZE0 h) (fun cdv A outer s H vs Q E hr h=>?_))
 refine ⟨_,(ZAF rfl (ZAL (i:=2) ZAt.nd rfl (Or.inl rfl) (ZAS ZA7 hr (by decide) (ZA0 (qv 0) (ZA0 ZA2 ZA1))))
   (ZAF rfl (ZAL (i:=3) ZAt.nd rfl (Or.inl rfl) (ZAc ZFP (ZAS ZA7 hr (by decide) (ZA0 (qv 0) (ZA0 (ZAc ZBc (ZAQ ZAh (by rfl) ZAf (by decide +kernel) (ZA0 (qv 1) ZA1)) ZA2) ZA1))) ZA2))
   (ZAF rfl (ZAL (i:=4) ZAt.nd rfl (Or.inl rfl) (ZAc ZFP (ZAS ZA7 hr (by decide) (ZA0 (qv 0) (ZA0 (ZAc ZBc (ZAQ ZAh (by rfl) ZAf (by decide +kernel) (ZA0 (qv 1) ZA1)) ZA2) ZA1))) ZA2))
   (ZAF rfl (ZAv (ZAa (ZA9 ZBG (ZAS ZA7 hr (by decide) (ZA0 (qv 0) (ZA0 ZA2 ZA1))) ZA2 (ZAI _)) (ZAJ rfl (ZAL (i:=3) ZAt.nd rfl (Or.inl rfl) (ZAK ZAA (ZAU (ZA0 (ZAc ZHK ZA2 ZA2) (ZA0 (ZI3 ZEz (ZAc ZHK ZA2 ZA2)) (ZA0 (ZAc ZBc (ZAQ ZAh (by rfl) ZAf (by decide +kernel) (ZA0 (qv 1) ZA1)) ZA2) (ZA0 (ZI3 ZEz ZA2) ZA1))))) (ZAS ZA7 hr (by decide) (ZA0 (qv 0) (ZA0 ZA2 ZA1))) (fun _ _=>rfl)))) ZAE))
   (ZAF rfl (ZAL (i:=5) ZAt.nd rfl (Or.inl rfl) (ZAS ZBX hr (by decide) (ZA0 (qv 0) (ZA0 (qv 1) ZA1))))
   (ZAF rfl (ZAv (ZAa (ZA9 ZBG (ZAS ZA7 hr (by decide) (ZA0 (qv 0) (ZA0 ZA2 ZA1))) ZA2 (ZAI _)) (ZAJ rfl (ZAL (i:=5) ZAt.nd rfl (Or.inl rfl) (ZAK ZAA (ZAU (ZA0 ZAR (ZA0 ZAR (ZA0 ZAR (ZA0 ZAR (ZA0 (ZAc ZF7 (ZAq ZOn (qv 5) ZBM (ZB0 ZA2)) ZAR) (ZA0 (ZAc ZF7 (qv 5) ZAR) ZA1))))))) (ZAS ZA7 hr (by decide) (ZA0 (qv 0) (ZA0 ZA2 ZA1))) (fun _ _=>rfl)))) ZAE))
   (ZAF rfl (ZAv (ZAa (ZEf (ZA9 (ZPJ hr.ZEn) (qv 1) (ZBV ZA1) (ZAI _)) (ZDN (ZA9 ZBG (ZAS ZA7 hr (by decide) (ZA0 (qv 0) (ZA0 (ZAc ZFP ZA2 (ZAc ZF4 ZA2 (ZAi ZFp (by rfl) ZJ5 (by decide +kernel) (ZA0 (ZBp ZC2 (qv 2) (ZAU (ZA0 ZA2 (ZA0 ZA2 ZA1))) (by with_unfolding_all rfl)) ZA1)))) ZA1))) ZA2 (ZAI _)))).pt (ZAJ rfl (ZAL (i:=5) ZAt.nd rfl (Or.inl rfl) (ZAK ZAz (qv 1) (ZAS ZA7 hr (by decide) (ZA0 (qv 0) (ZA0 (ZAQ ZAh (by rfl) ZAf (by decide +kernel) (ZA0 (qv 1) ZA1)) ZA1))) (fun _ _=>rfl)))) ZAE))
   (ZAF rfl (ZAa (ZA9 ZI8 (qv 2) ZA2 (ZAI _)) (ZAJ rfl (ZAM (ZAU (ZA0 ZAR (ZA0 (qv 5) (ZA0 (qv 3) ZA1)))))) ZAE)
   (ZAF rfl (ZAa (ZA9 ZBG (qv 2) ZA2 (ZAI _)) (ZAJ rfl (ZAM (ZAU (ZA0 ZAR (ZA0 (qv 5) ZA1))))) ZAE)
   (ZAF rfl (ZAa (ZA9 ZBG (qv 2) ZA2 (ZAI _)) (ZAJ rfl (ZAM (ZAU (ZA0 ZAR (ZA0 (qv 5) (ZA0 (qv 3) ZA1)))))) ZAE)
   (ZAJ rfl (ZAM (ZAU (ZA0 ZAR (ZA0 (qv 3) (ZA0 (qv 4) ZA1)))))))))))))))),?_⟩
 refine Fz.ZBb h ZE0 ?_
 rintro _ _ ⟨ns,rfl,hz,hN,rfl⟩
 show Ws [_,_,.any,.any,.any,.any] _ _ _
 walk_at "ww"
 refine ⟨by decide,by decide,fun way w0 w1=>?_⟩
 walk_at "ww"
 rw [List.length_map]
 refine ⟨by omega,by omega,fun at' a0 a1=>?_⟩
 walk_at "ww"
 rw [List.length_map]
 refine ⟨by omega,by omega,fun ot o0 o1=>⟨_,rfl,ZCm ⟨_,rfl,?_⟩⟩⟩
 have hot:ZJI (ot - 1):=ZQ2 o0 (by omega)
 refine ZBi (fun ss'=>∃ i:Int,ZJI i/\ss'=[.pot,.sq false (ns.map .str),.is (.int way),.is (.int i),.is (.int (ot - 1)),.any]) ?_ ?_
 ·walk_at "ww"
  refine ⟨by decide,by decide,fun r r0 r1=>?_⟩
  walk_at "ww"
  refine ZB4 (fun c=>?_) (fun c=>ZAC ⟨_,ZQ2 a0 (by omega),rfl⟩)
  walk_at "ww"
  refine ⟨by unfold ZWT;decide +kernel,?_⟩
  walk_at "ww"
  refine ⟨by unfold ZWT;decide +kernel,?_⟩
  walk_at "ww"
  rw [List.length_map]
  refine ⟨by simp,?_⟩
  walk_at "ww"
  refine ⟨by decide,by decide,fun q q0 q1=>?_⟩
  obtain ⟨q,rfl⟩:=Int.eq_ofNat_of_zero_le q0
  obtain ⟨i,hi,e⟩:=ZUm hz (k:=q) (by omega)
  exact ⟨_,_,rfl,e,i,hi,rfl⟩
 rintro _ ⟨i,hi,rfl⟩
 refine ZAZ (ZC1 (ZMo rfl (ZBl rfl ⟨rfl,ns,rfl,hN,by omega,fun x hx _=>?_⟩)))
 refine ZBi (fun ss'=>∃ y:Str,ZK6 y/\ss'=[.pot,.sq false (ns.map .str),.is (.int way),.is (.int i),.is (.int (ot - 1)),.is (.str y)]) ?_ ?_
 ·walk_at "ww"
  refine ⟨by decide,by decide,fun r r0 r1=>?_⟩
  walk_at "ww"
  refine ZB4 (fun c=>?_) (fun c=>ZAC ⟨_,ZGu hx,rfl⟩)
  have hl:=hx.2.1
  have n:Nm (Txt.slice x none (some 7)):=ZHs (by decide) (by decide) hx.1 hx.2.2
  have n1:=n.2.1
  refine ZC1 ?_
  walk_at "ww"
  refine ZPu (ZPZ (ZAG rfl ⟨x,rfl,by omega,?_⟩))
  walk_at "ww"
  refine ⟨by show _+1<=100000;omega,?_⟩
  refine ZAl (ZPu (ZAG rfl ⟨x,rfl,ZJS ⟨_,rfl,by show _+1<=100000;omega,?_⟩⟩))
  walk_at "ww"
  refine ⟨by simp,?_⟩
  walk_at "ww"
  refine ⟨by decide,by decide,fun q q0 q1=>?_⟩
  obtain ⟨q,rfl⟩:=Int.eq_ofNat_of_zero_le q0
  obtain ⟨y,hy,e⟩:=ZVm hx (k:=q) (by omega)
  exact ⟨_,_,rfl,e,y,hy,rfl⟩
 rintro _ ⟨y,hy,rfl⟩
 refine ZBi (fun ss'=>∃ y:Str,ZK6 y/\ss'=[.pot,.sq false (ns.map .str),.is (.int way),.is (.int i),.is (.int (ot - 1)),.is (.str y)]) ?_ ?_
 ·refine ZBv (ZCW (ZLG (ZAm ?_)))
  walk_at "ww"
  refine ⟨by simp,?_⟩
  walk_at "ww"
  rw [List.length_map]
  refine ⟨rfl,_,rfl,ZB4 (fun c=>?_) (fun c=>?_)⟩
  ·have h0:ns.length≠0:=fun z=>by rw [decide_eq_true z] at c;cases c
   refine ZAm (ZMJ (ZPv rfl (ZSF (ZCm ⟨_,rfl,ZVU (ZCm ⟨_,rfl,ZMp rfl (ZVG (neg:=false) (ZAG rfl ⟨way,rfl,?_⟩))⟩)⟩))))
   walk_at "ww"
   refine ⟨by simp,?_⟩
   refine ⟨_,.inr ⟨rfl,[2,3],rfl,_,rfl,_,rfl,?_⟩⟩
   have two:∀ b:Bool,((if b then 1 else 0:Int)=1∨(if b then 1 else 0:Int)=0):=by decide
   rcases two (decide (way∈[2,3])) with e | e
   all_goals
    refine ⟨by rw [show (if (if false=true then !decide (way∈[2,3]) else decide (way∈[2,3]))=true then 1 else 0:Int)=_ from e];unfold ZXH;decide +kernel,_,rfl,?_⟩
    rw [show (if (if false=true then !decide (way∈[2,3]) else decide (way∈[2,3]))=true then 1 else 0:Int)=_ from e]
    refine ⟨_,rfl,by decide,by decide,fun r r0 r1=>?_⟩
    walk_at "ww"
    refine ZB4 (fun c2=>?_) (fun c2=>ZAC ⟨_,hy,rfl⟩)
    walk_at "ww"
    rw [List.length_map]
    refine ⟨by omega,by omega,fun q q0 q1=>?_⟩
    obtain ⟨q,rfl⟩:=Int.eq_ofNat_of_zero_le q0
    obtain ⟨z,hz1,ez⟩:=ZNf (ns:=ns) (k:=q) (by omega)
    exact ⟨_,_,rfl,ez,z,ZGu (hN z hz1),rfl⟩
  ·exact ZMM (ZAC ⟨_,hy,rfl⟩)
 rintro _ ⟨y,hy,rfl⟩
 have q5:way=0∨way=1∨way=2∨way=3∨way=4:=by omega
 walk_at "ww"
 refine ZB4 (fun c=>?_) (fun c=>?_)
 ·walk_at "ww"
  exact ⟨by simp,.put y i,rfl,hy,hi⟩
 refine ZAC ?_
 walk_at "ww"
 refine ZB4 (fun c=>?_) (fun c=>?_)
 ·walk_at "ww"
  exact ⟨by simp,.take y,rfl,hy⟩
 refine ZAC ?_
 walk_at "ww"
 refine ZB4 (fun c=>?_) (fun c=>?_)
 ·walk_at "ww"
  exact ⟨by simp,.move y i,rfl,hy,hi⟩
 refine ZAC ?_
 walk_at "ww"
 exact ⟨by simp,.turn i (ot - 1),rfl,hi,hot⟩
theorem ZDY:ZAP ["pot", "row", "most", "way", "low", "name"] ["pot", "row", "most"] (ZA4 ZCd):=⟨rfl,rfl,rfl,by decide +kernel,rfl,by decide +kernel,by decide +kernel⟩
theorem ZLy (F:Fun K "_law_deed" "_law_deed" ZCd f fd) (bd:Binds K fd ["pot", "row", "most"] []) (m:mg "_law_deed" = some (.ref f)) (ZBX:Has P w K mg base "_law_name" 2 ["pot", "names"] (ZL9 K)) (ZA7:Has P w K mg base "_law_take" 1 ["pot", "many"] (ZEx)) (ZAf:mg "len" = none) :
  Has P w K mg base "_law_deed" 3 ["pot", "row", "most"] (ZPS):=by
 refine Has.mk F bd m (F.okq (k:=2) ZDY (fun vs H Q E h=>?_) (fun cdv A outer s H vs Q E hr h=>?_))
 ·obtain ⟨p,a,m,ns,rfl,hp,hS,hne,hN,hz,m1,m2,q⟩:=h;rfl
 obtain ⟨p,a,m,ns,rfl,hp,hS,hne,hN,hz,m1,m2,q⟩:=h
 refine ⟨_,(ZAF rfl (ZAL (i:=3) ZDY.nd rfl (Or.inl rfl) (ZAS ZA7 hr (by decide) (ZA0 (qv 0) (ZA0 ZA2 ZA1))))
   (ZAF rfl (ZAa (ZJo (ZEf (ZA9 ZI8 (qv 3) ZA2 (ZAI _)) (ZDN (ZA9 ZI8 (ZAQ ZAu (by rfl) ZAf (by decide +kernel) (ZA0 (qv 1) ZA1)) (qv 2) (ZAI _)))).pt (ZIM (ZA9 (ZNp hr.ZEn) (qv 1) (ZBV ZA1) (ZAI _)))).pt (ZAF rfl (ZAa (ZA9 ZOI (ZAQ ZAu (by rfl) ZAf (by decide +kernel) (ZA0 (qv 1) ZA1)) (qv 2) (ZAI _)) (ZAJ rfl (ZAM (ZAU (ZA0 ZAR (ZA0 ZA2 (ZA0 ZA2 ZA1)))))) ZAE)
   (ZAJ rfl (ZAM (ZAU (ZA0 ZAR (ZA0 (ZAS ZBX hr (by decide) (ZA0 (qv 0) (ZA0 (qv 1) ZA1))) (ZA0 (ZAS ZA7 hr (by decide) (ZA0 (qv 0) (ZA0 (ZAc ZBc (ZAQ ZAu (by rfl) ZAf (by decide +kernel) (ZA0 (qv 1) ZA1)) ZA2) ZA1))) ZA1))))))) ZAE)
   (ZAF rfl (ZAa (ZA9 ZBG (qv 3) ZA2 (ZAI _)) (ZAF rfl (ZAL (i:=4) ZDY.nd rfl (Or.inl rfl) (ZAS ZA7 hr (by decide) (ZA0 (qv 0) (ZA0 (ZAc ZBc (ZAQ ZAu (by rfl) ZAf (by decide +kernel) (ZA0 (qv 1) ZA1)) ZA2) ZA1))))
   (ZAJ rfl (ZAM (ZAU (ZA0 ZAR (ZA0 (qv 4) (ZA0 (ZAc ZBc (qv 4) (ZAS ZA7 hr (by decide) (ZA0 (qv 0) (ZA0 (ZAc ZBc (ZAc ZFP (ZAQ ZAu (by rfl) ZAf (by decide +kernel) (ZA0 (qv 1) ZA1)) (qv 4)) ZA2) ZA1)))) ZA1))))))) ZAE)
   (ZAF rfl (ZAL (i:=5) ZDY.nd rfl (Or.inl rfl) (ZAK ZAz (qv 1) (ZAS ZA7 hr (by decide) (ZA0 (qv 0) (ZA0 (ZAQ ZAu (by rfl) ZAf (by decide +kernel) (ZA0 (qv 1) ZA1)) ZA1))) (fun _ _=>rfl)))
   (ZAF rfl (ZAa (ZA9 ZBG (qv 3) ZA2 (ZAI _)) (ZAJ rfl (ZAM (ZAU (ZA0 ZAR (ZA0 (qv 5) (ZA0 (ZAS ZA7 hr (by decide) (ZA0 (qv 0) (ZA0 (ZAQ ZAu (by rfl) ZAf (by decide +kernel) (ZA0 (qv 1) ZA1)) ZA1))) ZA1)))))) ZAE)
   (ZAJ rfl (ZAM (ZAU (ZA0 ZAR (ZA0 (qv 5) ZA1)))))))))),?_⟩
 have hl:=ZO4 ns
 have zz:∀ n:Nat,n<=3->n<=sizeLine:=fun n h=>Nat.le_trans h (by decide +kernel)
 refine ⟨_,rfl,p,5,rfl,hp,by decide,by decide,fun way H1 w0 w1 s1=>?_⟩
 have e1:=s1.at' hS hne
 have em:decide (ns.map V.str=[])=true->ns=[]:=fun h=>List.map_eq_nil_iff.mp (of_decide_eq_true h)
 have em2:¬ decide (ns.map V.str=[])=true->0 < ns.length:=fun h=>by
  cases ns with
  | nil=>exact absurd (decide_eq_true rfl) h
  | cons y r=>simp
 refine ⟨_,rfl,_,_,rfl,rfl,_,rfl,?_⟩
 refine ZB4 (fun cA=>?_) (fun cA=>ZMM ?_)
 ·refine ⟨_,rfl,a,_,rfl,.inl (SqL.of e1),_,rfl,_,_,rfl,rfl,_,rfl,?_⟩
  refine ZB4 (fun cB=>ZWy ?_) (fun cB=>?_)
  ·have hlt:ns.length < m:=by have:=of_decide_eq_true cB;rw [hl] at this;omega
   have gg:=s1
   have eH:=e1
   refine ⟨_,rfl,a,_,rfl,.inl (SqL.of eH),_,rfl,_,_,rfl,rfl,_,rfl,ZCx (by rw [hl,decide_eq_false (by omega)];decide) ?_⟩
   refine ⟨_,rfl,_,rfl,p,a,ns,rfl,gg.pot,SqL.of eH,hne,hN,by omega,fun x H3 nx hx s3=>?_⟩
   have e3:=s3.at' eH hne
   refine ⟨_,rfl,_,rfl,a,_,rfl,.inl (SqL.of e3),_,_,rfl,rfl,p,_,rfl,s3.pot,by omega,by rw [hl];omega,fun i H4 i0 i1 s4=>?_⟩
   rw [hl] at i1
   obtain ⟨i,rfl⟩:=Int.eq_ofNat_of_zero_le i0
   refine ⟨zz _ (by simp),fun t ht=>?_⟩
   have g4:=gg.trans (s3.trans s4)
   exact q (.put x i) t _ (g4.none ht) (g4.trans (ZB3.of g4.pot (ZAD ht _))) ZA6 ⟨nx,hx,by omega,by omega⟩
  ·have hge:¬ ns.length < m:=fun z=>cB (decide_eq_true (by rw [hl];omega))
   refine ⟨_,rfl,(by show 0<=sizeLine;decide),fun e he=>?_⟩
   have s2:=ZB3.of s1.pot (ZAD he (.lst []))
   have gg:=s1.trans s2
   have eH:=s2.at' e1 hne
   refine ⟨a,e,_,[],rfl,rfl,.inl ⟨SqL.of eH,SqL.of ZA6⟩,ZBr ns,rfl,_,rfl,?_⟩
   show if ZNk (ns.map V.str) []=true then _ else _
   rw [ZGH]
   refine ZB4 (fun cC=>?_) (fun cC=>?_)
   ·exact absurd (by rw [em cC];show 0 < m;omega) hge
   ·have hpos:=em2 cC
    refine ⟨_,rfl,rfl,_,rfl,?_⟩
    refine ZB4 (fun c4=>?_) (fun c4=>?_)
    ·refine ⟨_,rfl,_,rfl,a,_,rfl,.inl (SqL.of eH),_,_,rfl,rfl,p,_,rfl,gg.pot,by omega,by rw [hl];omega,fun lo H3 l0 l1 s3=>?_⟩
     rw [hl] at l1
     obtain ⟨lo,rfl⟩:=Int.eq_ofNat_of_zero_le l0
     have e3:=s3.at' eH hne
     refine ⟨_,rfl,_,rfl,_,rfl,_,rfl,a,_,rfl,.inl (SqL.of e3),_,rfl,_,_,rfl,rfl,_,_,rfl,rfl,p,_,rfl,s3.pot,by rw [hl];omega,by rw [hl];omega,fun k H4 k0 k1 s4=>?_⟩
     rw [hl] at k1
     obtain ⟨k,rfl⟩:=Int.eq_ofNat_of_zero_le k0
     refine ⟨_,_,rfl,rfl,zz _ (by simp),fun t ht=>?_⟩
     have g4:=gg.trans (s3.trans s4)
     exact q (.turn lo (lo+k)) t _ (g4.none ht) (g4.trans (ZB3.of g4.pot (ZAD ht _))) (by rw [ZA6];rfl) ⟨by omega,by omega⟩
    ·refine ⟨_,rfl,_,rfl,_,rfl,a,_,rfl,.inl (SqL.of eH),p,_,rfl,gg.pot,by rw [hl];omega,by rw [hl];omega,fun i H3 i0 i1 s3=>?_⟩
     rw [hl] at i1
     have e3:=s3.at' eH hne
     obtain ⟨x,hx,hxm,_⟩:=ZG4 i0 i1
     refine ⟨a,_,_,_,rfl,rfl,SqL.of e3,hx,?_⟩
     have g3:=gg.trans s3
     refine ⟨_,rfl,rfl,_,rfl,?_⟩
     refine ZB4 (fun c3=>?_) (fun c3=>?_)
     ·refine ⟨_,rfl,_,rfl,_,rfl,a,_,rfl,.inl (SqL.of e3),p,_,rfl,s3.pot,by rw [hl];omega,by rw [hl];omega,fun k H4 k0 k1 s4=>?_⟩
      rw [hl] at k1
      obtain ⟨k,rfl⟩:=Int.eq_ofNat_of_zero_le k0
      have g4:=g3.trans s4
      refine ⟨zz _ (by simp),fun t ht=>?_⟩
      exact q (.move x k) t _ (g4.none ht) (g4.trans (ZB3.of g4.pot (ZAD ht _))) ZA6 ⟨hxm,by omega⟩
     ·refine ⟨_,rfl,zz _ (by simp),fun t ht=>?_⟩
      exact q (.take x) t _ (g3.none ht) (g3.trans (ZB3.of g3.pot (ZAD ht _))) ZA6 hxm
 ·skip
  refine ⟨_,rfl,(by show 0<=sizeLine;decide),fun e he=>?_⟩
  have s2:=ZB3.of s1.pot (ZAD he (.lst []))
  have gg:=s1.trans s2
  have eH:=s2.at' e1 hne
  refine ⟨a,e,_,[],rfl,rfl,.inl ⟨SqL.of eH,SqL.of ZA6⟩,ZBr ns,rfl,_,rfl,?_⟩
  show if ZNk (ns.map V.str) []=true then _ else _
  rw [ZGH]
  refine ZB4 (fun cC=>?_) (fun cC=>?_)
  ·have hlt:ns.length < m:=by rw [em cC];show 0 < m;omega
   refine ⟨_,rfl,a,_,rfl,.inl (SqL.of eH),_,rfl,_,_,rfl,rfl,_,rfl,ZCx (by rw [hl,decide_eq_false (by omega)];decide) ?_⟩
   refine ⟨_,rfl,_,rfl,p,a,ns,rfl,gg.pot,SqL.of eH,hne,hN,by omega,fun x H3 nx hx s3=>?_⟩
   have e3:=s3.at' eH hne
   refine ⟨_,rfl,_,rfl,a,_,rfl,.inl (SqL.of e3),_,_,rfl,rfl,p,_,rfl,s3.pot,by omega,by rw [hl];omega,fun i H4 i0 i1 s4=>?_⟩
   rw [hl] at i1
   obtain ⟨i,rfl⟩:=Int.eq_ofNat_of_zero_le i0
   refine ⟨zz _ (by simp),fun t ht=>?_⟩
   have g4:=gg.trans (s3.trans s4)
   exact q (.put x i) t _ (g4.none ht) (g4.trans (ZB3.of g4.pot (ZAD ht _))) ZA6 ⟨nx,hx,by omega,by omega⟩
  ·have hpos:=em2 cC
   refine ⟨_,rfl,rfl,_,rfl,?_⟩
   refine ZB4 (fun c4=>?_) (fun c4=>?_)
   ·refine ⟨_,rfl,_,rfl,a,_,rfl,.inl (SqL.of eH),_,_,rfl,rfl,p,_,rfl,gg.pot,by omega,by rw [hl];omega,fun lo H3 l0 l1 s3=>?_⟩
    rw [hl] at l1
    obtain ⟨lo,rfl⟩:=Int.eq_ofNat_of_zero_le l0
    have e3:=s3.at' eH hne
    refine ⟨_,rfl,_,rfl,_,rfl,_,rfl,a,_,rfl,.inl (SqL.of e3),_,rfl,_,_,rfl,rfl,_,_,rfl,rfl,p,_,rfl,s3.pot,by rw [hl];omega,by rw [hl];omega,fun k H4 k0 k1 s4=>?_⟩
    rw [hl] at k1
    obtain ⟨k,rfl⟩:=Int.eq_ofNat_of_zero_le k0
    refine ⟨_,_,rfl,rfl,zz _ (by simp),fun t ht=>?_⟩
    have g4:=gg.trans (s3.trans s4)
    exact q (.turn lo (lo+k)) t _ (g4.none ht) (g4.trans (ZB3.of g4.pot (ZAD ht _))) (by rw [ZA6];rfl) ⟨by omega,by omega⟩
   ·refine ⟨_,rfl,_,rfl,_,rfl,a,_,rfl,.inl (SqL.of eH),p,_,rfl,gg.pot,by rw [hl];omega,by rw [hl];omega,fun i H3 i0 i1 s3=>?_⟩
    rw [hl] at i1
    have e3:=s3.at' eH hne
    obtain ⟨x,hx,hxm,_⟩:=ZG4 i0 i1
    refine ⟨a,_,_,_,rfl,rfl,SqL.of e3,hx,?_⟩
    have g3:=gg.trans s3
    refine ⟨_,rfl,rfl,_,rfl,?_⟩
    refine ZB4 (fun c3=>?_) (fun c3=>?_)
    ·refine ⟨_,rfl,_,rfl,_,rfl,a,_,rfl,.inl (SqL.of e3),p,_,rfl,s3.pot,by rw [hl];omega,by rw [hl];omega,fun k H4 k0 k1 s4=>?_⟩
     rw [hl] at k1
     obtain ⟨k,rfl⟩:=Int.eq_ofNat_of_zero_le k0
     have g4:=g3.trans s4
     refine ⟨zz _ (by simp),fun t ht=>?_⟩
     exact q (.move x k) t _ (g4.none ht) (g4.trans (ZB3.of g4.pot (ZAD ht _))) ZA6 ⟨hxm,by omega⟩
    ·refine ⟨_,rfl,zz _ (by simp),fun t ht=>?_⟩
     exact q (.take x) t _ (g3.none ht) (g3.trans (ZB3.of g3.pot (ZAD ht _))) ZA6 hxm
theorem ZCJ:ZAP ["row", "loop", "rule", "gap", "coming", "found", "left"] ["row", "loop"] (ZA4 ZBq):=⟨rfl,rfl,rfl,by decide +kernel,rfl,by decide +kernel,by decide +kernel⟩
def ZJ3:Scope:={ kind:=.function,names:=[(".0", .local),("name", .local),("coming", .free)],isGenerator:=false,isCoroutine:=false,more:=[] }
theorem ZJF:ZAr ["row", "loop", "rule", "gap", "coming", "found", "left"] (ZA4 ZBq) ZJ3 "name" ["coming"] [4]:=⟨rfl,by decide +kernel,by decide +kernel,rfl,rfl,by decide +kernel,by decide +kernel,by decide +kernel,by decide +kernel⟩
def ZJ8:Scope:={ kind:=.function,names:=[(".0", .local),("name", .local),("found", .free)],isGenerator:=false,isCoroutine:=false,more:=[] }
theorem ZJ7:ZAr ["row", "loop", "rule", "gap", "coming", "found", "left"] (ZA4 ZBq) ZJ8 "name" ["found"] [5]:=⟨rfl,by decide +kernel,by decide +kernel,rfl,rfl,by decide +kernel,by decide +kernel,by decide +kernel,by decide +kernel⟩
theorem ZM4 (F:Fun K "_law_step" "_law_step" ZBq f fd) (bd:Binds K fd ["row", "loop"] []) (m:mg "_law_step" = some (.ref f)) (ZBH:mg "tuple" = none) :
  Has P w K mg base "_law_step" 1 ["row", "loop"] (ZJp):=by
 refine Has.mk F bd m (F.okq (k:=0) ZCJ (fun vs H Q E h=>?_) (fun cdv A outer s H vs Q E hr h=>?_))
 ·obtain ⟨a,ns,t,r,g,ss,rfl,hS,⟨c,hT,hC⟩,h64,hz,q⟩:=h;rfl
 obtain ⟨a,ns,t,r,g,ss,rfl,hS,⟨c,hT,hC⟩,h64,hz,q⟩:=h
 refine ⟨_,(ZAF rfl (ZGQ (qv 1) (ZIA rfl (ZBQ (ZBD (i:=2) ZCJ.nd rfl (Or.inl rfl)) (ZBQ (ZBD (i:=3) ZCJ.nd rfl (Or.inl rfl)) (ZBQ (ZBD (i:=4) ZCJ.nd rfl (Or.inr rfl)) ZFj)))))
   (ZAF rfl (ZAL (i:=5) ZCJ.nd rfl (Or.inr rfl) (ZED rfl ZJF (ZGY (ZAc ZFw (ZAq ZCs (qv 0) (ZB0 (qv 3)) ZBM) (ZAq ZCs (qv 0) ZBM (ZB0 (qv 3))))) (fun _ _ _ _=>by exact (ZEb (ZA9 (show OpR _ (compareOp .In) (rIn K false) from ZC2) (qv 1) (qv 0) (by with_unfolding_all rfl)))) (fun _ _ _ _=>by exact (qv 1))))
   (ZAF rfl (ZAa (ZA9 (ZNp hr.ZEn) (qv 5) (ZBV ZA1) (ZAI _)) (ZAJ rfl (ZAM (ZAU (ZA0 ZCv (ZA0 (qv 1) ZA1))))) ZAE)
   (ZAF rfl (ZAL (i:=6) ZCJ.nd rfl (Or.inl rfl) (ZAi ZBL (by rfl) ZBH (by decide +kernel) (ZA0 (ZED rfl ZJ7 (ZGY (qv 4)) (fun _ _ _ _=>by exact (ZEb (ZA9 ZLf (qv 1) (ZAK (show IxR _ (ZVr K) from ZAz) (qv 0) ZA2 (fun _ _=>rfl)) (ZAI _)))) (fun _ _ _ _=>by exact (qv 1))) ZA1)))
   (ZAJ rfl (ZAM (ZAU (ZA0 (ZAK ZAz (qv 5) ZA2 (fun _ _=>rfl)) (ZA0 (ZAU (ZA0 (qv 2) (ZA0 (ZAc ZBc (ZEV PySem.F.plainAttrs_list PySem.F.slot_list_index PySem.F.type_list_index ZIh (qv 0) (ZA0 (ZAK ZAz (qv 5) ZA2 (fun _ _=>rfl)) ZA1)) ZA2) (ZA0 (qv 6) ZA1)))) ZA1))))))))),?_⟩
 have hl:=ZO4 ns
 have hls:=ZO4 ss
 refine ⟨_,rfl,t,_,rfl,SqT.of hT,rfl,_,_,rfl,_,_,rfl,_,_,rfl,rfl,?_⟩
 refine ⟨_,rfl,_,rfl,_,rfl,a,_,rfl,SqL.of hS,fun l1 hl1=>?_⟩
 have n1:=ZAD hl1 (.lst (ZHA (ns.map V.str) (some (g:Int)) none))
 refine ⟨_,rfl,_,rfl,_,rfl,a,_,rfl,SqL.of (n1 _ _ hS),fun l2 hl2=>?_⟩
 have n2:=ZAD hl2 (.lst (ZHA (ns.map V.str) none (some (g:Int))))
 have e1:=n2 _ _ (ZA6 (H:=H) (a:=l1) (o:=.lst (ZHA (ns.map V.str) (some (g:Int)) none)))
 have e2:=ZA6 (H:=upd H l1 (.lst (ZHA (ns.map V.str) (some (g:Int)) none))) (a:=l2) (o:=.lst (ZHA (ns.map V.str) none (some (g:Int))))
 have k2:=n1.trans n2
 generalize upd (upd H l1 (.lst (ZHA (ns.map V.str) (some (g:Int)) none))) l2 (.lst (ZHA (ns.map V.str) none (some (g:Int))))=H2 at *
 rw [ZNN] at e1
 rw [ZSW] at e2
 refine ⟨l1,l2,_,_,rfl,rfl,e1,e2,small (by rw [List.length_drop,List.length_take];omega),fun l3 hl3=>?_⟩
 have n3:=ZAD hl3 (.lst ((ns.map V.str).drop g++(ns.map V.str).take g))
 have k3:=k2.trans n3
 have hM:SqB K false (upd H2 l3 (.lst ((ns.map V.str).drop g++(ns.map V.str).take g))) l3 ((ns.drop g++ns.take g).map V.str):=SqL.of (by rw [ZA6,List.map_append,List.map_drop,List.map_take])
 refine ⟨false,l3,_,rfl,hM,fun acc hacc=>ZFV (fun v=>inV v (ss.map V.str)) (fun v=>v) hM hacc (small (by rw [ZO4,List.length_append,List.length_drop,List.length_take];omega)) (fun i v H' Q' hv s4 h=>?_) (fun i v H' Q' hv _ s4 h=>?_) (fun H4 s4 e4=>?_)⟩
 ·obtain ⟨x,rfl,_⟩:=ZEE hv
  exact ⟨_,rfl,_,rfl,c,_,rfl,.inr (SqT.of (s4 _ _ (k3 _ _ hC))),rfl,ZBr ss,_,rfl,h _ (ZAk.refl _)⟩
 ·exact ⟨_,rfl,h _ (ZAk.refl _)⟩
 rw [ZUL,ZRM] at e4
 have k4:=k3.trans s4
 refine ⟨_,rfl,(by show 0<=sizeLine;decide),fun l5 hl5=>?_⟩
 have n5:=ZAD hl5 (.lst [])
 have k5:=k4.trans n5
 have e5:=n5 _ _ e4
 refine ⟨acc,l5,_,[],rfl,rfl,.inl ⟨SqL.of e5,SqL.of ZA6⟩,ZBr _,rfl,_,rfl,?_⟩
 show if ZNk ((ZE6 ns g ss).map V.str) []=true then _ else _
 rw [ZGH]
 refine ZB4 (fun c1=>?_) (fun c1=>?_)
 ·have er:ZE6 ns g ss=[]:=by simpa using c1
  refine ⟨_,rfl,(by show 2<=sizeLine;decide),fun t' ht'=>?_⟩
  exact q t' _ (ZAk.none k5 ht') (k5.trans (ZAD ht' _)) (.inl ⟨er,ZA6⟩)
 ·obtain ⟨x,rst,er⟩:∃ x rst,ZE6 ns g ss=x :: rst:=by
   cases h:ZE6 ns g ss with
   | nil=>rw [h] at c1;simp at c1
   | cons x rst=>exact ⟨x,rst,rfl⟩
  have hx:x∈ns/\x∈ss:=ZEy.mp (by rw [er];exact List.mem_cons_self)
  rw [er] at e5
  generalize upd H4 l5 (.lst [])=H5 at *
  have hC5:SqB K true H5 c (ss.map V.str):=SqT.of (k5 _ _ hC)
  refine ⟨_,rfl,true,c,_,rfl,hC5,fun acc2 hacc2=>ZFV (ZQs (.str x)) (fun v=>v) hC5 hacc2 (by rw [hls];exact small (by omega)) (fun i v H' Q' hv s6 h=>?_) (fun i v H' Q' hv _ s6 h=>?_) (fun H6 s6 e6=>?_)⟩
  ·obtain ⟨y,rfl,_⟩:=ZEE hv
   exact ⟨_,rfl,_,rfl,acc,_,_,_,rfl,rfl,SqL.of (s6 _ _ e5),ZN5,rfl,_,rfl,h _ (ZAk.refl _)⟩
  ·exact ⟨_,rfl,h _ (ZAk.refl _)⟩
  rw [ZLk] at e6
  refine ⟨acc2,_,rfl,.inl ⟨SqL.of e6,fun t7 ht7=>?_⟩⟩
  have n7:=ZAD ht7 (.tup ((wo ss x).map V.str))
  have k7:=k5.trans (s6.trans n7)
  have f7:H t7=none:=ZAk.none (k5.trans s6) ht7
  have e7:=n7 _ _ (s6 _ _ e5)
  have u7:=ZA6 (H:=H6) (a:=t7) (o:=.tup ((wo ss x).map V.str))
  generalize upd H6 t7 (.tup ((wo ss x).map V.str))=H7 at *
  refine ⟨_,rfl,acc,_,_,_,rfl,rfl,SqL.of e7,ZN5,_,rfl,_,rfl,.inl ⟨rfl,_,SqL.of (k7 _ _ hS)⟩,_,rfl,acc,_,_,_,rfl,rfl,SqL.of e7,ZN5,a,ns,x,rfl,rfl,SqL.of (k7 _ _ hS),hx.1,_,_,rfl,rfl,_,rfl,?_⟩
  refine ⟨(by show 3<=sizeLine;decide),fun t8 ht8=>?_⟩
  have n8:=ZAD ht8 (.tup [.str r,.int ((ns.idxOf x:Nat)+1),.ref t7])
  refine ⟨(by show 2<=sizeLine;decide),fun t9 ht9=>?_⟩
  have n9:=ZAD ht9 (.tup [.str x,.ref t8])
  exact q t9 _ (ZAk.none (k7.trans n8) ht9) (k7.trans (n8.trans n9)) (.inr ⟨x,rst,t8,t7,er,ZAk.none k7 ht8,f7,ZA6,n9 _ _ ZA6,n9 _ _ (n8 _ _ u7)⟩)
theorem ZFl:ZAP ["row", "gap", "deed"] ["row", "gap", "deed"] (ZA4 ZDB):=⟨rfl,rfl,rfl,by decide +kernel,rfl,by decide +kernel,by decide +kernel⟩
theorem ZMI (F:Fun K "_law_gap" "_law_gap" ZDB f fd) (bd:Binds K fd ["row", "gap", "deed"] []) (m:mg "_law_gap" = some (.ref f)) (ZJ5:mg "int" = none) :
  Has P w K mg base "_law_gap" 1 ["row", "gap", "deed"] (ZST):=by
 refine Has.mk F bd m (F.okq (k:=0) ZFl (fun vs H Q E h=>?_) (fun cdv A outer s H vs Q E hr h=>?_))
 ·obtain ⟨a,t,ns,g,d,rfl,hS,hT,ok,q⟩:=h;rfl
 obtain ⟨a,t,ns,g,d,rfl,hS,hT,ok,q⟩:=h
 refine ⟨_,(ZAF rfl (ZAv (ZAa (ZA9 ZC2 (ZAK ZAA (qv 2) ZA2 (fun _ _=>rfl)) (ZAU (ZA0 ZAR (ZA0 ZAR ZA1))) (by with_unfolding_all rfl)) (ZAJ rfl (ZAL (i:=1) ZFl.nd rfl (Or.inl rfl) (ZAc ZFP (qv 1) (ZAi ZFp (by rfl) ZJ5 (by decide +kernel) (ZA0 (ZBp ZI8 (ZEV PySem.F.plainAttrs_list PySem.F.slot_list_index PySem.F.type_list_index ZIh (qv 0) (ZA0 (ZAK ZAA (qv 2) ZA2 (fun _ _=>rfl)) ZA1)) (qv 1) (ZAI _)) ZA1))))) ZAE))
   (ZAF rfl (ZAv (ZAa (ZA9 ZC2 (ZAK ZAA (qv 2) ZA2 (fun _ _=>rfl)) (ZAU (ZA0 ZAR (ZA0 ZAR ZA1))) (by with_unfolding_all rfl)) (ZAJ rfl (ZAL (i:=1) ZFl.nd rfl (Or.inl rfl) (ZAc ZBc (qv 1) (ZAi ZFp (by rfl) ZJ5 (by decide +kernel) (ZA0 (ZBp ZI8 (ZAK ZAA (qv 2) ZA2 (fun _ _=>rfl)) (qv 1) (ZAI _)) ZA1))))) ZAE))
   (ZAJ rfl (ZAM (qv 1))))),?_⟩
 refine ⟨fun σ' H'=>σ'=[some (.ref a),some (.int (d.ZVC ns g:Nat)),some (.ref t)]/\ZAk H H',?_,?_⟩
 ·refine ⟨_,rfl,t,_,_,_,rfl,rfl,SqT.of hT,ZKU d,(by show 2<=sizeLine;decide),fun t1 ht1=>?_⟩
  have n1:=ZAD ht1 (.tup [.str "take", .str "move"])
  refine ⟨t1,_,rfl,.inr (SqT.of ZA6),rfl,rfl,_,rfl,?_⟩
  show if inV (.str d.kind) [.str "take", .str "move"]=true then _ else _
  refine ZB4 (fun c=>?_) (fun c=>?_)
  ·obtain ⟨x,hx1,hx2,hx3⟩:=ZX1 g ok c
   refine ⟨_,rfl,_,rfl,.inl ⟨rfl,_,SqL.of (n1 _ _ hS)⟩,_,rfl,t,_,_,_,rfl,rfl,SqT.of (n1 _ _ hT),hx1,a,ns,x,rfl,rfl,SqL.of (n1 _ _ hS),hx2,_,rfl,_,_,rfl,rfl,.inr ⟨_,rfl,_,_,rfl,rfl,?_,n1⟩⟩
   rw [hx3,<- ZQA];rfl
  ·refine ⟨?_,n1⟩
   rw [ZVW g c];rfl
 rintro σ' H1 ⟨rfl,s1⟩
 have hT1:=s1 _ _ hT
 refine ⟨fun σ' H'=>σ'=[some (.ref a),some (.int (d.gap ns g:Nat)),some (.ref t)]/\ZAk H H',?_,?_⟩
 ·refine ⟨_,rfl,t,_,_,_,rfl,rfl,SqT.of hT1,ZKU d,(by show 2<=sizeLine;decide),fun t2 ht2=>?_⟩
  have n2:=ZAD ht2 (.tup [.str "put", .str "move"])
  refine ⟨t2,_,rfl,.inr (SqT.of ZA6),rfl,rfl,_,rfl,?_⟩
  show if inV (.str d.kind) [.str "put", .str "move"]=true then _ else _
  refine ZB4 (fun c=>?_) (fun c=>?_)
  ·obtain ⟨i,hi1,hi2⟩:=ZWw (ns:=ns) g c
   refine ⟨_,rfl,_,rfl,t,_,_,_,rfl,rfl,SqT.of (n2 _ _ hT1),hi1,_,rfl,_,_,rfl,rfl,.inr ⟨_,rfl,_,_,rfl,rfl,?_,s1.trans n2⟩⟩
   rw [hi2,<- ZR5];rfl
  ·refine ⟨?_,s1.trans n2⟩
   rw [ZVK g c]
 rintro σ' H2 ⟨rfl,s2⟩
 exact ⟨_,rfl,q _ s2⟩
theorem ZCY:ZAP ["row", "loop", "deed", "rule", "gap", "coming"] ["row", "loop", "deed"] (ZA4 ZCa):=⟨rfl,rfl,rfl,by decide +kernel,rfl,by decide +kernel,by decide +kernel⟩
def ZK8:Scope:={ kind:=.function,names:=[(".0", .local),("name", .local),("deed", .free)],isGenerator:=false,isCoroutine:=false,more:=[] }
theorem ZKL:ZAr ["row", "loop", "deed", "rule", "gap", "coming"] (ZA4 ZCa) ZK8 "name" ["deed"] [2]:=⟨rfl,by decide +kernel,by decide +kernel,rfl,rfl,by decide +kernel,by decide +kernel,by decide +kernel,by decide +kernel⟩
theorem ZN7 (F:Fun K "_law_led" "_law_led" ZCa f fd) (bd:Binds K fd ["row", "loop", "deed"] []) (m:mg "_law_led" = some (.ref f)) (ZGn:Has P w K mg base "_law_gap" 1 ["row", "gap", "deed"] (ZST)) (ZBZ:mg "sorted" = none) (ZBH:mg "tuple" = none) :
  Has P w K mg base "_law_led" 2 ["row", "loop", "deed"] (ZMS):=by
 refine Has.mk F bd m (F.okq (k:=1) ZCY (fun vs H Q E h=>?_) (fun cdv A outer s H vs Q E hr h=>?_))
 ·obtain ⟨a,tl,t,c,ns,r,g,ss,d,rfl,hS,⟨hL,hC⟩,hT,ok,gd,hz,q⟩:=h;rfl
 obtain ⟨a,tl,t,c,ns,r,g,ss,d,rfl,hS,⟨hL,hC⟩,hT,ok,gd,hz,q⟩:=h
 refine ⟨_,(ZAF rfl (ZGQ (qv 1) (ZIA rfl (ZBQ (ZBD (i:=3) ZCY.nd rfl (Or.inl rfl)) (ZBQ (ZBD (i:=4) ZCY.nd rfl (Or.inl rfl)) (ZBQ (ZBD (i:=5) ZCY.nd rfl (Or.inl rfl)) ZFj)))))
   (ZAF rfl (ZAv (ZAa (ZA9 ZBG (ZAK ZAA (qv 2) ZA2 (fun _ _=>rfl)) ZAR (ZAI _)) (ZAJ rfl (ZAL (i:=5) ZCY.nd rfl (Or.inl rfl) (ZAi ZBL (by rfl) ZBH (by decide +kernel) (ZA0 (ZED rfl ZKL (ZGY (qv 5)) (fun _ _ _ _=>by exact (ZEb (ZA9 ZLf (qv 1) (ZAK (show IxR _ (ZTW K) from ZAA) (qv 0) ZA2 (fun _ _=>rfl)) (ZAI _)))) (fun _ _ _ _=>by exact (qv 1))) ZA1)))) ZAE))
   (ZAF rfl (ZAv (ZAa (ZEf (ZA9 ZBG (ZAK ZAA (qv 2) ZA2 (fun _ _=>rfl)) ZAR (ZAI _)) (ZDN (ZJo (ZA9 ZBG (qv 3) ZAR (ZAI _)) (ZIM (ZEf (ZA9 ZBG (qv 3) ZAR (ZAI _)) (ZDN (ZA9 ZOI (ZAK ZAA (qv 2) ZA2 (fun _ _=>rfl)) (qv 4) (ZAI _)))).pt)).pt)).pt (ZAJ rfl (ZAL (i:=5) ZCY.nd rfl (Or.inl rfl) (ZAi ZBL (by rfl) ZBH (by decide +kernel) (ZA0 (ZAQ ZDZ (by rfl) ZBZ (by decide +kernel) (ZA0 (ZAc ZQU (qv 5) (ZAU (ZA0 (ZAK ZAA (qv 2) ZA2 (fun _ _=>rfl)) ZA1))) ZA1)) ZA1)))) ZAE))
   (ZAJ rfl (ZAM (ZAU (ZA0 (qv 3) (ZA0 (ZAS ZGn hr (by decide) (ZA0 (qv 0) (ZA0 (qv 4) (ZA0 (qv 2) ZA1)))) (ZA0 (qv 5) ZA1))))))))),?_⟩
 have hlen:=gd.len
 refine ⟨_,rfl,tl,_,rfl,SqT.of hL,rfl,_,_,rfl,_,_,rfl,_,_,rfl,rfl,?_⟩
 refine ⟨fun σ' H'=>∃ c':Addr,σ'=[some (.ref a),some (.ref tl),some (.ref t),some (.str r),some (.int g),some (.ref c')]/\ZAk H H'/\(H c'=none∨c'=c)/\H' c'=some (.tup ((d.ZW7 ss).map V.str)),?_,?_⟩
 ·refine ⟨_,rfl,t,_,_,_,rfl,rfl,SqT.of hT,ZKU d,rfl,_,rfl,?_⟩
  refine ZB4 (fun d1=>?_) (fun d1=>⟨c,rfl,ZAk.refl _,.inr rfl,by rw [ZTl d1];exact hC⟩)
  obtain ⟨x,hx1,hx2⟩:=ZRd (r:=r) (g:=g) (ss:=ss) d1
  have hC':SqB K true H c (ss.map V.str):=SqT.of hC
  refine ⟨_,rfl,true,c,_,rfl,hC',fun acc hacc=>ZFV (ZQs (.str x)) (fun v=>v) hC' hacc (by rw [ZO4];exact small (by omega)) (fun i v H' Q' hv s4 h=>?_) (fun i v H' Q' hv _ s4 h=>?_) (fun H4 s4 e4=>?_)⟩
  ·obtain ⟨y,rfl,_⟩:=ZEE hv
   exact ⟨_,rfl,_,rfl,t,_,_,_,rfl,rfl,SqT.of (s4 _ _ hT),hx1,rfl,_,rfl,h _ (ZAk.refl _)⟩
  ·exact ⟨_,rfl,h _ (ZAk.refl _)⟩
  rw [ZLk,<- hx2] at e4
  exact ⟨acc,_,rfl,.inl ⟨SqL.of e4,fun t5 ht5=>⟨t5,rfl,s4.trans (ZAD ht5 _),.inl (ZAk.none s4 ht5),ZA6⟩⟩⟩
 rintro σ' H1 ⟨c1,rfl,s1,f1,e1⟩
 refine ⟨fun σ' H'=>∃ c':Addr,σ'=[some (.ref a),some (.ref tl),some (.ref t),some (.str r),some (.int g),some (.ref c')]/\ZAk H H'/\(H c'=none∨c'=c)/\H' c'=some (.tup ((d.com r g ss).map V.str)),?_,?_⟩
 ·refine ⟨_,rfl,t,_,_,_,rfl,rfl,SqT.of (s1 _ _ hT),ZKU d,rfl,_,rfl,?_⟩
  refine ZB4 (fun d0=>?_) (fun d0=>ZMM ⟨c1,rfl,s1,f1,by rw [ZQy d0];exact e1⟩)
  obtain ⟨x,i,rfl⟩:=ZT2 d0
  replace e1:H1 c1=some (.tup (ss.map V.str)):=e1
  refine ⟨_,rfl,rfl,_,rfl,?_⟩
  refine ZB4 (fun d1=>?_) (fun d1=>?_)
  ·have hj:ZFF r g i=true:=by unfold ZFF;rw [if_pos d1]
   refine ZWy ?_
   refine ⟨_,rfl,_,rfl,t,_,_,_,rfl,rfl,SqT.of (s1 _ _ hT),rfl,(by show 1<=sizeLine;decide),fun t6 ht6=>?_⟩
   have n6:=ZAD ht6 (.tup [.str x])
   refine ⟨c1,t6,_,_,rfl,rfl,SqT.of (n6 _ _ e1),SqT.of ZA6,by simp,small (by rw [ZO4];simp;omega),fun p7 H7 s7 e7=>?_⟩
   have e7':SqT K H7 p7 ((ss++[x]).map V.str):=by rw [List.map_append];exact e7
   refine ⟨p7,true,ss++[x],rfl,e7',by rw [List.length_append];simp;omega,fun l8 ts hl8 hp hs=>?_⟩
   have n8:=ZAD hl8 (.lst (ts.map V.str))
   refine ⟨l8,_,rfl,.inl ⟨SqL.of ZA6,fun c9 hc9=>?_⟩⟩
   exact ⟨c9,rfl,s1.trans (n6.trans (s7.trans (n8.trans (ZAD hc9 _)))),.inl (ZAk.none (s1.trans (n6.trans (s7.trans n8))) hc9),by rw [ZA6,ZFg hp hs gd.up (ZIE gd ok x i rfl),ZJu hj]⟩
  ·refine ⟨_,rfl,rfl,_,rfl,?_⟩
   refine ZB4 (fun d2=>?_) (fun d2=>?_)
   ·refine ⟨_,rfl,t,_,_,_,rfl,rfl,SqT.of (s1 _ _ hT),rfl,_,rfl,_,_,rfl,rfl,_,rfl,?_⟩
    have hj':ZFF r g i=decide ((g:Int)<=(i:Int)):=by unfold ZFF;rw [if_neg d1,if_pos d2]
    refine ZB4 (fun d3=>?_) (fun d3=>?_)
    ·have hj:ZFF r g i=true:=hj'.trans d3
     refine ⟨_,rfl,_,rfl,t,_,_,_,rfl,rfl,SqT.of (s1 _ _ hT),rfl,(by show 1<=sizeLine;decide),fun t6 ht6=>?_⟩
     have n6:=ZAD ht6 (.tup [.str x])
     refine ⟨c1,t6,_,_,rfl,rfl,SqT.of (n6 _ _ e1),SqT.of ZA6,by simp,small (by rw [ZO4];simp;omega),fun p7 H7 s7 e7=>?_⟩
     have e7':SqT K H7 p7 ((ss++[x]).map V.str):=by rw [List.map_append];exact e7
     refine ⟨p7,true,ss++[x],rfl,e7',by rw [List.length_append];simp;omega,fun l8 ts hl8 hp hs=>?_⟩
     have n8:=ZAD hl8 (.lst (ts.map V.str))
     refine ⟨l8,_,rfl,.inl ⟨SqL.of ZA6,fun c9 hc9=>?_⟩⟩
     exact ⟨c9,rfl,s1.trans (n6.trans (s7.trans (n8.trans (ZAD hc9 _)))),.inl (ZAk.none (s1.trans (n6.trans (s7.trans n8))) hc9),by rw [ZA6,ZFg hp hs gd.up (ZIE gd ok x i rfl),ZJu hj]⟩
    ·have hj:ZFF r g i=false:=hj'.trans (Bool.eq_false_iff.mpr d3)
     exact ⟨c1,rfl,s1,f1,by rw [ZH6 hj];exact e1⟩
   ·have hj:ZFF r g i=false:=by unfold ZFF;rw [if_neg d1,if_neg d2]
    exact ZMM ⟨c1,rfl,s1,f1,by rw [ZH6 hj];exact e1⟩
 rintro σ' H2 ⟨c2,rfl,s2,f2,e2⟩
 refine ⟨_,rfl,_,rfl,_,rfl,_,rfl,a,t,ns,g,d,rfl,s2 _ _ hS,s2 _ _ hT,ok,fun H3 s3=>?_⟩
 refine ⟨_,rfl,(by show 3<=sizeLine;decide),fun t4 ht4=>?_⟩
 have k3:=s2.trans s3
 have n4:=ZAD ht4 (.tup [.str r,.int (d.gap ns g:Nat),.ref c2])
 exact q t4 c2 _ (ZAk.none k3 ht4) f2 (k3.trans n4) ⟨ZA6,n4 _ _ (s3 _ _ e2)⟩
theorem ZI1:ZAP ["text"] ["text"] (ZA4 ZBN):=⟨rfl,rfl,rfl,by decide +kernel,rfl,by decide +kernel,by decide +kernel⟩
def ZGt:Scope:={ kind:=.function,names:=[(".0", .local),("sign", .local)],isGenerator:=false,isCoroutine:=false,more:=[] }
theorem ZGa:ZAr ["text"] (ZA4 ZBN) ZGt "sign" [] []:=⟨rfl,by decide +kernel,by decide +kernel,rfl,rfl,by decide +kernel,by decide +kernel,by decide +kernel,by decide +kernel⟩
theorem ZI5 (F:Fun K "_law_is_name" "_law_is_name" ZBN f fd) (bd:Binds K fd ["text"] []) (m:mg "_law_is_name" = some (.ref f)) (ZKP:mg "all" = none) (ZAf:mg "len" = none) :
  Has P w K mg base "_law_is_name" 1 ["text"] (ZGD):=by
 refine Has.mk F bd m (F.okq (k:=0) ZI1 (fun vs H Q E h=>?_) (fun cdv A outer s H vs Q E hr h=>?_))
 ·obtain ⟨x,rfl,hx,q⟩:=h;rfl
 obtain ⟨x,rfl,hx,q⟩:=h
 refine ⟨_,(ZAJ rfl (ZAM (ZFx (ZK3 ZDT ZDT ZA2 (ZAQ ZEZ (by rfl) ZAf (by decide +kernel) (ZA0 (qv 0) ZA1)) ZA2) (ZGL (ZAQ (ZJr rfl) (by rfl) ZKP (by decide +kernel) (ZA0 (ZED rfl ZGa (ZSD (qv 0)) (fun _ _ _ _=>by exact ZNA) (fun _ _ _ _=>by exact (ZBp ZL8 (qv 0) ZAR (by with_unfolding_all rfl)))) ZA1)))))),?_⟩
 refine ⟨_,rfl,_,rfl,small (by omega),_,_,rfl,rfl,_,rfl,?_⟩
 refine ZB4 (fun c=>?_) (fun c=>⟨_,rfl,ZMM ?_⟩)
 ·refine ⟨_,_,rfl,rfl,_,rfl,?_⟩
  refine ZB4 (fun c2=>?_) (fun c2=>?_)
  ·refine ⟨_,rfl,x,rfl,fun acc hacc=>ZNX (fun _=>true) ZWd hacc (by rw [<- Array.length_toList,<- ZDE];exact small (by omega)) (fun i v H' Q' _ _ h=>h H' (ZAk.refl _)) (fun i v H' Q' hv _ _ h=>?_) (fun H' s1 e1=>?_)⟩
   ·obtain ⟨cc,rfl⟩:=signs_get hv
    exact ⟨_,rfl,_,_,rfl,rfl,h H' (ZAk.refl _)⟩
   ·rw [ZNY] at e1
    refine ⟨acc,_,rfl,SqL.of e1,?_⟩
    rw [all_map]
    have e:isNm x=x.cps.toList.all ZMV:=by unfold isNm;rw [c,c2];rfl
    rw [<- e];exact q H' s1
  ·have e:isNm x=false:=by unfold isNm;rw [Bool.eq_false_iff.mpr c2];simp
   rw [<- e];exact q H (ZAk.refl _)
 ·have e:isNm x=false:=by unfold isNm;rw [Bool.eq_false_iff.mpr c];simp
  rw [<- e];exact q H (ZAk.refl _)
theorem ZND:ZAP ["row", "deed"] ["row", "deed"] (ZA4 ZD4):=⟨rfl,rfl,rfl,by decide +kernel,rfl,by decide +kernel,by decide +kernel⟩
theorem ZHH {ZAH:Addr}{ZAB:Addr}{ZA5:Addr}{ZA3:Addr}{ZA8:Addr}:∀ ss R,(ZN2 ⟨ZA5,ZA8,ZAB,ZA3,ZAH⟩) ss R->ss.length=2:=by rintro _ _ ⟨ns,d,rfl,_,rfl⟩;rfl
theorem ZNK {ZAH:Addr}{ZAB:Addr}{ZA5:Addr}{ZA3:Addr}{ZA8:Addr}(F:Fun K "_law_due" "_law_due" ZD4 f fd) (bd:Binds K fd ["row", "deed"] []) (m:mg "_law_due" = some (.ref f)) (ZDl:Has P w K mg base "_law_is_name" 1 ["text"] (ZGD)) (ZAf:mg "len" = none) :
  Has P w K mg base "_law_due" 2 ["row", "deed"] (spF (ZN2 ⟨ZA5,ZA8,ZAB,ZA3,ZAH⟩)):=by
 refine Has.mk F bd m (F.okq (k:=1) ZND (fun vs H Q E h=>Fz.ZAx ZHH h) (fun cdv A outer s H vs Q E hr h=>?_))
 refine ⟨_,(ZAF rfl (ZAa (ZA9 ZBG (ZAK ZAA (qv 1) ZA2 (fun _ _=>rfl)) ZAR (ZAI _)) (ZAF rfl (ZAa (ZE5 (ZLi (ZAS ZDl hr (by decide) (ZA0 (ZAK ZAA (qv 1) ZA2 (fun _ _=>rfl)) ZA1)))) (ZAJ rfl (ZAM (ZAU (ZA0 ZA2 (ZA0 (ZAK ZAA (qv 1) ZA2 (fun _ _=>rfl)) ZA1))))) ZAE)
   (ZAF rfl (ZAa (ZA9 ZC2 (ZAK ZAA (qv 1) ZA2 (fun _ _=>rfl)) (qv 0) (by with_unfolding_all rfl)) (ZAJ rfl (ZAM (ZAU (ZA0 ZA2 (ZA0 (ZAK ZAA (qv 1) ZA2 (fun _ _=>rfl)) ZA1))))) ZAE)
   (ZAF rfl (ZAa (ZE5 (ZCz ZDT ZDT ZA2 (ZAK ZAA (qv 1) ZA2 (fun _ _=>rfl)) (ZAQ ZAh (by rfl) ZAf (by decide +kernel) (ZA0 (qv 0) ZA1)))) (ZAJ rfl (ZAM (ZAU (ZA0 ZA2 (ZA0 (ZAK ZAA (qv 1) ZA2 (fun _ _=>rfl)) ZA1))))) ZAE)
   (ZAF rfl (ZAa (ZA9 ZOI (ZAQ ZAh (by rfl) ZAf (by decide +kernel) (ZA0 (qv 0) ZA1)) ZA2 (ZAI _)) (ZAJ rfl (ZAM (ZAU (ZA0 ZA2 (ZA0 ZCv ZA1))))) ZAE)
   (ZAJ rfl (ZAM ZCv)))))) ZAE)
   (ZAF rfl (ZAa (ZA9 ZBG (ZAK ZAA (qv 1) ZA2 (fun _ _=>rfl)) ZAR (ZAI _)) (ZAF rfl (ZAa (ZE5 (ZCz ZDT ZDT ZA2 (ZAK ZAA (qv 1) ZA2 (fun _ _=>rfl)) (ZAQ ZAh (by rfl) ZAf (by decide +kernel) (ZA0 (qv 0) ZA1)))) (ZAJ rfl (ZAM (ZAU (ZA0 ZA2 (ZA0 (ZAK ZAA (qv 1) ZA2 (fun _ _=>rfl)) ZA1))))) ZAE)
   (ZAF rfl (ZAa (ZE5 (ZCz ZDT ZDT (ZAK ZAA (qv 1) ZA2 (fun _ _=>rfl)) (ZAK ZAA (qv 1) ZA2 (fun _ _=>rfl)) (ZAQ ZAh (by rfl) ZAf (by decide +kernel) (ZA0 (qv 0) ZA1)))) (ZAJ rfl (ZAM (ZAU (ZA0 ZA2 (ZA0 (ZAK ZAA (qv 1) ZA2 (fun _ _=>rfl)) ZA1))))) ZAE)
   (ZAJ rfl (ZAM ZCv)))) ZAE)
   (ZAF rfl (ZAa (ZA9 ZEk (ZAK ZAA (qv 1) ZA2 (fun _ _=>rfl)) (qv 0) (by with_unfolding_all rfl)) (ZAJ rfl (ZAM (ZAU (ZA0 ZA2 (ZA0 (ZAK ZAA (qv 1) ZA2 (fun _ _=>rfl)) ZA1))))) ZAE)
   (ZAF rfl (ZAa (ZEf (ZA9 ZBG (ZAK ZAA (qv 1) ZA2 (fun _ _=>rfl)) ZAR (ZAI _)) (ZDN (ZE5 (ZCz ZDT ZI8 ZA2 (ZAK ZAA (qv 1) ZA2 (fun _ _=>rfl)) (ZAQ ZAh (by rfl) ZAf (by decide +kernel) (ZA0 (qv 0) ZA1)))))).pt (ZAJ rfl (ZAM (ZAU (ZA0 ZA2 (ZA0 (ZAK ZAA (qv 1) ZA2 (fun _ _=>rfl)) ZA1))))) ZAE)
   (ZAJ rfl (ZAM ZCv)))))),?_⟩
 refine Fz.ZBb h ZHH ?_
 rintro _ _ ⟨ns,d,rfl,hs,rfl⟩
 show Ws [_,_] _ _ _
 cases d with
 | put x i=>
  unfold aP
  walk_at "ww"
  refine ZEU (by decide +kernel) ?_
  refine ZAZ (ZCW (ZDX (ZUO (ZLR ?_))))
  walk_at "ww"
  refine ⟨hs.1.2,?_⟩
  walk_at "ww"
  refine ZB4 (fun c1=>?_) (fun c1=>?_)
  ·walk_at "ww"
   refine ⟨by simp,.inr ⟨_,0,_,?_,.inl ⟨rfl,x,rfl,rfl⟩,rfl⟩⟩
   simp only [ZAV.due]
   rw [if_pos (by cases e:isNm x <;> simp_all)]
  have h1:¬ isNm x=false:=by cases e:isNm x <;> simp_all
  refine ZAC ?_
  walk_at "ww"
  refine ZB4 (fun c2=>?_) (fun c2=>?_)
  ·walk_at "ww"
   refine ⟨by simp,.inr ⟨_,1,_,?_,.inr (.inl ⟨rfl,x,rfl,rfl⟩),rfl⟩⟩
   simp only [ZAV.due]
   rw [if_neg h1,if_pos (of_decide_eq_true c2)]
  have h2:x∉ns:=fun z=>c2 (decide_eq_true z)
  have bad:¬ inR i 0 ns.length->ZAV.due ⟨ZA5,ZA8,ZAB,ZA3,ZAH⟩ ns (.put x i)=some (atX ZA3 i):=fun z=>by
   simp only [ZAV.due]
   rw [if_neg h1,if_neg h2,if_pos z]
  refine ZAC ?_
  refine ZAZ (ZCW (ZDX (ZAm (ZCV ?_))))
  walk_at "ww"
  refine ZB4 (fun c3=>?_) (fun c3=>?_)
  ·walk_at "ww"
   rw [List.length_map]
   refine ZB4 (fun c4=>?_) (fun c4=>?_)
   ·walk_at "ww"
    refine ⟨by simp,.inr ⟨_,3,_,bad fun z=>?_,.inr (.inr (.inr (.inl ⟨rfl,i,rfl,rfl⟩))),rfl⟩⟩
    rw [decide_eq_true z.2] at c4;cases c4
   have h3:inR i 0 ns.length:=⟨of_decide_eq_true c3,by
    cases e:decide (i<=(ns.length:Int)) with
    | true=>exact of_decide_eq_true e
    | false=>exact absurd (by rw [e];rfl) c4⟩
   refine ZAC ?_
   walk_at "ww"
   rw [List.length_map]
   refine ZB4 (fun c5=>?_) (fun c5=>?_)
   ·walk_at "ww"
    refine ⟨by simp,.inr ⟨_,9,_,?_,.inr (.inr (.inr (.inr ⟨rfl,rfl,rfl⟩))),rfl⟩⟩
    have q:=of_decide_eq_true c5
    simp only [ZAV.due]
    rw [if_neg h1,if_neg h2,if_neg (Decidable.not_not.mpr h3),if_pos (by omega)]
   ·have q:¬ (40:Int)<=ns.length:=fun z=>c5 (decide_eq_true z)
    refine ZAC ?_
    walk_at "ww"
    refine .inl ⟨?_,rfl⟩
    simp only [ZAV.due]
    rw [if_neg h1,if_neg h2,if_neg (Decidable.not_not.mpr h3),if_neg (by omega)]
  ·refine ⟨false,rfl,ZEU rfl ?_⟩
   walk_at "ww"
   exact ⟨by simp,.inr ⟨_,3,_,bad fun z=>c3 (decide_eq_true z.1),.inr (.inr (.inr (.inl ⟨rfl,i,rfl,rfl⟩))),rfl⟩⟩
 | turn lo hi=>
  unfold aP
  have bad:¬ inR lo 0 ns.length->ZAV.due ⟨ZA5,ZA8,ZAB,ZA3,ZAH⟩ ns (.turn lo hi)=some (atX ZA3 lo):=fun z=>by
   simp only [ZAV.due]
   rw [if_pos z]
  have bad2:inR lo 0 ns.length->¬ inR hi lo ns.length->ZAV.due ⟨ZA5,ZA8,ZAB,ZA3,ZAH⟩ ns (.turn lo hi)=some (atX ZA3 hi):=fun y z=>by
   simp only [ZAV.due]
   rw [if_neg (Decidable.not_not.mpr y),if_pos z]
  walk_at "ww"
  refine ZCx (by decide +kernel) ?_
  refine ZAC ?_
  walk_at "ww"
  refine ZEU (by decide +kernel) ?_
  refine ZAZ (ZCW (ZDX (ZAm (ZCV ?_))))
  walk_at "ww"
  refine ZB4 (fun c=>?_) (fun c=>?_)
  ·walk_at "ww"
   rw [List.length_map]
   refine ZB4 (fun c2=>?_) (fun c2=>?_)
   ·walk_at "ww"
    refine ⟨by simp,.inr ⟨_,3,_,bad fun z=>?_,.inr (.inr (.inr (.inl ⟨rfl,lo,rfl,rfl⟩))),rfl⟩⟩
    rw [decide_eq_true z.2] at c2;cases c2
   ·have h3:inR lo 0 ns.length:=⟨of_decide_eq_true c,by
     cases e:decide (lo<=(ns.length:Int)) with
     | true=>exact of_decide_eq_true e
     | false=>exact absurd (by rw [e];rfl) c2⟩
    refine ZAC ?_
    refine ZAZ (ZCW (ZDX (ZAm (ZCV ?_))))
    walk_at "ww"
    refine ZB4 (fun c3=>?_) (fun c3=>?_)
    ·walk_at "ww"
     rw [List.length_map]
     refine ZB4 (fun c4=>?_) (fun c4=>?_)
     ·walk_at "ww"
      refine ⟨by simp,.inr ⟨_,3,_,bad2 h3 fun z=>?_,.inr (.inr (.inr (.inl ⟨rfl,hi,rfl,rfl⟩))),rfl⟩⟩
      rw [decide_eq_true z.2] at c4;cases c4
     ·have h4:inR hi lo ns.length:=⟨of_decide_eq_true c3,by
       cases e:decide (hi<=(ns.length:Int)) with
       | true=>exact of_decide_eq_true e
       | false=>exact absurd (by rw [e];rfl) c4⟩
      refine ZAC ?_
      walk_at "ww"
      refine .inl ⟨?_,rfl⟩
      simp only [ZAV.due]
      rw [if_neg (Decidable.not_not.mpr h3),if_neg (Decidable.not_not.mpr h4)]
    ·refine ⟨false,rfl,ZEU rfl ?_⟩
     walk_at "ww"
     exact ⟨by simp,.inr ⟨_,3,_,bad2 h3 fun z=>c3 (decide_eq_true z.1),.inr (.inr (.inr (.inl ⟨rfl,hi,rfl,rfl⟩))),rfl⟩⟩
  ·refine ⟨false,rfl,ZEU rfl ?_⟩
   walk_at "ww"
   exact ⟨by simp,.inr ⟨_,3,_,bad fun z=>c (decide_eq_true z.1),.inr (.inr (.inr (.inl ⟨rfl,lo,rfl,rfl⟩))),rfl⟩⟩
 | take x=>
  unfold aP
  walk_at "ww"
  refine ZCx (by decide +kernel) ?_
  refine ZAC ?_
  walk_at "ww"
  refine ZCx (by decide +kernel) ?_
  refine ZAC ?_
  walk_at "ww"
  refine ZB4 (fun c=>?_) (fun c=>?_)
  ·walk_at "ww"
   refine ⟨by simp,.inr ⟨_,2,_,?_,.inr (.inr (.inl ⟨rfl,x,rfl,rfl⟩)),rfl⟩⟩
   simp only [ZAV.due]
   rw [if_pos (fun z=>by rw [decide_eq_true z] at c;cases c)]
  have hx:x∈ns:=by
   cases e:decide (x∈ns) with
   | true=>exact of_decide_eq_true e
   | false=>exact absurd (by rw [e];rfl) c
  refine ZAC ?_
  walk_at "ww"
  refine ZCx (by decide +kernel) (ZMM (ZAC ?_))
  walk_at "ww"
  refine .inl ⟨?_,rfl⟩
  simp only [ZAV.due]
  rw [if_neg (Decidable.not_not.mpr hx)]
 | move x i=>
  unfold aP
  walk_at "ww"
  refine ZCx (by decide +kernel) ?_
  refine ZAC ?_
  walk_at "ww"
  refine ZCx (by decide +kernel) ?_
  refine ZAC ?_
  walk_at "ww"
  refine ZB4 (fun c=>?_) (fun c=>?_)
  ·walk_at "ww"
   refine ⟨by simp,.inr ⟨_,2,_,?_,.inr (.inr (.inl ⟨rfl,x,rfl,rfl⟩)),rfl⟩⟩
   simp only [ZAV.due]
   rw [if_pos (fun z=>by rw [decide_eq_true z] at c;cases c)]
  have hx:x∈ns:=by
   cases e:decide (x∈ns) with
   | true=>exact of_decide_eq_true e
   | false=>exact absurd (by rw [e];rfl) c
  have bad:¬ inR i 0 (ns.length - 1)->ZAV.due ⟨ZA5,ZA8,ZAB,ZA3,ZAH⟩ ns (.move x i)=some (atX ZA3 i):=fun z=>by
   simp only [ZAV.due]
   rw [if_neg (Decidable.not_not.mpr hx),if_pos z]
  refine ZAC ?_
  walk_at "ww"
  refine ZEU (by decide +kernel) ?_
  refine ZDX (ZAm (ZCV ?_))
  walk_at "ww"
  refine ZB4 (fun c3=>?_) (fun c3=>?_)
  ·walk_at "ww"
   rw [List.length_map]
   refine ZB4 (fun c4=>?_) (fun c4=>?_)
   ·walk_at "ww"
    refine ⟨by simp,.inr ⟨_,3,_,bad fun z=>?_,.inr (.inr (.inr (.inl ⟨rfl,i,rfl,rfl⟩))),rfl⟩⟩
    have:=z.2
    rw [decide_eq_true (by omega)] at c4;cases c4
   have h3:i < (ns.length:Int):=by
    cases e:decide (i < (ns.length:Int)) with
    | true=>exact of_decide_eq_true e
    | false=>exact absurd (by rw [e];rfl) c4
   refine ZAC ?_
   walk_at "ww"
   refine .inl ⟨?_,rfl⟩
   simp only [ZAV.due]
   rw [if_neg (Decidable.not_not.mpr hx),if_neg (Decidable.not_not.mpr ⟨of_decide_eq_true c3,by omega⟩)]
  ·refine ⟨false,rfl,ZEU rfl ?_⟩
   walk_at "ww"
   exact ⟨by simp,.inr ⟨_,3,_,bad fun z=>c3 (decide_eq_true z.1),.inr (.inr (.inr (.inl ⟨rfl,i,rfl,rfl⟩))),rfl⟩⟩
theorem ZAX:ZAP ["row", "one", "other", "trial", "ones", "others", "entry", "name"] ["row", "one", "other", "trial"] (ZA4 ZBB):=⟨rfl,rfl,rfl,by decide +kernel,rfl,by decide +kernel,by decide +kernel⟩
theorem ZDJ {ZAH:Addr}{ZAB:Addr}{ZA5:Addr}{ZA3:Addr}{ZA8:Addr}:∀ ss R,(ZDa ⟨ZA5,ZA8,ZAB,ZA3,ZAH⟩) ss R->ss.length=4:=by rintro _ _ ⟨ns,l1,l2,es,rfl,_,rfl⟩;rfl
theorem ZFv {ZAH:Addr}{ZAB:Addr}{ZA5:Addr}{ZA3:Addr}{ZA8:Addr}(F:Fun K "_law_done_trial" "_law_done_trial" ZBB f fd) (bd:Binds K fd ["row", "one", "other", "trial"] []) (m:mg "_law_done_trial" = some (.ref f)) (ZCh:Has P w K mg base "_law_done" 1 ["row", "deed"] (ZJl)) (ZGr:Has P w K mg base "_law_due" 2 ["row", "deed"] (spF (ZN2 ⟨ZA5,ZA8,ZAB,ZA3,ZAH⟩))) (ZFA:Has P w K mg base "_law_led" 2 ["row", "loop", "deed"] (ZMS)) (ZEH:Has P w K mg base "_law_step" 1 ["row", "loop"] (ZJp)) :
  Has P w K mg base "_law_done_trial" 3 ["row", "one", "other", "trial"] (spF (ZDa ⟨ZA5,ZA8,ZAB,ZA3,ZAH⟩)):=by
 refine Has.mk F bd m (F.okq (k:=2) ZAX (fun vs H Q E h=>Fz.ZAx ZDJ h) (fun cdv A outer s H vs Q E hr h=>?_))
 refine ⟨_,(ZAF rfl (ZAL (i:=4) ZAX.nd rfl (Or.inl rfl) (ZBV ZA1))
   (ZAF rfl (ZAL (i:=5) ZAX.nd rfl (Or.inl rfl) (ZBV ZA1))
   (ZAF rfl (ZAv (ZHB PassesOwn.never rfl (ZGY (qv 3)) (ZBD (i:=6) ZAX.nd rfl (Or.inl rfl)) (ZAJ rfl (ZAa (ZA9 (Fz.ZIJ hr.units) (qv 6) (ZAU (ZA0 ZAR ZA1)) (ZAI _)) (ZAF rfl (ZGQ (ZAS ZEH hr (by decide) (ZA0 (qv 0) (ZA0 (qv 1) ZA1))) (ZIA rfl (ZBQ (ZBD (i:=7) ZAX.nd rfl (Or.inl rfl)) (ZBQ (ZBD (i:=1) ZAX.nd rfl (Or.inl rfl)) ZFj))))
   (ZAF rfl (ZB7 (ZEV PySem.F.plainAttrs_list PySem.F.slot_list_append PySem.F.type_list_append ZBy (qv 4) (ZA0 (qv 7) ZA1)))
   (ZAF rfl (ZGQ (ZAS ZEH hr (by decide) (ZA0 (qv 0) (ZA0 (qv 2) ZA1))) (ZIA rfl (ZBQ (ZBD (i:=7) ZAX.nd rfl (Or.inl rfl)) (ZBQ (ZBD (i:=2) ZAX.nd rfl (Or.inl rfl)) ZFj))))
   (ZAJ rfl (ZB7 (ZEV PySem.F.plainAttrs_list PySem.F.slot_list_append PySem.F.type_list_append ZBy (qv 5) (ZA0 (qv 7) ZA1))))))) (ZAF rfl (ZAa (ZA9 ZMW (ZAS ZGr hr (by decide) (ZA0 (qv 0) (ZA0 (qv 6) ZA1))) ZCv (ZAI _)) (ZAJ rfl (ZAM ZCv)) ZAE)
   (ZAF rfl (ZAL (i:=1) ZAX.nd rfl (Or.inl rfl) (ZAS ZFA hr (by decide) (ZA0 (qv 0) (ZA0 (qv 1) (ZA0 (qv 6) ZA1)))))
   (ZAF rfl (ZAL (i:=2) ZAX.nd rfl (Or.inl rfl) (ZAS ZFA hr (by decide) (ZA0 (qv 0) (ZA0 (qv 2) (ZA0 (qv 6) ZA1)))))
   (ZAJ rfl (ZAL (i:=0) ZAX.nd rfl (Or.inl rfl) (ZAS ZCh hr (by decide) (ZA0 (qv 0) (ZA0 (qv 6) ZA1))))))))))))
   (ZAJ rfl (ZAM (ZAU (ZA0 (qv 4) (ZA0 (qv 5) ZA1)))))))),?_⟩
 refine Fz.ZBb h ZDJ ?_
 rintro _ _ ⟨ns,l1,l2,es,rfl,ok,rfl⟩
 show Ws [_,_,_,_,.any,.any,.any,.any] _ _ _
 refine ZAZ (ZCb (ZDu (ZBO ⟨by simp,?_⟩)))
 refine ZAZ (ZCb (ZDu (ZBO ⟨by simp,?_⟩)))
 refine ZAZ (ZBv (ZJR (fun _ i ss'=>∃ (ns':List Str) (k1 k2:Lp) (a b:List (Option Str)) (s0 s6 s7:Slot),ZUv s0 false ns'/\TI ⟨ZA5,ZA8,ZAB,ZA3,ZAH⟩ ns l1 es i ns' k1 a/\TI ⟨ZA5,ZA8,ZAB,ZA3,ZAH⟩ ns l2 es i ns' k2 b/\ss'=[s0,.is k1.P,.is k2.P,.sq false (es.map etP),.own (a.map ZCi),.own (b.map ZCi),s6,s7]) ?_))
 walk_at "ww"
 refine ⟨⟨ns,l1,l2,[],[],_,_,_,.inl rfl,TI.zero ok.row ok.g1,TI.zero ok.row ok.g2,rfl⟩,?_,?_⟩
 ·rintro i p ss' hp ⟨ns',k1,k2,a,b,s0,s6,s7,hs0,t1,t2,rfl⟩
  rw [List.getElem?_map] at hp
  cases he:es[i]? with
  | none=>rw [he] at hp;cases hp
  | some e=>
  rw [he] at hp
  cases hp
  have rl:=t1.row.len
  have h1:=t1.len
  have h2:=t2.len
  have h3:=ok.len
  have h4:=(List.getElem?_eq_some_iff.mp he).1
  refine ZIf ?_
  refine ZCW (ZAm (ZHD (ZAG rfl (ZE1 (ZAl (ZJS (ZBO ⟨by simp,ZId K 39 e,ZId K 39 .stp,_,rfl,?_⟩)))))))
  rw [ZOm]
  cases e with
  | stp=>
   refine ZEU rfl ?_
   refine ZAZ (ZMP (ZNQ (ZCu rfl hs0 ⟨rfl,ns',rfl,ZAG rfl ⟨k1.r,k1.g,k1.cs,rfl,t1.gd,by omega,?_⟩⟩)))
   rw [ZK7]
   refine ZKc ⟨_,_,rfl,?_⟩
   refine ZAZ (ZDQ rfl (ZAG rfl ⟨by rw [List.length_map];omega,?_⟩))
   refine ZAZ (ZMP (ZNQ (ZCu rfl hs0 ⟨rfl,ns',rfl,ZAG rfl ⟨k2.r,k2.g,k2.cs,rfl,t2.gd,by omega,?_⟩⟩)))
   rw [ZK7]
   refine ZKc ⟨_,_,rfl,?_⟩
   refine ZDQ rfl (ZAG rfl ⟨by rw [List.length_map];omega,?_⟩)
   exact ⟨ns',_,_,_,_,s0,_,_,hs0,t1.stp he,t2.stp he,by rw [List.map_append,List.map_append];rfl⟩
  | ZHp d=>
   refine ZCx (fun z=>by cases z) ?_
   have sy:d.say:=ok.say (.ZHp d) (List.mem_of_getElem? he)
   refine ZAZ (ZCW (ZAm (ZKt (wp_call (ZB2 (ZCu rfl hs0 (ZAb (ZAG rfl (ZAd ⟨_,⟨ns',d,rfl,sy,rfl⟩,?_⟩)))))))))
   rintro _ (⟨hd,rfl⟩ | ⟨e,j,v,hd,hJ,rfl⟩)
   ·refine ZCw ⟨rfl,_,rfl,ZCx (by decide) (ZAC ?_)⟩
    obtain ⟨d',hd'⟩:=ZAV.good hd
    have e4:etP (.ZHp d)=dP d':=hd'.1
    rw [e4]
    refine ZAZ (ZC1 (ZPA (ZCu rfl hs0 ⟨rfl,ns',rfl,ZAG rfl ⟨k1.r,k1.g,k1.cs,rfl,ZAG rfl ⟨d',rfl,hd'.2,t1.gd,rl,?_⟩⟩⟩)))
    refine ZAZ (ZC1 (ZPA (ZCu rfl hs0 ⟨rfl,ns',rfl,ZAG rfl ⟨k2.r,k2.g,k2.cs,rfl,ZAG rfl ⟨d',rfl,hd'.2,t2.gd,rl,?_⟩⟩⟩)))
    refine ZCb (ZJv (ZCu rfl hs0 ⟨rfl,ns',rfl,ZAG rfl ⟨d',rfl,hd'.2,rl,t1.row.nd,?_⟩⟩))
    exact ⟨_,k1.led ns' d',k2.led ns' d',a,b,_,_,_,.inr ⟨rfl,.inr rfl⟩,t1.ZHp he hd',t2.ZHp he hd',rfl⟩
   ·refine ZCw ⟨rfl,_,rfl,ZEU rfl ?_⟩
    exact ZBF (ZCw (.inl ⟨t1.bad he hd,t2.bad he hd,rfl⟩))
 ·rintro ss' ⟨ns',k1,k2,a,b,s0,s6,s7,hs0,t1,t2,rfl⟩
  rw [List.length_map] at t1 t2
  have h1:=t1.len
  have h2:=t2.len
  refine ZDz 4 rfl (ZDz 5 rfl ?_)
  exact ZBF (ZE1 (ZAl (ZAG rfl (ZAl (ZAG rfl (ZBO ⟨by simp,.inr ⟨a,b,t1.fin,t2.fin,h1,h2,rfl⟩⟩))))))
theorem ZGM:ZAP ["row", "one", "other", "trial", "found"] ["row", "one", "other", "trial"] (ZA4 ZCI):=⟨rfl,rfl,rfl,by decide +kernel,rfl,by decide +kernel,by decide +kernel⟩
theorem ZFK {ZAH:Addr}{ZAB:Addr}{ZA5:Addr}{ZA3:Addr}{ZA8:Addr}:∀ ss R,(ZHd ⟨ZA5,ZA8,ZAB,ZA3,ZAH⟩) ss R->ss.length=4:=by rintro _ _ ⟨ns,l1,l2,es,rfl,_,rfl⟩;rfl
theorem ZKa {ZAH:Addr}{ZAB:Addr}{ZA5:Addr}{ZA3:Addr}{ZA8:Addr}(F:Fun K "_law_parts" "_law_parts" ZCI f fd) (bd:Binds K fd ["row", "one", "other", "trial"] []) (m:mg "_law_parts" = some (.ref f)) (ZB9:Has P w K mg base "_law_done_trial" 3 ["row", "one", "other", "trial"] (spF (ZDa ⟨ZA5,ZA8,ZAB,ZA3,ZAH⟩))) (ZAf:mg "len" = none) :
  Has P w K mg base "_law_parts" 4 ["row", "one", "other", "trial"] (spF (ZHd ⟨ZA5,ZA8,ZAB,ZA3,ZAH⟩)):=by
 refine Has.mk F bd m (F.okq (k:=3) ZGM (fun vs H Q E h=>Fz.ZAx ZFK h) (fun cdv A outer s H vs Q E hr h=>?_))
 refine ⟨_,(ZAF rfl (ZAa (ZJo (ZA9 (ZSQ hr.ZEn) (qv 3) (ZBV ZA1) (ZAI _)) (ZJo (ZA9 ZPo (ZAQ ZAh (by rfl) ZAf (by decide +kernel) (ZA0 (qv 3) ZA1)) ZA2 (ZAI _)) (ZIM (ZA9 (Fz.ZLs hr.units) (ZAK ZAz (qv 3) (ZI3 ZEz ZA2) (fun _ _=>rfl)) (ZAU (ZA0 ZAR ZA1)) (ZAI _))))).pt (ZAJ rfl (ZAM ZCv)) ZAE)
   (ZAF rfl (ZAL (i:=4) ZGM.nd rfl (Or.inl rfl) (ZAS ZB9 hr (by decide) (ZA0 (qv 0) (ZA0 (qv 1) (ZA0 (qv 2) (ZA0 (qv 3) ZA1))))))
   (ZAF rfl (ZAa (ZJo (ZA9 ZSP (qv 4) ZCv (ZAI _)) (ZJo (ZA9 (Fz.ZLs hr.units) (ZAq ZCs (ZAK ZAA (qv 4) ZA2 (fun _ _=>rfl)) ZBM (ZB0 (ZI3 ZEz ZA2))) (ZAq ZCs (ZAK ZAA (qv 4) ZA2 (fun _ _=>rfl)) ZBM (ZB0 (ZI3 ZEz ZA2))) (ZAI _)) (ZIM (ZA9 (Fz.ZIJ hr.units) (ZAK ZAA (qv 4) ZA2 (fun _ _=>rfl)) (ZAK ZAA (qv 4) ZA2 (fun _ _=>rfl)) (ZAI _))))).pt (ZAJ rfl (ZAM ZCv)) ZAE)
   (ZAJ rfl (ZAM (qv 4)))))),?_⟩
 refine Fz.ZBb h ZFK ?_
 rintro _ _ ⟨ns,l1,l2,es,rfl,ok,rfl⟩
 show Ws [_,_,_,_,.any] _ _ _
 have no:¬ (es.length<=100/\es.getLast?=some .stp)->PaR ⟨ZA5,ZA8,ZAB,ZA3,ZAH⟩ ns l1 l2 es .non:=fun z=>.inl ⟨rfl,fun a b q=>z ⟨q.1,q.2.1⟩⟩
 walk_at "ww"
 rw [List.length_map]
 refine ⟨by simp,_,.inl ⟨rfl,rfl,rfl,_,rfl,ZB4 (fun c=>ZEU rfl (ZBF (ZCw (no fun z=>?_)))) (fun c=>?_)⟩⟩
 ·have e:es=[]:=List.length_eq_zero_iff.mp (of_decide_eq_true c)
  rw [e] at z;cases z.2
 have hne:es≠[]:=fun z=>c (by rw [z];rfl)
 obtain ⟨x,hx⟩:∃ x,es.getLast?=some x:=⟨es.getLast hne,List.getLast?_eq_some_getLast hne⟩
 have n1:L2.atI (es.map etP) (-1)=some (etP x):=ZFy (by rw [List.getLast?_map,hx];rfl)
 refine ZN6 (ZAm ?_)
 walk_at "ww"
 rw [List.length_map]
 refine ZB4 (fun c2=>ZEU rfl (ZBF (ZCw (no fun z=>?_)))) (fun c2=>?_)
 ·have:=z.1
  have:=of_decide_eq_true c2
  omega
 have h100:es.length<=100:=Decidable.byContradiction fun z=>c2 (decide_eq_true (by omega))
 refine ZAm (ZI7 (ZFu (ZBl rfl ⟨rfl,ZJQ (ZCm ⟨_,rfl,_,_,rfl,n1,?_⟩)⟩)))
 refine ZE1 (ZAl (ZJS (ZBO ⟨by simp,ZId K 39 x,ZId K 39 .stp,_,rfl,?_⟩)))
 rw [ZOm]
 cases x with
 | ZHp d=>exact ZEU rfl (ZBF (ZCw (no fun z=>by rw [z.2] at hx;cases hx)))
 | stp=>
 refine ZCx (fun z=>by cases z) (ZAC ?_)
 refine ZAZ (ZC1 (wp_call (ZB2 (ZBl rfl (ZAb (ZAG rfl (ZAb (ZAG rfl (ZB2 (ZBl rfl (ZAd ⟨_,⟨ns,l1,l2,es,rfl,ok,rfl⟩,?_⟩)))))))))))
 rintro _ (⟨t1,t2,rfl⟩ | ⟨a,b,t1,t2,z1,z2,rfl⟩)
 ·refine ZAZ (ZCW (ZN6 (ZAm (ZKD (ZAG rfl (ZCw ⟨rfl,_,rfl,ZEU rfl (ZEU rfl (ZBF (ZCw (.inl ⟨rfl,fun a b q=>?_⟩))))⟩))))))
  rw [q.2.2.1] at t1;cases t1
 ·refine ZAZ (ZCW (ZN6 (ZAm (ZKD (ZAG rfl (ZCw ⟨rfl,_,rfl,ZCx (by simp [ZQr,ZLq]) ?_⟩))))))
  unfold ZQr
  refine ZN6 (ZAm (ZI7 ?_))
  walk_at "ww"
  rw [ZHo,ZHm]
  walk_at "ww"
  rw [ZHo,ZHm,ZI6]
  refine ⟨ZCU K 39 _,ZCU K 39 _,_,rfl,ZB4 (fun c3=>ZEU rfl (ZBF (ZCw (.inl ⟨rfl,fun a' b' q=>?_⟩)))) (fun c3=>?_)⟩
  ·obtain ⟨_,_,q1,q2,q3,_⟩:=q
   rw [t1] at q1;rw [t2] at q2;cases q1;cases q2
   rw [decide_eq_true q3] at c3;cases c3
  have hd:a.dropLast=b.dropLast:=by
   cases e:decide (a.dropLast=b.dropLast) with
   | true=>exact of_decide_eq_true e
   | false=>exact absurd (by rw [e];rfl) c3
  refine ZAm (ZHD ?_)
  walk_at "ww"
  rw [ZI6]
  refine ⟨ZCU K 39 _,ZCU K 39 _,_,rfl,ZB4 (fun c4=>ZBF (ZCw (.inl ⟨rfl,fun a' b' q=>?_⟩))) (fun c4=>ZAC ?_)⟩
  ·obtain ⟨_,_,q1,q2,_,q3⟩:=q
   rw [t1] at q1;rw [t2] at q2;cases q1;cases q2
   exact q3 (of_decide_eq_true c4)
  exact ZBF (ZAG rfl (.inr ⟨a,b,⟨h100,hx,t1,t2,hd,fun z=>c4 (decide_eq_true z)⟩,rfl⟩))
theorem ZBE:ZAP ["pot", "row", "one", "other", "some", "now", "k", "way"] ["pot", "row", "one", "other"] (ZA4 ZBh):=⟨rfl,rfl,rfl,by decide +kernel,rfl,by decide +kernel,by decide +kernel⟩
theorem ZEQ  : ∀ ss R,ZEp ss R->ss.length=4:=by rintro _ _ ⟨ns,l1,l2,rfl,_,_,_,rfl⟩;rfl
theorem ZIq {ZAH:Addr}{ZAB:Addr}{ZA5:Addr}{ZA3:Addr}{ZA8:Addr}(F:Fun K "_law_entries" "_law_entries" ZBh f fd) (bd:Binds K fd ["pot", "row", "one", "other"] []) (m:mg "_law_entries" = some (.ref f)) (ZDL:Has P w K mg base "_law_any_deed" 3 ["pot", "row"] (spF ZGW)) (ZFn:Has P w K mg base "_law_deed" 3 ["pot", "row", "most"] (ZPS)) (ZCh:Has P w K mg base "_law_done" 1 ["row", "deed"] (ZJl)) (ZCF:Has P w K mg base "_law_parts" 4 ["row", "one", "other", "trial"] (spF (ZHd ⟨ZA5,ZA8,ZAB,ZA3,ZAH⟩))) (ZA7:Has P w K mg base "_law_take" 1 ["pot", "many"] (ZEx)) (ZAf:mg "len" = none) (ZDf:mg "range" = none) :
  Has P w K mg base "_law_entries" 5 ["pot", "row", "one", "other"] (spF ZEp):=by
 refine Has.mk F bd m (F.okq (k:=4) ZBE (fun vs H Q E h=>Fz.ZAx ZEQ h) (fun cdv A outer s H vs Q E hr h=>?_))
 refine ⟨_,(ZAF rfl (ZAL (i:=4) ZBE.nd rfl (Or.inl rfl) (ZBV ZA1))
   (ZAF rfl (ZAL (i:=5) ZBE.nd rfl (Or.inl rfl) (qv 1))
   (ZAF rfl (ZAv (ZHB PassesOwn.never rfl (ZFs rfl ZDf (ZA0 (ZAc ZBc ZA2 (ZAS ZA7 hr (by decide) (ZA0 (qv 0) (ZA0 ZA2 ZA1)))) ZA1)) (ZBD (i:=6) ZBE.nd rfl (Or.inl rfl)) (ZAJ rfl (ZAa (ZA9 ZBG (ZAS ZA7 hr (by decide) (ZA0 (qv 0) (ZA0 ZA2 ZA1))) ZA2 (ZAI _)) (ZAJ rfl (ZB7 (ZEV PySem.F.plainAttrs_list PySem.F.slot_list_append PySem.F.type_list_append ZBy (qv 4) (ZA0 (ZAU (ZA0 ZAR ZA1)) ZA1)))) (ZAF rfl (ZB7 (ZEV PySem.F.plainAttrs_list PySem.F.slot_list_append PySem.F.type_list_append ZBy (qv 4) (ZA0 (ZAS ZFn hr (by decide) (ZA0 (qv 0) (ZA0 (qv 5) (ZA0 ZA2 ZA1)))) ZA1)))
   (ZAJ rfl (ZAL (i:=5) ZBE.nd rfl (Or.inl rfl) (ZAS ZCh hr (by decide) (ZA0 (qv 5) (ZA0 (ZAK ZAz (qv 4) (ZI3 ZEz ZA2) (fun _ _=>rfl)) ZA1))))))))))
   (ZAF rfl (ZAL (i:=7) ZBE.nd rfl (Or.inl rfl) (ZAS ZA7 hr (by decide) (ZA0 (qv 0) (ZA0 ZA2 ZA1))))
   (ZAF rfl (ZAv (ZAa (ZA9 ZBG (qv 7) ZA2 (ZAI _)) (ZAF rfl (ZB7 (ZEV PySem.F.plainAttrs_list PySem.F.slot_list_append PySem.F.type_list_append ZBy (qv 4) (ZA0 (ZAS ZDL hr (by decide) (ZA0 (qv 0) (ZA0 (qv 5) ZA1))) ZA1)))
   (ZAJ rfl (ZB7 (ZEV PySem.F.plainAttrs_list PySem.F.slot_list_append PySem.F.type_list_append ZBy (qv 4) (ZA0 (ZAU (ZA0 ZAR ZA1)) ZA1))))) ZAE))
   (ZAF rfl (ZAv (ZAa (ZA9 ZPo (qv 7) ZA2 (ZAI _)) (ZAF rfl (ZB7 (ZEV PySem.F.plainAttrs_list PySem.F.slot_list_extend PySem.F.type_list_extend ZPm (qv 4) (ZA0 (ZAc ZSA (ZBV (ZA0 (ZAU (ZA0 ZAR ZA1)) ZA1)) (ZAc ZBc (ZAQ ZAh (by rfl) ZAf (by decide +kernel) (ZA0 (ZAK ZAA (qv 2) ZA2 (fun _ _=>rfl)) ZA1)) ZA2)) ZA1)))
   (ZAJ rfl (ZHB PassesOwn.never rfl (ZFs rfl ZDf (ZA0 (ZAQ ZAh (by rfl) ZAf (by decide +kernel) (ZA0 (qv 4) ZA1)) ZA1)) (ZBD (i:=6) ZBE.nd rfl (Or.inl rfl)) (ZAJ rfl (ZAa (ZA9 ZMW (ZAS ZCF hr (by decide) (ZA0 (qv 1) (ZA0 (qv 2) (ZA0 (qv 3) (ZA0 (ZAq ZCs (qv 4) ZBM (ZB0 (ZAc ZBc (qv 6) ZA2))) ZA1))))) ZCv (ZAI _)) (ZAJ rfl (ZAM (ZAq ZCs (qv 4) ZBM (ZB0 (ZAc ZBc (qv 6) ZA2))))) ZAE))))) ZAE))
   (ZAJ rfl (ZAM (qv 4))))))))),?_⟩
 refine Fz.ZBb h ZEQ ?_
 rintro _ _ ⟨ns,l1,l2,rfl,ro,q1,q2,rfl⟩
 show Ws [_,_,_,_,.any,.any,.any,.any] _ _ _
 refine ZAZ (ZCb (ZDu (ZBO ⟨by simp,?_⟩)))
 refine ZAZ (ZC1 (ZAG rfl ?_))
 refine ZBi (fun ss'=>∃ (es:List Et) (m:List Str) (s5 s6:Slot),ss'=[.pot,.is (.lst (ns.map .str)),.is l1.P,.is l2.P,.own (es.map etP),s5,s6,.any]/\ZUv s5 false m/\ZHY 40 m/\(∀ e∈es,e.say)/\es.length<=12) ?_ ?_
 ·refine ZBv (ZJR (fun xs i ss'=>∃ (es:List Et) (m:List Str) (s5 s6:Slot),ss'=[.pot,.is (.lst (ns.map .str)),.is l1.P,.is l2.P,.own (es.map etP),s5,s6,.any]/\ZUv s5 false m/\ZHY 40 m/\(∀ e∈es,e.say)/\es.length=i/\xs.length<=12) ?_)
  walk_at "ww"
  refine ⟨by decide,by decide,fun r r0 r1=>?_⟩
  walk_at "ww"
  refine ⟨by omega,by omega,⟨[],ns,_,_,rfl,.inr ⟨rfl,.inl rfl⟩,ro,fun e h=>absurd h List.not_mem_nil,rfl,by rw [ZG9];omega⟩,?_,?_⟩
  ·rintro i p ss' hp ⟨es,m,s5,s6,rfl,hm,rm,hs,hi,hx⟩
   obtain ⟨hk,rfl⟩:=ZME hp
   refine ZIf ?_
   walk_at "ww"
   refine ⟨by decide,by decide,fun t t0 t1=>?_⟩
   walk_at "ww"
   refine ZB4 (fun c=>?_) (fun c=>?_)
   ·refine ZDQ rfl (ZE1 (ZAl (ZJS (ZBO ⟨by simp,by rw [List.length_map];omega,es++[.stp],m,_,_,by rw [List.map_append];rfl,hm,rm,?_,by rw [List.length_append];show _+1=_;omega,hx⟩))))
    intro e he
    rcases List.mem_append.mp he with he | he
    ·exact hs e he
    ·rw [List.mem_singleton.mp he];trivial
   ·refine ZAZ (ZDQ rfl (ZQP rfl (ZCu rfl hm ⟨rfl,m,rfl,ZCm ⟨40,rfl,rm.nm,rm.len,by decide,by decide,fun d hd=>⟨by rw [List.length_map];omega,?_⟩⟩⟩)))
    refine ZCb (ZJv (ZCu rfl hm ⟨rfl,m,rfl,ZFu (ZNz rfl ⟨rfl,ZJQ (ZCm ⟨_,rfl,_,_,rfl,ZNs _ _,d,rfl,hd,rm.len,rm.nd,?_⟩)⟩)⟩))
    refine ⟨es++[.ZHp (ZQH d)],d.done m,_,_,by rw [List.map_append,<- ZUR d];rfl,.inr ⟨rfl,.inr rfl⟩,rm.done hd,?_,by rw [List.length_append];show _+1=_;omega,hx⟩
    intro e he
    rcases List.mem_append.mp he with he | he
    ·exact hs e he
    ·rw [List.mem_singleton.mp he];exact ZS6 hd rm.nm rm.len
  ·rintro ss' ⟨es,m,s5,s6,rfl,hm,rm,hs,hi,hx⟩
   exact ⟨es,m,s5,s6,rfl,hm,rm,hs,by omega⟩
 rintro _ ⟨es,m,s5,s6,rfl,hm,rm,hs,hl⟩
 walk_at "ww"
 refine ⟨by decide,by decide,fun w w0 w1=>?_⟩
 refine ZBi (fun ss'=>∃ (es:List Et) (s6:Slot),ss'=[.pot,.is (.lst (ns.map .str)),.is l1.P,.is l2.P,.own (es.map etP),s5,s6,.is (.int w)]/\(∀ e∈es,e.say)/\es.length<=14) ?_ ?_
 ·refine ZBv ?_
  walk_at "ww"
  refine ZB4 (fun c=>?_) (fun c=>ZAC ⟨es,_,rfl,hs,by omega⟩)
  refine ZAZ (ZDQ rfl (ZNd rfl (ZB2 (ZCu rfl hm (ZAd ⟨_,⟨m,rfl,rm.len,rm.nm,rfl⟩,?_⟩)))))
  rintro _ ⟨d,rfl,hd⟩
  refine ⟨by rw [List.length_map];omega,?_⟩
  refine ZDQ rfl (ZE1 (ZAl (ZJS (ZBO ⟨by simp,by rw [List.length_append,List.length_map];show _+1<=_;omega,es++[.ZHp d]++[.stp],_,by rw [List.map_append,List.map_append];rfl,?_,by rw [List.length_append,List.length_append];show _+1+1<=_;omega⟩))))
  intro e he
  rcases List.mem_append.mp he with he | he
  ·rcases List.mem_append.mp he with he | he
   ·exact hs e he
   ·rw [List.mem_singleton.mp he];exact hd
  ·rw [List.mem_singleton.mp he];trivial
 rintro _ ⟨es,s6,rfl,hs,hl⟩
 refine ZBi (fun ss'=>∃ (es:List Et) (s6:Slot),ss'=[.pot,.is (.lst (ns.map .str)),.is l1.P,.is l2.P,.own (es.map etP),s5,s6,.is (.int w)]/\(∀ e∈es,e.say)/\es.length<=100) ?_ ?_
 ·refine ZBv ?_
  walk_at "ww"
  refine ZB4 (fun c=>?_) (fun c=>ZAC ⟨es,_,rfl,hs,by omega⟩)
  have cl:=ZBW.len q1
  have rl:=ro.len
  unfold Lp.P ZD1
  refine ZAZ (ZQf rfl (ZSU ?_))
  walk_at "ww"
  refine ⟨by simp,ZBO ⟨by simp,_,.inl ⟨rfl,rfl,?_⟩⟩⟩
  walk_at "ww"
  rw [List.length_map]
  obtain ⟨n,hn⟩:∃ n:Nat,n=((l1.cs.length:Int)+1).toNat:=⟨_,rfl⟩
  refine ⟨by omega,by omega,by simp,?_⟩
  rw [ZPl,<- hn]
  obtain ⟨e2,he2⟩:∃ e2:List Et,e2=es++List.replicate n .stp:=⟨_,rfl⟩
  have ee:es.map etP++List.replicate n (PV.tup [.str "step"])=e2.map etP:=by rw [he2,List.map_append,List.map_replicate];rfl
  refine ⟨by rw [List.length_map,List.length_replicate];omega,?_⟩
  rw [ee]
  have hs2:∀ e∈e2,e.say:=fun e he=>by
   rw [he2] at he
   rcases List.mem_append.mp he with he | he
   ·exact hs e he
   ·rw [(List.mem_replicate.mp he).2];trivial
  have l2l:e2.length<=60:=by rw [he2,List.length_append,List.length_replicate];omega
  refine ZJR (fun _ _ ss'=>∃ s6:Slot,ss'=[.pot,.is (.lst (ns.map .str)),.is l1.P,.is l2.P,.own (e2.map etP),s5,s6,.is (.int w)]) ?_
  walk_at "ww"
  rw [List.length_map]
  refine ⟨by omega,by omega,⟨_,rfl⟩,?_,?_⟩
  ·rintro k p ss' hp ⟨s6,rfl⟩
   obtain ⟨hk,rfl⟩:=ZME hp
   refine ZIf ?_
   refine ZCW (ZAm (ZKt (wp_call (ZB2 (ZCH rfl (ZAb (ZAG rfl (ZAb (ZAG rfl (ZB2 ?_))))))))))
   walk_at "ww"
   rw [show ((k:Int)+1)=((k+1:Nat):Int) by omega,ZJi,<- List.map_take]
   refine ZAd ⟨_,⟨ns,l1,l2,e2.take (k+1),rfl,⟨ro,q1,q2,fun e he=>hs2 e (List.mem_of_mem_take he),by rw [List.length_take];omega⟩,rfl⟩,?_⟩
   intro p _
   refine ZCw ⟨rfl,_,rfl,ZB4 (fun c=>?_) (fun c=>ZAC ⟨_,rfl⟩)⟩
   walk_at "ww"
   rw [show ((k:Int)+1)=((k+1:Nat):Int) by omega,ZJi]
   exact ⟨fun e he=>hs2 e (List.mem_of_mem_take he),by rw [List.length_take];omega⟩
  ·rintro ss' ⟨s6,rfl⟩
   exact ⟨e2,s6,rfl,hs2,by omega⟩
 rintro _ ⟨es,s6,rfl,hs,hl⟩
 exact ZKo rfl ⟨es,rfl,hs,hl⟩
theorem ZCj:ZAP ["pot", "names", "made", "way", "at"] ["pot", "names"] (ZA4 ZBs):=⟨rfl,rfl,rfl,by decide +kernel,rfl,by decide +kernel,by decide +kernel⟩
theorem ZEv  : ∀ ss R,ZFm ss R->ss.length=2:=by rintro _ _ ⟨a,rfl,_,rfl⟩;rfl
theorem ZJ9 (F:Fun K "_law_spoilt" "_law_spoilt" ZBs f fd) (bd:Binds K fd ["pot", "names"] []) (m:mg "_law_spoilt" = some (.ref f)) (ZA7:Has P w K mg base "_law_take" 1 ["pot", "many"] (ZEx)) (ZAf:mg "len" = none) (ZBk:mg "list" = none) :
  Has P w K mg base "_law_spoilt" 2 ["pot", "names"] (spF ZFm):=by
 refine Has.mk F bd m (F.okq (k:=1) ZCj (fun vs H Q E h=>Fz.ZAx ZEv h) (fun cdv A outer s H vs Q E hr h=>?_))
 refine ⟨_,(ZAF rfl (ZAL (i:=2) ZCj.nd rfl (Or.inl rfl) (ZAi ZB8 (by rfl) ZBk (by decide +kernel) (ZA0 (qv 1) ZA1)))
   (ZAF rfl (ZAL (i:=3) ZCj.nd rfl (Or.inl rfl) (ZAS ZA7 hr (by decide) (ZA0 (qv 0) (ZA0 ZA2 ZA1))))
   (ZAF rfl (ZAL (i:=4) ZCj.nd rfl (Or.inl rfl) (ZAS ZA7 hr (by decide) (ZA0 (qv 0) (ZA0 (ZAc ZBc (ZAQ ZAh (by rfl) ZAf (by decide +kernel) (ZA0 (qv 2) ZA1)) ZA2) ZA1))))
   (ZAF rfl (ZAv (ZAa (ZA9 ZBG (qv 3) ZA2 (ZAI _)) (ZAJ rfl (ZB7 (ZEV PySem.F.plainAttrs_list PySem.F.slot_list_insert PySem.F.type_list_insert ZLB (qv 2) (ZA0 (qv 4) (ZA0 (ZAK ZAA (ZAU (ZA0 ZAR (ZA0 ZCv ZA1))) (ZAS ZA7 hr (by decide) (ZA0 (qv 0) (ZA0 ZA2 ZA1))) (fun _ _=>rfl)) ZA1))))) ZAE))
   (ZAF rfl (ZAv (ZAa (ZEf (ZA9 ZBG (qv 3) ZA2 (ZAI _)) (ZDN (ZA9 (ZPJ hr.ZEn) (qv 2) (ZBV ZA1) (ZAI _)))).pt (ZAJ rfl (ZGQ (ZAK ZAA (ZAU (ZA0 ZAR (ZA0 ZCv (ZA0 ZAR ZA1)))) (ZAS ZA7 hr (by decide) (ZA0 (qv 0) (ZA0 ZA2 ZA1))) (fun _ _=>rfl)) (ZQq (qv 2) (ZAc ZFP (qv 4) ZA2) set_list))) ZAE))
   (ZAF rfl (ZAv (ZAa (ZEf (ZA9 ZBG (qv 3) ZA2 (ZAI _)) (ZDN (ZA9 (ZPJ hr.ZEn) (qv 2) (ZBV ZA1) (ZAI _)))).pt (ZAJ rfl (ZB7 (ZEV PySem.F.plainAttrs_list PySem.F.slot_list_pop PySem.F.type_list_pop ZSo (qv 2) (ZA0 (ZAc ZFP (qv 4) ZA2) ZA1)))) ZAE))
   (ZAJ rfl (ZAM (qv 2))))))))),?_⟩
 refine Fz.ZBb h ZEv ?_
 rintro _ _ ⟨a,rfl,hz,rfl⟩
 show Ws [_,_,.any,.any,.any] _ _ _
 walk_at "ww"
 refine ⟨by decide,by decide,fun w w0 w1=>?_⟩
 walk_at "ww"
 rw [List.length_map]
 refine ⟨by omega,by omega,fun t t0 t1=>?_⟩
 refine ZBi (fun ss'=>∃ b:List (Option Str),ss'=[.pot,.sq false (a.map ZCi),.own (b.map ZCi),.is (.int w),.is (.int t)]/\b.length<=301/\(w≠1->b=a)) ?_ ?_
 ·refine ZBv ?_
  walk_at "ww"
  refine ZB4 (fun c=>?_) (fun c=>ZAC ⟨a,rfl,by omega,fun _=>rfl⟩)
  walk_at "ww"
  rw [List.length_map]
  refine ⟨t0,by omega,?_⟩
  walk_at "ww"
  refine ⟨by simp,?_⟩
  walk_at "ww"
  refine ⟨by decide,by decide,fun r r0 r1=>?_⟩
  obtain ⟨o,ho⟩:=ZPj r0 r1
  refine ⟨_,_,rfl,ho,by omega,a.take t.toNat++o :: a.drop t.toNat,by rw [List.map_append,List.map_cons,List.map_take,List.map_drop];rfl,by rw [List.length_append,List.length_cons,List.length_take,List.length_drop];omega,fun z=>absurd (by simpa [alike] using c) z⟩
 rintro _ ⟨b,rfl,hb,he⟩
 refine ZBi (fun ss'=>∃ b:List (Option Str),ss'=[.pot,.sq false (a.map ZCi),.own (b.map ZCi),.is (.int w),.is (.int t)]/\b.length<=301/\(w=3->b=a)) ?_ ?_
 ·refine ZBv (ZCW (ZLG (ZAm (ZMJ ?_))))
  walk_at "ww"
  refine ZB4 (fun c=>?_) (fun c=>ZMM (ZAC ⟨b,rfl,hb,fun z=>he (by omega)⟩))
  have e2:w=2:=by simpa [alike] using c
  obtain rfl:=he (by omega)
  walk_at "ww"
  rw [List.length_map]
  refine ⟨by simp,_,.inl ⟨rfl,rfl,rfl,_,rfl,ZB4 (fun c2=>?_) (fun c2=>ZAC ⟨b,rfl,hb,fun _=>rfl⟩)⟩⟩
  have hp:0 < b.length:=by
   cases e:b.length with
   | zero=>rw [e] at c2;cases c2
   | succ n=>omega
  refine ZRT rfl ?_
  walk_at "ww"
  refine ⟨by simp,?_⟩
  walk_at "ww"
  refine ⟨by decide,by decide,fun r r0 r1=>?_⟩
  obtain ⟨o,ho⟩:=ZOt r0 r1
  refine ⟨_,_,rfl,ho,?_⟩
  walk_at "ww"
  obtain ⟨j,hj⟩:=ZPn (n:=b.length) (i:=t - 1) (by omega) (by omega) hp
  exact ⟨_,j,rfl,by rw [List.length_map];exact hj,b.set j o,by rw [<- ZTX];rfl,by rw [List.length_set];omega,fun z=>absurd z (by omega)⟩
 rintro _ ⟨b,rfl,hb,he⟩
 refine ZBi (fun ss'=>∃ b:List (Option Str),ss'=[.pot,.sq false (a.map ZCi),.own (b.map ZCi),.is (.int w),.is (.int t)]/\b.length<=301) ?_ ?_
 ·refine ZBv (ZCW (ZLG (ZAm (ZMJ ?_))))
  walk_at "ww"
  refine ZB4 (fun c=>?_) (fun c=>ZMM (ZAC ⟨b,rfl,hb⟩))
  have e2:w=3:=by simpa [alike] using c
  obtain rfl:=he e2
  walk_at "ww"
  rw [List.length_map]
  refine ⟨by simp,_,.inl ⟨rfl,rfl,rfl,_,rfl,ZB4 (fun c2=>?_) (fun c2=>ZAC ⟨b,rfl,hb⟩)⟩⟩
  have hp:0 < b.length:=by
   cases e:b.length with
   | zero=>rw [e] at c2;cases c2
   | succ n=>omega
  refine ZSg rfl ?_
  walk_at "ww"
  obtain ⟨j,hj⟩:=ZPn (n:=b.length) (i:=t - 1) (by omega) (by omega) hp
  refine ⟨_,j,rfl,by omega,by omega,by rw [List.length_map];exact hj,b.eraseIdx j,by rw [ZJP];rfl,?_⟩
  have:=List.length_eraseIdx_le b j
  omega
 rintro _ ⟨b,rfl,hb⟩
 exact ZKo rfl ⟨b,rfl,by omega⟩
theorem ZPz:ZAP ["row", "gap"] ["row", "gap"] (ZA4 ZF9):=⟨rfl,rfl,rfl,by decide +kernel,rfl,by decide +kernel,by decide +kernel⟩
theorem ZJf  : ∀ ss R,ZII ss R->ss.length=2:=by rintro _ _ ⟨tp,ns,g,rfl,rfl⟩;rfl
theorem ZQD (F:Fun K "is_gap" "is_gap" ZF9 f fd) (bd:Binds K fd ["row", "gap"] []) (m:mg "is_gap" = some (.ref f)) (ZAf:mg "len" = none) :
  Has P w K mg base "is_gap" 1 ["row", "gap"] (spF ZII):=by
 refine Has.mk F bd m (F.okq (k:=0) ZPz (fun vs H Q E h=>Fz.ZAx ZJf h) (fun cdv A outer s H vs Q E hr h=>?_))
 refine ⟨_,(ZAJ rfl (ZAM (ZK3 ZDT ZDT ZA2 (qv 1) (ZAQ ZAh (by rfl) ZAf (by decide +kernel) (ZA0 (qv 0) ZA1))))),?_⟩
 refine Fz.ZBb h ZJf ?_
 rintro _ _ ⟨tp,ns,g,rfl,rfl⟩
 show Ws [_,_] _ _ _
 refine ZBF (ZCV ?_)
 walk_at "ww"
 refine ZB4 (fun c=>?_) (fun c=>?_)
 ·walk_at "ww"
  rw [List.length_map]
  have h:=of_decide_eq_true c
  cases e:decide (g<=(ns.length:Int)) with
  | true=>rw [decide_eq_true (show inR g 0 ns.length from ⟨h,of_decide_eq_true e⟩)]
  | false=>rw [decide_eq_false (fun z:inR g 0 ns.length=>of_decide_eq_false e z.2)]
 ·rw [decide_eq_false (fun z:inR g 0 ns.length=>c (decide_eq_true z.1))]
theorem ZLM:ZAP ["row", "coming"] ["row", "coming"] (ZA4 ZCE):=⟨rfl,rfl,rfl,by decide +kernel,rfl,by decide +kernel,by decide +kernel⟩
def ZJ6:Scope:={ kind:=.function,names:=[(".0", .local),("name", .local),("row", .free)],isGenerator:=false,isCoroutine:=false,more:=[] }
theorem ZJB:ZAr ["row", "coming"] (ZA4 ZCE) ZJ6 "name" ["row"] [0]:=⟨rfl,by decide +kernel,by decide +kernel,rfl,rfl,by decide +kernel,by decide +kernel,by decide +kernel,by decide +kernel⟩
theorem ZG5  : ∀ ss R,ZKp ss R->ss.length=2:=by rintro _ _ ⟨tp,ns,ts,rfl,hz,rfl⟩;rfl
theorem ZLD (F:Fun K "is_coming" "is_coming" ZCE f fd) (bd:Binds K fd ["row", "coming"] []) (m:mg "is_coming" = some (.ref f)) (ZKP:mg "all" = none) (ZBk:mg "list" = none) (ZSu:mg "set" = none) (ZBZ:mg "sorted" = none) :
  Has P w K mg base "is_coming" 1 ["row", "coming"] (spF ZKp):=by
 refine Has.mk F bd m (F.okq (k:=0) ZLM (fun vs H Q E h=>Fz.ZAx ZG5 h) (fun cdv A outer s H vs Q E hr h=>?_))
 refine ⟨_,(ZAJ rfl (ZAM (ZFx (ZBp (ZNp hr.ZEn) (ZAi ZB8 (by rfl) ZBk (by decide +kernel) (ZA0 (qv 1) ZA1)) (ZAQ (ZLh rfl) (by rfl) ZBZ (by decide +kernel) (ZA0 (ZAi (ZPy rfl) (by rfl) ZSu (by decide +kernel) (ZA0 (qv 1) ZA1)) ZA1)) (ZAI _)) (ZGL (ZAQ (ZJr rfl) (by rfl) ZKP (by decide +kernel) (ZA0 (ZED rfl ZJB (ZGY (qv 1)) (fun _ _ _ _=>by exact ZNA) (fun _ _ _ _=>by exact (ZBp (show OpR _ (compareOp .In) (rIn K false) from ZC2) (qv 1) (qv 0) (by with_unfolding_all rfl)))) ZA1)))))),?_⟩
 refine Fz.ZBb h ZG5 ?_
 rintro _ _ ⟨tp,ns,ts,rfl,hz,rfl⟩
 show Ws [_,_] _ _ _
 walk_at "ww"
 refine ⟨hz,fun us hl hm hs=>?_⟩
 walk_at "ww"
 unfold ZSp
 have e:decide (ts=us)=decide (Up ts):=by rw [Bool.eq_iff_iff,decide_eq_true_iff,decide_eq_true_iff];exact ZOG hl hm hs
 rw [e]
 refine ZB4 (fun c=>?_) (fun c=>by rw [if_neg c])
 walk_at "wp"
 refine ZBP (ZAn (ZU9 PV.str (fun x=>.bl (decide (x∈ns))) ?_ str_inj))
 walk_at "ww"
 refine ⟨by omega,fun x hx=>by walk_at "ww"; rfl,?_⟩
 walk_at "ww"
 rw [if_pos c]
theorem ZOF:ZAP ["row", "thing"] ["row", "thing"] (ZA4 ZE2):=⟨rfl,rfl,rfl,by decide +kernel,rfl,by decide +kernel,by decide +kernel⟩
theorem ZIK  : ∀ ss R,ZGf ss R->ss.length=2:=by rintro _ _ ⟨tp,ns,r,g,cs,rfl,_,rfl⟩;rfl
theorem ZOV {ZEs:Addr}(F:Fun K "is_loop" "is_loop" ZE2 f fd) (bd:Binds K fd ["row", "thing"] []) (m:mg "is_loop" = some (.ref f)) (ZFd:Has P w K mg base "is_coming" 1 ["row", "coming"] (spF ZKp)) (ZKW:Has P w K mg base "is_gap" 1 ["row", "gap"] (spF ZII)) (ZMi:mg "RULES" = some (.ref ZEs)) (ZMk:∀ H,SqT K H ZEs [.str "none", .str "ahead", .str "all"]) :
  Has P w K mg base "is_loop" 2 ["row", "thing"] (spF ZGf):=by
 refine Has.mk F bd m (F.okq (k:=1) ZOF (fun vs H Q E h=>Fz.ZAx ZIK h) (fun cdv A outer s H vs Q E hr h=>?_))
 refine ⟨_,(ZAJ rfl (ZAM (ZFx (ZBp ZC2 (ZAK ZAA (qv 1) ZA2 (fun _ _=>rfl)) (ZEd (v:=.ref ZEs) (by rfl) ZMi rfl) (by with_unfolding_all rfl)) (ZFx (ZAS ZKW hr (by decide) (ZA0 (qv 0) (ZA0 (ZAK ZAA (qv 1) ZA2 (fun _ _=>rfl)) ZA1))) (ZGL (ZAS ZFd hr (by decide) (ZA0 (qv 0) (ZA0 (ZAK ZAA (qv 1) ZA2 (fun _ _=>rfl)) ZA1)))))))),?_⟩
 refine Fz.ZBb h ZIK ?_
 rintro _ _ ⟨tp,ns,r,g,cs,rfl,hz,rfl⟩
 have C:Con K ZEs ([("none" : Str), "ahead", "all"].map .str):=Con.of ZMk rfl rfl
 unfold lpP
 show Ws [_,_] _ _ _
 refine ZBF (ZHv (ZUj (neg:=false) C ?_))
 walk_at "ww"
 refine ZB4 (fun c=>?_) (fun c=>?_)
 ·refine ZHv (wp_call (ZB2 (ZBl rfl (ZAb ?_))))
  walk_at "ww"
  refine ZAd ⟨_,⟨tp,ns,g,rfl,rfl⟩,?_⟩
  rintro _ rfl
  refine ⟨_,rfl,ZB4 (fun c2=>?_) (fun c2=>?_)⟩
  ·refine wp_call (ZB2 (ZBl rfl (ZAb ?_)))
   walk_at "ww"
   refine ZAd ⟨_,⟨tp,ns,cs,rfl,hz,rfl⟩,?_⟩
   rintro _ rfl
   unfold lpB
   rw [show ZLA r=true from c,c2];rfl
  ·unfold lpB
   rw [show decide (inR g 0 ns.length)=false from by cases e:decide (inR g 0 ns.length) <;> simp_all,Bool.false_and,Bool.and_false]
 ·unfold lpB
  rw [show ZLA r=false from by cases e:ZLA r <;> first | rfl | exact absurd e c];rfl
theorem ZJw:ZAP ["row", "loop"] ["row", "loop"] (ZA4 ZCG):=⟨rfl,rfl,rfl,by decide +kernel,rfl,by decide +kernel,by decide +kernel⟩
theorem ZFI {ZAW:Addr}:∀ ss R D,(ZDV ZAW) ss R D->ss.length=2:=by rintro _ _ _ ⟨tp,ns,r,g,cs,rfl,_,rfl,rfl⟩;rfl
theorem ZKN {ZAW:Addr}(F:Fun K "check_loop" "check_loop" ZCG f fd) (bd:Binds K fd ["row", "loop"] []) (m:mg "check_loop" = some (.ref f)) (ZID:Has P w K mg base "is_loop" 2 ["row", "thing"] (spF ZGf)) (ZKS:mg "NoLoop" = some (.ref ZAW)) (ZGN:ZNH K ZAW none=true) :
  ZET P w K mg base "check_loop" 3 ["row", "loop"] (spX (ZDV ZAW)):=by
 refine ZET.mk F bd m (F.okx (k:=2) ZJw (fun vs H Q E h=>Fz.ZDt ZFI h) (fun cdv A outer s H vs Q E hr h=>?_))
 refine ⟨_,(ZAJ rfl (ZAa (ZE5 (ZLi (ZAS ZID hr (by decide) (ZA0 (qv 0) (ZA0 (qv 1) ZA1))))) (ZAJ rfl (ZM0 (by rfl) ZKS ZGN rfl rfl ZB6 (ZA0 ZAR ZA1))) ZAE)),?_⟩
 refine Fz.ZDe h ZFI ?_
 rintro _ _ _ ⟨tp,ns,r,g,cs,rfl,hz,rfl,rfl⟩
 intro i0
 show Ws [_,_] _ _ _
 refine ZCW (ZDX (ZUO (wp_call (ZB2 (ZBl rfl (ZAb (ZAG rfl (ZAd ⟨_,⟨tp,ns,r,g,cs,rfl,hz,rfl⟩,?_⟩))))))))
 rintro _ rfl
 refine ⟨_,rfl,ZB4 (fun c=>?_) (fun c=>?_)⟩
 ·refine ZLK ?_
  walk_at "ww"
  exact ⟨by simp,trivial,by cases e:lpB ns r g cs <;> simp_all,rfl⟩
 ·exact ZAC ⟨_,rfl,by cases e:lpB ns r g cs <;> simp_all⟩
theorem ZJt:ZAP ["row", "one", "other"] ["row", "one", "other"] (ZA4 ZCQ):=⟨rfl,rfl,rfl,by decide +kernel,rfl,by decide +kernel,by decide +kernel⟩
theorem ZFJ  : ∀ ss R,ZEt ss R->ss.length=3:=by rintro _ _ ⟨tp,ns,l1,l2,rfl,_,_,_,rfl⟩;rfl
theorem ZK2 {ZC9:Tok}(F:Fun K "check_pair" "check_pair" ZCQ f fd) (bd:Binds K fd ["row", "one", "other"] []) (m:mg "check_pair" = some (.ref f)) (ZBn:ZET P w K mg base "check_loop" 3 ["row", "loop"] (spX (ZDV ZAW))) (ZAf:mg "len" = none) (ZCB:mg "MOST_THINGS_TRIED" = some (.int 37 ZC9)) :
  Has P w K mg base "check_pair" 4 ["row", "one", "other"] (spF ZEt):=by
 refine Has.mk F bd m (F.okq (k:=3) ZJt (fun vs H Q E h=>Fz.ZAx ZFJ h) (fun cdv A outer s H vs Q E hr h=>?_))
 refine ⟨_,(ZAF rfl (ZB7 (ZCp ZBn hr (by decide) ZEu rfl (ZA0 (qv 0) (ZA0 (qv 1) ZA1))))
   (ZAF rfl (ZB7 (ZCp ZBn hr (by decide) ZEu rfl (ZA0 (qv 0) (ZA0 (qv 2) ZA1))))
   (ZAJ rfl (ZAa (ZA9 ZPo (ZAQ ZAh (by rfl) ZAf (by decide +kernel) (ZA0 (qv 0) ZA1)) (ZEd (v:=.int 37) (by rfl) ZCB ⟨_,rfl⟩) (ZAI _)) (ZAJ rfl ZS2) ZAE)))),?_⟩
 refine Fz.ZBb h ZFJ ?_
 rintro _ _ ⟨tp,ns,l1,l2,rfl,ro,g1,g2,rfl⟩
 show Ws [_,_,_] _ _ _
 have hl1:=ZBW.len g1
 have hl2:=ZBW.len g2
 have hz:=ro.len
 refine ZAZ (ZDq ?_)
 refine ZBu ?_
 refine ZB2 (ZBl rfl (ZAb (ZAG rfl (ZAd ⟨_,_,⟨tp,ns,l1.r,l1.g,l1.cs,rfl,by omega,rfl,rfl⟩,trivial,fun e h=>?_,fun _ _=>?_⟩))))
 ·have q:=ZMR g1
  rw [h.1] at q;cases q
 refine ZAZ (ZDq ?_)
 refine ZBu ?_
 refine ZB2 (ZBl rfl (ZAb (ZAG rfl (ZAd ⟨_,_,⟨tp,ns,l2.r,l2.g,l2.cs,rfl,by omega,rfl,rfl⟩,trivial,fun e h=>?_,fun _ _=>?_⟩))))
 ·have q:=ZMR g2
  rw [h.1] at q;cases q
 walk_at "ww"
 refine ZCx (by rw [List.length_map];simp;omega) (ZAC ⟨_,rfl,trivial⟩)
theorem ZIB:ZAP ["ones", "others"] ["ones", "others"] (ZA4 ZBf):=⟨rfl,rfl,rfl,by decide +kernel,rfl,by decide +kernel,by decide +kernel⟩
theorem ZER  : ∀ ss R,ZMm ss R->ss.length=2:=by rintro _ _ ⟨a,b,rfl,_,_,rfl⟩;rfl
theorem ZIb (F:Fun K "part_at_last" "part_at_last" ZBf f fd) (bd:Binds K fd ["ones", "others"] []) (m:mg "part_at_last" = some (.ref f))  :
  Has P w K mg base "part_at_last" 1 ["ones", "others"] (spF ZMm):=by
 refine Has.mk F bd m (F.okq (k:=0) ZIB (fun vs H Q E h=>Fz.ZAx ZER h) (fun cdv A outer s H vs Q E hr h=>?_))
 refine ⟨_,(ZAJ rfl (ZAM (ZFx (ZBp (Fz.ZIJ hr.units) (ZAq ZCs (qv 0) ZBM (ZB0 (ZI3 ZEz ZA2))) (ZAq ZCs (qv 1) ZBM (ZB0 (ZI3 ZEz ZA2))) (ZAI _)) (ZGL (ZBp (Fz.ZLs hr.units) (ZAK ZAz (qv 0) (ZI3 ZEz ZA2) (fun _ _=>rfl)) (ZAK ZAz (qv 1) (ZI3 ZEz ZA2) (fun _ _=>rfl)) (ZAI _)))))),?_⟩
 refine Fz.ZBb h ZER ?_
 rintro _ _ ⟨a,b,rfl,ha,hb,rfl⟩
 show Ws [_,_] _ _ _
 obtain ⟨x,hx⟩:∃ x,a.getLast?=some x:=⟨a.getLast ha,List.getLast?_eq_some_getLast ha⟩
 obtain ⟨y,hy⟩:∃ y,b.getLast?=some y:=⟨b.getLast hb,List.getLast?_eq_some_getLast hb⟩
 refine ZBF (ZHv (ZHD ?_))
 walk_at "ww"
 rw [ZHo,ZHm]
 walk_at "ww"
 rw [ZHo,ZHm,ZI6]
 refine ⟨ZCU K 39 _,ZCU K 39 _,_,rfl,ZB4 (fun c=>?_) (fun c=>?_)⟩
 ·have e:=of_decide_eq_true c
  have n1:L2.atI (a.map ZCi) (-1)=some (ZCi x):=ZFy (by rw [List.getLast?_map,hx];rfl)
  have n2:L2.atI (b.map ZCi) (-1)=some (ZCi y):=ZFy (by rw [List.getLast?_map,hy];rfl)
  refine ZI7 (ZFu (ZCH rfl ⟨rfl,ZJQ (ZCm ⟨_,rfl,_,_,rfl,n1,?_⟩)⟩))
  refine ZFu (ZCH rfl ⟨rfl,ZJQ (ZCm ⟨_,rfl,_,_,rfl,n2,ZMt K 40 x,ZMt K 40 y,?_⟩)⟩)
  have q:=ZKY [x] [y]
  rw [List.map_cons,List.map_cons,List.map_nil,ZCn,ZGT,Bool.and_true] at q
  rw [q]
  have w:=ZOi hx hy e
  congr 1
  rw [Bool.eq_iff_iff,Bool.not_eq_true',decide_eq_false_iff_not,decide_eq_true_iff]
  simp only [List.cons.injEq,and_true]
  exact ⟨fun z=>⟨e,w.mp z⟩,fun z=>w.mpr z.2⟩
 ·rw [decide_eq_false (fun z=>c (decide_eq_true z.1))]
theorem ZGd:ZAP ["things", "loop"] ["things", "loop"] (ZA4 ZAy):=⟨rfl,rfl,rfl,by decide +kernel,rfl,by decide +kernel,by decide +kernel⟩
def ZFf:Scope:={ kind:=.function,names:=[(".0", .local),("name", .local),("loop", .free)],isGenerator:=false,isCoroutine:=false,more:=[] }
theorem ZFh:ZAr ["things", "loop"] (ZA4 ZAy) ZFf "name" ["loop"] [1]:=⟨rfl,by decide +kernel,by decide +kernel,rfl,rfl,by decide +kernel,by decide +kernel,by decide +kernel,by decide +kernel⟩
theorem ZDc  : ∀ ss R,ZH1 ss R->ss.length=2:=by rintro _ _ ⟨tp,ns,r,g,cs,rfl,_,rfl⟩;rfl
theorem ZH3 (F:Fun K "things_to_come" "things_to_come" ZAy f fd) (bd:Binds K fd ["things", "loop"] []) (m:mg "things_to_come" = some (.ref f))  :
  Has P w K mg base "things_to_come" 1 ["things", "loop"] (spF ZH1):=by
 refine Has.mk F bd m (F.okq (k:=0) ZGd (fun vs H Q E h=>Fz.ZAx ZDc h) (fun cdv A outer s H vs Q E hr h=>?_))
 refine ⟨_,(ZAJ rfl (ZAM (ZED rfl ZFh (ZGY (qv 0)) (fun _ _ _ _=>by exact (ZEb (ZA9 (show OpR _ (compareOp .In) (rIn K false) from ZC2) (qv 1) (ZAK (show IxR _ (ZTW K) from ZAA) (qv 0) ZA2 (fun _ _=>rfl)) (by with_unfolding_all rfl)))) (fun _ _ _ _=>by exact (qv 1))))),?_⟩
 refine Fz.ZBb h ZDc ?_
 rintro _ _ ⟨tp,ns,r,g,cs,rfl,hz,rfl⟩
 unfold lpP
 show Ws [_,_] _ _ _
 refine ZFZ (ZFt PV.str (inL cs) PV.str ?_ str_inj)
 walk_at "ww"
 exact ⟨by omega,fun y hy=>by walk_at "ww"; rfl,fun y hy _=>by walk_at "ww"; rfl,rfl⟩
theorem ZQB:ZAP ["row", "loop", "gap"] ["row", "loop"] (ZA4 ZJa):=⟨rfl,rfl,rfl,by decide +kernel,rfl,by decide +kernel,by decide +kernel⟩
theorem ZNu {ZAW:Addr}:∀ ss R D,(ZK1 ZAW) ss R D->ss.length=2:=by rintro _ _ _ ⟨tp,ns,r,g,cs,rfl,_,_,rfl,rfl⟩;rfl
theorem ZSv {ZAW:Addr}(F:Fun K "rest" "rest" ZJa f fd) (bd:Binds K fd ["row", "loop"] []) (m:mg "rest" = some (.ref f)) (ZBn:ZET P w K mg base "check_loop" 3 ["row", "loop"] (spX (ZDV ZAW))) (ZC4:Has P w K mg base "things_to_come" 1 ["things", "loop"] (spF ZH1)) :
  ZET P w K mg base "rest" 4 ["row", "loop"] (spX (ZK1 ZAW)):=by
 refine ZET.mk F bd m (F.okx (k:=3) ZQB (fun vs H Q E h=>Fz.ZDt ZNu h) (fun cdv A outer s H vs Q E hr h=>?_))
 refine ⟨_,(ZAF rfl (ZB7 (ZCp ZBn hr (by decide) ZB6 rfl (ZA0 (qv 0) (ZA0 (qv 1) ZA1))))
   (ZAF rfl (ZAL (i:=2) ZQB.nd rfl (Or.inl rfl) (ZAK ZAA (qv 1) ZA2 (fun _ _=>rfl)))
   (ZAJ rfl (ZAM (ZAc ZFw (ZAS ZC4 hr (by decide) (ZA0 (ZAq Fz.ZH9 (qv 0) (ZB0 (qv 2)) ZBM) (ZA0 (qv 1) ZA1))) (ZAS ZC4 hr (by decide) (ZA0 (ZAq Fz.ZH9 (qv 0) ZBM (ZB0 (qv 2))) (ZA0 (qv 1) ZA1)))))))),?_⟩
 refine Fz.ZDe h ZNu ?_
 rintro _ _ _ ⟨tp,ns,r,g,cs,rfl,hc,hz,rfl,rfl⟩
 intro i0
 show Ws [_,_,.any] _ _ _
 refine ZAZ (ZDq ?_)
 refine ZBu ?_
 refine ZB2 (ZBl rfl (ZAb (ZAG rfl (ZAd ⟨_,_,⟨tp,ns,r,g,cs,rfl,hc,rfl,rfl⟩,trivial,fun e h=>h,?_⟩))))
 intro _ hlp
 obtain ⟨n,rfl,gd⟩:=ZTP hlp
 have hl:=gd.g1
 refine ZAZ (ZC1 ?_)
 unfold lpP
 walk_at "ww"
 refine ZBP (ZAn (ZFY (ZB2 ?_)))
 walk_at "ww"
 rw [ZQ6,<- List.map_drop]
 refine ZAb (ZAG rfl (ZAd ⟨_,⟨tp,ns.drop n,r,n,cs,rfl,by rw [List.length_drop];omega,rfl⟩,?_⟩))
 rintro _ rfl
 refine ⟨_,.inl ⟨rfl,rfl,ZBP (ZAn (ZFY (ZB2 ?_)))⟩⟩
 walk_at "ww"
 rw [ZJi,<- List.map_take]
 refine ZAb (ZAG rfl (ZAd ⟨_,⟨tp,ns.take n,r,n,cs,rfl,by rw [List.length_take];omega,rfl⟩,?_⟩))
 rintro _ rfl
 have l1:((ns.drop n).filter (inL cs)).length<=(ns.drop n).length:=List.length_filter_le _ _
 have l2:((ns.take n).filter (inL cs)).length<=(ns.take n).length:=List.length_filter_le _ _
 rw [List.length_drop] at l1
 rw [List.length_take] at l2
 refine ⟨_,.inl ⟨rfl,rfl,by rw [List.length_map,List.length_map];omega,n,rfl,gd,?_⟩⟩
 unfold ZE6
 rw [List.map_append]
theorem ZH5:ZAP ["coming", "gone"] ["coming", "gone"] (ZA4 ZB1):=⟨rfl,rfl,rfl,by decide +kernel,rfl,by decide +kernel,by decide +kernel⟩
def ZFX:Scope:={ kind:=.function,names:=[(".0", .local),("name", .local),("gone", .free)],isGenerator:=false,isCoroutine:=false,more:=[] }
theorem ZFa:ZAr ["coming", "gone"] (ZA4 ZB1) ZFX "name" ["gone"] [1]:=⟨rfl,by decide +kernel,by decide +kernel,rfl,rfl,by decide +kernel,by decide +kernel,by decide +kernel,by decide +kernel⟩
theorem ZDU  : ∀ ss R,ZGP ss R->ss.length=2:=by rintro _ _ ⟨cs,x,rfl,_,rfl⟩;rfl
theorem ZGi (F:Fun K "coming_without" "coming_without" ZB1 f fd) (bd:Binds K fd ["coming", "gone"] []) (m:mg "coming_without" = some (.ref f)) (ZBH:mg "tuple" = none) :
  Has P w K mg base "coming_without" 1 ["coming", "gone"] (spF ZGP):=by
 refine Has.mk F bd m (F.okq (k:=0) ZH5 (fun vs H Q E h=>Fz.ZAx ZDU h) (fun cdv A outer s H vs Q E hr h=>?_))
 refine ⟨_,(ZAJ rfl (ZAM (ZAi ZBL (by rfl) ZBH (by decide +kernel) (ZA0 (ZED rfl ZFa (ZGY (qv 0)) (fun _ _ _ _=>by exact (ZEb (ZA9 ZLf (qv 1) (qv 0) (ZAI _)))) (fun _ _ _ _=>by exact (qv 1))) ZA1)))),?_⟩
 refine Fz.ZBb h ZDU ?_
 rintro _ _ ⟨cs,x,rfl,hz,rfl⟩
 show Ws [_,_] _ _ _
 refine ZBF (ZFD rfl (ZBP (ZAn (ZFt PV.str (fun y=>!alike (.str y) (.str x)) PV.str ?_ str_inj))))
 walk_at "ww"
 refine ⟨by omega,fun y hy=>by walk_at "ww"; rfl,fun y hy _=>by walk_at "ww"; rfl,?_⟩
 rw [ZPe]
 exact ⟨_,.inl ⟨rfl,rfl⟩⟩
theorem ZMF:ZAP ["row", "name"] ["row", "name"] (ZA4 ZD5):=⟨rfl,rfl,rfl,by decide +kernel,rfl,by decide +kernel,by decide +kernel⟩
theorem ZHJ {ZAB:Addr}:∀ ss R D,(ZDw ZAB) ss R D->ss.length=2:=by rintro _ _ _ ⟨tp,ns,x,rfl,_,rfl,rfl⟩;rfl
theorem ZN3 {ZAB:Addr}(F:Fun K "place_of" "place_of" ZD5 f fd) (bd:Binds K fd ["row", "name"] []) (m:mg "place_of" = some (.ref f)) (ZQ7:mg "Gone" = some (.ref ZAB)) (ZQb:ZHz P w K mg base ZAB "name") :
  ZET P w K mg base "place_of" 3 ["row", "name"] (spX (ZDw ZAB)):=by
 refine ZET.mk F bd m (F.okx (k:=2) ZMF (fun vs H Q E h=>Fz.ZDt ZHJ h) (fun cdv A outer s H vs Q E hr h=>?_))
 refine ⟨_,(ZAF rfl (ZAa (ZA9 ZEk (qv 1) (qv 0) (by with_unfolding_all rfl)) (ZAJ rfl (ZDP ZQb (by rfl) ZQ7 hr (by decide) rfl rfl ZB6 (ZA0 (qv 1) ZA1))) ZAE)
   (ZAJ rfl (ZAM (ZUV (ZEV PySem.F.plainAttrs_list PySem.F.slot_list_index PySem.F.type_list_index ZIh (qv 0) (ZA0 (qv 1) ZA1)) (ZEV PySem.F.plainAttrs_tuple PySem.F.slot_tuple_index PySem.F.type_tuple_index ZQi (qv 0) (ZA0 (qv 1) ZA1)))))),?_⟩
 refine Fz.ZDe h ZHJ ?_
 rintro _ _ _ ⟨tp,ns,x,rfl,hz,rfl,rfl⟩
 intro i
 show Ws [_,_] _ _ _
 walk_at "ww"
 refine ZB4 (fun c=>?_) (fun c=>?_)
 ·refine ZBo (ZAG rfl ⟨hz.1,trivial,?_,rfl⟩)
  intro h
  rw [decide_eq_true h] at c;cases c
 ·have hx:x∈ns:=by
   cases e:decide (x∈ns) with
   | true=>exact of_decide_eq_true e
   | false=>exact absurd (by rw [e];rfl) c
  refine ZAC ?_
  cases tp with
  | false=>
   refine ZBF (ZTR (ZLv ?_))
   walk_at "ww"
   exact ⟨hx,hx,rfl⟩
  | true=>
   refine ZBF (ZUK (ZPU ?_))
   walk_at "ww"
   exact ⟨hx,hx,rfl⟩
theorem ZIC:ZAP ["row", "loop", "name"] ["row", "loop", "name"] (ZA4 ZBe):=⟨rfl,rfl,rfl,by decide +kernel,rfl,by decide +kernel,by decide +kernel⟩
theorem ZES  : ∀ ss R,ZJn ss R->ss.length=3:=by rintro _ _ ⟨tp,ns,r,g,cs,x,rfl,_,_,_,rfl⟩;rfl
theorem ZHy (F:Fun K "loop_telling" "loop_telling" ZBe f fd) (bd:Binds K fd ["row", "loop", "name"] []) (m:mg "loop_telling" = some (.ref f)) (ZBJ:Has P w K mg base "coming_without" 1 ["coming", "gone"] (spF ZGP)) (ZBA:ZET P w K mg base "place_of" 3 ["row", "name"] (spX (ZDw ZAB))) :
  Has P w K mg base "loop_telling" 4 ["row", "loop", "name"] (spF ZJn):=by
 refine Has.mk F bd m (F.okq (k:=3) ZIC (fun vs H Q E h=>Fz.ZAx ZES h) (fun cdv A outer s H vs Q E hr h=>?_))
 refine ⟨_,(ZAJ rfl (ZAM (ZAU (ZA0 (ZAK ZAA (qv 1) ZA2 (fun _ _=>rfl)) (ZA0 (ZAc ZBc (ZCp ZBA hr (by decide) ZEu rfl (ZA0 (qv 0) (ZA0 (qv 2) ZA1))) ZA2) (ZA0 (ZAS ZBJ hr (by decide) (ZA0 (ZAK ZAA (qv 1) ZA2 (fun _ _=>rfl)) (ZA0 (qv 2) ZA1))) ZA1)))))),?_⟩
 refine Fz.ZBb h ZES ?_
 rintro _ _ ⟨tp,ns,r,g,cs,x,rfl,hc,hs,hx,rfl⟩
 unfold lpP
 show Ws [_,_,_] _ _ _
 walk_at "ww"
 refine ZBu ?_
 refine ZB2 (ZBl rfl (ZAb (ZAG rfl (ZAd ⟨_,_,⟨tp,ns,x,rfl,hs,rfl,rfl⟩,trivial,fun e h=>absurd hx h.1,?_⟩))))
 rintro _ ⟨_,rfl⟩
 walk_at "ww"
 refine wp_call (ZAb ?_)
 walk_at "ww"
 refine ZAb (ZAG rfl (ZAd ⟨_,⟨cs,x,rfl,hc,rfl⟩,?_⟩))
 rintro _ rfl
 walk_at "ww"
 exact ⟨by simp,rfl⟩
theorem ZQ4:ZAP ["row", "loop", "order"] ["row", "loop"] (ZA4 ZJc):=⟨rfl,rfl,rfl,by decide +kernel,rfl,by decide +kernel,by decide +kernel⟩
theorem ZNO {ZAW:Addr}:∀ ss R D,(ZJj ZAW) ss R D->ss.length=2:=by rintro _ _ _ ⟨tp,ns,r,g,cs,rfl,_,_,_,rfl,rfl⟩;rfl
theorem ZSw {ZAW:Addr}(F:Fun K "step" "step" ZJc f fd) (bd:Binds K fd ["row", "loop"] []) (m:mg "step" = some (.ref f)) (ZDk:Has P w K mg base "loop_telling" 4 ["row", "loop", "name"] (spF ZJn)) (ZQm:ZET P w K mg base "rest" 4 ["row", "loop"] (spX (ZK1 ZAW))) :
  ZET P w K mg base "step" 5 ["row", "loop"] (spX (ZJj ZAW)):=by
 refine ZET.mk F bd m (F.okx (k:=4) ZQ4 (fun vs H Q E h=>Fz.ZDt ZNO h) (fun cdv A outer s H vs Q E hr h=>?_))
 refine ⟨_,(ZAF rfl (ZAL (i:=2) ZQ4.nd rfl (Or.inl rfl) (ZCp ZQm hr (by decide) ZB6 rfl (ZA0 (qv 0) (ZA0 (qv 1) ZA1))))
   (ZAF rfl (ZAa (ZA9 (ZSQ hr.ZEn) (qv 2) (ZBV ZA1) (ZAI _)) (ZAJ rfl (ZAM (ZAU (ZA0 ZCv (ZA0 (qv 1) ZA1))))) ZAE)
   (ZAJ rfl (ZAM (ZAU (ZA0 (ZAK ZAz (qv 2) ZA2 (fun _ _=>rfl)) (ZA0 (ZAS ZDk hr (by decide) (ZA0 (qv 0) (ZA0 (qv 1) (ZA0 (ZAK ZAz (qv 2) ZA2 (fun _ _=>rfl)) ZA1)))) ZA1))))))),?_⟩
 refine Fz.ZDe h ZNO ?_
 rintro _ _ _ ⟨tp,ns,r,g,cs,rfl,hc,hz,hs,rfl,rfl⟩
 intro i0
 show Ws [_,_,.any] _ _ _
 refine ZAZ (ZCb ?_)
 refine ZHh ?_
 refine ZB2 (ZBl rfl (ZAb (ZAG rfl (ZAd ⟨_,_,⟨tp,ns,r,g,cs,rfl,hc,hz,rfl,rfl⟩,trivial,fun e h=>h,?_⟩))))
 rintro _ ⟨n,rfl,gd,rfl⟩
 walk_at "ww"
 refine ⟨by simp,?_⟩
 walk_at "ww"
 rw [List.length_map]
 refine ⟨rfl,_,rfl,?_⟩
 cases e:ZE6 ns n cs with
 | nil=>
  refine ZEU rfl ?_
  walk_at "ww"
  refine ⟨by simp,n,rfl,gd,?_⟩
  unfold ZJD
  rw [e];rfl
 | cons x t=>
  have hx:=ZEy.mp (by rw [e];exact List.mem_cons_self:x∈ZE6 ns n cs)
  refine ZCx (by simp) (ZAC ?_)
  walk_at "ww"
  refine ⟨0,.str x,rfl,ZFT (j:=0) rfl,?_⟩
  refine ZAl (wp_call (ZB2 (ZBl rfl (ZAb (ZAG rfl (ZAb ?_))))))
  walk_at "ww"
  refine ⟨0,.str x,rfl,ZFT (j:=0) rfl,?_⟩
  refine ZAd ⟨_,⟨tp,ns,r,n,cs,x,rfl,by omega,hs x hx.1,hx.1,rfl⟩,?_⟩
  rintro _ rfl
  walk_at "ww"
  refine ⟨by simp,n,rfl,gd,?_⟩
  unfold ZJD
  rw [e]
theorem ZOJ:ZAP ["text"] ["text"] (ZA4 ZDO):=⟨rfl,rfl,rfl,by decide +kernel,rfl,by decide +kernel,by decide +kernel⟩
def ZLI:Scope:={ kind:=.function,names:=[(".0", .local),("sign", .local),("LETTERS", .globalImplicit)],isGenerator:=false,isCoroutine:=false,more:=[] }
theorem ZLO:ZAr ["text"] (ZA4 ZDO) ZLI "sign" [] []:=⟨rfl,by decide +kernel,by decide +kernel,rfl,rfl,by decide +kernel,by decide +kernel,by decide +kernel,by decide +kernel⟩
theorem ZOK {ZHw:Tok}{ZDg:Tok}(F:Fun K "is_name" "is_name" ZDO f fd) (bd:Binds K fd ["text"] []) (m:mg "is_name" = some (.ref f)) (ZKP:mg "all" = none) (ZAf:mg "len" = none) (ZIp:mg "LETTERS" = some (.str "abcdefghijklmnopqrstuvwxyz" ZHw)) (ZDn:mg "MOST_LETTERS" = some (.int 8 ZDg)) :
  Has P w K mg base "is_name" 1 ["text"] (ZGD):=by
 refine Has.mk F bd m (F.okq (k:=0) ZOJ (fun vs H Q E h=>?_) (fun cdv A outer s H vs Q E hr h=>?_))
 ·obtain ⟨x,rfl,hx,q⟩:=h;rfl
 obtain ⟨x,rfl,hx,q⟩:=h
 refine ⟨_,(ZAJ rfl (ZAM (ZFx (ZK3 ZDT ZDT ZA2 (ZAQ ZEZ (by rfl) ZAf (by decide +kernel) (ZA0 (qv 0) ZA1)) (ZEd (v:=.int 8) (by rfl) ZDn ⟨_,rfl⟩)) (ZGL (ZAQ (ZJr rfl) (by rfl) ZKP (by decide +kernel) (ZA0 (ZED rfl ZLO (ZSD (qv 0)) (fun _ _ _ _=>by exact ZNA) (fun _ _ _ _=>by exact (ZBp ZL8 (qv 0) (ZEd (v:=.str "abcdefghijklmnopqrstuvwxyz") (by rfl) ZIp ⟨_,rfl⟩) (by with_unfolding_all rfl)))) ZA1)))))),?_⟩
 refine ⟨_,rfl,_,rfl,small (by omega),_,_,rfl,rfl,_,rfl,?_⟩
 refine ZB4 (fun c=>?_) (fun c=>⟨_,rfl,ZMM ?_⟩)
 ·refine ⟨_,_,rfl,rfl,_,rfl,?_⟩
  refine ZB4 (fun c2=>?_) (fun c2=>?_)
  ·refine ⟨_,rfl,x,rfl,fun acc hacc=>ZNX (fun _=>true) ZWd hacc (by rw [<- Array.length_toList,<- ZDE];exact small (by omega)) (fun i v H' Q' _ _ h=>h H' (ZAk.refl _)) (fun i v H' Q' hv _ _ h=>?_) (fun H' s1 e1=>?_)⟩
   ·obtain ⟨cc,rfl⟩:=signs_get hv
    exact ⟨_,rfl,_,_,rfl,rfl,h H' (ZAk.refl _)⟩
   ·rw [ZNY] at e1
    refine ⟨acc,_,rfl,SqL.of e1,?_⟩
    rw [all_map]
    have e:isNm x=x.cps.toList.all ZMV:=by unfold isNm;rw [c,c2];rfl
    rw [<- e];exact q H' s1
  ·have e:isNm x=false:=by unfold isNm;rw [Bool.eq_false_iff.mpr c2];simp
   rw [<- e];exact q H (ZAk.refl _)
 ·have e:isNm x=false:=by unfold isNm;rw [Bool.eq_false_iff.mpr c];simp
  rw [<- e];exact q H (ZAk.refl _)
theorem ZL5:ZAP ["row", "name", "at"] ["row", "name", "at"] (ZA4 ZCe):=⟨rfl,rfl,rfl,by decide +kernel,rfl,by decide +kernel,by decide +kernel⟩
theorem ZFq {ZAH:Addr}{ZAB:Addr}{ZA5:Addr}{ZA3:Addr}{ZA8:Addr}:∀ ss R D,(ZIR ⟨ZA5,ZA8,ZAB,ZA3,ZAH⟩) ss R D->ss.length=3:=by rintro _ _ _ ⟨tp,ns,x,i,rfl,_,rfl,rfl⟩;rfl
theorem ZLj {ZEB:Tok}{ZAH:Addr}{ZAB:Addr}{ZA5:Addr}{ZA3:Addr}{ZA8:Addr}(F:Fun K "check_put" "check_put" ZCe f fd) (bd:Binds K fd ["row", "name", "at"] []) (m:mg "check_put" = some (.ref f)) (ZHu:Has P w K mg base "is_name" 1 ["text"] (ZGD)) (ZAf:mg "len" = none) (ZEJ:mg "MOST_THINGS" = some (.int 40 ZEB)) (ZPN:mg "Full" = some (.ref ZAH)) (ZLx:ZNH K ZAH none=true) (ZKZ:mg "NoName" = some (.ref ZA5)) (ZKk:ZHz P w K mg base ZA5 "name") (ZBz:mg "NoPlace" = some (.ref ZA3)) (ZBx:ZHz P w K mg base ZA3 "at") (ZMu:mg "There" = some (.ref ZA8)) (ZMH:ZHz P w K mg base ZA8 "name") :
  ZET P w K mg base "check_put" 3 ["row", "name", "at"] (spX (ZIR ⟨ZA5,ZA8,ZAB,ZA3,ZAH⟩)):=by
 refine ZET.mk F bd m (F.okx (k:=2) ZL5 (fun vs H Q E h=>Fz.ZDt ZFq h) (fun cdv A outer s H vs Q E hr h=>?_))
 refine ⟨_,(ZAF rfl (ZAa (ZE5 (ZLi (ZAS ZHu hr (by decide) (ZA0 (qv 1) ZA1)))) (ZAJ rfl (ZDP ZKk (by rfl) ZKZ hr (by decide) rfl rfl ZB6 (ZA0 (qv 1) ZA1))) ZAE)
   (ZAF rfl (ZAa (ZA9 ZC2 (qv 1) (qv 0) (by with_unfolding_all rfl)) (ZAJ rfl (ZDP ZMH (by rfl) ZMu hr (by decide) rfl rfl ZB6 (ZA0 (qv 1) ZA1))) ZAE)
   (ZAF rfl (ZAa (ZE5 (ZCz ZDT ZDT ZA2 (qv 2) (ZAQ ZAh (by rfl) ZAf (by decide +kernel) (ZA0 (qv 0) ZA1)))) (ZAJ rfl (ZDP ZBx (by rfl) ZBz hr (by decide) rfl rfl ZB6 (ZA0 (qv 2) ZA1))) ZAE)
   (ZAJ rfl (ZAa (ZA9 ZOI (ZAQ ZAh (by rfl) ZAf (by decide +kernel) (ZA0 (qv 0) ZA1)) (ZEd (v:=.int 40) (by rfl) ZEJ ⟨_,rfl⟩) (ZAI _)) (ZAJ rfl (ZM0 (by rfl) ZPN ZLx rfl rfl ZB6 (ZA0 ZAR ZA1))) ZAE))))),?_⟩
 refine Fz.ZDe h ZFq ?_
 rintro _ _ _ ⟨tp,ns,x,i,rfl,⟨hs,hi⟩,rfl,rfl⟩
 intro i0
 show Ws [_,_,_] _ _ _
 refine ZAZ (ZCW (ZDX (ZUO (ZLR (ZAG rfl ⟨x,rfl,hs.2,_,rfl,?_⟩)))))
 refine ZB4 (fun c=>?_) (fun c=>?_)
 ·refine ZBo (ZAG rfl ⟨hs.1,trivial,?_⟩)
  show ZAV.due _ _ _=_
  simp only [ZAV.due]
  rw [if_pos (by cases e:isNm x <;> simp_all)];rfl
 have h1:¬ isNm x=false:=by cases e:isNm x <;> simp_all
 refine ZAC ?_
 walk_at "ww"
 refine ZB4 (fun c=>?_) (fun c=>?_)
 ·refine ZBo (ZAG rfl ⟨hs.1,trivial,?_⟩)
  show ZAV.due _ _ _=_
  simp only [ZAV.due]
  rw [if_neg h1,if_pos (of_decide_eq_true c)];rfl
 have h2:x∉ns:=fun z=>c (decide_eq_true z)
 refine ZAC ?_
 have bad:¬ inR i 0 ns.length->ZAV.due ⟨ZA5,ZA8,ZAB,ZA3,ZAH⟩ ns (.put x i)=some ⟨ZA3,["at"],[.int i]⟩:=fun z=>by
  simp only [ZAV.due]
  rw [if_neg h1,if_neg h2,if_pos z];rfl
 refine ZAZ (ZCW (ZDX (ZAm (ZCV ?_))))
 walk_at "ww"
 refine ZB4 (fun c=>?_) (fun c=>?_)
 ·walk_at "ww"
  rw [List.length_map]
  refine ZB4 (fun c2=>?_) (fun c2=>?_)
  ·refine ZBo (ZAG rfl ⟨hi,trivial,bad fun z=>?_⟩)
   rw [decide_eq_true z.2] at c2;cases c2
  ·have h3:inR i 0 ns.length:=⟨of_decide_eq_true c,by
    cases e:decide (i<=(ns.length:Int)) with
    | true=>exact of_decide_eq_true e
    | false=>exact absurd (by rw [e];rfl) c2⟩
   refine ZAC ?_
   walk_at "ww"
   rw [List.length_map]
   refine ZB4 (fun c3=>?_) (fun c3=>?_)
   ·refine ZLK ?_
    walk_at "ww"
    refine ⟨by simp,trivial,?_⟩
    show ZAV.due _ _ _=_
    simp only [ZAV.due]
    have q:=of_decide_eq_true c3
    rw [if_neg h1,if_neg h2,if_neg (Decidable.not_not.mpr h3),if_pos (by omega)];rfl
   ·refine ZAC ⟨_,rfl,?_⟩
    show ZAV.due _ _ _=_
    simp only [ZAV.due]
    have q:¬ (40:Int)<=ns.length:=fun z=>c3 (decide_eq_true z)
    rw [if_neg h1,if_neg h2,if_neg (Decidable.not_not.mpr h3),if_neg (by omega)]
 ·refine ⟨false,rfl,ZEU rfl ?_⟩
  refine ZBo (ZAG rfl ⟨hi,trivial,bad fun z=>c (decide_eq_true z.1)⟩)
theorem ZJy:ZAP ["row", "name", "at"] ["row", "name", "at"] (ZA4 ZCM):=⟨rfl,rfl,rfl,by decide +kernel,rfl,by decide +kernel,by decide +kernel⟩
theorem ZFO {ZAH:Addr}{ZAB:Addr}{ZA5:Addr}{ZA3:Addr}{ZA8:Addr}:∀ ss R D,(ZGm ⟨ZA5,ZA8,ZAB,ZA3,ZAH⟩) ss R D->ss.length=3:=by rintro _ _ _ ⟨tp,ns,x,i,rfl,_,rfl,rfl⟩;rfl
theorem ZKd {ZAH:Addr}{ZAB:Addr}{ZA5:Addr}{ZA3:Addr}{ZA8:Addr}(F:Fun K "check_move" "check_move" ZCM f fd) (bd:Binds K fd ["row", "name", "at"] []) (m:mg "check_move" = some (.ref f)) (ZBA:ZET P w K mg base "place_of" 3 ["row", "name"] (spX (ZDw ZAB))) (ZAf:mg "len" = none) (ZBz:mg "NoPlace" = some (.ref ZA3)) (ZBx:ZHz P w K mg base ZA3 "at") :
  ZET P w K mg base "check_move" 4 ["row", "name", "at"] (spX (ZGm ⟨ZA5,ZA8,ZAB,ZA3,ZAH⟩)):=by
 refine ZET.mk F bd m (F.okx (k:=3) ZJy (fun vs H Q E h=>Fz.ZDt ZFO h) (fun cdv A outer s H vs Q E hr h=>?_))
 refine ⟨_,(ZAF rfl (ZB7 (ZCp ZBA hr (by decide) ZB6 rfl (ZA0 (qv 0) (ZA0 (qv 1) ZA1))))
   (ZAJ rfl (ZAa (ZE5 (ZCz ZDT ZI8 ZA2 (qv 2) (ZAQ ZAh (by rfl) ZAf (by decide +kernel) (ZA0 (qv 0) ZA1)))) (ZAJ rfl (ZDP ZBx (by rfl) ZBz hr (by decide) rfl rfl ZB6 (ZA0 (qv 2) ZA1))) ZAE))),?_⟩
 refine Fz.ZDe h ZFO ?_
 rintro _ _ _ ⟨tp,ns,x,i,rfl,⟨hs,hi⟩,rfl,rfl⟩
 intro i0
 show Ws [_,_,_] _ _ _
 refine ZAZ (ZDq ?_)
 refine ZBu ?_
 refine ZB2 (ZBl rfl (ZAb (ZAG rfl (ZAd ⟨_,_,⟨tp,ns,x,rfl,hs,rfl,rfl⟩,trivial,?_,?_⟩))))
 ·rintro e ⟨hx,rfl⟩
  show ZAV.due _ _ _=_
  simp only [ZAV.due]
  rw [if_pos hx]
 rintro _ ⟨hx,_⟩
 have bad:¬ inR i 0 (ns.length - 1)->ZAV.due ⟨ZA5,ZA8,ZAB,ZA3,ZAH⟩ ns (.move x i)=some ⟨ZA3,["at"],[.int i]⟩:=fun z=>by
  simp only [ZAV.due]
  rw [if_neg (Decidable.not_not.mpr hx),if_pos z];rfl
 refine ZCW (ZDX (ZAm (ZCV ?_)))
 walk_at "ww"
 refine ZB4 (fun c=>?_) (fun c=>?_)
 ·walk_at "ww"
  rw [List.length_map]
  refine ZB4 (fun c2=>?_) (fun c2=>?_)
  ·refine ZBo (ZAG rfl ⟨hi,trivial,bad fun z=>?_⟩)
   have:=z.2
   rw [decide_eq_true (by omega)] at c2;cases c2
  ·have h3:i < (ns.length:Int):=by
    cases e:decide (i < (ns.length:Int)) with
    | true=>exact of_decide_eq_true e
    | false=>exact absurd (by rw [e];rfl) c2
   refine ZAC ⟨_,rfl,?_⟩
   show ZAV.due _ _ _=_
   simp only [ZAV.due]
   rw [if_neg (Decidable.not_not.mpr hx),if_neg (Decidable.not_not.mpr ⟨of_decide_eq_true c,by omega⟩)]
 ·refine ⟨false,rfl,ZEU rfl ?_⟩
  refine ZBo (ZAG rfl ⟨hi,trivial,bad fun z=>c (decide_eq_true z.1)⟩)
theorem ZKT:ZAP ["row", "low", "high"] ["row", "low", "high"] (ZA4 ZCP):=⟨rfl,rfl,rfl,by decide +kernel,rfl,by decide +kernel,by decide +kernel⟩
theorem ZFM {ZAH:Addr}{ZAB:Addr}{ZA5:Addr}{ZA3:Addr}{ZA8:Addr}:∀ ss R D,(ZGy ⟨ZA5,ZA8,ZAB,ZA3,ZAH⟩) ss R D->ss.length=3:=by rintro _ _ _ ⟨tp,ns,lo,hi,rfl,_,rfl,rfl⟩;rfl
theorem ZKi {ZAH:Addr}{ZAB:Addr}{ZA5:Addr}{ZA3:Addr}{ZA8:Addr}(F:Fun K "check_turn" "check_turn" ZCP f fd) (bd:Binds K fd ["row", "low", "high"] []) (m:mg "check_turn" = some (.ref f)) (ZAf:mg "len" = none) (ZBz:mg "NoPlace" = some (.ref ZA3)) (ZBx:ZHz P w K mg base ZA3 "at") :
  ZET P w K mg base "check_turn" 3 ["row", "low", "high"] (spX (ZGy ⟨ZA5,ZA8,ZAB,ZA3,ZAH⟩)):=by
 refine ZET.mk F bd m (F.okx (k:=2) ZKT (fun vs H Q E h=>Fz.ZDt ZFM h) (fun cdv A outer s H vs Q E hr h=>?_))
 refine ⟨_,(ZAF rfl (ZAa (ZE5 (ZCz ZDT ZDT ZA2 (qv 1) (ZAQ ZAh (by rfl) ZAf (by decide +kernel) (ZA0 (qv 0) ZA1)))) (ZAJ rfl (ZDP ZBx (by rfl) ZBz hr (by decide) rfl rfl ZB6 (ZA0 (qv 1) ZA1))) ZAE)
   (ZAJ rfl (ZAa (ZE5 (ZCz ZDT ZDT (qv 1) (qv 2) (ZAQ ZAh (by rfl) ZAf (by decide +kernel) (ZA0 (qv 0) ZA1)))) (ZAJ rfl (ZDP ZBx (by rfl) ZBz hr (by decide) rfl rfl ZB6 (ZA0 (qv 2) ZA1))) ZAE))),?_⟩
 refine Fz.ZDe h ZFM ?_
 rintro _ _ _ ⟨tp,ns,lo,hi,rfl,⟨hl,hh⟩,rfl,rfl⟩
 intro i0
 show Ws [_,_,_] _ _ _
 have bad:¬ inR lo 0 ns.length->ZAV.due ⟨ZA5,ZA8,ZAB,ZA3,ZAH⟩ ns (.turn lo hi)=some ⟨ZA3,["at"],[.int lo]⟩:=fun z=>by
  simp only [ZAV.due]
  rw [if_pos z];rfl
 have bad2:inR lo 0 ns.length->¬ inR hi lo ns.length->ZAV.due ⟨ZA5,ZA8,ZAB,ZA3,ZAH⟩ ns (.turn lo hi)=some ⟨ZA3,["at"],[.int hi]⟩:=fun y z=>by
  simp only [ZAV.due]
  rw [if_neg (Decidable.not_not.mpr y),if_pos z];rfl
 refine ZAZ (ZCW (ZDX (ZAm (ZCV ?_))))
 walk_at "ww"
 refine ZB4 (fun c=>?_) (fun c=>?_)
 ·walk_at "ww"
  rw [List.length_map]
  refine ZB4 (fun c2=>?_) (fun c2=>?_)
  ·refine ZBo (ZAG rfl ⟨hl,trivial,bad fun z=>?_⟩)
   rw [decide_eq_true z.2] at c2;cases c2
  ·have h3:inR lo 0 ns.length:=⟨of_decide_eq_true c,by
    cases e:decide (lo<=(ns.length:Int)) with
    | true=>exact of_decide_eq_true e
    | false=>exact absurd (by rw [e];rfl) c2⟩
   refine ZAC ?_
   refine ZCW (ZDX (ZAm (ZCV ?_)))
   walk_at "ww"
   refine ZB4 (fun c3=>?_) (fun c3=>?_)
   ·walk_at "ww"
    rw [List.length_map]
    refine ZB4 (fun c4=>?_) (fun c4=>?_)
    ·refine ZBo (ZAG rfl ⟨hh,trivial,bad2 h3 fun z=>?_⟩)
     rw [decide_eq_true z.2] at c4;cases c4
    ·have h4:inR hi lo ns.length:=⟨of_decide_eq_true c3,by
      cases e:decide (hi<=(ns.length:Int)) with
      | true=>exact of_decide_eq_true e
      | false=>exact absurd (by rw [e];rfl) c4⟩
     refine ZAC ⟨_,rfl,?_⟩
     show ZAV.due _ _ _=_
     simp only [ZAV.due]
     rw [if_neg (Decidable.not_not.mpr h3),if_neg (Decidable.not_not.mpr h4)]
   ·refine ⟨false,rfl,ZEU rfl ?_⟩
    refine ZBo (ZAG rfl ⟨hh,trivial,bad2 h3 fun z=>c3 (decide_eq_true z.1)⟩)
 ·refine ⟨false,rfl,ZEU rfl ?_⟩
  refine ZBo (ZAG rfl ⟨hl,trivial,bad fun z=>c (decide_eq_true z.1)⟩)
theorem ZKH:ZAP ["row", "deed"] ["row", "deed"] (ZA4 ZCN):=⟨rfl,rfl,rfl,by decide +kernel,rfl,by decide +kernel,by decide +kernel⟩
theorem ZFQ {ZAH:Addr}{ZAB:Addr}{ZA5:Addr}{ZA3:Addr}{ZA8:Addr}:∀ ss R D,(ZPK ⟨ZA5,ZA8,ZAB,ZA3,ZAH⟩) ss R D->ss.length=2:=by rintro _ _ _ ⟨tp,ns,d,rfl,_,rfl,rfl⟩;rfl
theorem ZK5 {ZAH:Addr}{ZAB:Addr}{ZA5:Addr}{ZA3:Addr}{ZA8:Addr}(F:Fun K "check_deed" "check_deed" ZCN f fd) (bd:Binds K fd ["row", "deed"] []) (m:mg "check_deed" = some (.ref f)) (ZF1:ZET P w K mg base "check_move" 4 ["row", "name", "at"] (spX (ZGm ⟨ZA5,ZA8,ZAB,ZA3,ZAH⟩))) (ZFk:ZET P w K mg base "check_put" 3 ["row", "name", "at"] (spX (ZIR ⟨ZA5,ZA8,ZAB,ZA3,ZAH⟩))) (ZEo:ZET P w K mg base "check_turn" 3 ["row", "low", "high"] (spX (ZGy ⟨ZA5,ZA8,ZAB,ZA3,ZAH⟩))) (ZBA:ZET P w K mg base "place_of" 3 ["row", "name"] (spX (ZDw ZAB))) :
  ZET P w K mg base "check_deed" 5 ["row", "deed"] (spX (ZPK ⟨ZA5,ZA8,ZAB,ZA3,ZAH⟩)):=by
 refine ZET.mk F bd m (F.okx (k:=4) ZKH (fun vs H Q E h=>Fz.ZDt ZFQ h) (fun cdv A outer s H vs Q E hr h=>?_))
 refine ⟨_,(ZAJ rfl (ZAa (ZA9 ZBG (ZAK ZAA (qv 1) ZA2 (fun _ _=>rfl)) ZAR (ZAI _)) (ZAJ rfl (ZB7 (ZCp ZFk hr (by decide) ZB6 rfl (ZA0 (qv 0) (ZA0 (ZAK ZAA (qv 1) ZA2 (fun _ _=>rfl)) (ZA0 (ZAK ZAA (qv 1) ZA2 (fun _ _=>rfl)) ZA1)))))) (ZAJ rfl (ZAa (ZA9 ZBG (ZAK ZAA (qv 1) ZA2 (fun _ _=>rfl)) ZAR (ZAI _)) (ZAJ rfl (ZB7 (ZCp ZBA hr (by decide) ZB6 rfl (ZA0 (qv 0) (ZA0 (ZAK ZAA (qv 1) ZA2 (fun _ _=>rfl)) ZA1))))) (ZAJ rfl (ZAa (ZA9 ZBG (ZAK ZAA (qv 1) ZA2 (fun _ _=>rfl)) ZAR (ZAI _)) (ZAJ rfl (ZB7 (ZCp ZF1 hr (by decide) ZB6 rfl (ZA0 (qv 0) (ZA0 (ZAK ZAA (qv 1) ZA2 (fun _ _=>rfl)) (ZA0 (ZAK ZAA (qv 1) ZA2 (fun _ _=>rfl)) ZA1)))))) (ZAJ rfl (ZB7 (ZCp ZEo hr (by decide) ZB6 rfl (ZA0 (qv 0) (ZA0 (ZAK ZAA (qv 1) ZA2 (fun _ _=>rfl)) (ZA0 (ZAK ZAA (qv 1) ZA2 (fun _ _=>rfl)) ZA1)))))))))))),?_⟩
 refine Fz.ZDe h ZFQ ?_
 rintro _ _ _ ⟨tp,ns,d,rfl,hs,rfl,rfl⟩
 intro i0
 show Ws [_,_] _ _ _
 cases d with
 | put x i=>
  unfold aP
  walk_at "ww"
  refine ZEU (by decide +kernel) ?_
  refine ZDq ?_
  refine ZBu ?_
  refine ZB2 (ZBl rfl (ZAb ?_))
  walk_at "ww"
  refine ZAb ?_
  walk_at "ww"
  exact ZAd ⟨_,_,⟨tp,ns,_,_,rfl,hs,rfl,rfl⟩,trivial,fun e h=>h,fun p hp=>⟨_,rfl,hp⟩⟩
 | take x=>
  unfold aP
  walk_at "ww"
  refine ZCx (by decide +kernel) ?_
  walk_at "ww"
  refine ZEU (by decide +kernel) ?_
  refine ZDq ?_
  refine ZBu ?_
  refine ZB2 (ZBl rfl (ZAb ?_))
  walk_at "ww"
  refine ZAd ⟨_,_,⟨tp,ns,x,rfl,hs,rfl,rfl⟩,trivial,?_,?_⟩
  ·rintro e ⟨hx,rfl⟩
   show ZAV.due _ _ _=_
   simp only [ZAV.due]
   rw [if_pos hx]
  ·rintro p ⟨hx,_⟩
   refine ⟨_,rfl,?_⟩
   show ZAV.due _ _ _=_
   simp only [ZAV.due]
   rw [if_neg (Decidable.not_not.mpr hx)]
 | move x i=>
  unfold aP
  walk_at "ww"
  refine ZCx (by decide +kernel) ?_
  walk_at "ww"
  refine ZCx (by decide +kernel) ?_
  walk_at "ww"
  refine ZEU (by decide +kernel) ?_
  refine ZDq ?_
  refine ZBu ?_
  refine ZB2 (ZBl rfl (ZAb ?_))
  walk_at "ww"
  refine ZAb ?_
  walk_at "ww"
  exact ZAd ⟨_,_,⟨tp,ns,_,_,rfl,hs,rfl,rfl⟩,trivial,fun e h=>h,fun p hp=>⟨_,rfl,hp⟩⟩
 | turn lo hi=>
  unfold aP
  walk_at "ww"
  refine ZCx (by decide +kernel) ?_
  walk_at "ww"
  refine ZCx (by decide +kernel) ?_
  walk_at "ww"
  refine ZCx (by decide +kernel) ?_
  refine ZDq ?_
  refine ZBu ?_
  refine ZB2 (ZBl rfl (ZAb ?_))
  walk_at "ww"
  refine ZAb ?_
  walk_at "ww"
  exact ZAd ⟨_,_,⟨tp,ns,_,_,rfl,hs,rfl,rfl⟩,trivial,fun e h=>h,fun p hp=>⟨_,rfl,hp⟩⟩
theorem ZKB:ZAP ["row", "low", "high"] ["row", "low", "high"] (ZA4 ZCL):=⟨rfl,rfl,rfl,by decide +kernel,rfl,by decide +kernel,by decide +kernel⟩
theorem ZFR  : ∀ ss R,ZF0 ss R->ss.length=3:=by rintro _ _ ⟨tp,ns,lo,hi,rfl,_,_,_,rfl⟩;rfl
theorem ZKA (F:Fun K "row_turned" "row_turned" ZCL f fd) (bd:Binds K fd ["row", "low", "high"] []) (m:mg "row_turned" = some (.ref f)) (ZBk:mg "list" = none) (ZD3:mg "reversed" = none) :
  Has P w K mg base "row_turned" 1 ["row", "low", "high"] (spF ZF0):=by
 refine Has.mk F bd m (F.okq (k:=0) ZKB (fun vs H Q E h=>Fz.ZAx ZFR h) (fun cdv A outer s H vs Q E hr h=>?_))
 refine ⟨_,(ZAJ rfl (ZAM (ZAc ZFw (ZAc ZFw (ZAi ZB8 (by rfl) ZBk (by decide +kernel) (ZA0 (ZAq Fz.ZH9 (qv 0) ZBM (ZB0 (qv 1))) ZA1)) (ZSd rfl rfl ZBk rfl ZD3 (ZA0 (ZAq Fz.ZH9 (qv 0) (ZB0 (qv 1)) (ZB0 (qv 2))) ZA1))) (ZAi ZB8 (by rfl) ZBk (by decide +kernel) (ZA0 (ZAq Fz.ZH9 (qv 0) (ZB0 (qv 2)) ZBM) ZA1))))),?_⟩
 refine Fz.ZBb h ZFR ?_
 rintro _ _ ⟨tp,ns,lo,hi,rfl,hz,h1,h2,rfl⟩
 show Ws [_,_,_] _ _ _
 walk_at "ww"
 rw [ZJi,ZRa _ h1 (by simpa using h2)]
 refine ⟨by simp;omega,?_⟩
 walk_at "ww"
 rw [ZQ6]
 refine ⟨by simp;omega,?_⟩
 unfold trn
 simp only [List.map_append,List.map_take,List.map_drop,List.map_reverse]
theorem ZMy:ZAP ["row", "name", "at"] ["row", "name", "at"] (ZA4 ZD9):=⟨rfl,rfl,rfl,by decide +kernel,rfl,by decide +kernel,by decide +kernel⟩
theorem ZHM  : ∀ ss R,ZGx ss R->ss.length=3:=by rintro _ _ ⟨tp,ns,x,i,rfl,_,rfl⟩;rfl
theorem ZMq (F:Fun K "row_with" "row_with" ZD9 f fd) (bd:Binds K fd ["row", "name", "at"] []) (m:mg "row_with" = some (.ref f)) (ZBk:mg "list" = none) :
  Has P w K mg base "row_with" 1 ["row", "name", "at"] (spF ZGx):=by
 refine Has.mk F bd m (F.okq (k:=0) ZMy (fun vs H Q E h=>Fz.ZAx ZHM h) (fun cdv A outer s H vs Q E hr h=>?_))
 refine ⟨_,(ZAJ rfl (ZAM (ZAc ZFw (ZAc ZFw (ZAi ZB8 (by rfl) ZBk (by decide +kernel) (ZA0 (ZAq Fz.ZH9 (qv 0) ZBM (ZB0 (qv 2))) ZA1)) (ZBV (ZA0 (qv 1) ZA1))) (ZAi ZB8 (by rfl) ZBk (by decide +kernel) (ZA0 (ZAq Fz.ZH9 (qv 0) (ZB0 (qv 2)) ZBM) ZA1))))),?_⟩
 refine Fz.ZBb h ZHM ?_
 rintro _ _ ⟨tp,ns,x,i,rfl,hz,rfl⟩
 show Ws [_,_,_] _ _ _
 walk_at "ww"
 rw [ZJi]
 refine ⟨by simp,?_⟩
 walk_at "ww"
 refine ⟨by simp;omega,?_⟩
 walk_at "ww"
 rw [ZQ6]
 refine ⟨by simp;omega,?_⟩
 unfold ins
 simp only [List.map_append,List.map_take,List.map_cons,List.map_drop,List.append_assoc,List.singleton_append]
theorem ZJE:ZAP ["row", "name"] ["row", "name"] (ZA4 ZBa):=⟨rfl,rfl,rfl,by decide +kernel,rfl,by decide +kernel,by decide +kernel⟩
def ZHR:Scope:={ kind:=.function,names:=[(".0", .local),("thing", .local),("name", .free)],isGenerator:=false,isCoroutine:=false,more:=[] }
theorem ZHP:ZAr ["row", "name"] (ZA4 ZBa) ZHR "thing" ["name"] [1]:=⟨rfl,by decide +kernel,by decide +kernel,rfl,rfl,by decide +kernel,by decide +kernel,by decide +kernel,by decide +kernel⟩
theorem ZEm  : ∀ ss R,ZEF ss R->ss.length=2:=by rintro _ _ ⟨tp,ns,x,rfl,_,rfl⟩;rfl
theorem ZJ0 (F:Fun K "row_without" "row_without" ZBa f fd) (bd:Binds K fd ["row", "name"] []) (m:mg "row_without" = some (.ref f))  :
  Has P w K mg base "row_without" 1 ["row", "name"] (spF ZEF):=by
 refine Has.mk F bd m (F.okq (k:=0) ZJE (fun vs H Q E h=>Fz.ZAx ZEm h) (fun cdv A outer s H vs Q E hr h=>?_))
 refine ⟨_,(ZAJ rfl (ZAM (ZED rfl ZHP (ZGY (qv 0)) (fun _ _ _ _=>by exact (ZEb (ZA9 ZLf (qv 1) (qv 0) (ZAI _)))) (fun _ _ _ _=>by exact (qv 1))))),?_⟩
 refine Fz.ZBb h ZEm ?_
 rintro _ _ ⟨tp,ns,x,rfl,hz,rfl⟩
 show Ws [_,_] _ _ _
 refine ZFZ (ZFt PV.str (fun y=>!alike (.str y) (.str x)) PV.str ?_ str_inj)
 walk_at "ww"
 refine ⟨by omega,fun y hy=>by walk_at "ww"; rfl,fun y hy _=>by walk_at "ww"; rfl,?_⟩
 rw [ZPe]
theorem ZTk:ZAP ["row", "deed"] ["row", "deed"] (ZA4 ZJV):=⟨rfl,rfl,rfl,by decide +kernel,rfl,by decide +kernel,by decide +kernel⟩
theorem ZNl {ZAH:Addr}{ZAB:Addr}{ZA5:Addr}{ZA3:Addr}{ZA8:Addr}:∀ ss R D,(ZJm ⟨ZA5,ZA8,ZAB,ZA3,ZAH⟩) ss R D->ss.length=2:=by rintro _ _ _ ⟨tp,ns,d,rfl,_,_,rfl,rfl⟩;rfl
theorem ZUJ {ZAH:Addr}{ZAB:Addr}{ZA5:Addr}{ZA3:Addr}{ZA8:Addr}(F:Fun K "done" "done" ZJV f fd) (bd:Binds K fd ["row", "deed"] []) (m:mg "done" = some (.ref f)) (ZEj:ZET P w K mg base "check_deed" 5 ["row", "deed"] (spX (ZPK ⟨ZA5,ZA8,ZAB,ZA3,ZAH⟩))) (ZEl:Has P w K mg base "row_turned" 1 ["row", "low", "high"] (spF ZF0)) (ZFB:Has P w K mg base "row_with" 1 ["row", "name", "at"] (spF ZGx)) (ZD2:Has P w K mg base "row_without" 1 ["row", "name"] (spF ZEF)) :
  ZET P w K mg base "done" 6 ["row", "deed"] (spX (ZJm ⟨ZA5,ZA8,ZAB,ZA3,ZAH⟩)):=by
 refine ZET.mk F bd m (F.okx (k:=5) ZTk (fun vs H Q E h=>Fz.ZDt ZNl h) (fun cdv A outer s H vs Q E hr h=>?_))
 refine ⟨_,(ZAF rfl (ZB7 (ZCp ZEj hr (by decide) ZB6 rfl (ZA0 (qv 0) (ZA0 (qv 1) ZA1))))
   (ZAF rfl (ZAa (ZA9 ZBG (ZAK ZAA (qv 1) ZA2 (fun _ _=>rfl)) ZAR (ZAI _)) (ZAJ rfl (ZAM (ZAS ZFB hr (by decide) (ZA0 (qv 0) (ZA0 (ZAK ZAA (qv 1) ZA2 (fun _ _=>rfl)) (ZA0 (ZAK ZAA (qv 1) ZA2 (fun _ _=>rfl)) ZA1)))))) ZAE)
   (ZAF rfl (ZAa (ZA9 ZBG (ZAK ZAA (qv 1) ZA2 (fun _ _=>rfl)) ZAR (ZAI _)) (ZAJ rfl (ZAM (ZAS ZD2 hr (by decide) (ZA0 (qv 0) (ZA0 (ZAK ZAA (qv 1) ZA2 (fun _ _=>rfl)) ZA1))))) ZAE)
   (ZAF rfl (ZAa (ZA9 ZBG (ZAK ZAA (qv 1) ZA2 (fun _ _=>rfl)) ZAR (ZAI _)) (ZAJ rfl (ZAM (ZAS ZFB hr (by decide) (ZA0 (ZAS ZD2 hr (by decide) (ZA0 (qv 0) (ZA0 (ZAK ZAA (qv 1) ZA2 (fun _ _=>rfl)) ZA1))) (ZA0 (ZAK ZAA (qv 1) ZA2 (fun _ _=>rfl)) (ZA0 (ZAK ZAA (qv 1) ZA2 (fun _ _=>rfl)) ZA1)))))) ZAE)
   (ZAJ rfl (ZAM (ZAS ZEl hr (by decide) (ZA0 (qv 0) (ZA0 (ZAK ZAA (qv 1) ZA2 (fun _ _=>rfl)) (ZA0 (ZAK ZAA (qv 1) ZA2 (fun _ _=>rfl)) ZA1)))))))))),?_⟩
 refine Fz.ZDe h ZNl ?_
 rintro _ _ _ ⟨tp,ns,d,rfl,hs,hz,rfl,rfl⟩
 intro i0
 show Ws [_,_] _ _ _
 refine ZAZ (ZDq ?_)
 refine ZBu ?_
 refine ZB2 (ZBl rfl (ZAb (ZAG rfl (ZAd ⟨_,_,⟨tp,ns,d,rfl,hs,rfl,rfl⟩,trivial,fun e h=>h,?_⟩))))
 intro _ hd
 obtain ⟨d',hd'⟩:=ZAV.good hd
 have hx:=Is.ZXd hs hd'
 have ok:=hd'.2
 rw [hd'.1]
 cases d' with
 | put x i=>
  unfold dP
  walk_at "ww"
  refine ZEU (by decide +kernel) ?_
  refine ZFZ (ZFY (ZB2 (ZBl rfl (ZAb ?_))))
  walk_at "ww"
  refine ZAb ?_
  walk_at "ww"
  exact ZAd ⟨_,⟨tp,ns,x,i,rfl,by omega,rfl⟩,fun xs h=>⟨_,hd',h⟩⟩
 | take x=>
  unfold dP
  walk_at "ww"
  refine ZCx (by decide +kernel) ?_
  refine ZAC ?_
  walk_at "ww"
  refine ZEU (by decide +kernel) ?_
  refine ZFZ (ZFY (ZB2 (ZBl rfl (ZAb ?_))))
  walk_at "ww"
  exact ZAd ⟨_,⟨tp,ns,x,rfl,by omega,rfl⟩,fun xs h=>⟨_,hd',h⟩⟩
 | move x i=>
  unfold dP
  walk_at "ww"
  refine ZCx (by decide +kernel) ?_
  refine ZAC ?_
  walk_at "ww"
  refine ZCx (by decide +kernel) ?_
  refine ZAC ?_
  walk_at "ww"
  refine ZEU (by decide +kernel) ?_
  refine ZFZ (ZFY (ZB2 (ZBP (ZAn (ZFY (ZB2 (ZBl rfl (ZAb ?_))))))))
  walk_at "ww"
  refine ZAd ⟨_,⟨tp,ns,x,rfl,by omega,rfl⟩,?_⟩
  rintro _ rfl
  refine ⟨_,.inl ⟨rfl,ZAb ?_⟩⟩
  walk_at "ww"
  refine ZAb ?_
  walk_at "ww"
  have hl:(wo ns x).length<=ns.length:=List.length_filter_le _ _
  exact ZAd ⟨_,⟨false,wo ns x,x,i,rfl,by omega,rfl⟩,fun xs h=>⟨_,hd',h⟩⟩
 | turn lo hi=>
  unfold dP
  walk_at "ww"
  refine ZCx (by decide +kernel) ?_
  refine ZAC ?_
  walk_at "ww"
  refine ZCx (by decide +kernel) ?_
  refine ZAC ?_
  walk_at "ww"
  refine ZCx (by decide +kernel) ?_
  refine ZAC ?_
  refine ZFZ (ZFY (ZB2 (ZBl rfl (ZAb ?_))))
  walk_at "ww"
  refine ZAb ?_
  walk_at "ww"
  exact ZAd ⟨_,⟨tp,ns,lo,hi,rfl,by omega,ok.1,ok.2,rfl⟩,fun xs h=>⟨_,hd',h⟩⟩
theorem ZGp:ZAP ["gap", "at"] ["gap", "at"] (ZA4 ZBK):=⟨rfl,rfl,rfl,by decide +kernel,rfl,by decide +kernel,by decide +kernel⟩
theorem ZDd  : ∀ ss R,ZIN ss R->ss.length=2:=by rintro _ _ ⟨g,i,rfl,rfl⟩;rfl
theorem ZGv (F:Fun K "gap_behind_put" "gap_behind_put" ZBK f fd) (bd:Binds K fd ["gap", "at"] []) (m:mg "gap_behind_put" = some (.ref f))  :
  Has P w K mg base "gap_behind_put" 1 ["gap", "at"] (spF ZIN):=by
 refine Has.mk F bd m (F.okq (k:=0) ZGp (fun vs H Q E h=>Fz.ZAx ZDd h) (fun cdv A outer s H vs Q E hr h=>?_))
 refine ⟨_,(ZAF rfl (ZAa (ZA9 ZI8 (qv 1) (qv 0) (ZAI _)) (ZAJ rfl (ZAM (ZAc ZBc (qv 0) ZA2))) ZAE)
   (ZAJ rfl (ZAM (qv 0)))),?_⟩
 refine Fz.ZBb h ZDd ?_
 rintro _ _ ⟨g,i,rfl,rfl⟩
 show Ws [_,_] _ _ _
 walk_at "ww"
 refine ZB4 (fun c=>?_) (fun c=>?_)
 ·have h:i < g:=by have:=of_decide_eq_true c;omega
  walk_at "ww"
  unfold ZOl;rw [if_pos h];rfl
 ·have h:¬ i < g:=fun z=>c (decide_eq_true (by omega))
  refine ZAC ?_
  walk_at "ww"
  unfold ZOl;rw [if_neg h]
theorem ZGA:ZAP ["gap", "place"] ["gap", "place"] (ZA4 ZBC):=⟨rfl,rfl,rfl,by decide +kernel,rfl,by decide +kernel,by decide +kernel⟩
theorem ZDS  : ∀ ss R,ZGc ss R->ss.length=2:=by rintro _ _ ⟨g,i,rfl,rfl⟩;rfl
theorem ZGO (F:Fun K "gap_behind_take" "gap_behind_take" ZBC f fd) (bd:Binds K fd ["gap", "place"] []) (m:mg "gap_behind_take" = some (.ref f))  :
  Has P w K mg base "gap_behind_take" 1 ["gap", "place"] (spF ZGc):=by
 refine Has.mk F bd m (F.okq (k:=0) ZGA (fun vs H Q E h=>Fz.ZAx ZDS h) (fun cdv A outer s H vs Q E hr h=>?_))
 refine ⟨_,(ZAF rfl (ZAa (ZA9 ZI8 (qv 1) (qv 0) (ZAI _)) (ZAJ rfl (ZAM (ZAc ZFP (qv 0) ZA2))) ZAE)
   (ZAJ rfl (ZAM (qv 0)))),?_⟩
 refine Fz.ZBb h ZDS ?_
 rintro _ _ ⟨g,i,rfl,rfl⟩
 show Ws [_,_] _ _ _
 walk_at "ww"
 refine ZB4 (fun c=>?_) (fun c=>?_)
 ·have h:i < g:=by have:=of_decide_eq_true c;omega
  walk_at "ww"
  unfold ZGS;rw [if_pos h]
  show PV.int _=PV.int _
  congr 1;omega
 ·have h:¬ i < g:=fun z=>c (decide_eq_true (by omega))
  refine ZAC ?_
  walk_at "ww"
  unfold ZGS;rw [if_neg h]
theorem ZOH:ZAP ["row", "gap", "deed"] ["row", "gap", "deed"] (ZA4 ZE7):=⟨rfl,rfl,rfl,by decide +kernel,rfl,by decide +kernel,by decide +kernel⟩
theorem ZIS  : ∀ ss R,ZIn ss R->ss.length=3:=by rintro _ _ ⟨tp,ns,g,d,rfl,_,_,rfl⟩;rfl
theorem ZOb (F:Fun K "gap_led" "gap_led" ZE7 f fd) (bd:Binds K fd ["row", "gap", "deed"] []) (m:mg "gap_led" = some (.ref f)) (ZC3:Has P w K mg base "gap_behind_put" 1 ["gap", "at"] (spF ZIN)) (ZBt:Has P w K mg base "gap_behind_take" 1 ["gap", "place"] (spF ZGc)) (ZBA:ZET P w K mg base "place_of" 3 ["row", "name"] (spX (ZDw ZAB))) :
  Has P w K mg base "gap_led" 4 ["row", "gap", "deed"] (spF ZIn):=by
 refine Has.mk F bd m (F.okq (k:=3) ZOH (fun vs H Q E h=>Fz.ZAx ZIS h) (fun cdv A outer s H vs Q E hr h=>?_))
 refine ⟨_,(ZAF rfl (ZAa (ZA9 ZBG (ZAK ZAA (qv 2) ZA2 (fun _ _=>rfl)) ZAR (ZAI _)) (ZAJ rfl (ZAM (ZAS ZC3 hr (by decide) (ZA0 (qv 1) (ZA0 (ZAK ZAA (qv 2) ZA2 (fun _ _=>rfl)) ZA1))))) ZAE)
   (ZAF rfl (ZAa (ZA9 ZBG (ZAK ZAA (qv 2) ZA2 (fun _ _=>rfl)) ZAR (ZAI _)) (ZAJ rfl (ZAM (ZAS ZBt hr (by decide) (ZA0 (qv 1) (ZA0 (ZCp ZBA hr (by decide) ZEu rfl (ZA0 (qv 0) (ZA0 (ZAK ZAA (qv 2) ZA2 (fun _ _=>rfl)) ZA1))) ZA1))))) ZAE)
   (ZAF rfl (ZAa (ZA9 ZBG (ZAK ZAA (qv 2) ZA2 (fun _ _=>rfl)) ZAR (ZAI _)) (ZAJ rfl (ZAM (ZAS ZC3 hr (by decide) (ZA0 (ZAS ZBt hr (by decide) (ZA0 (qv 1) (ZA0 (ZCp ZBA hr (by decide) ZEu rfl (ZA0 (qv 0) (ZA0 (ZAK ZAA (qv 2) ZA2 (fun _ _=>rfl)) ZA1))) ZA1))) (ZA0 (ZAK ZAA (qv 2) ZA2 (fun _ _=>rfl)) ZA1))))) ZAE)
   (ZAJ rfl (ZAM (qv 1)))))),?_⟩
 refine Fz.ZBb h ZIS ?_
 rintro _ _ ⟨tp,ns,g,d,rfl,hd,hs,rfl⟩
 show Ws [_,_,_] _ _ _
 cases d with
 | put x i=>
  unfold dP
  walk_at "ww"
  refine ZEU (by decide +kernel) ?_
  refine ZBF (wp_call (ZAb (ZAG rfl (ZAb ?_))))
  walk_at "ww"
  exact ZAd ⟨_,⟨g,i,rfl,rfl⟩,fun _ h=>h⟩
 | take x=>
  unfold dP
  walk_at "ww"
  refine ZCx (by decide +kernel) ?_
  refine ZAC ?_
  walk_at "ww"
  refine ZEU (by decide +kernel) ?_
  refine ZBF (wp_call (ZAb (ZAG rfl (ZAb ?_))))
  refine ZBu ?_
  refine ZB2 (ZBl rfl (ZAb ?_))
  walk_at "ww"
  refine ZAd ⟨_,_,⟨tp,ns,x,rfl,hs x (.inl rfl),rfl,rfl⟩,trivial,fun e h=>absurd (show x∈ns from hd) h.1,?_⟩
  rintro _ ⟨_,rfl⟩
  exact ZAd ⟨_,⟨g,_,rfl,rfl⟩,fun _ h=>h⟩
 | move x i=>
  unfold dP
  walk_at "ww"
  refine ZCx (by decide +kernel) ?_
  refine ZAC ?_
  walk_at "ww"
  refine ZCx (by decide +kernel) ?_
  refine ZAC ?_
  walk_at "ww"
  refine ZEU (by decide +kernel) ?_
  refine ZBF (wp_call (ZAb (wp_call (ZAb (ZAG rfl (ZAb ?_))))))
  refine ZBu ?_
  refine ZB2 (ZBl rfl (ZAb ?_))
  walk_at "ww"
  refine ZAd ⟨_,_,⟨tp,ns,x,rfl,hs x (.inr ⟨i,rfl⟩),rfl,rfl⟩,trivial,fun e h=>absurd hd.1 h.1,?_⟩
  rintro _ ⟨_,rfl⟩
  refine ZAd ⟨_,⟨g,_,rfl,rfl⟩,?_⟩
  rintro _ rfl
  refine ZAb ?_
  walk_at "ww"
  exact ZAd ⟨_,⟨_,i,rfl,rfl⟩,fun _ h=>h⟩
 | turn lo hi=>
  unfold dP
  walk_at "ww"
  refine ZCx (by decide +kernel) ?_
  refine ZAC ?_
  walk_at "ww"
  refine ZCx (by decide +kernel) ?_
  refine ZAC ?_
  walk_at "ww"
  refine ZCx (by decide +kernel) ?_
  refine ZAC ?_
  exact ZBF (ZAG rfl rfl)
theorem ZRo:ZAP ["loop", "at"] ["loop", "at"] (ZA4 ZGe):=⟨rfl,rfl,rfl,by decide +kernel,rfl,by decide +kernel,by decide +kernel⟩
theorem ZLn  : ∀ ss R,ZIT ss R->ss.length=2:=by rintro _ _ ⟨r,g,i,xs,rfl,rfl⟩;rfl
theorem ZRs (F:Fun K "joins" "joins" ZGe f fd) (bd:Binds K fd ["loop", "at"] []) (m:mg "joins" = some (.ref f))  :
  Has P w K mg base "joins" 1 ["loop", "at"] (spF ZIT):=by
 refine Has.mk F bd m (F.okq (k:=0) ZRo (fun vs H Q E h=>Fz.ZAx ZLn h) (fun cdv A outer s H vs Q E hr h=>?_))
 refine ⟨_,(ZAJ rfl (ZAM (ZWb (ZBp ZBG (ZAK ZAA (qv 0) ZA2 (fun _ _=>rfl)) ZAR (ZAI _)) (ZGL (ZFx (ZBp ZBG (ZAK ZAA (qv 0) ZA2 (fun _ _=>rfl)) ZAR (ZAI _)) (ZGL (ZBp ZOI (qv 1) (ZAK ZAA (qv 0) ZA2 (fun _ _=>rfl)) (ZAI _)))))))),?_⟩
 refine Fz.ZBb h ZLn ?_
 rintro _ _ ⟨r,g,i,xs,rfl,rfl⟩
 show Ws [_,_] _ _ _
 refine ZBF (ZUz (ZMJ ?_))
 walk_at "ww"
 refine ⟨0,.str r,rfl,ZFT (j:=0) rfl,?_⟩
 walk_at "ww"
 unfold ZFF
 have q:∀ z:Str,alike (.str r) (.str z)=decide (V.str r=V.str z):=fun z=>by
  show decide (r=z)=_
  rw [Bool.eq_iff_iff,decide_eq_true_iff,decide_eq_true_iff]
  exact ⟨fun h=>by rw [h],fun h=>by injection h⟩
 rw [q]
 refine ZB4 (fun c=>by rw [if_pos c]) (fun c=>?_)
 rw [if_neg c]
 refine ZHv (ZMJ ?_)
 walk_at "ww"
 refine ⟨0,.str r,rfl,ZFT (j:=0) rfl,?_⟩
 walk_at "ww"
 rw [q]
 refine ZB4 (fun c=>?_) (fun c=>by rw [if_neg c])
 rw [if_pos c]
 walk_at "ww"
 refine ⟨1,.int g,rfl,ZFT (j:=1) rfl,?_⟩
 walk_at "ww"
 rfl
theorem ZHX:ZAP ["loop", "deed"] ["loop", "deed"] (ZA4 ZBT):=⟨rfl,rfl,rfl,by decide +kernel,rfl,by decide +kernel,by decide +kernel⟩
theorem ZDy  : ∀ ss R,ZEG ss R->ss.length=2:=by rintro _ _ ⟨r,g,cs,d,rfl,_,_,_,rfl⟩;rfl
theorem ZHT (F:Fun K "coming_behind" "coming_behind" ZBT f fd) (bd:Binds K fd ["loop", "deed"] []) (m:mg "coming_behind" = some (.ref f)) (ZBJ:Has P w K mg base "coming_without" 1 ["coming", "gone"] (spF ZGP)) (ZNI:Has P w K mg base "joins" 1 ["loop", "at"] (spF ZIT)) (ZBZ:mg "sorted" = none) (ZBH:mg "tuple" = none) :
  Has P w K mg base "coming_behind" 2 ["loop", "deed"] (spF ZEG):=by
 refine Has.mk F bd m (F.okq (k:=1) ZHX (fun vs H Q E h=>Fz.ZAx ZDy h) (fun cdv A outer s H vs Q E hr h=>?_))
 refine ⟨_,(ZAF rfl (ZAa (ZA9 ZBG (ZAK ZAA (qv 1) ZA2 (fun _ _=>rfl)) ZAR (ZAI _)) (ZAJ rfl (ZAM (ZAS ZBJ hr (by decide) (ZA0 (ZAK ZAA (qv 0) ZA2 (fun _ _=>rfl)) (ZA0 (ZAK ZAA (qv 1) ZA2 (fun _ _=>rfl)) ZA1))))) ZAE)
   (ZAF rfl (ZAa (ZEf (ZA9 ZBG (ZAK ZAA (qv 1) ZA2 (fun _ _=>rfl)) ZAR (ZAI _)) (ZDN (ZLi (ZAS ZNI hr (by decide) (ZA0 (qv 0) (ZA0 (ZAK ZAA (qv 1) ZA2 (fun _ _=>rfl)) ZA1)))))).pt (ZAJ rfl (ZAM (ZAi ZBL (by rfl) ZBH (by decide +kernel) (ZA0 (ZAQ ZDZ (by rfl) ZBZ (by decide +kernel) (ZA0 (ZAc ZQU (ZAK ZAA (qv 0) ZA2 (fun _ _=>rfl)) (ZAU (ZA0 (ZAK ZAA (qv 1) ZA2 (fun _ _=>rfl)) ZA1))) ZA1)) ZA1)))) ZAE)
   (ZAJ rfl (ZAM (ZAK ZAA (qv 0) ZA2 (fun _ _=>rfl)))))),?_⟩
 refine Fz.ZBb h ZDy ?_
 rintro _ _ ⟨r,g,cs,d,rfl,hz,up,hx,rfl⟩
 show Ws [_,_] _ _ _
 unfold lpP
 cases d with
 | take x=>
  unfold dP
  walk_at "ww"
  refine ZEU (by decide +kernel) ?_
  refine ZBF (wp_call (ZAb ?_))
  walk_at "ww"
  refine ZAb ?_
  walk_at "ww"
  exact ZAd ⟨_,⟨cs,x,rfl,by omega,rfl⟩,fun _ h=>h⟩
 | put x i=>
  unfold dP
  walk_at "ww"
  refine ZCx (by decide +kernel) ?_
  refine ZAC ?_
  walk_at "ww"
  refine ZEU (by decide +kernel) ?_
  refine ZUO (wp_call (ZAb (ZAG rfl (ZAb ?_))))
  walk_at "ww"
  refine ZAd ⟨_,⟨r,g,i,_,rfl,rfl⟩,?_⟩
  rintro _ rfl
  refine ⟨_,rfl,ZB4 (fun c=>?_) (fun c=>?_)⟩
  ·refine ZBF (ZFD rfl (ZBP (ZAn (ZM7 ?_))))
   walk_at "ww"
   refine ⟨cs,rfl,?_⟩
   walk_at "ww"
   refine ⟨by simp,[x],rfl,by simp,by simp;omega,fun ts pm st=>?_⟩
   refine ⟨_,.inl ⟨rfl,?_⟩⟩
   rw [ZFg pm st up (hx x i rfl),ZJu c]
  ·refine ZAC ?_
   walk_at "ww"
   rw [ZH6 (by cases e:ZFF r g i <;> simp_all)]
 | move x i=>
  unfold dP
  walk_at "ww"
  refine ZCx (by decide +kernel) ?_
  refine ZAC ?_
  walk_at "ww"
  refine ZCx (by decide +kernel) (ZMM (ZAC ?_))
  walk_at "ww"
  rfl
 | turn lo hi=>
  unfold dP
  walk_at "ww"
  refine ZCx (by decide +kernel) ?_
  refine ZAC ?_
  walk_at "ww"
  refine ZCx (by decide +kernel) (ZMM (ZAC ?_))
  walk_at "ww"
  rfl
theorem ZMK:ZAP ["row", "loop", "deed"] ["row", "loop", "deed"] (ZA4 ZD6):=⟨rfl,rfl,rfl,by decide +kernel,rfl,by decide +kernel,by decide +kernel⟩
theorem ZHC  : ∀ ss R,ZFo ss R->ss.length=3:=by rintro _ _ ⟨tp,ns,r,g,cs,d,rfl,_,_,_,_,rfl⟩;rfl
theorem ZMs (F:Fun K "loop_led" "loop_led" ZD6 f fd) (bd:Binds K fd ["row", "loop", "deed"] []) (m:mg "loop_led" = some (.ref f)) (ZDG:Has P w K mg base "coming_behind" 2 ["loop", "deed"] (spF ZEG)) (ZIP:Has P w K mg base "gap_led" 4 ["row", "gap", "deed"] (spF ZIn)) :
  Has P w K mg base "loop_led" 5 ["row", "loop", "deed"] (spF ZFo):=by
 refine Has.mk F bd m (F.okq (k:=4) ZMK (fun vs H Q E h=>Fz.ZAx ZHC h) (fun cdv A outer s H vs Q E hr h=>?_))
 refine ⟨_,(ZAJ rfl (ZAM (ZAU (ZA0 (ZAK ZAA (qv 1) ZA2 (fun _ _=>rfl)) (ZA0 (ZAS ZIP hr (by decide) (ZA0 (qv 0) (ZA0 (ZAK ZAA (qv 1) ZA2 (fun _ _=>rfl)) (ZA0 (qv 2) ZA1)))) (ZA0 (ZAS ZDG hr (by decide) (ZA0 (qv 1) (ZA0 (qv 2) ZA1))) ZA1)))))),?_⟩
 refine Fz.ZBb h ZHC ?_
 rintro _ _ ⟨tp,ns,r,g,cs,d,rfl,hd,gd,hz,hs,rfl⟩
 show Ws [_,_,_] _ _ _
 unfold lpP
 have hl:=gd.len
 walk_at "ww"
 refine wp_call (ZB2 (ZBl rfl (ZAb ?_)))
 walk_at "ww"
 refine ZAb (ZAG rfl (ZAd ⟨_,⟨tp,ns,g,d,rfl,hd,hs,rfl⟩,?_⟩))
 rintro _ rfl
 walk_at "ww"
 refine wp_call (ZAb (ZAG rfl (ZAb (ZAG rfl (ZAd ⟨_,⟨r,g,cs,d,rfl,by omega,gd.up,ZIE gd hd,rfl⟩,?_⟩)))))
 rintro _ rfl
 walk_at "ww"
 exact ⟨by simp,rfl⟩
theorem ZCK:ZAP ["row", "loop", "trial", "told", "entry", "answer", "behind"] ["row", "loop", "trial"] (ZA4 ZE4):=⟨rfl,rfl,rfl,by decide +kernel,rfl,by decide +kernel,by decide +kernel⟩
theorem ZIj {ZAH:Addr}{ZAB:Addr}{ZA5:Addr}{ZA3:Addr}{ZA8:Addr}:∀ ss R D,(ZIH ⟨ZA5,ZA8,ZAB,ZA3,ZAH⟩) ss R D->ss.length=3:=by rintro _ _ _ ⟨tp,ns,l1,es,rfl,_,rfl,rfl⟩;rfl
theorem ZOa {ZDI:Addr}{ZAH:Addr}{ZAB:Addr}{ZAW:Addr}{ZA5:Addr}{ZA3:Addr}{ZA8:Addr}(F:Fun K "told_in" "told_in" ZE4 f fd) (bd:Binds K fd ["row", "loop", "trial"] []) (m:mg "told_in" = some (.ref f)) (ZPT:ZET P w K mg base "done" 6 ["row", "deed"] (spX (ZJm ⟨ZA5,ZA8,ZAB,ZA3,ZAH⟩))) (ZGh:Has P w K mg base "loop_led" 5 ["row", "loop", "deed"] (spF ZFo)) (ZP3:ZET P w K mg base "step" 5 ["row", "loop"] (spX (ZJj ZAW))) (ZJL:mg "STEP" = some (.ref ZDI)) (ZJO:∀ H,SqT K H ZDI [.str "step"]) :
  ZET P w K mg base "told_in" 7 ["row", "loop", "trial"] (spX (ZIH ⟨ZA5,ZA8,ZAB,ZA3,ZAH⟩)):=by
 refine ZET.mk F bd m (F.okx (k:=6) ZCK (fun vs H Q E h=>Fz.ZDt ZIj h) (fun cdv A outer s H vs Q E hr h=>?_))
 refine ⟨_,(ZAF rfl (ZAL (i:=3) ZCK.nd rfl (Or.inl rfl) (ZBV ZA1))
   (ZAF rfl (ZAv (ZHB ZTd rfl (ZGY (qv 2)) (ZBD (i:=4) ZCK.nd rfl (Or.inl rfl)) (ZAJ rfl (ZAa (ZA9 (Fz.ZIJ hr.units) (qv 4) (ZEd (v:=.ref ZDI) (by rfl) ZJL rfl) (ZAI _)) (ZAF rfl (ZAL (i:=5) ZCK.nd rfl (Or.inl rfl) (ZCp ZP3 hr (by decide) ZB6 rfl (ZA0 (qv 0) (ZA0 (qv 1) ZA1))))
   (ZAF rfl (ZB7 (ZEV PySem.F.plainAttrs_list PySem.F.slot_list_append PySem.F.type_list_append ZBy (qv 3) (ZA0 (ZAK ZAA (qv 5) ZA2 (fun _ _=>rfl)) ZA1)))
   (ZAJ rfl (ZAL (i:=1) ZCK.nd rfl (Or.inl rfl) (ZAK ZAA (qv 5) ZA2 (fun _ _=>rfl)))))) (ZAF rfl (ZAL (i:=6) ZCK.nd rfl (Or.inl rfl) (ZCp ZPT hr (by decide) ZB6 rfl (ZA0 (qv 0) (ZA0 (qv 4) ZA1))))
   (ZAF rfl (ZAL (i:=1) ZCK.nd rfl (Or.inl rfl) (ZAS ZGh hr (by decide) (ZA0 (qv 0) (ZA0 (qv 1) (ZA0 (qv 4) ZA1)))))
   (ZAJ rfl (ZAL (i:=0) ZCK.nd rfl (Or.inl rfl) (qv 6)))))))))
   (ZAJ rfl (ZAM (qv 3))))),?_⟩
 refine Fz.ZDe h ZIj ?_
 rintro _ _ _ ⟨tp,ns,l1,es,rfl,ok,rfl,rfl⟩
 intro i0
 have C:Con K ZDI [.str "step"]:=Con.of ZJO rfl rfl
 have dC:dat K 40 (.con ZDI [.str "step"]):=C.dat (d:=39) (fun x hx=>by rw [List.mem_singleton.mp hx];trivial)
 show Ws [_,_,_,.any,.any,.any,.any] _ _ _
 refine ZAZ (ZCb (ZDu (ZBO ⟨by simp,?_⟩)))
 refine ZAZ (ZBv (ZJR (fun _ i ss'=>∃ (tp':Bool) (ns':List Str) (l':Lp) (acc:List (Option Str)) (s0 s4 s5 s6:Slot),ZUv s0 tp' ns'/\TI ⟨ZA5,ZA8,ZAB,ZA3,ZAH⟩ ns l1 es i ns' l' acc/\ss'=[s0,.is l'.P,.sq false (es.map etP),.own (acc.map ZCi),s4,s5,s6]) ?_))
 walk_at "ww"
 refine ⟨⟨tp,ns,l1,[],_,_,_,_,.inl rfl,TI.zero ok.row ok.g1,rfl⟩,?_,?_⟩
 ·rintro i p ss' hp ⟨tp',ns',l',acc,s0,s4,s5,s6,hs0,ti,rfl⟩
  rw [List.getElem?_map] at hp
  cases he:es[i]? with
  | none=>rw [he] at hp;cases hp
  | some e=>
  rw [he] at hp
  cases hp
  have gl:=ZBW.len ti.gd
  have rl:=ti.row.len
  refine ZIf ?_
  refine ZCW (ZAm (ZHD (ZAG rfl (ZSJ [.str "step"] ⟨ZId K 39 e,dC,_,rfl,?_⟩))))
  rw [ZNb]
  cases e with
  | stp=>
   refine ZEU rfl ?_
   refine ZAZ (ZC1 ?_)
   refine ZBu ?_
   refine ZB2 (ZCu rfl hs0 (ZAb (ZAG rfl (ZAd ⟨_,_,⟨tp',ns',l'.r,l'.g,l'.cs,rfl,by omega,by omega,fun x hx=>ZGu (ti.row.nm x hx),rfl,rfl⟩,trivial,fun e h=>?_,?_⟩))))
   ·have q:=ZMR ti.gd
    rw [h.1] at q;cases q
   rintro _ ⟨n,hn,_,rfl⟩
   cases Int.ofNat.inj hn
   rw [ZK7]
   walk_at "ww"
   refine ⟨by rw [List.length_map];have:=ti.len;have:=ok.len;have:=(List.getElem?_eq_some_iff.mp he).1;omega,?_⟩
   walk_at "ww"
   exact ⟨tp',ns',_,_,s0,_,_,_,hs0,ti.stp he,by rw [List.map_append];rfl⟩
  | ZHp d=>
   refine ZCx (fun z=>by cases z) ?_
   have sy:d.say:=ok.say (.ZHp d) (List.mem_of_getElem? he)
   refine ZAZ (ZCb (ZHh ?_))
   refine ZB2 (ZCu rfl hs0 (ZAb (ZAG rfl (ZAd ⟨_,_,⟨tp',ns',d,rfl,sy,by omega,rfl,rfl⟩,trivial,fun e h=>⟨ti.bad he h,ZXD h⟩,?_⟩))))
   rintro _ ⟨d',hd',rfl⟩
   have e4:etP (.ZHp d)=dP d':=hd'.1
   refine ZAZ (ZC1 (wp_call (ZB2 (ZCu rfl hs0 (ZAb (ZAG rfl (ZAb (ZAG rfl ?_))))))))
   rw [e4]
   refine ZAd ⟨_,⟨tp',ns',l'.r,l'.g,l'.cs,d',rfl,hd'.2,ti.gd,rl,ZAV.ZPE sy hd',rfl⟩,?_⟩
   rintro _ rfl
   refine ZDz 6 rfl ?_
   refine ZC1 (ZAG rfl ?_)
   exact ⟨false,_,l'.led ns' d',acc,_,_,_,_,.inr ⟨rfl,.inl rfl⟩,ti.ZHp he hd',rfl⟩
 ·rintro ss' ⟨tp',ns',l',acc,s0,s4,s5,s6,hs0,ti,rfl⟩
  rw [List.length_map] at ti
  have hl:=ti.len
  exact ZKo rfl ⟨acc,ti.fin,hl,rfl⟩
theorem ZEi:ZAP ["row", "one", "other", "trial", "ones", "others", "told"] ["row", "one", "other", "trial", "ones", "others"] (ZA4 ZBg):=⟨rfl,rfl,rfl,by decide +kernel,rfl,by decide +kernel,by decide +kernel⟩
theorem ZEN {ZAH:Addr}{ZAB:Addr}{ZA5:Addr}{ZA3:Addr}{ZA8:Addr}:∀ ss R,(ZIL ⟨ZA5,ZA8,ZAB,ZA3,ZAH⟩) ss R->ss.length=6:=by rintro _ _ ⟨tp,ns,l1,l2,es,a,b,rfl,_,_,rfl⟩;rfl
theorem ZIF {ZDi:Tok}{ZDI:Addr}{ZAH:Addr}{ZAB:Addr}{ZAW:Addr}{ZA5:Addr}{ZA3:Addr}{ZAp:Addr}{ZA8:Addr}(F:Fun K "trial_judged" "trial_judged" ZBg f fd) (bd:Binds K fd ["row", "one", "other", "trial", "ones", "others"] []) (m:mg "trial_judged" = some (.ref f)) (ZEc:Has P w K mg base "check_pair" 4 ["row", "one", "other"] (spF ZEt)) (ZDh:Has P w K mg base "part_at_last" 1 ["ones", "others"] (spF ZMm)) (ZG6:ZET P w K mg base "told_in" 7 ["row", "loop", "trial"] (spX (ZIH ⟨ZA5,ZA8,ZAB,ZA3,ZAH⟩))) (ZAf:mg "len" = none) (ZDm:mg "MOST_ENTRIES" = some (.int 100 ZDi)) (ZJL:mg "STEP" = some (.ref ZDI)) (ZJO:∀ H,SqT K H ZDI [.str "step"]) (ZCC:mg "StirError" = some (.ref ZAp)) (xo:ZPG K ZAp ⟨ZA5,ZA8,ZAB,ZA3,ZAH⟩=true) :
  Has P w K mg base "trial_judged" 8 ["row", "one", "other", "trial", "ones", "others"] (spF (ZIL ⟨ZA5,ZA8,ZAB,ZA3,ZAH⟩)):=by
 refine Has.mk F bd m (F.okq (k:=7) ZEi (fun vs H Q E h=>Fz.ZAx ZEN h) (fun cdv A outer s H vs Q E hr h=>?_))
 refine ⟨_,(ZAF rfl (ZB7 (ZAS ZEc hr (by decide) (ZA0 (qv 0) (ZA0 (qv 1) (ZA0 (qv 2) ZA1)))))
   (ZAF rfl (ZAa (ZJo (ZE5 (ZCz ZDT ZDT ZA2 (ZAQ ZAh (by rfl) ZAf (by decide +kernel) (ZA0 (qv 3) ZA1)) (ZEd (v:=.int 100) (by rfl) ZDm ⟨_,rfl⟩))) (ZIM (ZA9 (Fz.ZLs hr.units) (ZAK ZAz (qv 3) (ZI3 ZEz ZA2) (fun _ _=>rfl)) (ZEd (v:=.ref ZDI) (by rfl) ZJL rfl) (ZAI _)))).pt (ZAJ rfl (ZAM ZN0)) ZAE)
   (ZAF rfl (ZTa rfl rfl (by rfl) ZCC (fun _ _ _ g1=>by exact (ZAJ rfl (ZAL (i:=6) ZEi.nd rfl (Or.inl rfl) (ZAU (ZA0 (ZCp ZG6 hr (by decide) g1 rfl (ZA0 (qv 0) (ZA0 (qv 1) (ZA0 (qv 3) ZA1)))) (ZA0 (ZCp ZG6 hr (by decide) g1 rfl (ZA0 (qv 0) (ZA0 (qv 2) (ZA0 (qv 3) ZA1)))) ZA1)))))) (fun _=>by exact (ZAJ rfl (ZAM ZN0))))
   (ZAJ rfl (ZAM (ZFx (ZBp (Fz.ZIJ hr.units) (qv 6) (ZAU (ZA0 (qv 4) (ZA0 (qv 5) ZA1))) (ZAI _)) (ZGL (ZAS ZDh hr (by decide) (ZA0 (qv 4) (ZA0 (qv 5) ZA1)))))))))),?_⟩
 refine Fz.ZBb h ZEN ?_
 rintro _ _ ⟨tp,ns,l1,l2,es,a,b,rfl,ok,h37,rfl⟩
 have C:Con K ZDI [.str "step"]:=Con.of ZJO rfl rfl
 have dC:dat K 40 (.con ZDI [.str "step"]):=C.dat (d:=39) (fun x hx=>by rw [List.mem_singleton.mp hx];trivial)
 show Ws [_,_,_,_,_,_,.any] _ _ _
 refine ZAZ (ZDq (wp_call (ZB2 (ZBl rfl (ZAb (ZAG rfl (ZAb (ZAG rfl (ZAd ⟨_,⟨tp,ns,l1,l2,rfl,⟨h37,ok.row.nm,ok.row.nd⟩,ok.g1,ok.g2,rfl⟩,?_⟩)))))))))
 intro _ _
 refine ZAZ (ZCW (ZN6 (ZDX (ZAm (ZCV ?_)))))
 walk_at "ww"
 rw [List.length_map]
 have no:¬ (es.length<=100/\es.getLast?=some .stp)->∃ t:Bool,PV.bl false=.bl t/\(t=true↔Parts ⟨ZA5,ZA8,ZAB,ZA3,ZAH⟩ ns l1 l2 es a b):=fun z=>⟨false,rfl,fun q=>(by cases q),fun q=>absurd ⟨q.1,q.2.1⟩ z⟩
 refine ZB4 (fun c=>?_) (fun c=>⟨false,rfl,ZEU rfl (ZEU rfl (ZBF (ZMO (no fun z=>?_))))⟩)
 ·refine ZCm ⟨_,rfl,_,rfl,ZB4 (fun c2=>ZEU rfl (ZBF (ZMO (no fun z=>?_)))) (fun c2=>?_)⟩
  ·have:=z.1
   rw [decide_eq_true (by omega)] at c2;cases c2
  have h100:es.length<=100:=by
   cases e:decide ((es.length:Int)<=100) with
   | true=>have:=of_decide_eq_true e;omega
   | false=>exact absurd (by rw [e];rfl) c2
  have hne:es≠[]:=fun z=>by rw [z] at c;cases c
  obtain ⟨x,hx⟩:∃ x,es.getLast?=some x:=⟨es.getLast hne,List.getLast?_eq_some_getLast hne⟩
  have n1:L2.atI (es.map etP) (-1)=some (etP x):=ZFy (by rw [List.getLast?_map,hx];rfl)
  refine ZAm (ZI7 (ZFu (ZBl rfl ⟨rfl,ZJQ (ZCm ⟨_,rfl,_,_,rfl,n1,?_⟩)⟩)))
  refine ZSJ [.str "step"] ⟨ZId K 39 x,dC,_,rfl,?_⟩
  rw [ZNb]
  cases x with
  | ZHp d=>exact ZEU rfl (ZBF (ZMO (no fun z=>by rw [z.2] at hx;cases hx)))
  | stp=>
   refine ZCx (fun z=>by cases z) (ZAC ?_)
   refine ZAZ (ZUH (fun ss'=>ss'=[.sq tp (ns.map .str),.is l1.P,.is l2.P,.sq false (es.map etP),.is (.lst (a.map ZCi)),.is (.lst (b.map ZCi)),.any]) (fun x=>(tell ⟨ZA5,ZA8,ZAB,ZA3,ZAH⟩ ns l1 es=none∨tell ⟨ZA5,ZA8,ZAB,ZA3,ZAH⟩ ns l2 es=none)/\∃ j v,ZUN ⟨ZA5,ZA8,ZAB,ZA3,ZAH⟩ x j v) (fun E=>?_) (fun ss1 x hJ hD=>?_))
   ·letI:Xw:=xwT E (fun ss'=>ss'=[.sq tp (ns.map .str),.is l1.P,.is l2.P,.sq false (es.map etP),.is (.lst (a.map ZCi)),.is (.lst (b.map ZCi)),.any]) (fun x=>(tell ⟨ZA5,ZA8,ZAB,ZA3,ZAH⟩ ns l1 es=none∨tell ⟨ZA5,ZA8,ZAB,ZA3,ZAH⟩ ns l2 es=none)/\∃ j v,ZUN ⟨ZA5,ZA8,ZAB,ZA3,ZAH⟩ x j v)
    refine ZC1 (ZE1 (ZAl (ZAn (ZHh ?_))))
    refine ZB2 (ZBl rfl (ZAb (ZAG rfl (ZB2 (ZBl rfl (ZAd ⟨_,_,⟨tp,ns,l1,es,rfl,⟨ok.row,ok.g1,ok.g1,ok.say,ok.len⟩,rfl,rfl⟩,rfl,fun e h=>⟨.inl h.1,h.2⟩,?_⟩))))))
    rintro _ ⟨a1,t1,z1,rfl⟩
    refine ZAl (ZAn (ZHh ?_))
    refine ZB2 (ZBl rfl (ZAb (ZAG rfl (ZB2 (ZBl rfl (ZAd ⟨_,_,⟨tp,ns,l2,es,rfl,⟨ok.row,ok.g2,ok.g2,ok.say,ok.len⟩,rfl,rfl⟩,rfl,fun e h=>⟨.inr h.1,h.2⟩,?_⟩))))))
    rintro _ ⟨b1,t2,z2,rfl⟩
    refine ZBO ⟨by simp,?_⟩
    clear this
    show Ws _ _ _ _
    refine ZBF (ZHv (ZHD (ZAG rfl (ZE1 (ZAl (ZAG rfl (ZAl (ZAG rfl (ZBO ⟨by simp,ZG1 K _ _,ZG1 K _ _,?_⟩)))))))))
    rw [ZO1]
    refine ⟨_,rfl,ZB4 (fun c3=>?_) (fun c3=>⟨false,rfl,fun q=>(by cases q),fun q=>?_⟩)⟩
    ·obtain ⟨rfl,rfl⟩:=of_decide_eq_true c3
     have na:=ZOw t1 hx
     have nb:=ZOw t2 hx
     refine wp_call (ZAb (ZAG rfl (ZAb (ZAG rfl (ZAd ⟨_,⟨a1,b1,rfl,na,nb,rfl⟩,?_⟩)))))
     rintro _ rfl
     refine ⟨_,rfl,?_⟩
     rw [decide_eq_true_iff]
     exact ⟨fun q=>⟨h100,hx,t1,t2,q.1,q.2⟩,fun q=>⟨q.2.2.2.2.1,q.2.2.2.2.2⟩⟩
    ·obtain ⟨_,_,q1,q2,_⟩:=q
     rw [t1] at q1;rw [t2] at q2;cases q1;cases q2
     exact (c3 (decide_eq_true ⟨rfl,rfl⟩)).elim
   ·subst hJ
    obtain ⟨hn,j,v,hj⟩:=hD
    refine ⟨ZTS xo hj,?_⟩
    refine ZBF (ZMO ⟨false,rfl,fun q=>(by cases q),fun q=>?_⟩)
    rcases hn with hn | hn
    ·rw [q.2.2.1] at hn;cases hn
    ·rw [q.2.2.2.1] at hn;cases hn
 ·have:es≠[]:=fun e=>by rw [e] at z;cases z.2
  have:=List.length_pos_iff.mpr this
  exact c (decide_eq_true (by omega))
theorem ZCo:ZAP ["script", "k", "pot", "row", "one", "other", "trial", "seen", "due", "spoilt", "ones", "others", "handed", "some", "found"] ["script"] (ZA4 ZKs):=⟨rfl,rfl,rfl,by decide +kernel,rfl,by decide +kernel,by decide +kernel⟩
theorem ZUQ {ZAH:Addr}{ZAB:Addr}{ZAW:Addr}{ZA5:Addr}{ZA3:Addr}{ZAp:Addr}{ZA8:Addr}(F:Fun K "law" "law" ZKs f fd) (bd:Binds K fd ["script"] []) (m:mg "law" = some (.ref f)) (ZB9:Has P w K mg base "_law_done_trial" 3 ["row", "one", "other", "trial"] (spF (ZDa ⟨ZA5,ZA8,ZAB,ZA3,ZAH⟩))) (ZDs:Has P w K mg base "_law_entries" 5 ["pot", "row", "one", "other"] (spF ZEp)) (ZFS:Has P w K mg base "_law_pair" 3 ["pot", "row"] (spF ZIY)) (ZCF:Has P w K mg base "_law_parts" 4 ["row", "one", "other", "trial"] (spF (ZHd ⟨ZA5,ZA8,ZAB,ZA3,ZAH⟩))) (ZH0:Has P w K mg base "_law_pot" 1 ["script", "k"] (ZRr K)) (ZGz:Has P w K mg base "_law_row" 4 ["pot", "most"] (ZQw)) (ZD0:Has P w K mg base "_law_spoilt" 2 ["pot", "names"] (spF ZFm)) (ZA7:Has P w K mg base "_law_take" 1 ["pot", "many"] (ZEx)) (ZCk:Has P w K mg base "trial_judged" 8 ["row", "one", "other", "trial", "ones", "others"] (spF (ZIL ⟨ZA5,ZA8,ZAB,ZA3,ZAH⟩))) (ZPQ:mg "bool" = none) (ZJ5:mg "int" = none) (ZEX:mg "isinstance" = none) (ZAf:mg "len" = none) (ZBk:mg "list" = none) (ZDf:mg "range" = none) (ZBH:mg "tuple" = none) (xo:ZPG K ZAp ⟨ZA5,ZA8,ZAB,ZA3,ZAH⟩=true) :
  ZJ2 P w K mg base CX0 9 f fd ["script"] (ZOq K):=by
 refine (F.okq (k:=8) ZCo (fun vs H Q E h=>by obtain ⟨a,ns,rfl,_⟩:=h;rfl) (fun cdv A outer s H vs Q E hr h=>?_))
 refine ⟨_,(ZAF rfl (ZAv (ZHB PassesOwn.never rfl (ZFs rfl ZDf (ZA0 ZA2 ZA1)) (ZBD (i:=1) ZCo.nd rfl (Or.inl rfl)) (ZAF rfl (ZAL (i:=2) ZCo.nd rfl (Or.inl rfl) (ZAS ZH0 hr (by decide) (ZA0 (qv 0) (ZA0 (qv 1) ZA1))))
   (ZAF rfl (ZAL (i:=3) ZCo.nd rfl (Or.inl rfl) (ZAS ZGz hr (by decide) (ZA0 (qv 2) (ZA0 (ZAK ZAA (ZAU (ZA0 ZA2 (ZA0 ZA2 (ZA0 ZA2 (ZA0 ZA2 ZA1))))) (ZAS ZA7 hr (by decide) (ZA0 (qv 2) (ZA0 ZA2 ZA1))) (fun _ _=>rfl)) ZA1))))
   (ZAF rfl (ZGQ (ZAS ZFS hr (by decide) (ZA0 (qv 2) (ZA0 (qv 3) ZA1))) (ZIA rfl (ZBQ (ZBD (i:=4) ZCo.nd rfl (Or.inl rfl)) (ZBQ (ZBD (i:=5) ZCo.nd rfl (Or.inl rfl)) ZFj))))
   (ZAF rfl (ZAL (i:=6) ZCo.nd rfl (Or.inl rfl) (ZAS ZDs hr (by decide) (ZA0 (qv 2) (ZA0 (qv 3) (ZA0 (qv 4) (ZA0 (qv 5) ZA1))))))
   (ZAF rfl (ZAv (ZAa (ZA9 ZBG (ZAS ZA7 hr (by decide) (ZA0 (qv 2) (ZA0 ZA2 ZA1))) ZA2 (ZAI _)) (ZAJ rfl (ZAL (i:=6) ZCo.nd rfl (Or.inl rfl) (ZAc ZFw (ZAc ZSA (ZBV (ZA0 (ZAU (ZA0 ZAR (ZA0 ZA2 (ZA0 ZA2 ZA1)))) ZA1)) (ZAc ZFP (ZAc ZBc ZA2 (ZAS ZA7 hr (by decide) (ZA0 (qv 2) (ZA0 ZA2 ZA1)))) (ZAQ ZAh (by rfl) ZAf (by decide +kernel) (ZA0 (qv 6) ZA1)))) (qv 6)))) ZAE))
   (ZAF rfl (ZAL (i:=7) ZCo.nd rfl (Or.inl rfl) (ZAS ZB9 hr (by decide) (ZA0 (qv 3) (ZA0 (qv 4) (ZA0 (qv 5) (ZA0 (qv 6) ZA1))))))
   (ZAF rfl (ZAv (ZAa (ZA9 ZSP (qv 7) ZCv (ZAI _)) (ZAJ rfl (ZAL (i:=7) ZCo.nd rfl (Or.inl rfl) (ZAU (ZA0 (ZBV ZA1) (ZA0 (ZBV ZA1) ZA1))))) ZAE))
   (ZAF rfl (ZAL (i:=8) ZCo.nd rfl (Or.inl rfl) (ZAS ZCF hr (by decide) (ZA0 (qv 3) (ZA0 (qv 4) (ZA0 (qv 5) (ZA0 (qv 6) ZA1))))))
   (ZAF rfl (ZAL (i:=9) ZCo.nd rfl (Or.inl rfl) (ZAU (ZA0 (ZAS ZD0 hr (by decide) (ZA0 (qv 2) (ZA0 (ZAK ZAA (qv 7) ZA2 (fun _ _=>rfl)) ZA1))) (ZA0 (ZAS ZD0 hr (by decide) (ZA0 (qv 2) (ZA0 (ZAK ZAA (qv 7) ZA2 (fun _ _=>rfl)) ZA1))) ZA1))))
   (ZAF rfl (ZAv (ZHB PassesOwn.never rfl (ZGY (ZAU (ZA0 (qv 9) (ZA0 (qv 7) (ZA0 (qv 9) ZA1))))) (ZIA rfl (ZBQ (ZBD (i:=10) ZCo.nd rfl (Or.inl rfl)) (ZBQ (ZBD (i:=11) ZCo.nd rfl (Or.inl rfl)) ZFj))) (ZAF rfl (ZAL (i:=12) ZCo.nd rfl (Or.inl rfl) (ZBV (ZA0 (ZAi ZB8 (by rfl) ZBk (by decide +kernel) (ZA0 (qv 6) ZA1)) (ZA0 (ZAi ZB8 (by rfl) ZBk (by decide +kernel) (ZA0 (qv 10) ZA1)) (ZA0 (ZAi ZB8 (by rfl) ZBk (by decide +kernel) (ZA0 (qv 11) ZA1)) ZA1)))))
   (ZAF rfl (ZAL (i:=13) ZCo.nd rfl (Or.inl rfl) (ZAK ZAA (ZAU (ZA0 (ZAi ZB8 (by rfl) ZBk (by decide +kernel) (ZA0 (qv 3) ZA1)) (ZA0 (ZAi ZBL (by rfl) ZBH (by decide +kernel) (ZA0 (qv 3) ZA1)) ZA1))) (ZAi ZFp (by rfl) ZJ5 (by decide +kernel) (ZA0 (ZBp (Fz.ZIJ hr.units) (qv 10) (ZAK ZAA (qv 7) ZA2 (fun _ _=>rfl)) (ZAI _)) ZA1)) (fun _ _=>rfl)))
   (ZAF rfl (ZAL (i:=14) ZCo.nd rfl (Or.inl rfl) (ZAS ZCk hr (by decide) (ZA0 (qv 13) (ZA0 (qv 4) (ZA0 (qv 5) (ZA0 (ZAK ZAz (qv 12) ZA2 (fun _ _=>rfl)) (ZA0 (ZAK ZAz (qv 12) ZA2 (fun _ _=>rfl)) (ZA0 (ZAK ZAz (qv 12) ZA2 (fun _ _=>rfl)) ZA1))))))))
   (ZAF rfl (ZAa (ZJo (ZE5 (ZLi (ZAQ ZRc (by rfl) ZEX (by decide +kernel) (ZA0 (qv 14) (ZA0 (ZWf "bool" ZPQ) ZA1))))) (ZIM (ZA9 ZLf (qv 14) (ZFx (ZBp ZMW (qv 8) ZCv (ZAI _)) (ZGL (ZBp (Fz.ZIJ hr.units) (qv 8) (ZAU (ZA0 (qv 10) (ZA0 (qv 11) ZA1))) (ZAI _)))) (ZAI _)))).pt (ZAJ rfl (ZAM ZN0)) ZAE)
   (ZAJ rfl (ZAa (ZA9 (Fz.ZLs hr.units) (qv 12) (ZBV (ZA0 (qv 6) (ZA0 (qv 10) (ZA0 (qv 11) ZA1)))) (ZAI _)) (ZAJ rfl (ZAM ZN0)) ZAE))))))))
   (ZAJ rfl (ZAa (ZA9 ZTu (ZAS ZCk hr (by decide) (ZA0 (qv 3) (ZA0 (qv 4) (ZA0 (qv 5) (ZA0 (ZBV ZA1) (ZA0 (ZBV ZA1) (ZA0 (ZBV ZA1) ZA1))))))) ZN0 (ZAI _)) (ZAJ rfl (ZAM ZN0)) ZAE))))))))))))))
   (ZAJ rfl (ZAM ZN0))),?_⟩
 refine Fz.ZSl h ?_
 intro sc h63
 show Ws [_,.any,.any,.any,.any,.any,.any,.any,.any,.any,.any,.any,.any,.any,.any] _ _ _
 refine ZAZ (ZBv (ZJR (fun _ _ ss'=>∃ (s1 s2 s3 s4 s5 s6 s7 s8 s9 s10 s11 s12 s13 s14:Slot),ss'=[.raw (ZDK K sc),s1,s2,s3,s4,s5,s6,s7,s8,s9,s10,s11,s12,s13,s14]) ?_))
 walk_at "ww"
 refine ⟨by decide,by decide,⟨_,_,_,_,_,_,_,_,_,_,_,_,_,_,rfl⟩,?_,?_⟩
 ·rintro kk p ss' hp ⟨s1,s2,s3,s4,s5,s6,s7,s8,s9,s10,s11,s12,s13,s14,rfl⟩
  obtain ⟨hk,rfl⟩:=ZME hp
  have hk:kk < 3:=hk
  refine ZIf ?_
  walk_at "ww"
  refine ⟨by omega,by omega,?_⟩
  walk_at "ww"
  refine ⟨by simp,?_⟩
  walk_at "ww"
  refine ⟨by decide,by decide,fun r h0 h1=>?_⟩
  obtain ⟨v,hv,v0,v1⟩:=ZVf h0 h1
  refine ⟨_,_,rfl,hv,_,rfl,v0,by omega,fun ns hz hN nd=>?_⟩
  have ro:ZHY 40 ns:=⟨by omega,hN,nd⟩
  have h37:ns.length<=37:=by omega
  refine ZDz 3 rfl ?_
  refine ZAZ (ZMP (ZNd rfl (ZB2 (ZCH rfl (ZAd ⟨_,⟨ns,rfl,ro,rfl⟩,?_⟩)))))
  rintro _ ⟨l1,l2,rfl,q1,q2⟩
  refine ZKc ⟨_,_,rfl,?_⟩
  refine ZAZ (ZCb (ZJz rfl (ZAb (ZAG rfl (ZAb (ZAG rfl (ZAb (ZAG rfl (ZAd ⟨_,⟨ns,l1,l2,rfl,ro,q1,q2,rfl⟩,?_⟩)))))))))
  rintro _ ⟨es,rfl,hs,hl⟩
  refine ZBi (fun ss'=>∃ es:List Et,ss'=[.raw (ZDK K sc),.is (.int kk),.pot,.is (.lst (ns.map .str)),.is l1.P,.is l2.P,.own (es.map etP),s7,s8,s9,s10,s11,s12,s13,s14]/\(∀ e∈es,e.say)/\es.length<=210) ?_ ?_
  ·refine ZBv ?_
   walk_at "ww"
   refine ⟨by decide,by decide,fun t t0 t1=>?_⟩
   walk_at "ww"
   refine ZB4 (fun c=>?_) (fun c=>ZAC ⟨es,rfl,hs,by omega⟩)
   refine ZCb (ZSV (ZBP (ZAn (ZSU ?_))))
   walk_at "ww"
   refine ⟨by simp,ZBO ⟨by simp,_,.inl ⟨rfl,rfl,?_⟩⟩⟩
   walk_at "ww"
   refine ⟨by decide,by decide,fun u u0 u1=>?_⟩
   walk_at "ww"
   rw [List.length_map,ZPl]
   obtain ⟨n,hn⟩:∃ n:Nat,n=(98+u - (es.length:Int)).toNat:=⟨_,rfl⟩
   rw [<- hn]
   refine ⟨by omega,by omega,by simp,_,.inl ⟨rfl,rfl,ZNz rfl ⟨rfl,by rw [List.length_replicate,List.length_map];omega,List.replicate n (.ZHp (.turn 0 0))++es,by rw [List.map_append,List.map_replicate];rfl,fun e he=>?_,by rw [List.length_append,List.length_replicate];omega⟩⟩⟩
   rcases List.mem_append.mp he with he | he
   ·rw [(List.mem_replicate.mp he).2]
    exact ⟨by unfold ZJI;decide +kernel,by unfold ZJI;decide +kernel⟩
   ·exact hs e he
  clear hs hl es
  rintro _ ⟨es,rfl,hs,hl⟩
  refine ZDz 6 rfl ?_
  have ok:ZV1 ns l1 l2 es:=⟨ro,q1,q2,hs,by omega⟩
  refine ZAZ (ZC1 (wp_call (ZB2 (ZCH rfl (ZAb (ZAG rfl (ZAb (ZAG rfl (ZB2 (ZCH rfl (ZAd ⟨_,⟨ns,l1,l2,es,rfl,ok,rfl⟩,?_⟩)))))))))))
  intro sn hsn
  refine ZBi (fun ss'=>∃ a b:List (Option Str),ss'=[.raw (ZDK K sc),.is (.int kk),.pot,.is (.lst (ns.map .str)),.is l1.P,.is l2.P,.is (.lst (es.map etP)),.is (ZQr a b),s8,s9,s10,s11,s12,s13,s14]/\a.length<=300/\b.length<=300) ?_ ?_
  ·rcases hsn with ⟨_,_,rfl⟩ | ⟨a,b,_,_,z1,z2,rfl⟩
   ·refine ZBv (ZCW (ZAm (ZKD (ZAG rfl (ZCw ⟨rfl,_,rfl,ZEU rfl ?_⟩)))))
    refine ZC1 (ZE1 (ZAl (ZAn (ZDu (ZBO ⟨by simp,ZAl (ZAn (ZDu (ZBO ⟨by simp,ZBO ⟨by simp,?_⟩⟩)))⟩)))))
    exact ⟨[],[],rfl,by decide,by decide⟩
   ·refine ZBv (ZCW (ZAm (ZKD (ZAG rfl (ZCw ⟨rfl,_,rfl,ZCx (by simp [ZQr,ZLq]) (ZAC ⟨a,b,rfl,by omega,by omega⟩)⟩)))))
  clear hsn sn
  rintro _ ⟨a,b,rfl,ha,hb⟩
  refine ZAZ (ZC1 (wp_call (ZB2 (ZCH rfl (ZAb (ZAG rfl (ZAb (ZAG rfl (ZB2 (ZCH rfl (ZAd ⟨_,⟨ns,l1,l2,es,rfl,ok,rfl⟩,?_⟩)))))))))))
  intro du hdu
  refine ZAZ (ZC1 (ZE1 (ZAl (ZAn (ZJz rfl (ZB2 (ZBP (ZLY (ZLZ rfl ⟨rfl,?_⟩)))))))))
  refine ZCm ⟨_,_,rfl,rfl,_,.inl ⟨rfl,ZAd ⟨_,⟨a,rfl,ha,rfl⟩,?_⟩⟩⟩
  rintro _ ⟨c1,rfl,y1⟩
  refine ZAl (ZAn (ZJz rfl (ZB2 (ZBP (ZLY (ZLZ rfl ⟨rfl,?_⟩))))))
  refine ZCm ⟨_,_,rfl,rfl,_,.inl ⟨rfl,ZAd ⟨_,⟨b,rfl,hb,rfl⟩,?_⟩⟩⟩
  rintro _ ⟨c2,rfl,y2⟩
  refine ZBO ⟨by simp,?_⟩
  refine ZAZ (ZBv (ZJR (fun xs _ ss'=>∃ s10 s11 s12 s13 s14:Slot,ss'=[.raw (ZDK K sc),.is (.int kk),.pot,.is (.lst (ns.map .str)),.is l1.P,.is l2.P,.is (.lst (es.map etP)),.is (ZQr a b),.is du,.is (ZQr c1 c2),s10,s11,s12,s13,s14]) ?_))
  walk_at "ww"
  refine ⟨by simp,_,.inr ⟨rfl,⟨_,_,_,_,_,rfl⟩,?_,?_⟩⟩
  ·rintro j p ss' hp ⟨s10,s11,s12,s13,s14,rfl⟩
   obtain ⟨x,y,rfl,hx,hy⟩:∃ x y:List (Option Str),p=ZQr x y/\x.length<=400/\y.length<=400:=by
    have m:=List.mem_of_getElem? hp
    simp only [List.mem_cons,List.not_mem_nil,or_false] at m
    rcases m with rfl | rfl | rfl
    ·exact ⟨c1,c2,rfl,y1,y2⟩
    ·exact ⟨a,b,rfl,by omega,by omega⟩
    ·exact ⟨c1,c2,rfl,y1,y2⟩
   clear hp
   refine ZKc ⟨_,_,rfl,?_⟩
   refine ZAZ (ZCb (ZDu (ZAl (ZAn (ZI0 rfl (ZCH rfl (ZAl (ZAn (ZI0 rfl (ZCH rfl (ZAl (ZAn (ZI0 rfl (ZCH rfl (ZBO ⟨by simp,?_⟩)))))))))))))))
   refine ZDz 12 rfl ?_
   refine ZAZ (ZC1 (ZLY (ZBP (ZE1 (ZAl (ZAn (ZI0 rfl (ZCH rfl (ZAl (ZFD rfl (ZCH rfl (ZBO ⟨by simp,_,.inr ⟨rfl,rfl,?_⟩⟩))))))))))))
   refine ZMp rfl (ZHD (ZAG rfl (ZLY (ZLZ rfl ⟨rfl,ZCm ⟨_,_,rfl,rfl,ZCU K 39 _,ZCU K 39 _,_,rfl,?_⟩⟩))))
   obtain ⟨tp,htp⟩:=ZRX (eqP (.lst (x.map ZCi)) (.lst (a.map ZCi))) (ns.map .str)
   refine ⟨_,_,rfl,htp,?_⟩
   refine ZAZ (ZC1 (wp_call (ZB2 (ZU4 rfl (ZAb (ZAG rfl (ZAb (ZAG rfl (ZB2 (ZBP (ZFu (ZCH rfl ⟨rfl,ZCm ⟨_,_,rfl,rfl,_,.inl ⟨rfl,?_⟩⟩⟩))))))))))))
   refine ZAb (ZFu (ZCH rfl ⟨rfl,ZCm ⟨_,_,rfl,rfl,?_⟩⟩))
   refine ZAb (ZFu (ZCH rfl ⟨rfl,ZCm ⟨_,_,rfl,rfl,?_⟩⟩))
   refine ZAd ⟨_,⟨tp,ns,l1,l2,es,x,y,rfl,ok,h37,rfl⟩,?_⟩
   rintro _ ⟨t,rfl,ht⟩
   refine ZAZ (ZCW (ZN6 (ZDX (ZUO (ZW4 (ZAG rfl ⟨true,ZRU _ _,true,rfl,ZMM ?_⟩))))))
   refine ZAm (ZVq (ZAG rfl (ZHv (ZKt (ZAG rfl (ZCw ⟨rfl,_,rfl,?_⟩))))))
   have fin:∀ t':Bool,t=t'->True:=fun _ _=>trivial
   rcases hdu with ⟨rfl,hno⟩ | ⟨a',b',hP,rfl⟩
   ·refine ZCx (by decide) ?_
    have et:t=false:=by cases t with
     | false=>rfl
     | true=>exact absurd (ht.mp rfl) (hno x y)
    subst et
    refine ⟨rfl,_,rfl,ZCx (by decide) (ZAC ?_)⟩
    have dh:=ZJh K es x y
    exact ZCW (ZAm (ZI7 (ZAG rfl (ZAn (ZDu (ZAl (ZAG rfl (ZAl (ZAG rfl (ZAl (ZAG rfl (ZBO ⟨by simp,dh,dh,_,rfl,ZCx (by rw [ZNW 40 dh];decide) (ZAC ⟨_,_,_,_,_,rfl⟩)⟩))))))))))))
   ·refine ZEU rfl ?_
    refine ZHD (ZAG rfl (ZE1 (ZAl (ZAG rfl (ZAl (ZAG rfl (ZBO ⟨by simp,ZG1 K _ _,ZG1 K _ _,?_⟩)))))))
    unfold ZQr
    rw [ZO1]
    have et:t=decide (a'=x/\b'=y):=by
     rw [Bool.eq_iff_iff,ht,decide_eq_true_iff]
     constructor
     ·rintro ⟨_,_,p1,p2,_⟩
      obtain ⟨_,_,r1,r2,_⟩:=hP
      rw [p1] at r1;rw [p2] at r2;cases r1;cases r2
      exact ⟨rfl,rfl⟩
     ·rintro ⟨rfl,rfl⟩;exact hP
    subst et
    refine ⟨rfl,_,rfl,ZCx (by generalize decide (a'=x/\b'=y)=q;cases q <;> decide) (ZAC ?_)⟩
    have dh:=ZJh K es x y
    exact ZCW (ZAm (ZI7 (ZAG rfl (ZAn (ZDu (ZAl (ZAG rfl (ZAl (ZAG rfl (ZAl (ZAG rfl (ZBO ⟨by simp,dh,dh,_,rfl,ZCx (by rw [ZNW 40 dh];decide) (ZAC ⟨_,_,_,_,_,rfl⟩)⟩))))))))))))
  ·rintro ss' ⟨s10,s11,s12,s13,s14,rfl⟩
   refine ZCW (ZAm (ZQE (wp_call (ZB2 (ZCH rfl (ZAb (ZAG rfl (ZAb (ZAG rfl (ZB2 (ZBP (ZAn (ZDu (ZBO ⟨by simp,_,.inl ⟨rfl,?_⟩⟩))))))))))))))
   refine ZAb (ZAn (ZDu (ZBO ⟨by simp,?_⟩)))
   refine ZAb (ZAn (ZDu (ZBO ⟨by simp,?_⟩)))
   refine ZAd ⟨_,⟨false,ns,l1,l2,[],[],[],rfl,⟨ro,q1,q2,fun e h=>absurd h List.not_mem_nil,by decide⟩,h37,rfl⟩,?_⟩
   rintro _ ⟨t,rfl,ht⟩
   have et:t=false:=by
    cases t with
    | false=>rfl
    | true=>exact absurd (ht.mp rfl).2.1 (by simp)
   subst et
   exact ⟨_,rfl,ZMO ⟨_,rfl,_,rfl,ZCx (by decide) (ZAC ⟨_,_,_,_,_,_,_,_,_,_,_,_,_,_,rfl⟩)⟩⟩
 ·rintro ss' ⟨s1,s2,s3,s4,s5,s6,s7,s8,s9,s10,s11,s12,s13,s14,rfl⟩
  exact ZBF (ZMO rfl)
theorem all_mk {l:PySem.W.OpenLaw}{w:World}{K:PySem.W.Frag}{h:Heap}{mg:Str->Option Value}{fa f1 f2 f3 f4 f5 f6 f7 f8 f9 f10 f11 f12 f13 f14 f15 f16 f17 f18 f19 f20 f21 f22 f23 f24 f25 f26 f27 f28 f29 f30 f31 f32 f33 f34 f35 f36 f37 f38 f39 f40 f41 f42 f43 f44 f45 f46 f47 f48 f49 f50:Addr}(X:K.In h) (G:h.Ns mainGlobals mg) (hfa:mg "law" = some (.ref fa))
  {od1 od2 od3 od4 od5 od6 od7 od8 od9 od10 od11 od12 od13 od14 od15 od16 od17 od18 od19 od20 od21 od22 od23 od24 od25 od26 od27 od28 od29 od30 od31 od32 od33 od34 od35 od36 od37 od38 od39 od40 od41 od42 od43 od44 od45 od46 od47 od48 od49 od50 an1 an2 an3 an4 an5 an6 an7 an8 an9 an10 an11 an12 an13 an14 an15 an16 an17 an18 an19 an20 an21 an22 an23 an24 an25 an26 an27 an28 an29 an30 an31 an32 an33 an34 an35 an36 an37 an38 an39 an40 an41 an42 an43 an44 an45 an46 an47 an48 an49 an50:Option Addr}{sl1 sl2 sl3 sl4 sl5 sl6 sl7 sl8 sl9 sl10 sl11 sl12 sl13 sl14 sl15 sl16 sl17 sl18 sl19 sl20 sl21 sl22 sl23 sl24 sl25 sl26 sl27 sl28 sl29 sl30 sl31 sl32 sl33 sl34 sl35 sl36 sl37 sl38 sl39 sl40 sl41 sl42 sl43 sl44 sl45 sl46 sl47 sl48 sl49 sl50:Array (Option Value)}{oc1 oc2 oc3 oc4 oc5 oc6 oc7 oc8 oc9 oc10 oc11 oc12 oc13 oc14 oc15 oc16 oc17 oc18 oc19 oc20 oc21 oc22 oc23 oc24 oc25 oc26 oc27 oc28 oc29 oc30 oc31 oc32 oc33 oc34 oc35 oc36 oc37 oc38 oc39 oc40 oc41 oc42 oc43 oc44 oc45 oc46 oc47 oc48 oc49 oc50 kV1 kV2 kV3 kV4 kV5 kV6 kV7 kV8 kV9 kV10 kV11 kV12 kV13 kV14 kV15 kV16 kV17 kV18 kV19 kV20 kV21 kV22 kV23 kV24 kV25 kV26 kV27 kV28 kV29 kV30 kV31 kV32 kV33 kV34 kV35 kV36 kV37 kV38 kV39 kV40 kV41 kV42 kV43 kV44 kV45 kV46 kV47 kV48 kV49 kV50 dc1 dc2 dc3 dc4 dc5 dc6 dc7 dc8 dc9 dc10 dc11 dc12 dc13 dc14 dc15 dc16 dc17 dc18 dc19 dc20 dc21 dc22 dc23 dc24 dc25 dc26 dc27 dc28 dc29 dc30 dc31 dc32 dc33 dc34 dc35 dc36 dc37 dc38 dc39 dc40 dc41 dc42 dc43 dc44 dc45 dc46 dc47 dc48 dc49 dc50 pm1 pm2 pm3 pm4 pm5 pm6 pm7 pm8 pm9 pm10 pm11 pm12 pm13 pm14 pm15 pm16 pm17 pm18 pm19 pm20 pm21 pm22 pm23 pm24 pm25 pm26 pm27 pm28 pm29 pm30 pm31 pm32 pm33 pm34 pm35 pm36 pm37 pm38 pm39 pm40 pm41 pm42 pm43 pm44 pm45 pm46 pm47 pm48 pm49 pm50 cd1 cd2 cd3 cd4 cd5 cd6 cd7 cd8 cd9 cd10 cd11 cd12 cd13 cd14 cd15 cd16 cd17 cd18 cd19 cd20 cd21 cd22 cd23 cd24 cd25 cd26 cd27 cd28 cd29 cd30 cd31 cd32 cd33 cd34 cd35 cd36 cd37 cd38 cd39 cd40 cd41 cd42 cd43 cd44 cd45 cd46 cd47 cd48 cd49 cd50 ct1 ct2 ct3 ct4 ct5 ct6 ct7 ct8 ct9 ct10 ct11 ct12 ct13 ct14 ct15 ct16 ct17 ct18 ct19 ct20 ct21 ct22 ct23 ct24 ct25 ct26 ct27 ct28 ct29 ct30 ct31 ct32 ct33 ct34 ct35 ct36 ct37 ct38 ct39 ct40 ct41 ct42 ct43 ct44 ct45 ct46 ct47 ct48 ct49 ct50:Value}{ZHw:Tok}{ZDi:Tok}{ZDg:Tok}{ZEB:Tok}{ZC9:Tok}{ZEs:Addr}{ZDI:Addr}
  (a1:PySem.W.nsIn K mainGlobals "_law_pot" = some (some (.ref f1))) (l1:K.lookup f1=some ⟨oc1,od1,.func (PySem.W.fnOf "_law_pot" "_law_pot" (ZAO ZD8) (ZAN ZD8) (ZA4 ZD8) .none kV1 dc1 pm1 an1 cd1 ct1),sl1⟩) (c1:PySem.W.codeIn K cd1 "_law_pot" = true) (k1:PySem.W.keepIn K (.ref f1)=true)
  (a2:PySem.W.nsIn K mainGlobals "_law_take" = some (some (.ref f2))) (l2:K.lookup f2=some ⟨oc2,od2,.func (PySem.W.fnOf "_law_take" "_law_take" (ZAO ZCf) (ZAN ZCf) (ZA4 ZCf) .none kV2 dc2 pm2 an2 cd2 ct2),sl2⟩) (c2:PySem.W.codeIn K cd2 "_law_take" = true) (k2:PySem.W.keepIn K (.ref f2)=true)
  (a3:PySem.W.nsIn K mainGlobals "_law_letters" = some (some (.ref f3))) (l3:K.lookup f3=some ⟨oc3,od3,.func (PySem.W.fnOf "_law_letters" "_law_letters" (ZAO ZBd) (ZAN ZBd) (ZA4 ZBd) .none kV3 dc3 pm3 an3 cd3 ct3),sl3⟩) (c3:PySem.W.codeIn K cd3 "_law_letters" = true) (k3:PySem.W.keepIn K (.ref f3)=true)
  (a4:PySem.W.nsIn K mainGlobals "_law_name" = some (some (.ref f4))) (l4:K.lookup f4=some ⟨oc4,od4,.func (PySem.W.fnOf "_law_name" "_law_name" (ZAO ZCg) (ZAN ZCg) (ZA4 ZCg) .none kV4 dc4 pm4 an4 cd4 ct4),sl4⟩) (c4:PySem.W.codeIn K cd4 "_law_name" = true) (k4:PySem.W.keepIn K (.ref f4)=true)
  (a5:PySem.W.nsIn K mainGlobals "_law_names" = some (some (.ref f5))) (l5:K.lookup f5=some ⟨oc5,od5,.func (PySem.W.fnOf "_law_names" "_law_names" (ZAO ZCO) (ZAN ZCO) (ZA4 ZCO) .none kV5 dc5 pm5 an5 cd5 ct5),sl5⟩) (c5:PySem.W.codeIn K cd5 "_law_names" = true) (k5:PySem.W.keepIn K (.ref f5)=true)
  (a6:PySem.W.nsIn K mainGlobals "_law_row" = some (some (.ref f6))) (l6:K.lookup f6=some ⟨oc6,od6,.func (PySem.W.fnOf "_law_row" "_law_row" (ZAO ZD7) (ZAN ZD7) (ZA4 ZD7) .none kV6 dc6 pm6 an6 cd6 ct6),sl6⟩) (c6:PySem.W.codeIn K cd6 "_law_row" = true) (k6:PySem.W.keepIn K (.ref f6)=true)
  (a7:PySem.W.nsIn K mainGlobals "_law_some_loop" = some (some (.ref f7))) (l7:K.lookup f7=some ⟨oc7,od7,.func (PySem.W.fnOf "_law_some_loop" "_law_some_loop" (ZAO ZBI) (ZAN ZBI) (ZA4 ZBI) .none kV7 dc7 pm7 an7 cd7 ct7),sl7⟩) (c7:PySem.W.codeIn K cd7 "_law_some_loop" = true) (k7:PySem.W.keepIn K (.ref f7)=true)
  (a8:PySem.W.nsIn K mainGlobals "_law_pair" = some (some (.ref f8))) (l8:K.lookup f8=some ⟨oc8,od8,.func (PySem.W.fnOf "_law_pair" "_law_pair" (ZAO ZC8) (ZAN ZC8) (ZA4 ZC8) .none kV8 dc8 pm8 an8 cd8 ct8),sl8⟩) (c8:PySem.W.codeIn K cd8 "_law_pair" = true) (k8:PySem.W.keepIn K (.ref f8)=true)
  (a9:PySem.W.nsIn K mainGlobals "_law_done" = some (some (.ref f9))) (l9:K.lookup f9=some ⟨oc9,od9,.func (PySem.W.fnOf "_law_done" "_law_done" (ZAO ZCD) (ZAN ZCD) (ZA4 ZCD) .none kV9 dc9 pm9 an9 cd9 ct9),sl9⟩) (c9:PySem.W.codeIn K cd9 "_law_done" = true) (k9:PySem.W.keepIn K (.ref f9)=true)
  (a10:PySem.W.nsIn K mainGlobals "_law_any_deed" = some (some (.ref f10))) (l10:K.lookup f10=some ⟨oc10,od10,.func (PySem.W.fnOf "_law_any_deed" "_law_any_deed" (ZAO ZBU) (ZAN ZBU) (ZA4 ZBU) .none kV10 dc10 pm10 an10 cd10 ct10),sl10⟩) (c10:PySem.W.codeIn K cd10 "_law_any_deed" = true) (k10:PySem.W.keepIn K (.ref f10)=true)
  (a11:PySem.W.nsIn K mainGlobals "_law_deed" = some (some (.ref f11))) (l11:K.lookup f11=some ⟨oc11,od11,.func (PySem.W.fnOf "_law_deed" "_law_deed" (ZAO ZCd) (ZAN ZCd) (ZA4 ZCd) .none kV11 dc11 pm11 an11 cd11 ct11),sl11⟩) (c11:PySem.W.codeIn K cd11 "_law_deed" = true) (k11:PySem.W.keepIn K (.ref f11)=true)
  (a12:PySem.W.nsIn K mainGlobals "_law_step" = some (some (.ref f12))) (l12:K.lookup f12=some ⟨oc12,od12,.func (PySem.W.fnOf "_law_step" "_law_step" (ZAO ZBq) (ZAN ZBq) (ZA4 ZBq) .none kV12 dc12 pm12 an12 cd12 ct12),sl12⟩) (c12:PySem.W.codeIn K cd12 "_law_step" = true) (k12:PySem.W.keepIn K (.ref f12)=true)
  (a13:PySem.W.nsIn K mainGlobals "_law_gap" = some (some (.ref f13))) (l13:K.lookup f13=some ⟨oc13,od13,.func (PySem.W.fnOf "_law_gap" "_law_gap" (ZAO ZDB) (ZAN ZDB) (ZA4 ZDB) .none kV13 dc13 pm13 an13 cd13 ct13),sl13⟩) (c13:PySem.W.codeIn K cd13 "_law_gap" = true) (k13:PySem.W.keepIn K (.ref f13)=true)
  (a14:PySem.W.nsIn K mainGlobals "_law_led" = some (some (.ref f14))) (l14:K.lookup f14=some ⟨oc14,od14,.func (PySem.W.fnOf "_law_led" "_law_led" (ZAO ZCa) (ZAN ZCa) (ZA4 ZCa) .none kV14 dc14 pm14 an14 cd14 ct14),sl14⟩) (c14:PySem.W.codeIn K cd14 "_law_led" = true) (k14:PySem.W.keepIn K (.ref f14)=true)
  (a15:PySem.W.nsIn K mainGlobals "_law_is_name" = some (some (.ref f15))) (l15:K.lookup f15=some ⟨oc15,od15,.func (PySem.W.fnOf "_law_is_name" "_law_is_name" (ZAO ZBN) (ZAN ZBN) (ZA4 ZBN) .none kV15 dc15 pm15 an15 cd15 ct15),sl15⟩) (c15:PySem.W.codeIn K cd15 "_law_is_name" = true) (k15:PySem.W.keepIn K (.ref f15)=true)
  (a16:PySem.W.nsIn K mainGlobals "_law_due" = some (some (.ref f16))) (l16:K.lookup f16=some ⟨oc16,od16,.func (PySem.W.fnOf "_law_due" "_law_due" (ZAO ZD4) (ZAN ZD4) (ZA4 ZD4) .none kV16 dc16 pm16 an16 cd16 ct16),sl16⟩) (c16:PySem.W.codeIn K cd16 "_law_due" = true) (k16:PySem.W.keepIn K (.ref f16)=true)
  (a17:PySem.W.nsIn K mainGlobals "_law_done_trial" = some (some (.ref f17))) (l17:K.lookup f17=some ⟨oc17,od17,.func (PySem.W.fnOf "_law_done_trial" "_law_done_trial" (ZAO ZBB) (ZAN ZBB) (ZA4 ZBB) .none kV17 dc17 pm17 an17 cd17 ct17),sl17⟩) (c17:PySem.W.codeIn K cd17 "_law_done_trial" = true) (k17:PySem.W.keepIn K (.ref f17)=true)
  (a18:PySem.W.nsIn K mainGlobals "_law_parts" = some (some (.ref f18))) (l18:K.lookup f18=some ⟨oc18,od18,.func (PySem.W.fnOf "_law_parts" "_law_parts" (ZAO ZCI) (ZAN ZCI) (ZA4 ZCI) .none kV18 dc18 pm18 an18 cd18 ct18),sl18⟩) (c18:PySem.W.codeIn K cd18 "_law_parts" = true) (k18:PySem.W.keepIn K (.ref f18)=true)
  (a19:PySem.W.nsIn K mainGlobals "_law_entries" = some (some (.ref f19))) (l19:K.lookup f19=some ⟨oc19,od19,.func (PySem.W.fnOf "_law_entries" "_law_entries" (ZAO ZBh) (ZAN ZBh) (ZA4 ZBh) .none kV19 dc19 pm19 an19 cd19 ct19),sl19⟩) (c19:PySem.W.codeIn K cd19 "_law_entries" = true) (k19:PySem.W.keepIn K (.ref f19)=true)
  (a20:PySem.W.nsIn K mainGlobals "_law_spoilt" = some (some (.ref f20))) (l20:K.lookup f20=some ⟨oc20,od20,.func (PySem.W.fnOf "_law_spoilt" "_law_spoilt" (ZAO ZBs) (ZAN ZBs) (ZA4 ZBs) .none kV20 dc20 pm20 an20 cd20 ct20),sl20⟩) (c20:PySem.W.codeIn K cd20 "_law_spoilt" = true) (k20:PySem.W.keepIn K (.ref f20)=true)
  (a21:PySem.W.nsIn K mainGlobals "is_gap" = some (some (.ref f21))) (l21:K.lookup f21=some ⟨oc21,od21,.func (PySem.W.fnOf "is_gap" "is_gap" (ZAO ZF9) (ZAN ZF9) (ZA4 ZF9) .none kV21 dc21 pm21 an21 cd21 ct21),sl21⟩) (c21:PySem.W.codeIn K cd21 "is_gap" = true) (k21:PySem.W.keepIn K (.ref f21)=true)
  (a22:PySem.W.nsIn K mainGlobals "is_coming" = some (some (.ref f22))) (l22:K.lookup f22=some ⟨oc22,od22,.func (PySem.W.fnOf "is_coming" "is_coming" (ZAO ZCE) (ZAN ZCE) (ZA4 ZCE) .none kV22 dc22 pm22 an22 cd22 ct22),sl22⟩) (c22:PySem.W.codeIn K cd22 "is_coming" = true) (k22:PySem.W.keepIn K (.ref f22)=true)
  (a23:PySem.W.nsIn K mainGlobals "is_loop" = some (some (.ref f23))) (l23:K.lookup f23=some ⟨oc23,od23,.func (PySem.W.fnOf "is_loop" "is_loop" (ZAO ZE2) (ZAN ZE2) (ZA4 ZE2) .none kV23 dc23 pm23 an23 cd23 ct23),sl23⟩) (c23:PySem.W.codeIn K cd23 "is_loop" = true) (k23:PySem.W.keepIn K (.ref f23)=true)
  (a24:PySem.W.nsIn K mainGlobals "check_loop" = some (some (.ref f24))) (l24:K.lookup f24=some ⟨oc24,od24,.func (PySem.W.fnOf "check_loop" "check_loop" (ZAO ZCG) (ZAN ZCG) (ZA4 ZCG) .none kV24 dc24 pm24 an24 cd24 ct24),sl24⟩) (c24:PySem.W.codeIn K cd24 "check_loop" = true) (k24:PySem.W.keepIn K (.ref f24)=true)
  (a25:PySem.W.nsIn K mainGlobals "check_pair" = some (some (.ref f25))) (l25:K.lookup f25=some ⟨oc25,od25,.func (PySem.W.fnOf "check_pair" "check_pair" (ZAO ZCQ) (ZAN ZCQ) (ZA4 ZCQ) .none kV25 dc25 pm25 an25 cd25 ct25),sl25⟩) (c25:PySem.W.codeIn K cd25 "check_pair" = true) (k25:PySem.W.keepIn K (.ref f25)=true)
  (a26:PySem.W.nsIn K mainGlobals "part_at_last" = some (some (.ref f26))) (l26:K.lookup f26=some ⟨oc26,od26,.func (PySem.W.fnOf "part_at_last" "part_at_last" (ZAO ZBf) (ZAN ZBf) (ZA4 ZBf) .none kV26 dc26 pm26 an26 cd26 ct26),sl26⟩) (c26:PySem.W.codeIn K cd26 "part_at_last" = true) (k26:PySem.W.keepIn K (.ref f26)=true)
  (a27:PySem.W.nsIn K mainGlobals "things_to_come" = some (some (.ref f27))) (l27:K.lookup f27=some ⟨oc27,od27,.func (PySem.W.fnOf "things_to_come" "things_to_come" (ZAO ZAy) (ZAN ZAy) (ZA4 ZAy) .none kV27 dc27 pm27 an27 cd27 ct27),sl27⟩) (c27:PySem.W.codeIn K cd27 "things_to_come" = true) (k27:PySem.W.keepIn K (.ref f27)=true)
  (a28:PySem.W.nsIn K mainGlobals "rest" = some (some (.ref f28))) (l28:K.lookup f28=some ⟨oc28,od28,.func (PySem.W.fnOf "rest" "rest" (ZAO ZJa) (ZAN ZJa) (ZA4 ZJa) .none kV28 dc28 pm28 an28 cd28 ct28),sl28⟩) (c28:PySem.W.codeIn K cd28 "rest" = true) (k28:PySem.W.keepIn K (.ref f28)=true)
  (a29:PySem.W.nsIn K mainGlobals "coming_without" = some (some (.ref f29))) (l29:K.lookup f29=some ⟨oc29,od29,.func (PySem.W.fnOf "coming_without" "coming_without" (ZAO ZB1) (ZAN ZB1) (ZA4 ZB1) .none kV29 dc29 pm29 an29 cd29 ct29),sl29⟩) (c29:PySem.W.codeIn K cd29 "coming_without" = true) (k29:PySem.W.keepIn K (.ref f29)=true)
  (a30:PySem.W.nsIn K mainGlobals "place_of" = some (some (.ref f30))) (l30:K.lookup f30=some ⟨oc30,od30,.func (PySem.W.fnOf "place_of" "place_of" (ZAO ZD5) (ZAN ZD5) (ZA4 ZD5) .none kV30 dc30 pm30 an30 cd30 ct30),sl30⟩) (c30:PySem.W.codeIn K cd30 "place_of" = true) (k30:PySem.W.keepIn K (.ref f30)=true)
  (a31:PySem.W.nsIn K mainGlobals "loop_telling" = some (some (.ref f31))) (l31:K.lookup f31=some ⟨oc31,od31,.func (PySem.W.fnOf "loop_telling" "loop_telling" (ZAO ZBe) (ZAN ZBe) (ZA4 ZBe) .none kV31 dc31 pm31 an31 cd31 ct31),sl31⟩) (c31:PySem.W.codeIn K cd31 "loop_telling" = true) (k31:PySem.W.keepIn K (.ref f31)=true)
  (a32:PySem.W.nsIn K mainGlobals "step" = some (some (.ref f32))) (l32:K.lookup f32=some ⟨oc32,od32,.func (PySem.W.fnOf "step" "step" (ZAO ZJc) (ZAN ZJc) (ZA4 ZJc) .none kV32 dc32 pm32 an32 cd32 ct32),sl32⟩) (c32:PySem.W.codeIn K cd32 "step" = true) (k32:PySem.W.keepIn K (.ref f32)=true)
  (a33:PySem.W.nsIn K mainGlobals "is_name" = some (some (.ref f33))) (l33:K.lookup f33=some ⟨oc33,od33,.func (PySem.W.fnOf "is_name" "is_name" (ZAO ZDO) (ZAN ZDO) (ZA4 ZDO) .none kV33 dc33 pm33 an33 cd33 ct33),sl33⟩) (c33:PySem.W.codeIn K cd33 "is_name" = true) (k33:PySem.W.keepIn K (.ref f33)=true)
  (a34:PySem.W.nsIn K mainGlobals "check_put" = some (some (.ref f34))) (l34:K.lookup f34=some ⟨oc34,od34,.func (PySem.W.fnOf "check_put" "check_put" (ZAO ZCe) (ZAN ZCe) (ZA4 ZCe) .none kV34 dc34 pm34 an34 cd34 ct34),sl34⟩) (c34:PySem.W.codeIn K cd34 "check_put" = true) (k34:PySem.W.keepIn K (.ref f34)=true)
  (a35:PySem.W.nsIn K mainGlobals "check_move" = some (some (.ref f35))) (l35:K.lookup f35=some ⟨oc35,od35,.func (PySem.W.fnOf "check_move" "check_move" (ZAO ZCM) (ZAN ZCM) (ZA4 ZCM) .none kV35 dc35 pm35 an35 cd35 ct35),sl35⟩) (c35:PySem.W.codeIn K cd35 "check_move" = true) (k35:PySem.W.keepIn K (.ref f35)=true)
  (a36:PySem.W.nsIn K mainGlobals "check_turn" = some (some (.ref f36))) (l36:K.lookup f36=some ⟨oc36,od36,.func (PySem.W.fnOf "check_turn" "check_turn" (ZAO ZCP) (ZAN ZCP) (ZA4 ZCP) .none kV36 dc36 pm36 an36 cd36 ct36),sl36⟩) (c36:PySem.W.codeIn K cd36 "check_turn" = true) (k36:PySem.W.keepIn K (.ref f36)=true)
  (a37:PySem.W.nsIn K mainGlobals "check_deed" = some (some (.ref f37))) (l37:K.lookup f37=some ⟨oc37,od37,.func (PySem.W.fnOf "check_deed" "check_deed" (ZAO ZCN) (ZAN ZCN) (ZA4 ZCN) .none kV37 dc37 pm37 an37 cd37 ct37),sl37⟩) (c37:PySem.W.codeIn K cd37 "check_deed" = true) (k37:PySem.W.keepIn K (.ref f37)=true)
  (a38:PySem.W.nsIn K mainGlobals "row_turned" = some (some (.ref f38))) (l38:K.lookup f38=some ⟨oc38,od38,.func (PySem.W.fnOf "row_turned" "row_turned" (ZAO ZCL) (ZAN ZCL) (ZA4 ZCL) .none kV38 dc38 pm38 an38 cd38 ct38),sl38⟩) (c38:PySem.W.codeIn K cd38 "row_turned" = true) (k38:PySem.W.keepIn K (.ref f38)=true)
  (a39:PySem.W.nsIn K mainGlobals "row_with" = some (some (.ref f39))) (l39:K.lookup f39=some ⟨oc39,od39,.func (PySem.W.fnOf "row_with" "row_with" (ZAO ZD9) (ZAN ZD9) (ZA4 ZD9) .none kV39 dc39 pm39 an39 cd39 ct39),sl39⟩) (c39:PySem.W.codeIn K cd39 "row_with" = true) (k39:PySem.W.keepIn K (.ref f39)=true)
  (a40:PySem.W.nsIn K mainGlobals "row_without" = some (some (.ref f40))) (l40:K.lookup f40=some ⟨oc40,od40,.func (PySem.W.fnOf "row_without" "row_without" (ZAO ZBa) (ZAN ZBa) (ZA4 ZBa) .none kV40 dc40 pm40 an40 cd40 ct40),sl40⟩) (c40:PySem.W.codeIn K cd40 "row_without" = true) (k40:PySem.W.keepIn K (.ref f40)=true)
  (a41:PySem.W.nsIn K mainGlobals "done" = some (some (.ref f41))) (l41:K.lookup f41=some ⟨oc41,od41,.func (PySem.W.fnOf "done" "done" (ZAO ZJV) (ZAN ZJV) (ZA4 ZJV) .none kV41 dc41 pm41 an41 cd41 ct41),sl41⟩) (c41:PySem.W.codeIn K cd41 "done" = true) (k41:PySem.W.keepIn K (.ref f41)=true)
  (a42:PySem.W.nsIn K mainGlobals "gap_behind_put" = some (some (.ref f42))) (l42:K.lookup f42=some ⟨oc42,od42,.func (PySem.W.fnOf "gap_behind_put" "gap_behind_put" (ZAO ZBK) (ZAN ZBK) (ZA4 ZBK) .none kV42 dc42 pm42 an42 cd42 ct42),sl42⟩) (c42:PySem.W.codeIn K cd42 "gap_behind_put" = true) (k42:PySem.W.keepIn K (.ref f42)=true)
  (a43:PySem.W.nsIn K mainGlobals "gap_behind_take" = some (some (.ref f43))) (l43:K.lookup f43=some ⟨oc43,od43,.func (PySem.W.fnOf "gap_behind_take" "gap_behind_take" (ZAO ZBC) (ZAN ZBC) (ZA4 ZBC) .none kV43 dc43 pm43 an43 cd43 ct43),sl43⟩) (c43:PySem.W.codeIn K cd43 "gap_behind_take" = true) (k43:PySem.W.keepIn K (.ref f43)=true)
  (a44:PySem.W.nsIn K mainGlobals "gap_led" = some (some (.ref f44))) (l44:K.lookup f44=some ⟨oc44,od44,.func (PySem.W.fnOf "gap_led" "gap_led" (ZAO ZE7) (ZAN ZE7) (ZA4 ZE7) .none kV44 dc44 pm44 an44 cd44 ct44),sl44⟩) (c44:PySem.W.codeIn K cd44 "gap_led" = true) (k44:PySem.W.keepIn K (.ref f44)=true)
  (a45:PySem.W.nsIn K mainGlobals "joins" = some (some (.ref f45))) (l45:K.lookup f45=some ⟨oc45,od45,.func (PySem.W.fnOf "joins" "joins" (ZAO ZGe) (ZAN ZGe) (ZA4 ZGe) .none kV45 dc45 pm45 an45 cd45 ct45),sl45⟩) (c45:PySem.W.codeIn K cd45 "joins" = true) (k45:PySem.W.keepIn K (.ref f45)=true)
  (a46:PySem.W.nsIn K mainGlobals "coming_behind" = some (some (.ref f46))) (l46:K.lookup f46=some ⟨oc46,od46,.func (PySem.W.fnOf "coming_behind" "coming_behind" (ZAO ZBT) (ZAN ZBT) (ZA4 ZBT) .none kV46 dc46 pm46 an46 cd46 ct46),sl46⟩) (c46:PySem.W.codeIn K cd46 "coming_behind" = true) (k46:PySem.W.keepIn K (.ref f46)=true)
  (a47:PySem.W.nsIn K mainGlobals "loop_led" = some (some (.ref f47))) (l47:K.lookup f47=some ⟨oc47,od47,.func (PySem.W.fnOf "loop_led" "loop_led" (ZAO ZD6) (ZAN ZD6) (ZA4 ZD6) .none kV47 dc47 pm47 an47 cd47 ct47),sl47⟩) (c47:PySem.W.codeIn K cd47 "loop_led" = true) (k47:PySem.W.keepIn K (.ref f47)=true)
  (a48:PySem.W.nsIn K mainGlobals "told_in" = some (some (.ref f48))) (l48:K.lookup f48=some ⟨oc48,od48,.func (PySem.W.fnOf "told_in" "told_in" (ZAO ZE4) (ZAN ZE4) (ZA4 ZE4) .none kV48 dc48 pm48 an48 cd48 ct48),sl48⟩) (c48:PySem.W.codeIn K cd48 "told_in" = true) (k48:PySem.W.keepIn K (.ref f48)=true)
  (a49:PySem.W.nsIn K mainGlobals "trial_judged" = some (some (.ref f49))) (l49:K.lookup f49=some ⟨oc49,od49,.func (PySem.W.fnOf "trial_judged" "trial_judged" (ZAO ZBg) (ZAN ZBg) (ZA4 ZBg) .none kV49 dc49 pm49 an49 cd49 ct49),sl49⟩) (c49:PySem.W.codeIn K cd49 "trial_judged" = true) (k49:PySem.W.keepIn K (.ref f49)=true)
  (a50:PySem.W.nsIn K mainGlobals "law" = some (some (.ref f50))) (l50:K.lookup f50=some ⟨oc50,od50,.func (PySem.W.fnOf "law" "law" (ZAO ZKs) (ZAN ZKs) (ZA4 ZKs) .none kV50 dc50 pm50 an50 cd50 ct50),sl50⟩) (c50:PySem.W.codeIn K cd50 "law" = true) (k50:PySem.W.keepIn K (.ref f50)=true)
  (ZTn:PySem.W.nsIn K mainGlobals "all" = some none)
  (ZOx:PySem.W.nsIn K mainGlobals "bool" = some none)
  (ZTp:PySem.W.nsIn K mainGlobals "int" = some none)
  (ZF3:PySem.W.nsIn K mainGlobals "isinstance" = some none)
  (ZTF:PySem.W.nsIn K mainGlobals "len" = some none)
  (ZPO:PySem.W.nsIn K mainGlobals "list" = some none)
  (ZMA:PySem.W.nsIn K mainGlobals "range" = some none)
  (ZGj:PySem.W.nsIn K mainGlobals "reversed" = some none)
  (ZSi:PySem.W.nsIn K mainGlobals "set" = some none)
  (ZKl:PySem.W.nsIn K mainGlobals "sorted" = some none)
  (ZMe:PySem.W.nsIn K mainGlobals "tuple" = some none)
  (ZHt:PySem.W.nsIn K mainGlobals "LETTERS" = some (some (.str "abcdefghijklmnopqrstuvwxyz" ZHw)))
  (ZDj:PySem.W.nsIn K mainGlobals "MOST_ENTRIES" = some (some (.int 100 ZDi)))
  (ZDp:PySem.W.nsIn K mainGlobals "MOST_LETTERS" = some (some (.int 8 ZDg)))
  (ZEC:PySem.W.nsIn K mainGlobals "MOST_THINGS" = some (some (.int 40 ZEB)))
  (ZCA:PySem.W.nsIn K mainGlobals "MOST_THINGS_TRIED" = some (some (.int 37 ZC9)))
  (ZNC:PySem.W.nsIn K mainGlobals "RULES" = some (some (.ref ZEs)))
  {ZS9:Option Addr}{ZR7:Array (Option Value)}{ZRn:Nat}{ZR9 ZRH ZRq:Tok}(ZMN:K.lookup ZEs=some ⟨.type "tuple", ZS9,.seq #[.str "none" ZR9,.str "ahead" ZRH,.str "all" ZRq] ZRn,ZR7⟩)
  (ZQ8:PySem.W.nsIn K mainGlobals "STEP" = some (some (.ref ZDI)))
  {ZSy:Option Addr}{ZTq:Array (Option Value)}{ZTV:Nat}{ZSx:Tok}(ZQW:K.lookup ZDI=some ⟨.type "tuple", ZSy,.seq #[.str "step" ZSx] ZTV,ZTq⟩)
  {ZAH:Addr}(e0_Full:PySem.W.nsIn K mainGlobals "Full" = some (some (.ref ZAH)))
  {ZAB:Addr}(e0_Gone:PySem.W.nsIn K mainGlobals "Gone" = some (some (.ref ZAB)))
  {ZAW:Addr}(e0_NoLoop:PySem.W.nsIn K mainGlobals "NoLoop" = some (some (.ref ZAW)))
  {ZA5:Addr}(e0_NoName:PySem.W.nsIn K mainGlobals "NoName" = some (some (.ref ZA5)))
  {ZA3:Addr}(e0_NoPlace:PySem.W.nsIn K mainGlobals "NoPlace" = some (some (.ref ZA3)))
  {ZAp:Addr}(e0_StirError:PySem.W.nsIn K mainGlobals "StirError" = some (some (.ref ZAp)))
  {ZA8:Addr}(e0_There:PySem.W.nsIn K mainGlobals "There" = some (some (.ref ZA8)))
  (k0_s1:PySem.W.specialIn K (.ref ZAp) "__getattribute__" = some (some (.builtin "type.__getattribute__")))
  (k0_s2:PySem.W.readsIn K ZAp (.type "type")=true)
  (k0_s3:PySem.W.findCls K (.ref ZAp) (.type "type") "__init__" = some (.val (.builtin "ValueError.__init__")))
  (ZLx:ZNH K ZAH none=true)
  {g_Gone:Addr}{god_Gone gan_Gone:Option Addr}{gsl_Gone:Array (Option Value)}{goc_Gone gkV_Gone gdc_Gone gpm_Gone gcd_Gone gct_Gone:Value}(k1_Gone:PySem.W.findIn K (.ref ZAB) "__init__" = some (some (.ref g_Gone))) (k2_Gone:K.lookup g_Gone=some ⟨goc_Gone,god_Gone,.func (PySem.W.fnOf "__init__" "Gone.__init__" (ZAO ZFe) (ZAN ZFe) (ZA4 ZFe) .none gkV_Gone gdc_Gone gpm_Gone gan_Gone gcd_Gone gct_Gone),gsl_Gone⟩) (k3_Gone:PySem.W.codeIn K gcd_Gone "Gone.__init__" = true) (k4_Gone:PySem.W.keepIn K (.ref g_Gone)=true)
  (k5_Gone:ZNH K ZAB (some (.ref g_Gone))=true)
  (k6_Gone:PySem.W.findIn K (.ref ZAB) "__setattr__" = some (some (.builtin "object.__setattr__")))
  (k7_Gone:ZIa K ZAB=true)
  (k8_Gone:PySem.W.takerIn K ZAB "name" = some none)
  (k9_Gone:PySem.W.hasDictIn K ZAB=true)
  (kA_Gone:PySem.W.isFn K (.ref g_Gone)=true)
  (kB_Gone:PySem.W.keepIn K (.ref ZAB)=true)
  (ZGN:ZNH K ZAW none=true)
  {g_NoName:Addr}{god_NoName gan_NoName:Option Addr}{gsl_NoName:Array (Option Value)}{goc_NoName gkV_NoName gdc_NoName gpm_NoName gcd_NoName gct_NoName:Value}(k1_NoName:PySem.W.findIn K (.ref ZA5) "__init__" = some (some (.ref g_NoName))) (k2_NoName:K.lookup g_NoName=some ⟨goc_NoName,god_NoName,.func (PySem.W.fnOf "__init__" "NoName.__init__" (ZAO ZDM) (ZAN ZDM) (ZA4 ZDM) .none gkV_NoName gdc_NoName gpm_NoName gan_NoName gcd_NoName gct_NoName),gsl_NoName⟩) (k3_NoName:PySem.W.codeIn K gcd_NoName "NoName.__init__" = true) (k4_NoName:PySem.W.keepIn K (.ref g_NoName)=true)
  (k5_NoName:ZNH K ZA5 (some (.ref g_NoName))=true)
  (k6_NoName:PySem.W.findIn K (.ref ZA5) "__setattr__" = some (some (.builtin "object.__setattr__")))
  (k7_NoName:ZIa K ZA5=true)
  (k8_NoName:PySem.W.takerIn K ZA5 "name" = some none)
  (k9_NoName:PySem.W.hasDictIn K ZA5=true)
  (kA_NoName:PySem.W.isFn K (.ref g_NoName)=true)
  (kB_NoName:PySem.W.keepIn K (.ref ZA5)=true)
  {g_NoPlace:Addr}{god_NoPlace gan_NoPlace:Option Addr}{gsl_NoPlace:Array (Option Value)}{goc_NoPlace gkV_NoPlace gdc_NoPlace gpm_NoPlace gcd_NoPlace gct_NoPlace:Value}(k1_NoPlace:PySem.W.findIn K (.ref ZA3) "__init__" = some (some (.ref g_NoPlace))) (k2_NoPlace:K.lookup g_NoPlace=some ⟨goc_NoPlace,god_NoPlace,.func (PySem.W.fnOf "__init__" "NoPlace.__init__" (ZAO ZCc) (ZAN ZCc) (ZA4 ZCc) .none gkV_NoPlace gdc_NoPlace gpm_NoPlace gan_NoPlace gcd_NoPlace gct_NoPlace),gsl_NoPlace⟩) (k3_NoPlace:PySem.W.codeIn K gcd_NoPlace "NoPlace.__init__" = true) (k4_NoPlace:PySem.W.keepIn K (.ref g_NoPlace)=true)
  (k5_NoPlace:ZNH K ZA3 (some (.ref g_NoPlace))=true)
  (k6_NoPlace:PySem.W.findIn K (.ref ZA3) "__setattr__" = some (some (.builtin "object.__setattr__")))
  (k7_NoPlace:ZIa K ZA3=true)
  (k8_NoPlace:PySem.W.takerIn K ZA3 "at" = some none)
  (k9_NoPlace:PySem.W.hasDictIn K ZA3=true)
  (kA_NoPlace:PySem.W.isFn K (.ref g_NoPlace)=true)
  (kB_NoPlace:PySem.W.keepIn K (.ref ZA3)=true)
  {g_There:Addr}{god_There gan_There:Option Addr}{gsl_There:Array (Option Value)}{goc_There gkV_There gdc_There gpm_There gcd_There gct_There:Value}(k1_There:PySem.W.findIn K (.ref ZA8) "__init__" = some (some (.ref g_There))) (k2_There:K.lookup g_There=some ⟨goc_There,god_There,.func (PySem.W.fnOf "__init__" "There.__init__" (ZAO ZEL) (ZAN ZEL) (ZA4 ZEL) .none gkV_There gdc_There gpm_There gan_There gcd_There gct_There),gsl_There⟩) (k3_There:PySem.W.codeIn K gcd_There "There.__init__" = true) (k4_There:PySem.W.keepIn K (.ref g_There)=true)
  (k5_There:ZNH K ZA8 (some (.ref g_There))=true)
  (k6_There:PySem.W.findIn K (.ref ZA8) "__setattr__" = some (some (.builtin "object.__setattr__")))
  (k7_There:ZIa K ZA8=true)
  (k8_There:PySem.W.takerIn K ZA8 "name" = some none)
  (k9_There:PySem.W.hasDictIn K ZA8=true)
  (kA_There:PySem.W.isFn K (.ref g_There)=true)
  (kB_There:PySem.W.keepIn K (.ref ZA8)=true)
  (xo:ZPG K ZAp ⟨ZA5,ZA8,ZAB,ZA3,ZAH⟩=true)
  : ∃ fd:FuncData,(∀ (s:Shared) (v:Value),BindsTo s fd ⟨[v],[]⟩ [("script", v)])/\∀ base:Heap,K.In base->base.Ns mainGlobals mg->ZJ2 l.prog w K mg base CX0 9 fa fd ["script"] (ZOq K):=by
 have e:=hfa.symm.trans (PySem.W.mg_of X G a50)
 cases e
 have F1:=ZAY (st:=ZD8) l1 c1 k1
 have d1:=F1.binds (ps:=["script", "k"]) fun _ _ _ _ _ _ us hl=>match us,hl with | [_,_],_=>rfl
 have F2:=ZAY (st:=ZCf) l2 c2 k2
 have d2:=F2.binds (ps:=["pot", "many"]) fun _ _ _ _ _ _ us hl=>match us,hl with | [_,_],_=>rfl
 have F3:=ZAY (st:=ZBd) l3 c3 k3
 have d3:=F3.binds (ps:=["number"]) fun _ _ _ _ _ _ us hl=>match us,hl with | [_],_=>rfl
 have F4:=ZAY (st:=ZCg) l4 c4 k4
 have d4:=F4.binds (ps:=["pot", "names"]) fun _ _ _ _ _ _ us hl=>match us,hl with | [_,_],_=>rfl
 have F5:=ZAY (st:=ZCO) l5 c5 k5
 have d5:=F5.binds (ps:=["pot", "many"]) fun _ _ _ _ _ _ us hl=>match us,hl with | [_,_],_=>rfl
 have F6:=ZAY (st:=ZD7) l6 c6 k6
 have d6:=F6.binds (ps:=["pot", "most"]) fun _ _ _ _ _ _ us hl=>match us,hl with | [_,_],_=>rfl
 have F7:=ZAY (st:=ZBI) l7 c7 k7
 have d7:=F7.binds (ps:=["pot", "row"]) fun _ _ _ _ _ _ us hl=>match us,hl with | [_,_],_=>rfl
 have F8:=ZAY (st:=ZC8) l8 c8 k8
 have d8:=F8.binds (ps:=["pot", "row"]) fun _ _ _ _ _ _ us hl=>match us,hl with | [_,_],_=>rfl
 have F9:=ZAY (st:=ZCD) l9 c9 k9
 have d9:=F9.binds (ps:=["row", "deed"]) fun _ _ _ _ _ _ us hl=>match us,hl with | [_,_],_=>rfl
 have F10:=ZAY (st:=ZBU) l10 c10 k10
 have d10:=F10.binds (ps:=["pot", "row"]) fun _ _ _ _ _ _ us hl=>match us,hl with | [_,_],_=>rfl
 have F11:=ZAY (st:=ZCd) l11 c11 k11
 have d11:=F11.binds (ps:=["pot", "row", "most"]) fun _ _ _ _ _ _ us hl=>match us,hl with | [_,_,_],_=>rfl
 have F12:=ZAY (st:=ZBq) l12 c12 k12
 have d12:=F12.binds (ps:=["row", "loop"]) fun _ _ _ _ _ _ us hl=>match us,hl with | [_,_],_=>rfl
 have F13:=ZAY (st:=ZDB) l13 c13 k13
 have d13:=F13.binds (ps:=["row", "gap", "deed"]) fun _ _ _ _ _ _ us hl=>match us,hl with | [_,_,_],_=>rfl
 have F14:=ZAY (st:=ZCa) l14 c14 k14
 have d14:=F14.binds (ps:=["row", "loop", "deed"]) fun _ _ _ _ _ _ us hl=>match us,hl with | [_,_,_],_=>rfl
 have F15:=ZAY (st:=ZBN) l15 c15 k15
 have d15:=F15.binds (ps:=["text"]) fun _ _ _ _ _ _ us hl=>match us,hl with | [_],_=>rfl
 have F16:=ZAY (st:=ZD4) l16 c16 k16
 have d16:=F16.binds (ps:=["row", "deed"]) fun _ _ _ _ _ _ us hl=>match us,hl with | [_,_],_=>rfl
 have F17:=ZAY (st:=ZBB) l17 c17 k17
 have d17:=F17.binds (ps:=["row", "one", "other", "trial"]) fun _ _ _ _ _ _ us hl=>match us,hl with | [_,_,_,_],_=>rfl
 have F18:=ZAY (st:=ZCI) l18 c18 k18
 have d18:=F18.binds (ps:=["row", "one", "other", "trial"]) fun _ _ _ _ _ _ us hl=>match us,hl with | [_,_,_,_],_=>rfl
 have F19:=ZAY (st:=ZBh) l19 c19 k19
 have d19:=F19.binds (ps:=["pot", "row", "one", "other"]) fun _ _ _ _ _ _ us hl=>match us,hl with | [_,_,_,_],_=>rfl
 have F20:=ZAY (st:=ZBs) l20 c20 k20
 have d20:=F20.binds (ps:=["pot", "names"]) fun _ _ _ _ _ _ us hl=>match us,hl with | [_,_],_=>rfl
 have F21:=ZAY (st:=ZF9) l21 c21 k21
 have d21:=F21.binds (ps:=["row", "gap"]) fun _ _ _ _ _ _ us hl=>match us,hl with | [_,_],_=>rfl
 have F22:=ZAY (st:=ZCE) l22 c22 k22
 have d22:=F22.binds (ps:=["row", "coming"]) fun _ _ _ _ _ _ us hl=>match us,hl with | [_,_],_=>rfl
 have F23:=ZAY (st:=ZE2) l23 c23 k23
 have d23:=F23.binds (ps:=["row", "thing"]) fun _ _ _ _ _ _ us hl=>match us,hl with | [_,_],_=>rfl
 have F24:=ZAY (st:=ZCG) l24 c24 k24
 have d24:=F24.binds (ps:=["row", "loop"]) fun _ _ _ _ _ _ us hl=>match us,hl with | [_,_],_=>rfl
 have F25:=ZAY (st:=ZCQ) l25 c25 k25
 have d25:=F25.binds (ps:=["row", "one", "other"]) fun _ _ _ _ _ _ us hl=>match us,hl with | [_,_,_],_=>rfl
 have F26:=ZAY (st:=ZBf) l26 c26 k26
 have d26:=F26.binds (ps:=["ones", "others"]) fun _ _ _ _ _ _ us hl=>match us,hl with | [_,_],_=>rfl
 have F27:=ZAY (st:=ZAy) l27 c27 k27
 have d27:=F27.binds (ps:=["things", "loop"]) fun _ _ _ _ _ _ us hl=>match us,hl with | [_,_],_=>rfl
 have F28:=ZAY (st:=ZJa) l28 c28 k28
 have d28:=F28.binds (ps:=["row", "loop"]) fun _ _ _ _ _ _ us hl=>match us,hl with | [_,_],_=>rfl
 have F29:=ZAY (st:=ZB1) l29 c29 k29
 have d29:=F29.binds (ps:=["coming", "gone"]) fun _ _ _ _ _ _ us hl=>match us,hl with | [_,_],_=>rfl
 have F30:=ZAY (st:=ZD5) l30 c30 k30
 have d30:=F30.binds (ps:=["row", "name"]) fun _ _ _ _ _ _ us hl=>match us,hl with | [_,_],_=>rfl
 have F31:=ZAY (st:=ZBe) l31 c31 k31
 have d31:=F31.binds (ps:=["row", "loop", "name"]) fun _ _ _ _ _ _ us hl=>match us,hl with | [_,_,_],_=>rfl
 have F32:=ZAY (st:=ZJc) l32 c32 k32
 have d32:=F32.binds (ps:=["row", "loop"]) fun _ _ _ _ _ _ us hl=>match us,hl with | [_,_],_=>rfl
 have F33:=ZAY (st:=ZDO) l33 c33 k33
 have d33:=F33.binds (ps:=["text"]) fun _ _ _ _ _ _ us hl=>match us,hl with | [_],_=>rfl
 have F34:=ZAY (st:=ZCe) l34 c34 k34
 have d34:=F34.binds (ps:=["row", "name", "at"]) fun _ _ _ _ _ _ us hl=>match us,hl with | [_,_,_],_=>rfl
 have F35:=ZAY (st:=ZCM) l35 c35 k35
 have d35:=F35.binds (ps:=["row", "name", "at"]) fun _ _ _ _ _ _ us hl=>match us,hl with | [_,_,_],_=>rfl
 have F36:=ZAY (st:=ZCP) l36 c36 k36
 have d36:=F36.binds (ps:=["row", "low", "high"]) fun _ _ _ _ _ _ us hl=>match us,hl with | [_,_,_],_=>rfl
 have F37:=ZAY (st:=ZCN) l37 c37 k37
 have d37:=F37.binds (ps:=["row", "deed"]) fun _ _ _ _ _ _ us hl=>match us,hl with | [_,_],_=>rfl
 have F38:=ZAY (st:=ZCL) l38 c38 k38
 have d38:=F38.binds (ps:=["row", "low", "high"]) fun _ _ _ _ _ _ us hl=>match us,hl with | [_,_,_],_=>rfl
 have F39:=ZAY (st:=ZD9) l39 c39 k39
 have d39:=F39.binds (ps:=["row", "name", "at"]) fun _ _ _ _ _ _ us hl=>match us,hl with | [_,_,_],_=>rfl
 have F40:=ZAY (st:=ZBa) l40 c40 k40
 have d40:=F40.binds (ps:=["row", "name"]) fun _ _ _ _ _ _ us hl=>match us,hl with | [_,_],_=>rfl
 have F41:=ZAY (st:=ZJV) l41 c41 k41
 have d41:=F41.binds (ps:=["row", "deed"]) fun _ _ _ _ _ _ us hl=>match us,hl with | [_,_],_=>rfl
 have F42:=ZAY (st:=ZBK) l42 c42 k42
 have d42:=F42.binds (ps:=["gap", "at"]) fun _ _ _ _ _ _ us hl=>match us,hl with | [_,_],_=>rfl
 have F43:=ZAY (st:=ZBC) l43 c43 k43
 have d43:=F43.binds (ps:=["gap", "place"]) fun _ _ _ _ _ _ us hl=>match us,hl with | [_,_],_=>rfl
 have F44:=ZAY (st:=ZE7) l44 c44 k44
 have d44:=F44.binds (ps:=["row", "gap", "deed"]) fun _ _ _ _ _ _ us hl=>match us,hl with | [_,_,_],_=>rfl
 have F45:=ZAY (st:=ZGe) l45 c45 k45
 have d45:=F45.binds (ps:=["loop", "at"]) fun _ _ _ _ _ _ us hl=>match us,hl with | [_,_],_=>rfl
 have F46:=ZAY (st:=ZBT) l46 c46 k46
 have d46:=F46.binds (ps:=["loop", "deed"]) fun _ _ _ _ _ _ us hl=>match us,hl with | [_,_],_=>rfl
 have F47:=ZAY (st:=ZD6) l47 c47 k47
 have d47:=F47.binds (ps:=["row", "loop", "deed"]) fun _ _ _ _ _ _ us hl=>match us,hl with | [_,_,_],_=>rfl
 have F48:=ZAY (st:=ZE4) l48 c48 k48
 have d48:=F48.binds (ps:=["row", "loop", "trial"]) fun _ _ _ _ _ _ us hl=>match us,hl with | [_,_,_],_=>rfl
 have F49:=ZAY (st:=ZBg) l49 c49 k49
 have d49:=F49.binds (ps:=["row", "one", "other", "trial", "ones", "others"]) fun _ _ _ _ _ _ us hl=>match us,hl with | [_,_,_,_,_,_],_=>rfl
 have F50:=ZAY (st:=ZKs) l50 c50 k50
 have d50:=F50.binds (ps:=["script"]) fun _ _ _ _ _ _ us hl=>match us,hl with | [_],_=>rfl
 have ZKP:=PySem.W.mg_none_of X G ZTn
 have ZPQ:=PySem.W.mg_none_of X G ZOx
 have ZJ5:=PySem.W.mg_none_of X G ZTp
 have ZEX:=PySem.W.mg_none_of X G ZF3
 have ZAf:=PySem.W.mg_none_of X G ZTF
 have ZBk:=PySem.W.mg_none_of X G ZPO
 have ZDf:=PySem.W.mg_none_of X G ZMA
 have ZD3:=PySem.W.mg_none_of X G ZGj
 have ZSu:=PySem.W.mg_none_of X G ZSi
 have ZBZ:=PySem.W.mg_none_of X G ZKl
 have ZBH:=PySem.W.mg_none_of X G ZMe
 have ZIp:=PySem.W.mg_of X G ZHt
 have ZDm:=PySem.W.mg_of X G ZDj
 have ZDn:=PySem.W.mg_of X G ZDp
 have ZEJ:=PySem.W.mg_of X G ZEC
 have ZCB:=PySem.W.mg_of X G ZCA
 have ZMi:=PySem.W.mg_of X G ZNC
 have ZMk:∀ H,SqT K H ZEs [.str "none", .str "ahead", .str "all"]:=fun H=>.inr ⟨_,_,_,ZMN,rfl,rfl,(by show 3<=sizeLine;decide +kernel),(.cons ⟨_,rfl⟩ (.cons ⟨_,rfl⟩ (.cons ⟨_,rfl⟩ .nil)))⟩
 have ZJL:=PySem.W.mg_of X G ZQ8
 have ZJO:∀ H,SqT K H ZDI [.str "step"]:=fun H=>.inr ⟨_,_,_,ZQW,rfl,rfl,(by show 1<=sizeLine;decide +kernel),(.cons ⟨_,rfl⟩ .nil)⟩
 have ZPN:=PySem.W.mg_of X G e0_Full
 have ZQ7:=PySem.W.mg_of X G e0_Gone
 have ZKS:=PySem.W.mg_of X G e0_NoLoop
 have ZKZ:=PySem.W.mg_of X G e0_NoName
 have ZBz:=PySem.W.mg_of X G e0_NoPlace
 have ZCC:=PySem.W.mg_of X G e0_StirError
 have ZMu:=PySem.W.mg_of X G e0_There
 refine ⟨PySem.W.fnOf "law" "law" (ZAO ZKs) (ZAN ZKs) (ZA4 ZKs) .none kV50 dc50 pm50 an50 cd50 ct50,fun s v=>.of_eq rfl,fun base _ _=>?_⟩
 have ZQb:=ZRe (P:=l.prog) (w:=w) (base:=base) (ZAY (st:=ZFe) k2_Gone k3_Gone k4_Gone) ((ZAY (st:=ZFe) k2_Gone k3_Gone k4_Gone).binds (ps:=["self", "name"]) fun _ _ _ _ _ _ us hl=>match us,hl with | [_,_],_=>rfl) ⟨k5_Gone,k6_Gone,k7_Gone,k8_Gone,k9_Gone,kA_Gone,kB_Gone⟩ ⟨k0_s1,k0_s2,k0_s3,rfl⟩ ZCC
 have ZKk:=ZOA (P:=l.prog) (w:=w) (base:=base) (ZAY (st:=ZDM) k2_NoName k3_NoName k4_NoName) ((ZAY (st:=ZDM) k2_NoName k3_NoName k4_NoName).binds (ps:=["self", "name"]) fun _ _ _ _ _ _ us hl=>match us,hl with | [_,_],_=>rfl) ⟨k5_NoName,k6_NoName,k7_NoName,k8_NoName,k9_NoName,kA_NoName,kB_NoName⟩ ⟨k0_s1,k0_s2,k0_s3,rfl⟩ ZCC
 have ZBx:=ZMZ (P:=l.prog) (w:=w) (base:=base) (ZAY (st:=ZCc) k2_NoPlace k3_NoPlace k4_NoPlace) ((ZAY (st:=ZCc) k2_NoPlace k3_NoPlace k4_NoPlace).binds (ps:=["self", "at"]) fun _ _ _ _ _ _ us hl=>match us,hl with | [_,_],_=>rfl) ⟨k5_NoPlace,k6_NoPlace,k7_NoPlace,k8_NoPlace,k9_NoPlace,kA_NoPlace,kB_NoPlace⟩ ⟨k0_s1,k0_s2,k0_s3,rfl⟩ ZCC
 have ZMH:=ZQg (P:=l.prog) (w:=w) (base:=base) (ZAY (st:=ZEL) k2_There k3_There k4_There) ((ZAY (st:=ZEL) k2_There k3_There k4_There).binds (ps:=["self", "name"]) fun _ _ _ _ _ _ us hl=>match us,hl with | [_,_],_=>rfl) ⟨k5_There,k6_There,k7_There,k8_There,k9_There,kA_There,kB_There⟩ ⟨k0_s1,k0_s2,k0_s3,rfl⟩ ZCC
 have ZH0:=ZMc (P:=l.prog) (w:=w) (base:=base)  F1 d1 (PySem.W.mg_of X G a1) ZAf
 have ZA7:=ZLP (P:=l.prog) (w:=w) (base:=base)  F2 d2 (PySem.W.mg_of X G a2)
 have ZC0:=ZIQ (P:=l.prog) (w:=w) (base:=base)  F3 d3 (PySem.W.mg_of X G a3)
 have ZBX:=ZLp (P:=l.prog) (w:=w) (base:=base)  F4 d4 (PySem.W.mg_of X G a4) ZC0 ZA7 ZAf
 have ZEq:=ZKy (P:=l.prog) (w:=w) (base:=base)  F5 d5 (PySem.W.mg_of X G a5) ZBX ZDf
 have ZGz:=ZNJ (P:=l.prog) (w:=w) (base:=base)  F6 d6 (PySem.W.mg_of X G a6) ZEq ZA7
 have ZC6:=ZGk (P:=l.prog) (w:=w) (base:=base)  F7 d7 (PySem.W.mg_of X G a7) ZA7 ZAf ZBZ ZBH
 have ZFS:=ZM2 (P:=l.prog) (w:=w) (base:=base)  F8 d8 (PySem.W.mg_of X G a8) ZC6 ZA7 ZAf ZBZ ZBH
 have ZCh:=ZL4 (P:=l.prog) (w:=w) (base:=base)  F9 d9 (PySem.W.mg_of X G a9) ZBk ZD3
 have ZDL:=ZHV (P:=l.prog) (w:=w) (base:=base)  F10 d10 (PySem.W.mg_of X G a10) ZBX ZA7 ZJ5 ZAf
 have ZFn:=ZLy (P:=l.prog) (w:=w) (base:=base)  F11 d11 (PySem.W.mg_of X G a11) ZBX ZA7 ZAf
 have ZEH:=ZM4 (P:=l.prog) (w:=w) (base:=base)  F12 d12 (PySem.W.mg_of X G a12) ZBH
 have ZGn:=ZMI (P:=l.prog) (w:=w) (base:=base)  F13 d13 (PySem.W.mg_of X G a13) ZJ5
 have ZFA:=ZN7 (P:=l.prog) (w:=w) (base:=base)  F14 d14 (PySem.W.mg_of X G a14) ZGn ZBZ ZBH
 have ZDl:=ZI5 (P:=l.prog) (w:=w) (base:=base)  F15 d15 (PySem.W.mg_of X G a15) ZKP ZAf
 have ZGr:=ZNK (P:=l.prog) (w:=w) (base:=base) (ZAH:=ZAH) (ZAB:=ZAB) (ZA5:=ZA5) (ZA3:=ZA3) (ZA8:=ZA8) F16 d16 (PySem.W.mg_of X G a16) ZDl ZAf
 have ZB9:=ZFv (P:=l.prog) (w:=w) (base:=base) (ZAH:=ZAH) (ZAB:=ZAB) (ZA5:=ZA5) (ZA3:=ZA3) (ZA8:=ZA8) F17 d17 (PySem.W.mg_of X G a17) ZCh ZGr ZFA ZEH
 have ZCF:=ZKa (P:=l.prog) (w:=w) (base:=base) (ZAH:=ZAH) (ZAB:=ZAB) (ZA5:=ZA5) (ZA3:=ZA3) (ZA8:=ZA8) F18 d18 (PySem.W.mg_of X G a18) ZB9 ZAf
 have ZDs:=ZIq (P:=l.prog) (w:=w) (base:=base) (ZAH:=ZAH) (ZAB:=ZAB) (ZA5:=ZA5) (ZA3:=ZA3) (ZA8:=ZA8) F19 d19 (PySem.W.mg_of X G a19) ZDL ZFn ZCh ZCF ZA7 ZAf ZDf
 have ZD0:=ZJ9 (P:=l.prog) (w:=w) (base:=base)  F20 d20 (PySem.W.mg_of X G a20) ZA7 ZAf ZBk
 have ZKW:=ZQD (P:=l.prog) (w:=w) (base:=base)  F21 d21 (PySem.W.mg_of X G a21) ZAf
 have ZFd:=ZLD (P:=l.prog) (w:=w) (base:=base)  F22 d22 (PySem.W.mg_of X G a22) ZKP ZBk ZSu ZBZ
 have ZID:=ZOV (P:=l.prog) (w:=w) (base:=base)  F23 d23 (PySem.W.mg_of X G a23) ZFd ZKW ZMi ZMk
 have ZBn:=ZKN (P:=l.prog) (w:=w) (base:=base) (ZAW:=ZAW) F24 d24 (PySem.W.mg_of X G a24) ZID ZKS ZGN
 have ZEc:=ZK2 (P:=l.prog) (w:=w) (base:=base)  F25 d25 (PySem.W.mg_of X G a25) ZBn ZAf ZCB
 have ZDh:=ZIb (P:=l.prog) (w:=w) (base:=base)  F26 d26 (PySem.W.mg_of X G a26)
 have ZC4:=ZH3 (P:=l.prog) (w:=w) (base:=base)  F27 d27 (PySem.W.mg_of X G a27)
 have ZQm:=ZSv (P:=l.prog) (w:=w) (base:=base) (ZAW:=ZAW) F28 d28 (PySem.W.mg_of X G a28) ZBn ZC4
 have ZBJ:=ZGi (P:=l.prog) (w:=w) (base:=base)  F29 d29 (PySem.W.mg_of X G a29) ZBH
 have ZBA:=ZN3 (P:=l.prog) (w:=w) (base:=base) (ZAB:=ZAB) F30 d30 (PySem.W.mg_of X G a30) ZQ7 ZQb
 have ZDk:=ZHy (P:=l.prog) (w:=w) (base:=base)  F31 d31 (PySem.W.mg_of X G a31) ZBJ ZBA
 have ZP3:=ZSw (P:=l.prog) (w:=w) (base:=base) (ZAW:=ZAW) F32 d32 (PySem.W.mg_of X G a32) ZDk ZQm
 have ZHu:=ZOK (P:=l.prog) (w:=w) (base:=base)  F33 d33 (PySem.W.mg_of X G a33) ZKP ZAf ZIp ZDn
 have ZFk:=ZLj (P:=l.prog) (w:=w) (base:=base) (ZAH:=ZAH) (ZAB:=ZAB) (ZA5:=ZA5) (ZA3:=ZA3) (ZA8:=ZA8) F34 d34 (PySem.W.mg_of X G a34) ZHu ZAf ZEJ ZPN ZLx ZKZ ZKk ZBz ZBx ZMu ZMH
 have ZF1:=ZKd (P:=l.prog) (w:=w) (base:=base) (ZAH:=ZAH) (ZAB:=ZAB) (ZA5:=ZA5) (ZA3:=ZA3) (ZA8:=ZA8) F35 d35 (PySem.W.mg_of X G a35) ZBA ZAf ZBz ZBx
 have ZEo:=ZKi (P:=l.prog) (w:=w) (base:=base) (ZAH:=ZAH) (ZAB:=ZAB) (ZA5:=ZA5) (ZA3:=ZA3) (ZA8:=ZA8) F36 d36 (PySem.W.mg_of X G a36) ZAf ZBz ZBx
 have ZEj:=ZK5 (P:=l.prog) (w:=w) (base:=base) (ZAH:=ZAH) (ZAB:=ZAB) (ZA5:=ZA5) (ZA3:=ZA3) (ZA8:=ZA8) F37 d37 (PySem.W.mg_of X G a37) ZF1 ZFk ZEo ZBA
 have ZEl:=ZKA (P:=l.prog) (w:=w) (base:=base)  F38 d38 (PySem.W.mg_of X G a38) ZBk ZD3
 have ZFB:=ZMq (P:=l.prog) (w:=w) (base:=base)  F39 d39 (PySem.W.mg_of X G a39) ZBk
 have ZD2:=ZJ0 (P:=l.prog) (w:=w) (base:=base)  F40 d40 (PySem.W.mg_of X G a40)
 have ZPT:=ZUJ (P:=l.prog) (w:=w) (base:=base) (ZAH:=ZAH) (ZAB:=ZAB) (ZA5:=ZA5) (ZA3:=ZA3) (ZA8:=ZA8) F41 d41 (PySem.W.mg_of X G a41) ZEj ZEl ZFB ZD2
 have ZC3:=ZGv (P:=l.prog) (w:=w) (base:=base)  F42 d42 (PySem.W.mg_of X G a42)
 have ZBt:=ZGO (P:=l.prog) (w:=w) (base:=base)  F43 d43 (PySem.W.mg_of X G a43)
 have ZIP:=ZOb (P:=l.prog) (w:=w) (base:=base)  F44 d44 (PySem.W.mg_of X G a44) ZC3 ZBt ZBA
 have ZNI:=ZRs (P:=l.prog) (w:=w) (base:=base)  F45 d45 (PySem.W.mg_of X G a45)
 have ZDG:=ZHT (P:=l.prog) (w:=w) (base:=base)  F46 d46 (PySem.W.mg_of X G a46) ZBJ ZNI ZBZ ZBH
 have ZGh:=ZMs (P:=l.prog) (w:=w) (base:=base)  F47 d47 (PySem.W.mg_of X G a47) ZDG ZIP
 have ZG6:=ZOa (P:=l.prog) (w:=w) (base:=base) (ZAH:=ZAH) (ZAB:=ZAB) (ZAW:=ZAW) (ZA5:=ZA5) (ZA3:=ZA3) (ZA8:=ZA8) F48 d48 (PySem.W.mg_of X G a48) ZPT ZGh ZP3 ZJL ZJO
 have ZCk:=ZIF (P:=l.prog) (w:=w) (base:=base) (ZAH:=ZAH) (ZAB:=ZAB) (ZAW:=ZAW) (ZA5:=ZA5) (ZA3:=ZA3) (ZAp:=ZAp) (ZA8:=ZA8) F49 d49 (PySem.W.mg_of X G a49) ZEc ZDh ZG6 ZAf ZDm ZJL ZJO ZCC xo
 exact ZUQ (P:=l.prog) (w:=w) (base:=base) (ZAH:=ZAH) (ZAB:=ZAB) (ZAW:=ZAW) (ZA5:=ZA5) (ZA3:=ZA3) (ZAp:=ZAp) (ZA8:=ZA8) F50 d50 (PySem.W.mg_of X G a50) ZB9 ZDs ZFS ZCF ZH0 ZGz ZD0 ZA7 ZCk ZPQ ZJ5 ZEX ZAf ZBk ZDf ZBH xo
theorem walk {l:PySem.W.OpenLaw}{q:Program}{loose:List Str}{XP:(Str->Option Value)->Heap->Prop}{YP:World->Heap->Prop}{d:DefRec}{K:Params->PySem.W.Frag}(hn:l.most=some 63) (hdf:d.params.defaults=[])
  (hY:∀ (w:World) (h:Heap),YP w h->(K w.params).In h)
  (F:∀ (w:World) (mg:Str->Option Value) (fa:Addr) (h:Heap),(K w.params).In h->h.Ns mainGlobals mg->mg d.name=some (.ref fa)->
   ∃ fd:FuncData,(∀ (s:Shared) (u:Value),BindsTo s fd ⟨[u],[]⟩ [("script", u)])/\∀ base:Heap,(K w.params).In base->base.Ns mainGlobals mg->ZJ2 l.prog w (K w.params) mg base CX0 9 fa fd ["script"] (ZOq (K w.params))) :
  PySem.W.WalkO q loose XP YP l.row.toRowW d [] (fun f vs=>PySem.call f vs):=
 L2.ZU6 (n:=63) (k:=9) (x := "script") (CX:=fun _=>CX0) (sp:=fun w=>ZOq (K w.params)) hn (by decide) hdf ⟨rfl,by decide,by decide⟩ hY F (fun _ _ a ns hl _ hS=>⟨a,ns,rfl,hS,hl,fun _=>rfl⟩) fun _ _ _ _ _ z=>z
end Pf
open PySem PySem.W PyProof.Rows
set_option maxRecDepth 100000 in
set_option maxHeartbeats 0 in
theorem PySem.Challenge.cw_stirround_k51_trials_judged_holds : PySem.Challenge.rw_stirround_k51_trials_judged.Holds := by
 w_on;o_law;k_head;(case hw=>w_witness2)
 k_fill
 refine Pf.walk (l:=PySem.Challenge.rw_stirround_k51_trials_judged) rfl rfl (fun w h Y=>PySem.W.kIn_of Y) ?F
 case F=>
  intro w mg fa h KX G hmg
  refine' Pf.all_mk KX G hmg ?a1 ?l1 ?c1 ?k1 ?a2 ?l2 ?c2 ?k2 ?a3 ?l3 ?c3 ?k3 ?a4 ?l4 ?c4 ?k4 ?a5 ?l5 ?c5 ?k5 ?a6 ?l6 ?c6 ?k6 ?a7 ?l7 ?c7 ?k7 ?a8 ?l8 ?c8 ?k8 ?a9 ?l9 ?c9 ?k9 ?a10 ?l10 ?c10 ?k10 ?a11 ?l11 ?c11 ?k11 ?a12 ?l12 ?c12 ?k12 ?a13 ?l13 ?c13 ?k13 ?a14 ?l14 ?c14 ?k14 ?a15 ?l15 ?c15 ?k15 ?a16 ?l16 ?c16 ?k16 ?a17 ?l17 ?c17 ?k17 ?a18 ?l18 ?c18 ?k18 ?a19 ?l19 ?c19 ?k19 ?a20 ?l20 ?c20 ?k20 ?a21 ?l21 ?c21 ?k21 ?a22 ?l22 ?c22 ?k22 ?a23 ?l23 ?c23 ?k23 ?a24 ?l24 ?c24 ?k24 ?a25 ?l25 ?c25 ?k25 ?a26 ?l26 ?c26 ?k26 ?a27 ?l27 ?c27 ?k27 ?a28 ?l28 ?c28 ?k28 ?a29 ?l29 ?c29 ?k29 ?a30 ?l30 ?c30 ?k30 ?a31 ?l31 ?c31 ?k31 ?a32 ?l32 ?c32 ?k32 ?a33 ?l33 ?c33 ?k33 ?a34 ?l34 ?c34 ?k34 ?a35 ?l35 ?c35 ?k35 ?a36 ?l36 ?c36 ?k36 ?a37 ?l37 ?c37 ?k37 ?a38 ?l38 ?c38 ?k38 ?a39 ?l39 ?c39 ?k39 ?a40 ?l40 ?c40 ?k40 ?a41 ?l41 ?c41 ?k41 ?a42 ?l42 ?c42 ?k42 ?a43 ?l43 ?c43 ?k43 ?a44 ?l44 ?c44 ?k44 ?a45 ?l45 ?c45 ?k45 ?a46 ?l46 ?c46 ?k46 ?a47 ?l47 ?c47 ?k47 ?a48 ?l48 ?c48 ?k48 ?a49 ?l49 ?c49 ?k49 ?a50 ?l50 ?c50 ?k50 ?ZTn ?ZOx ?ZTp ?ZF3 ?ZTF ?ZPO ?ZMA ?ZGj ?ZSi ?ZKl ?ZMe ?ZHt ?ZDj ?ZDp ?ZEC ?ZCA ?ZNC ?ZMN ?ZQ8 ?ZQW ?e0_Full ?e0_Gone ?e0_NoLoop ?e0_NoName ?e0_NoPlace ?e0_StirError ?e0_There ?k0_s1 ?k0_s2 ?k0_s3 ?ZLx ?k1_Gone ?k2_Gone ?k3_Gone ?k4_Gone ?k5_Gone ?k6_Gone ?k7_Gone ?k8_Gone ?k9_Gone ?kA_Gone ?kB_Gone ?ZGN ?k1_NoName ?k2_NoName ?k3_NoName ?k4_NoName ?k5_NoName ?k6_NoName ?k7_NoName ?k8_NoName ?k9_NoName ?kA_NoName ?kB_NoName ?k1_NoPlace ?k2_NoPlace ?k3_NoPlace ?k4_NoPlace ?k5_NoPlace ?k6_NoPlace ?k7_NoPlace ?k8_NoPlace ?k9_NoPlace ?kA_NoPlace ?kB_NoPlace ?k1_There ?k2_There ?k3_There ?k4_There ?k5_There ?k6_There ?k7_There ?k8_There ?k9_There ?kA_There ?kB_There ?xo
  (case a1=>k_is);(case l1=>k_is);(case c1=>k_is);(case k1=>k_is)
  (case a2=>k_is);(case l2=>k_is);(case c2=>k_is);(case k2=>k_is)
  (case a3=>k_is);(case l3=>k_is);(case c3=>k_is);(case k3=>k_is)
  (case a4=>k_is);(case l4=>k_is);(case c4=>k_is);(case k4=>k_is)
  (case a5=>k_is);(case l5=>k_is);(case c5=>k_is);(case k5=>k_is)
  (case a6=>k_is);(case l6=>k_is);(case c6=>k_is);(case k6=>k_is)
  (case a7=>k_is);(case l7=>k_is);(case c7=>k_is);(case k7=>k_is)
  (case a8=>k_is);(case l8=>k_is);(case c8=>k_is);(case k8=>k_is)
  (case a9=>k_is);(case l9=>k_is);(case c9=>k_is);(case k9=>k_is)
  (case a10=>k_is);(case l10=>k_is);(case c10=>k_is);(case k10=>k_is)
  (case a11=>k_is);(case l11=>k_is);(case c11=>k_is);(case k11=>k_is)
  (case a12=>k_is);(case l12=>k_is);(case c12=>k_is);(case k12=>k_is)
  (case a13=>k_is);(case l13=>k_is);(case c13=>k_is);(case k13=>k_is)
  (case a14=>k_is);(case l14=>k_is);(case c14=>k_is);(case k14=>k_is)
  (case a15=>k_is);(case l15=>k_is);(case c15=>k_is);(case k15=>k_is)
  (case a16=>k_is);(case l16=>k_is);(case c16=>k_is);(case k16=>k_is)
  (case a17=>k_is);(case l17=>k_is);(case c17=>k_is);(case k17=>k_is)
  (case a18=>k_is);(case l18=>k_is);(case c18=>k_is);(case k18=>k_is)
  (case a19=>k_is);(case l19=>k_is);(case c19=>k_is);(case k19=>k_is)
  (case a20=>k_is);(case l20=>k_is);(case c20=>k_is);(case k20=>k_is)
  (case a21=>k_is);(case l21=>k_is);(case c21=>k_is);(case k21=>k_is)
  (case a22=>k_is);(case l22=>k_is);(case c22=>k_is);(case k22=>k_is)
  (case a23=>k_is);(case l23=>k_is);(case c23=>k_is);(case k23=>k_is)
  (case a24=>k_is);(case l24=>k_is);(case c24=>k_is);(case k24=>k_is)
  (case a25=>k_is);(case l25=>k_is);(case c25=>k_is);(case k25=>k_is)
  (case a26=>k_is);(case l26=>k_is);(case c26=>k_is);(case k26=>k_is)
  (case a27=>k_is);(case l27=>k_is);(case c27=>k_is);(case k27=>k_is)
  (case a28=>k_is);(case l28=>k_is);(case c28=>k_is);(case k28=>k_is)
  (case a29=>k_is);(case l29=>k_is);(case c29=>k_is);(case k29=>k_is)
  (case a30=>k_is);(case l30=>k_is);(case c30=>k_is);(case k30=>k_is)
  (case a31=>k_is);(case l31=>k_is);(case c31=>k_is);(case k31=>k_is)
  (case a32=>k_is);(case l32=>k_is);(case c32=>k_is);(case k32=>k_is)
  (case a33=>k_is);(case l33=>k_is);(case c33=>k_is);(case k33=>k_is)
  (case a34=>k_is);(case l34=>k_is);(case c34=>k_is);(case k34=>k_is)
  (case a35=>k_is);(case l35=>k_is);(case c35=>k_is);(case k35=>k_is)
  (case a36=>k_is);(case l36=>k_is);(case c36=>k_is);(case k36=>k_is)
  (case a37=>k_is);(case l37=>k_is);(case c37=>k_is);(case k37=>k_is)
  (case a38=>k_is);(case l38=>k_is);(case c38=>k_is);(case k38=>k_is)
  (case a39=>k_is);(case l39=>k_is);(case c39=>k_is);(case k39=>k_is)
  (case a40=>k_is);(case l40=>k_is);(case c40=>k_is);(case k40=>k_is)
  (case a41=>k_is);(case l41=>k_is);(case c41=>k_is);(case k41=>k_is)
  (case a42=>k_is);(case l42=>k_is);(case c42=>k_is);(case k42=>k_is)
  (case a43=>k_is);(case l43=>k_is);(case c43=>k_is);(case k43=>k_is)
  (case a44=>k_is);(case l44=>k_is);(case c44=>k_is);(case k44=>k_is)
  (case a45=>k_is);(case l45=>k_is);(case c45=>k_is);(case k45=>k_is)
  (case a46=>k_is);(case l46=>k_is);(case c46=>k_is);(case k46=>k_is)
  (case a47=>k_is);(case l47=>k_is);(case c47=>k_is);(case k47=>k_is)
  (case a48=>k_is);(case l48=>k_is);(case c48=>k_is);(case k48=>k_is)
  (case a49=>k_is);(case l49=>k_is);(case c49=>k_is);(case k49=>k_is)
  (case a50=>k_is);(case l50=>k_is);(case c50=>k_is);(case k50=>k_is)
  (case ZTn=>k_is);(case ZOx=>k_is);(case ZTp=>k_is);(case ZF3=>k_is)
  (case ZTF=>k_is);(case ZPO=>k_is);(case ZMA=>k_is);(case ZGj=>k_is)
  (case ZSi=>k_is);(case ZKl=>k_is);(case ZMe=>k_is);(case ZHt=>k_is)
  (case ZDj=>k_is);(case ZDp=>k_is);(case ZEC=>k_is);(case ZCA=>k_is)
  (case ZNC=>k_is);(case ZMN=>k_is);(case ZQ8=>k_is);(case ZQW=>k_is)
  (case e0_Full=>k_is);(case e0_Gone=>k_is);(case e0_NoLoop=>k_is);(case e0_NoName=>k_is)
  (case e0_NoPlace=>k_is);(case e0_StirError=>k_is);(case e0_There=>k_is);(case k0_s1=>k_is)
  (case k0_s2=>k_is);(case k0_s3=>k_is);(case ZLx=>kernel_rfl);(case k1_Gone=>k_is)
  (case k2_Gone=>k_is);(case k3_Gone=>k_is);(case k4_Gone=>k_is);(case k5_Gone=>kernel_rfl)
  (case k6_Gone=>k_is);(case k7_Gone=>kernel_rfl);(case k8_Gone=>k_is);(case k9_Gone=>k_is)
  (case kA_Gone=>k_is);(case kB_Gone=>k_is);(case ZGN=>kernel_rfl);(case k1_NoName=>k_is)
  (case k2_NoName=>k_is);(case k3_NoName=>k_is);(case k4_NoName=>k_is);(case k5_NoName=>kernel_rfl)
  (case k6_NoName=>k_is);(case k7_NoName=>kernel_rfl);(case k8_NoName=>k_is);(case k9_NoName=>k_is)
  (case kA_NoName=>k_is);(case kB_NoName=>k_is);(case k1_NoPlace=>k_is);(case k2_NoPlace=>k_is)
  (case k3_NoPlace=>k_is);(case k4_NoPlace=>k_is);(case k5_NoPlace=>kernel_rfl);(case k6_NoPlace=>k_is)
  (case k7_NoPlace=>kernel_rfl);(case k8_NoPlace=>k_is);(case k9_NoPlace=>k_is);(case kA_NoPlace=>k_is)
  (case kB_NoPlace=>k_is);(case k1_There=>k_is);(case k2_There=>k_is);(case k3_There=>k_is)
  (case k4_There=>k_is);(case k5_There=>kernel_rfl);(case k6_There=>k_is);(case k7_There=>kernel_rfl)
  (case k8_There=>k_is);(case k9_There=>k_is);(case kA_There=>k_is);(case kB_There=>k_is)
  (case xo=>kernel_rfl)
#print axioms PySem.Challenge.cw_stirround_k51_trials_judged_holds
