import PyProof.Rows.All
import Wide.All
import OpenK.AllK
import Wide.FinOn
import Lean
import PyProof.EqAt
import PyProof.EqKinds
import PyProof.TupleCall
import KE.KRevIter
import PyProof.CallType
import PyProof.EnumMake
import PyProof.EnumFor
import PyProof.Rows.SortStr
import PyProof.Rows.TupAdd
import KE.KLcPair
import PyProof.Draws
import PyProof.TupleIter
import PyProof.IsRules
import PyProof.ListRange
import PyProof.NeKinds
import KE.KTryMore
import OpenK.KOwn
import PyProof.ExcInit
import PyProof.FString
import PyProof.ReprStr
import PyProof.StrLawsRepr
import PyProof.CallStr
import OpenK.KCls
import PyProof.ExcArgsOwn
import PyProof.Rows.StrJoin2
import PyProof.ZipIter
import PyProof.Rows.ZipGen
import PyProof.FactsAll.set_2
import PyProof.MeetsSeq2
import PyProof.Rows.Range3
import PyProof.Rows.ChunkLeaf
import PyProof.DictWalks
import PyProof.ListMulRoad
import PySem.Challenge.RW_stirround_k72_errands_refused
def PySem.W.Fast.tw9773775011947319222:Nat:=0
def PySem.W.Fast.tw948056132821530052:Nat:=0
def PySem.W.Fast.tw1316037874514949987:Nat:=0
def PySem.W.Fast.tw16200984572555061817:Nat:=0
def PySem.W.Fast.tw5830375811359204653:Nat:=0
def PySem.W.Fast.tw8400659323025667177:Nat:=0
def PySem.W.Fast.tw9374492794804670100:Nat:=0
def PySem.W.Fast.tw3778572576640926417:Nat:=0
def PySem.W.Fast.tw1588836948627423073:Nat:=0
def PySem.W.Fast.tw18203215963429057240:Nat:=0
def PySem.W.Fast.tw3195710678976432417:Nat:=0
def PySem.W.Fast.tw17847766787585903785:Nat:=0
def PySem.W.Fast.tw9463260506569286604:Nat:=0
def PySem.W.Fast.tw6584058289661090907:Nat:=0
def PySem.W.Fast.tw16958335553153503941:Nat:=0
def PySem.W.Fast.tw17690583465284233407:Nat:=0
def PySem.W.Fast.tw11955692271837131973:Nat:=0
def PySem.W.Fast.tw13349576518112608531:Nat:=0
def PySem.W.Fast.tw18244323470973391227:Nat:=0
def PySem.W.Fast.tw13558827586628528197:Nat:=0
def PySem.W.Fast.tw1993782937844598587:Nat:=0
def PySem.W.Fast.tw14269389059198435722:Nat:=0
def PySem.W.Fast.tw8040088419476215403:Nat:=0
def PySem.W.Fast.tw2242841570698669850:Nat:=0
set_option Elab.async false
set_option linter.all false
set_option maxRecDepth 100000
namespace L2
open PySem PySem.Spec PyProof.Rows
abbrev Key:=Sum Int Str
def ZFK:Key→Value→Bool
  | .inl k,v=>Value.isInt k v
  | .inr x,v=>Value.isStrOf x v
def keyH (w:World):Key→Int
  | .inl k=>hashInt k
  | .inr x=>hashStr w x
theorem ZAj:∀ {k:Key} {v:Value},ZFK k v=true→(∃ i t,k=Sum.inl i∧v=Value.int i t)∨(∃ x t,k=Sum.inr x∧v=Value.str x t)
  | .inl i,v,h=>by
    obtain ⟨t,e⟩:=Value.isInt_shape (k:=i) (v:=v) h
    exact .inl ⟨i,t,rfl,e⟩
  | .inr x,v,h=>by
    obtain ⟨t,e⟩:=Value.isStrOf_shape (x:=x) (v:=v) h
    exact .inr ⟨x,t,rfl,e⟩
theorem ZIs (i:Int) (t:Tok):ZFK (.inl i) (.int i t)=true:=by simp [ZFK,Value.isInt]
theorem ZJ1 (x:Str) (t:Tok):ZFK (.inr x) (.str x t)=true:=by simp [ZFK,Value.isStrOf]
theorem key_ll (a b:Int):decide ((Sum.inl a:Key)=Sum.inl b)=(a == b):=by
  by_cases e:a=b
  · subst e;simp
  · have h:¬ (Sum.inl a:Key)=Sum.inl b:=fun q=>e (Sum.inl.inj q)
    rw [decide_eq_false h]
    exact (beq_eq_false_iff_ne.mpr e).symm
theorem key_rr (a b:Str):decide ((Sum.inr a:Key)=Sum.inr b)=decide (a=b):=by
  by_cases e:a=b
  · subst e;simp
  · have h:¬ (Sum.inr a:Key)=Sum.inr b:=fun q=>e (Sum.inr.inj q)
    rw [decide_eq_false h,decide_eq_false e]
theorem key_lr (a:Int) (b:Str):decide ((Sum.inl a:Key)=Sum.inr b)=false:=decide_eq_false (fun q=>nomatch q)
theorem key_rl (a:Str) (b:Int):decide ((Sum.inr a:Key)=Sum.inl b)=false:=decide_eq_false (fun q=>nomatch q)
def ZB2 (prog:Program) (w:World):PySem.KeyKind prog w Key where
  is:=ZFK
  hash:=keyH w
  inj:=fun v a b ha hb=>by
    rcases ZAj ha with ⟨i,t,rfl,rfl⟩ | ⟨x,t,rfl,rfl⟩
    · rcases ZAj hb with ⟨j,u,rfl,e⟩ | ⟨y,u,rfl,e⟩
      · injection e with e1 _;rw [e1]
      · exact nomatch e
    · rcases ZAj hb with ⟨j,u,rfl,e⟩ | ⟨y,u,rfl,e⟩
      · exact nomatch e
      · injection e with e1 _;rw [e1]
  byValue:=fun k v h=>by
    rcases ZAj h with ⟨i,t,rfl,rfl⟩ | ⟨x,t,rfl,rfl⟩ <;> rfl
  pyHash:=fun hv h=>by
    rcases ZAj hv with ⟨i,t,rfl,rfl⟩ | ⟨x,t,rfl,rfl⟩
    · exact wpAny_pyHash_int h
    · exact wpAny_pyHash_str h
  eqBool:=fun hu hv h=>by
    rcases ZAj hu with ⟨i,t,rfl,rfl⟩ | ⟨x,t,rfl,rfl⟩
    · rcases ZAj hv with ⟨j,u,rfl,rfl⟩ | ⟨y,u,rfl,rfl⟩
      · rw [key_ll] at h;exact wpAny_eqBool_int h
      · rw [key_lr] at h;exact SeqAt.EqAt.int_str i t y u _ _ _ _ h
    · rcases ZAj hv with ⟨j,u,rfl,rfl⟩ | ⟨y,u,rfl,rfl⟩
      · rw [key_rl] at h;exact SeqAt.EqAt.str_int x t j u _ _ _ _ h
      · rw [key_rr] at h;exact wpAny_eqBool_str h
  «strs»:=fun k x t v h=>by
    rcases ZAj h with ⟨i,u,rfl,e⟩ | ⟨y,u,rfl,e⟩
    · exact nomatch e
    · injection e with e1 _
      subst e1
      cases v <;> rfl
theorem ZGw (prog:Program) (w:World) (i:Int) (t:Tok):(ZB2 prog w).is (.inl i) (.int i t)=true:=ZIs i t
theorem ZGf (prog:Program) (w:World) (x:Str) (t:Tok):(ZB2 prog w).is (.inr x) (.str x t)=true:=ZJ1 x t
end L2
namespace L2
open PySem PySem.Spec PyProof.Rows
inductive V where
  | non | bl (b:Bool) | int (i:Int) | str (x:Str) | byt (b:Array UInt8) | flt (b:UInt64) | ref (a:Addr) | ty (n:String)
  deriving DecidableEq
def RelV:V→Value→Prop
  | .non,u=>u=Value.none
  | .bl b,u=>u=Value.bool b
  | .int i,u=>∃ t,u=Value.int i t
  | .str x,u=>∃ t,u=Value.str x t
  | .byt b,u=>∃ t,u=Value.bytes b t
  | .flt b,u=>∃ t,u=Value.float b t
  | .ref a,u=>u=Value.ref a
  | .ty n,u=>u=Value.type n
abbrev Vals:List V→List Value→Prop:=Paired RelV
theorem Vals.length {xs:List V} {us:List Value} (r:Vals xs us):xs.length=us.length:=Paired.length r
theorem Vals.get:∀ {xs:List V} {us:List Value} {i:Nat} {x:V},Vals xs us→xs[i]?=some x→∃ u,us[i]?=some u∧RelV x u
  | _,_,_,_,.nil,e=>by simp at e
  | _,_,0,_,.cons r _,e=>by simp at e;subst e;exact ⟨_,rfl,r⟩
  | _,_,i+1,x,.cons _ t,e=>by
    obtain ⟨u,h1,h2⟩:=Vals.get (i:=i) (x:=x) t (by simpa using e)
    exact ⟨u,by simpa using h1,h2⟩
theorem Vals.set {x:V} {u:Value} (r:RelV x u):∀ {xs:List V} {us:List Value} (i:Nat),Vals xs us→Vals (xs.set i x) (us.set i u)
  | _,_,_,.nil=>.nil
  | _,_,0,.cons _ t=>.cons r t
  | _,_,i+1,.cons q t=>.cons q (Vals.set r i t)
theorem Vals.append:∀ {xs ys:List V} {us ws:List Value},Vals xs us→Vals ys ws→Vals (xs++ys) (us++ws)
  | _,_,_,_,.nil,s=>s
  | _,_,_,_,.cons r t,s=>.cons r (Vals.append t s)
theorem Vals.take:∀ {xs:List V} {us:List Value} (n:Nat),Vals xs us→Vals (xs.take n) (us.take n)
  | _,_,0,_=>.nil
  | _,_,_+1,.nil=>.nil
  | _,_,n+1,.cons r t=>.cons r (Vals.take n t)
theorem Vals.drop:∀ {xs:List V} {us:List Value} (n:Nat),Vals xs us→Vals (xs.drop n) (us.drop n)
  | _,_,0,r=>r
  | _,_,_+1,.nil=>.nil
  | _,_,n+1,.cons _ t=>Vals.drop n t
def RelO:Option V→Option Value→Prop
  | some v,some u=>RelV v u
  | none,none=>True
  | _,_=>False
def KV {κ:Type}:List (κ×V)→List (κ×Value)→Prop:=Paired fun (p:κ×V) (q:κ×Value)=>p.1=q.1∧RelV p.2 q.2
def kV:Key→V
  | .inl i=>.int i
  | .inr x=>.str x
inductive HO where
  /-- a list -/
  | lst (xs:List V)
  /-- a tuple (never changes) -/
  | tup (xs:List V)
  /-- a dict whose keys are ints and texts;one whose keys are tuples of ints and texts (the empty one is both) -/
  | dK (kvs:List (Key×V)) | dT (kvs:List (List Key×V))
  /-- a set of ints: its members,its size -/
  | set (S:Int→Bool) (n:Nat)
  /-- an instance of the class at C,its dict at dx,its attributes -/
  | ins (C dx:Addr) (fs:List (Str×V))
  /-- the dict of the instance at x -/
  | own (x:Addr)
  /-- the dict of an exception -/
  | xd (fs:List (Str×V))
  /-- a bound method,f of x -/
  | met (f x:Addr)
  /-- a range object lo,lo+1,.. below hi -/
  | rng (lo hi:Int)
  /-- a thing that is known to the object (the script;a dict while a loop walks it): read,never written while it is so -/
  | frz (o:Obj) (u:HO)
  /-- a code object's table -/
  | tbl (ps:Array Value)
  /-- any other thing,by what is true of its one object (a def of one's own: SetO a S n:=HO.ext fun h=>..) -/
  | ext (φ:Heap→Prop)
abbrev Hp:=Addr→Option HO
def upd (H:Hp) (a:Addr) (o:HO):Hp:=fun b=>if b=a then some o else H b
theorem ZA3 {H:Hp} {a:Addr} {o:HO}:upd H a o a=some o:=by unfold upd;rw [if_pos rfl]
theorem ZA5 {H:Hp} {a b:Addr} {o:HO} (h:b≠a):upd H a o b=H b:=by unfold upd;rw [if_neg h]
theorem ne_of {H:Hp} {a b:Addr} {o u:HO} (h:H a=some o) (h':H b=some u) (d:o≠u):a≠b:=by
  intro e;subst e;rw [h] at h';exact d (Option.some.inj h')
theorem ZAF {H:Hp} {a b:Addr} {o:HO} (h:H a=some o) (h':H b=none):a≠b:=by
  intro e;subst e;rw [h] at h';cases h'
section
variable (P:Program) (w:World)
def ObjOk (H:Hp) (h:Heap) (a:Addr):HO→Prop
  | .lst xs=>xs.length≤sizeLine∧∃ (its:List Value) (n:Nat),Vals xs its∧h.get? a=some { cls:=.type "list", data:=.seq its.toArray n }
  | .tup xs=>xs.length≤sizeLine∧∃ its:List Value,Vals xs its∧(IsTup h a its.toArray∧∀ ob,h.get? a=some ob→ob.dict=none)
  | .dK kvs=>kvs.length≤sizeLine∧(a == sysModules)=false∧∃ vs,KV kvs vs∧h.DictOf (ZB2 P w) a vs
  | .dT kvs=>kvs.length≤sizeLine∧(a == sysModules)=false∧∃ xs:List (List Key×Addr×Value),
      Paired (fun (p:List Key×V) (q:List Key×Addr×Value)=>p.1=q.1∧H q.2.1=some (.tup (p.1.map kV))∧RelV p.2 q.2.2) kvs xs∧
      ∃ o es ep,h.get? a=some o∧o.ExactDict∧o.data=.dict es ep∧es.toList=xs.map (entryOfKey (tupleKind (ZB2 P w)))∧(xs.map (·.1)).Nodup
  | .set S n=>h.SetOf (intKind P w) a S n
  | .ins C dx fs=>H dx=some (.own a)∧fs.length≤1000∧dx≠a∧h.get? a=some (PySem.W.instObj C dx)∧
      ∃ mA,h.Ns1 dx mA∧(∀ f,RelO (fs.lookup f) (mA f))∧PySem.Within mA (fs.map (·.1))
  | .own _=>∃ o,h.get? a=some o
  | .xd fs=>∃ mA,h.Ns1 a mA∧∀ f,RelO (fs.lookup f) (mA f)
  | .rng lo hi=>∃ t u v,h.get? a=some { cls:=.type "range", data:=.fields #[.int lo t,.int hi u,.int 1 v] }
  | .frz o u=>h.get? a=some o∧ObjOk H h a u
  | .tbl ps=>h.get? a=some { cls:=.none,data:=.fields ps }
  | .met f x=>h.get? a=some (PySem.W.methodObj (.ref f) (.ref x))
  | .ext φ=>φ h∧(∃ o,h.get? a=some o)∧∀ h1 h2:Heap,φ h1→(∀ o,h1.get? a=some o→h2.get? a=some o)→φ h2
def HOk (H:Hp) (h:Heap):Prop:=∀ a o,H a=some o→ObjOk P w H h a o
end
section
variable {P:Program} {w:World} {H H':Hp} {h h':Heap} {a:Addr} {o:HO}
theorem ObjOk.lt (x:ObjOk P w H h a o):a < h.objs.size:=by
  cases o with
  | lst xs=>obtain ⟨_,_,_,_,e⟩:=x;exact Heap.lt_size e
  | tup xs=>obtain ⟨_,_,_,p⟩:=x;exact p.1.lt
  | dK kvs=>obtain ⟨_,_,_,_,o,_,_,e,_⟩:=x;exact Heap.lt_size e
  | dT kvs=>obtain ⟨_,_,_,_,o,_,_,e,_⟩:=x;exact Heap.lt_size e
  | set S n=>obtain ⟨o,_,_,_,e,_⟩:=x;exact Heap.lt_size e
  | ins C dx fs=>obtain ⟨_,_,_,e,_⟩:=x;exact Heap.lt_size e
  | own y=>obtain ⟨_,e⟩:=x;exact Heap.lt_size e
  | xd fs=>obtain ⟨_,⟨_,_,_,e,_⟩,_⟩:=x;exact Heap.lt_size e
  | rng lo hi=>obtain ⟨_,_,_,e⟩:=x;exact Heap.lt_size e
  | frz ob u=>obtain ⟨e,_⟩:=x;exact Heap.lt_size e
  | tbl ps=>exact Heap.lt_size (show h.get? a=some _ from x)
  | met f y=>exact Heap.lt_size (show h.get? a=some _ from x)
  | ext φ=>obtain ⟨_,⟨_,e⟩,_⟩:=x;exact Heap.lt_size e
theorem Paired.mapP {α β:Type} {F G:α→β→Prop}:∀ {l₁:List α} {l₂:List β},Paired F l₁ l₂→(∀ a b,F a b→G a b)→Paired G l₁ l₂
  | _,_,.nil,_=>.nil
  | _,_,.cons r t,f=>.cons (f _ _ r) (Paired.mapP t f)
theorem ObjOk.stay (x:ObjOk P w H h a o) (k:∀ b u,(b=a∨H b=some (.own a))→h.get? b=some u→h'.get? b=some u)
    (ho:∀ b,H b=some (.own a)→H' b=some (.own a)) (ht:∀ b xs,H b=some (.tup xs)→H' b=some (.tup xs)):ObjOk P w H' h' a o:=by
  induction o with
  | lst xs=>obtain ⟨z,its,n,r,e⟩:=x;exact ⟨z,its,n,r,k _ _ (.inl rfl) e⟩
  | tup xs=>obtain ⟨z,its,r,⟨ob,e,c⟩,dn⟩:=x;exact ⟨z,its,r,⟨ob,k _ _ (.inl rfl) e,c⟩,fun ob' e'=>by rw [k _ _ (.inl rfl) e] at e';cases e';exact dn _ e⟩
  | dK kvs=>obtain ⟨z,y,vs,r,ob,es,ep,e,c⟩:=x;exact ⟨z,y,vs,r,ob,es,ep,k _ _ (.inl rfl) e,c⟩
  | dT kvs=>
    obtain ⟨z,y,xs,r,ob,es,ep,e,c⟩:=x
    exact ⟨z,y,xs,Paired.mapP r fun p q z=>⟨z.1,ht _ _ z.2.1,z.2.2⟩,ob,es,ep,k _ _ (.inl rfl) e,c⟩
  | set S n=>obtain ⟨ob,es,ep,t,e,c⟩:=x;exact ⟨ob,es,ep,t,k _ _ (.inl rfl) e,c⟩
  | ins C dx fs=>
    obtain ⟨d,z,ne,e,mA,⟨od,es,ep,e2,c⟩,r⟩:=x
    exact ⟨ho _ d,z,ne,k _ _ (.inl rfl) e,mA,⟨od,es,ep,k _ _ (.inr d) e2,c⟩,r⟩
  | own y=>obtain ⟨ob,e⟩:=x;exact ⟨ob,k _ _ (.inl rfl) e⟩
  | xd fs=>obtain ⟨mA,⟨od,es,ep,e,c⟩,r⟩:=x;exact ⟨mA,⟨od,es,ep,k _ _ (.inl rfl) e,c⟩,r⟩
  | rng lo hi=>obtain ⟨t,u,v,e⟩:=x;exact ⟨t,u,v,k _ _ (.inl rfl) e⟩
  | frz ob u ih=>obtain ⟨e,q⟩:=x;exact ⟨k _ _ (.inl rfl) e,ih q⟩
  | tbl ps=>
    have e:h.get? a=some { cls:=.none,data:=.fields ps }:=x
    show h'.get? a=some { cls:=.none,data:=.fields ps }
    exact k a _ (.inl rfl) e
  | met f y=>
    have e:h.get? a=some (PySem.W.methodObj (.ref f) (.ref y)):=x
    show h'.get? a=some (PySem.W.methodObj (.ref f) (.ref y))
    exact k a _ (.inl rfl) e
  | ext φ=>obtain ⟨p,⟨o,e⟩,st⟩:=x;exact ⟨st _ _ p fun o q=>k _ _ (.inl rfl) q,⟨o,k _ _ (.inl rfl) e⟩,st⟩
theorem HOk.lt (x:HOk P w H h) (e:H a=some o):a < h.objs.size:=(x a o e).lt
theorem HOk.fresh (x:HOk P w H h) (e:h.objs.size≤a):H a=none:=by
  cases q:H a with
  | none=>rfl
  | some u=>exact absurd (Nat.lt_of_lt_of_le (x.lt q) e) (Nat.lt_irrefl _)
theorem HOk.kept (x:HOk P w H h) (k:∀ b u,h.get? b=some u→h'.get? b=some u):HOk P w H h':=fun a o e=>
  (x a o e).stay (fun b u _ q=>k b u q) (fun _ q=>q) fun _ _ q=>q
theorem HOk.laid (x:HOk P w H h) (k:∀ b u,h.get? b=some u→h'.get? b=some u) (hp:h.objs.size≤a) (new:ObjOk P w (upd H a o) h' a o):HOk P w (upd H a o) h':=fun b u e=>by
  have hn:=x.fresh hp
  by_cases hb:b=a
  · subst hb;rw [ZA3] at e;cases e;exact new
  · rw [ZA5 hb] at e
    exact (x b u e).stay (fun c v _ q=>k c v q) (fun c q=>by rw [ZA5 (ZAF q hn)];exact q) fun c xs q=>by rw [ZA5 (ZAF q hn)];exact q
end
def Rd (H:Hp) (a:Addr) (u:HO):Prop:=H a=some u∨∃ o,H a=some (.frz o u)
theorem Rd.of {H:Hp} {a:Addr} {u:HO} (h:H a=some u):Rd H a u:=.inl h
theorem Rd.ok {P:Program} {w:World} {H:Hp} {h:Heap} {a:Addr} {u:HO} (r:Rd H a u) (x:HOk P w H h):ObjOk P w H h a u:=by
  rcases r with r | ⟨o,r⟩
  · exact x a u r
  · obtain ⟨_,q⟩:=x a _ r
    exact q
def Mut:Option HO→Prop
  | some (.lst _)=>True
  | some (.dK _)=>True
  | some (.dT _)=>True
  | some (.set _ _)=>True
  | some (.ins _ _ _)=>True
  | some (.ext _)=>True
  | _=>False
section
variable {P:Program} {w:World} {H:Hp} {h h':Heap} {x e:Addr} {o':HO}
theorem HOk.write (ok:HOk P w H h) (mu:Mut (H x)) (he:e=x∨H e=some (.own x)) (k:∀ b u,b≠e→h.get? b=some u→h'.get? b=some u) (heo:∃ u,h'.get? e=some u)
    (new:ObjOk P w (upd H x o') h' x o'):HOk P w (upd H x o') h':=fun b u q=>by
  have nown:∀ c y,H c=some (.own y)→c≠x:=fun c y r z=>by subst z;rw [r] at mu;exact mu
  have ntup:∀ c xs,H c=some (.tup xs)→c≠x:=fun c xs r z=>by subst z;rw [r] at mu;exact mu
  by_cases hb:b=x
  · subst hb;rw [ZA3] at q;cases q;exact new
  · rw [ZA5 hb] at q
    by_cases hbe:b=e
    · have q':H b=some (.own x):=by
        rcases he with z | z
        · exact absurd (hbe.trans z) hb
        · rw [hbe];exact z
      rw [q] at q';cases q'
      obtain ⟨v,hv⟩:=heo
      exact ⟨v,by rw [hbe];exact hv⟩
    · refine (ok b u q).stay (fun c v hc r=>k c v ?_ r) (fun c r=>by rw [ZA5 (nown c b r)];exact r) fun c xs r=>by rw [ZA5 (ntup c xs r)];exact r
      rcases hc with rfl | hc
      · exact hbe
      · rintro rfl
        rcases he with z | z
        · exact nown c b hc z
        · rw [hc] at z;cases z;exact hb rfl
end
structure Un (fs ex:List Addr) (H H':Hp) (h h':Heap):Prop where
  keep:∀ b o,h.get? b=some o→H b=none→b∉fs→b∉ex→h'.get? b=some o
  slot:∀ b o,h.get? b=some o→H b=none→b∈fs→b∉ex→∃ sl,h'.get? b=some { o with slots:=sl }
  free:∀ b o,h.get? b=some o→H b=none→b∉ex→H' b=none
  there:∀ b o,h.get? b=some o→b∉ex→∃ o',h'.get? b=some o'
  tups:∀ b xs,H b=some (.tup xs)→H' b=some (.tup xs)
  frzs:∀ b o u,H b=some (.frz o u)→H' b=some (.frz o u)
  tbls:∀ b ps,H b=some (.tbl ps)→∃ more,H' b=some (.tbl (ps++more))
section
variable {fs fs' ex ex':List Addr} {H H1 H2:Hp} {h h1 h2 h':Heap} {a x e:Addr} {o:HO}
theorem Un.any (u:Un fs ex H H1 h h1) {b:Addr} {ob:Obj} (q:h.get? b=some ob) (n:H b=none) (hx:b∉ex):∃ sl,h1.get? b=some { ob with slots:=sl }:=by
  by_cases hb:b∈fs
  · exact u.slot b ob q n hb hx
  · exact ⟨ob.slots,u.keep b ob q n hb hx⟩
theorem Un.kept (k:∀ b u,h.get? b=some u→h'.get? b=some u):Un fs ex H H h h':=
  ⟨fun b ob q _ _ _=>k b ob q,fun b ob q _ _ _=>⟨ob.slots,k b ob q⟩,fun _ _ _ n _=>n,fun b ob q _=>⟨ob,k b ob q⟩,fun _ _ q=>q,fun _ _ _ q=>q,fun _ ps q=>⟨#[],by rw [q];simp⟩⟩
theorem Un.refl:Un fs ex H H h h:=Un.kept fun _ _ q=>q
theorem Un.laid (k:∀ b u,h.get? b=some u→h'.get? b=some u) (hp:h.objs.size≤a) (hn:H a=none):Un fs ex H (upd H a o) h h' where
  keep:=fun b u q _ _ _=>k b u q
  slot:=fun b u q _ _ _=>⟨u.slots,k b u q⟩
  free:=fun b u q n _=>by rw [ZA5 (Nat.ne_of_lt (Nat.lt_of_lt_of_le (Heap.lt_size q) hp))];exact n
  there:=fun b u q _=>⟨u,k b u q⟩
  tups:=fun b xs q=>by rw [ZA5 (ZAF q hn)];exact q
  frzs:=fun b u xs q=>by rw [ZA5 (ZAF q hn)];exact q
  tbls:=fun b ps q=>⟨#[],by rw [ZA5 (ZAF q hn),q];simp⟩
theorem Un.write (mu:Mut (H x)) (he:e=x∨H e=some (.own x)) (k:∀ b u,b≠e→h.get? b=some u→h'.get? b=some u) (heo:∃ u,h'.get? e=some u):Un fs ex H (upd H x o) h h':=by
  have hx:∀ b,H b=none→b≠x:=fun b n z=>by subst z;rw [n] at mu;exact mu
  have hb:∀ b,H b=none→b≠e:=fun b n z=>by
    subst z
    rcases he with r | r
    · exact hx b n r
    · rw [n] at r;cases r
  have hm:∀ b u,H b=some u→¬ Mut (some u)→b≠x:=fun b u q nm z=>by subst z;rw [q] at mu;exact nm mu
  refine ⟨fun b u q n _ _=>k b u (hb b n) q,fun b u q n _ _=>⟨u.slots,k b u (hb b n) q⟩,fun b u q n _=>by rw [ZA5 (hx b n)];exact n,fun b u q _=>?_,
    fun b xs q=>by rw [ZA5 (hm b _ q fun z=>z)];exact q,fun b u xs q=>by rw [ZA5 (hm b _ q fun z=>z)];exact q,fun b ps q=>⟨#[],by rw [ZA5 (hm b _ q fun z=>z),q];simp⟩⟩
  by_cases hbe:b=e
  · subst hbe;exact heo
  · exact ⟨u,k b u hbe q⟩
theorem Un.mono (u:Un fs ex H H1 h h1) (hs:∀ b∈fs,b∈fs') (hx:∀ b∈ex,b∈ex'):Un fs' ex' H H1 h h1:=
  ⟨fun b ob q n hb he=>u.keep b ob q n (fun z=>hb (hs b z)) fun z=>he (hx b z),fun _ _ q n _ he=>u.any q n fun z=>he (hx _ z),fun b ob q n he=>u.free b ob q n fun z=>he (hx b z),fun b ob q he=>u.there b ob q fun z=>he (hx b z),u.tups,u.frzs,u.tbls⟩
end
def trk (h:Heap) (H:Hp):List Addr:=(List.range h.objs.size).filter fun a=>(H a).isSome
def hidT (h:Heap) (H:Hp):Heap:=PySem.W.hideAll h (trk h H)
theorem ZIi (h:Heap) (H:Hp):(hidT h H).objs.size=h.objs.size:=PySem.W.hideAll_size _ _
theorem hidT_get {h:Heap} {H:Hp} {b:Addr} {o:Obj} (e:h.get? b=some o) (n:H b=none):(hidT h H).get? b=some o:=
  PySem.W.hideAll_get _ e fun hm=>by
    have q:(H b).isSome=true:=(List.mem_filter.mp hm).2
    rw [n] at q;simp at q
theorem of_hidT {h:Heap} {H:Hp} {b:Addr} {o:Obj} (e:(hidT h H).get? b=some o):h.get? b=some o∧H b=none:=by
  have e':h.get? b=some o:=PySem.W.of_hideAll (trk h H) e
  refine ⟨e',?_⟩
  cases q:H b with
  | none=>rfl
  | some x=>
    have hm:b∈trk h H:=List.mem_filter.mpr ⟨List.mem_range.mpr (Heap.lt_size e'),by simp [q]⟩
    have z:(hidT h H).get? b=none:=PySem.W.hideAll_none (trk h H) hm
    rw [z] at e;cases e
def allNews (g h:Heap) (L:Addr):List (Addr×Obj):=(List.range h.objs.size).filterMap fun a=>if a=L∨(g.get? a).isSome=true then none else (h.get? a).map fun o=>(a,o)
def rest (g h:Heap) (L d:Addr):List (Addr×Obj):=(allNews g h L).filter fun p=>decide (p.1≠d)
end L2
namespace L2
open PySem PySem.Spec PyProof.Rows
structure Mod (K:PySem.W.Frag) (mg:Str→Option Value) (base:Heap):Prop where
  kin:K.In base
  glob:base.Ns mainGlobals mg
  blt:∃ mb,base.Ns builtinsNs mb∧∀ x:Str,x ≠ "__name__" → mb x=bootBuiltins x
  nolimit:base.NoLimit
structure Cx where
  prog:Program
  w:World
  K:PySem.W.Frag
  mg:Str→Option Value
  base:Heap
  A:Around
  N:List Str
  s₀:Shared
  H₀:Hp
  env:Env
  outer:List Env
  stack:List Env
  ex:List Addr
  fn:Str→Bool
  calm:Bool
  pn:List (Addr×Obj)
  xe:Value→Shared→Prop
def frs (l:List Env):List Addr:=l.filterMap (·.frame)
abbrev Cx.fs (X:Cx):List Addr:=frs X.outer
def Vis (sc:Scope) (x:Str):Prop:=sc.names.lookup x=some .local∨sc.names.lookup x=some .cell∨sc.names.lookup x=some .free
def Loc (sc:Scope) (x:Str):Prop:=sc.names.lookup x=some .local∨sc.names.lookup x=some .cell
def Look (env:Env) (h:Heap) (m:Str→Option Value) (x:Str) (u:Value):Prop:=
  (env.kindOf x=some .local∧m x=some u)∨((env.kindOf x=some .cell∨env.kindOf x=some .free)∧∃ c,env.cells.lookup x=some c∧h.IsCell c (some u))
structure Cx.Ok (X:Cx):Prop where
  mod:Mod X.K X.mg X.base
  kind:X.env.scope.kind=.function
  glob:X.env.globals=mainGlobals
  blt:X.env.builtins=builtinsNs
  above:X.s₀.heap.objs.size≤X.env.locals
  inj:∀ x y c,X.env.cells.lookup x=some c→X.env.cells.lookup y=some c→x=y
  has:∀ x,(X.env.kindOf x=some .cell∨X.env.kindOf x=some .free)→∃ c,X.env.cells.lookup x=some c
  cab:∀ x c,X.fn x=true→X.env.cells.lookup x=some c→X.s₀.heap.objs.size≤c
  hd:X.calm=true→X.A.handled=none
  frames:X.A.frames=some X.stack
  stk:X.stack=X.outer∨(X.stack=X.env :: X.outer∧X.env.frame=some X.env.locals)
  exf:∀ b∈X.ex,b≠X.env.locals∧∀ x c,X.env.cells.lookup x=some c→c≠b
  bs:∀ b o,X.base.get? b=some o→X.s₀.heap.get? b=some o∧X.H₀ b=none
  bsz:X.base.objs.size≤X.s₀.heap.objs.size
  noex:∀ b o,X.base.get? b=some o→b∉X.ex
  exfs:∀ b∈X.ex,b∉X.fs
  funs:X.s₀.heap.FunFrames X.base X.outer
  frf:∀ b∈X.fs,X.H₀ b=none
structure Inv (X:Cx) (pins:List (Addr×Obj)) (σ:List (Option V)) (H:Hp) (s:Shared):Prop where
  ok:X.Ok
  os:s.os=X.s₀.os
  bare:AllBare s.gens
  base:Un X.fs X.ex X.H₀ H X.s₀.heap s.heap
  loc:∃ m,s.heap.Ns X.env.locals m∧∀ (i:Nat) (x:Str) (v:V),X.N[i]?=some x→σ[i]?=some (some v)→Vis X.env.scope x→∃ u,RelV v u∧Look X.env s.heap m x u
  cell:∀ x c,X.env.cells.lookup x=some c→∃ v,s.heap.IsCell c v
  free:H X.env.locals=none
  freeC:∀ x c,X.env.cells.lookup x=some c→H c=none
  pin:∀ p∈X.pn++pins,s.heap.get? p.1=some p.2∧H p.1=none∧p.1≠X.env.locals∧p.1∉X.fs∧∀ v,p.2.data≠.cell v
  hok:HOk X.prog X.w H s.heap
  len:σ.length=X.N.length
section
variable {X:Cx} {pins:List (Addr×Obj)} {σ:List (Option V)} {H H':Hp} {s:Shared} {h':Heap}
theorem Cx.Ok.nofr (ok:X.Ok) {b:Addr} {o:Obj} (e:X.base.get? b=some o):b∉X.fs:=fun hb=>by
  have:=(ok.funs.mem hb).1
  rw [e] at this;cases this
theorem Inv.bs (I:Inv X pins σ H s):∀ b o,X.base.get? b=some o→s.heap.get? b=some o∧H b=none:=fun b o e=>
  ⟨I.base.keep b o (I.ok.bs b o e).1 (I.ok.bs b o e).2 (I.ok.nofr e) (I.ok.noex b o e),I.base.free b o (I.ok.bs b o e).1 (I.ok.bs b o e).2 (I.ok.noex b o e)⟩
theorem Inv.bk (I:Inv X pins σ H s):∀ b o,X.base.get? b=some o→s.heap.get? b=some o:=fun b o e=>(I.bs b o e).1
theorem Inv.mod (I:Inv X pins σ H s):Mod X.K X.mg X.base:=I.ok.mod
theorem Inv.kIn (I:Inv X pins σ H s):X.K.In s.heap:=I.ok.mod.kin.keeps I.bk
theorem Inv.lt (I:Inv X pins σ H s):X.env.locals < s.heap.objs.size:=let ⟨_,hn,_⟩:=I.loc;hn.lt
theorem Inv.sz (I:Inv X pins σ H s):X.s₀.heap.objs.size≤s.heap.objs.size:=Nat.le_trans I.ok.above (Nat.le_of_lt I.lt)
theorem Inv.nofs (I:Inv X pins σ H s) {a:Addr} (h:s.heap.objs.size≤a):a∉X.fs:=fun hb=>by
  obtain ⟨_,o,ho,_⟩:=I.ok.funs.mem hb
  exact absurd (Nat.lt_of_lt_of_le (Heap.lt_size ho) (Nat.le_trans I.sz h)) (Nat.lt_irrefl _)
theorem Inv.cne (I:Inv X pins σ H s):∀ x c,X.env.cells.lookup x=some c→c≠X.env.locals:=fun x c e z=>by
  obtain ⟨v,o,ho,hd⟩:=I.cell x c e
  obtain ⟨m,⟨o',es,ep,ho',hd',_⟩,_⟩:=I.loc
  rw [z,ho'] at ho;cases ho;rw [hd'] at hd;cases hd
theorem Inv.funs (I:Inv X pins σ H s):s.heap.FunFrames X.base X.outer:=by
  have all:∀ (l:List Env),(∀ b∈frs l,b∈X.fs)→X.s₀.heap.FunFrames X.base l→s.heap.FunFrames X.base l:=by
    intro l
    induction l with
    | nil=>intro _ _;trivial
    | cons env r ih=>
      intro hs hl
      obtain ⟨hk,⟨L,o,hf,hn,ho,hd⟩,hr⟩:=hl
      have hL:L∈X.fs:=hs L (by unfold frs;rw [List.filterMap_cons,hf];exact List.mem_cons_self)
      obtain ⟨sl,e⟩:=I.base.slot L o ho (I.ok.frf L hL) hL fun z=>I.ok.exfs L z hL
      exact ⟨hk,⟨L,_,hf,hn,e,hd⟩,ih (fun b hb=>hs b (by unfold frs;rw [List.filterMap_cons,hf];exact List.mem_cons_of_mem _ hb)) hr⟩
  exact all X.outer (fun _ hb=>hb) I.ok.funs
theorem Inv.stack (I:Inv X pins σ H s):s.heap.FunFrames X.base X.stack:=by
  rcases I.ok.stk with e | ⟨e,hf⟩
  · rw [e];exact I.funs
  · rw [e]
    obtain ⟨m,hn,_⟩:=I.loc
    refine .cons (by rw [I.ok.kind];decide) hf hn ?_ I.funs
    exact Heap.get?_none_of_le (Nat.le_trans I.ok.bsz I.ok.above)
theorem Inv.stkSub (I:Inv X pins σ H s):∀ b∈frs X.stack,b∈X.env.locals :: X.fs:=fun b hb=>by
  rcases I.ok.stk with e | ⟨e,hf⟩
  · rw [e] at hb;exact List.mem_cons_of_mem _ hb
  · rw [e] at hb
    unfold frs at hb
    rw [List.filterMap_cons,hf] at hb
    exact hb
theorem Inv.stkFree (I:Inv X pins σ H s):∀ b∈frs X.stack,H b=none:=fun b hb=>by
  rcases List.mem_cons.mp (I.stkSub b hb) with e | hb
  · rw [e];exact I.free
  · obtain ⟨_,o,ho,_⟩:=I.ok.funs.mem hb
    exact I.base.free b o ho (I.ok.frf b hb) fun z=>I.ok.exfs b z hb
theorem Inv.step {g':Array GenState} {t':Nat} {d':Drawn} {ch:List Addr} (I:Inv X pins σ H s)
    (hch:∀ b∈ch,(b∈X.ex∨X.s₀.heap.objs.size≤b)∧b≠X.env.locals∧(∀ x c,X.env.cells.lookup x=some c→c≠b)∧∀ p∈X.pn++pins,p.1≠b)
    (keep:∀ b o,b≠X.env.locals→b∉X.fs→b∉ch→s.heap.get? b=some o→H b=none→h'.get? b=some o)
    (slot:∀ b o,b≠X.env.locals→b∈X.fs→b∉ch→s.heap.get? b=some o→H b=none→∃ sl,h'.get? b=some { o with slots:=sl }) (free:∀ b o,b∉ch→s.heap.get? b=some o→H b=none→H' b=none)
    (there:∀ b o,b∉ch→s.heap.get? b=some o→∃ o',h'.get? b=some o')
    (tups:∀ b xs,H b=some (.tup xs)→H' b=some (.tup xs)) (frzs:∀ b o u,H b=some (.frz o u)→H' b=some (.frz o u)) (tbls:∀ b ps,H b=some (.tbl ps)→∃ more,H' b=some (.tbl (ps++more)))
    (ns:∀ m,s.heap.Ns X.env.locals m→h'.Ns X.env.locals m) (hok:HOk X.prog X.w H' h') (hg:AllBare g') :
    Inv X pins σ H' { s with heap:=h',gens:=g',drawn:=d',toks:=t' }:=by
  have neL:∀ b o,X.s₀.heap.get? b=some o→b≠X.env.locals:=fun b o e=>Nat.ne_of_lt (Nat.lt_of_lt_of_le (Heap.lt_size e) I.ok.above)
  have neC:∀ b o,X.s₀.heap.get? b=some o→b∉X.ex→b∉ch:=fun b o e hx hb=>by
    rcases (hch b hb).1 with z | z
    · exact hx z
    · exact absurd (Nat.lt_of_lt_of_le (Heap.lt_size e) z) (Nat.lt_irrefl _)
  have cellK:∀ x c,X.env.cells.lookup x=some c→∀ v,s.heap.IsCell c v→h'.IsCell c v:=fun x c e v ⟨o,ho,hd⟩=>by
    have nch:c∉ch:=fun z=>(hch c z).2.2.1 x c e rfl
    by_cases hc:c∈X.fs
    · obtain ⟨sl,q⟩:=slot c o (I.cne x c e) hc nch ho (I.freeC x c e)
      exact ⟨_,q,hd⟩
    · exact ⟨o,keep c o (I.cne x c e) hc nch ho (I.freeC x c e),hd⟩
  refine ⟨I.ok,I.os,hg,⟨fun b o e n hb hx=>?_,fun b o e n hb hx=>?_,fun b o e n hx=>?_,fun b o e hx=>?_,fun b xs e=>tups b xs (I.base.tups b xs e),fun b o xs e=>frzs b o xs (I.base.frzs b o xs e),fun b ps e=>?_⟩,?_,fun x c e=>?_,?_,fun x c e=>?_,fun p hp=>?_,hok,I.len⟩
  · exact keep b o (neL b o e) hb (neC b o e hx) (I.base.keep b o e n hb hx) (I.base.free b o e n hx)
  · obtain ⟨sl,e1⟩:=I.base.slot b o e n hb hx
    obtain ⟨sl',e2⟩:=slot b _ (neL b o e) hb (neC b o e hx) e1 (I.base.free b o e n hx)
    exact ⟨sl',e2⟩
  · obtain ⟨o',e1⟩:=I.base.there b o e hx
    exact free b o' (neC b o e hx) e1 (I.base.free b o e n hx)
  · obtain ⟨o',e1⟩:=I.base.there b o e hx
    exact there b o' (neC b o e hx) e1
  · obtain ⟨m1,e1⟩:=I.base.tbls b ps e
    obtain ⟨m2,e2⟩:=tbls b _ e1
    exact ⟨m1++m2,by rw [e2,Array.append_assoc]⟩
  · obtain ⟨m,hn,hl⟩:=I.loc
    refine ⟨m,ns m hn,fun i x v e1 e2 e3=>?_⟩
    obtain ⟨u,r,l⟩:=hl i x v e1 e2 e3
    refine ⟨u,r,?_⟩
    rcases l with l | ⟨k,c,e,z⟩
    · exact .inl l
    · exact .inr ⟨k,c,e,cellK x c e _ z⟩
  · obtain ⟨v,z⟩:=I.cell x c e
    exact ⟨v,cellK x c e v z⟩
  · obtain ⟨m,⟨o,_,_,ho,_⟩,_⟩:=I.loc
    exact free _ o (fun z=>(hch _ z).2.1 rfl) ho I.free
  · obtain ⟨v,o,ho,hd⟩:=I.cell x c e
    exact free c o (fun z=>(hch c z).2.2.1 x c e rfl) ho (I.freeC x c e)
  · obtain ⟨e,n,ne,nf,d⟩:=I.pin p hp
    have nch:p.1∉ch:=fun z=>(hch p.1 z).2.2.2 p hp rfl
    exact ⟨keep p.1 p.2 ne nf nch e n,free p.1 p.2 nch e n,ne,nf,d⟩
theorem Inv.un {t':Nat} (I:Inv X pins σ H s) (u:Un X.fs [] H H' s.heap h') (hok:HOk X.prog X.w H' h'):Inv X pins σ H' { s with heap:=h',toks:=t' }:=by
  obtain ⟨m,⟨o,es,ep,ho,r⟩,_⟩:=id I.loc
  obtain ⟨sl,hL⟩:=u.any ho I.free (by simp)
  exact I.step (g':=s.gens) (d':=s.drawn) (ch:=[]) (fun _ z=>nomatch z) (fun b o _ hb _ e n=>u.keep b o e n hb (by simp)) (fun b o _ hb _ e n=>u.slot b o e n hb (by simp)) (fun b o _ e n=>u.free b o e n (by simp)) (fun b o _ e=>u.there b o e (by simp)) u.tups u.frzs u.tbls (fun m' hm=>by
    obtain ⟨o',es',ep',ho',r'⟩:=hm
    rw [ho] at ho';cases ho'
    exact ⟨_,es',ep',hL,r'⟩) hok I.bare
theorem Inv.call {g':Array GenState} {t':Nat} {d':Drawn} {ch:List Addr} (I:Inv X pins σ H s) (u:Un (frs X.stack) ch H H' s.heap h') (hok:HOk X.prog X.w H' h') (hg:AllBare g')
    (hch:∀ b∈ch,(b∈X.ex∨X.s₀.heap.objs.size≤b)∧b≠X.env.locals∧(∀ x c,X.env.cells.lookup x=some c→c≠b)∧∀ p∈X.pn++pins,p.1≠b) :
    Inv X pins σ H' { s with heap:=h',gens:=g',drawn:=d',toks:=t' }:=by
  obtain ⟨m,⟨o,es,ep,ho,r⟩,_⟩:=id I.loc
  obtain ⟨sl,hL⟩:=u.any ho I.free fun z=>(hch _ z).2.1 rfl
  exact I.step (ch:=ch) hch (fun b o hL hb hc e n=>u.keep b o e n (fun z=>(List.mem_cons.mp (I.stkSub b z)).elim hL hb) hc) (fun b o _ _ hc e n=>u.any e n hc) (fun b o hc e n=>u.free b o e n hc) (fun b o hc e=>u.there b o e hc) u.tups u.frzs u.tbls (fun m' hm=>by
    obtain ⟨o',es',ep',ho',r'⟩:=hm
    rw [ho] at ho';cases ho'
    exact ⟨_,es',ep',hL,r'⟩) hok hg
theorem Inv.turned {t':Nat} {it:Addr} (I:Inv X pins σ H s) (k:∀ b o,b≠it→s.heap.get? b=some o→h'.get? b=some o) (hn:H it=none) (hL:it≠X.env.locals)
    (h1:it∈X.ex∨X.s₀.heap.objs.size≤it) (h2:∀ x c,X.env.cells.lookup x=some c→c≠it) (h3:∀ p∈X.pn++pins,p.1≠it):Inv X pins σ H { s with heap:=h',toks:=t' }:=by
  have nit:∀ b u,H b=some u→b≠it:=fun b u e z=>by rw [z,hn] at e;cases e
  refine I.step (g':=s.gens) (d':=s.drawn) (ch:=[it]) (fun b hb=>?_) (fun b o _ _ hc e _=>k b o (fun z=>hc (by simp [z])) e) (fun b o _ _ hc e _=>⟨o.slots,k b o (fun z=>hc (by simp [z])) e⟩) (fun _ _ _ _ n=>n)
    (fun b o hc e=>⟨o,k b o (fun z=>hc (by simp [z])) e⟩) (fun _ _ e=>e) (fun _ _ _ e=>e) (fun b ps e=>⟨#[],by rw [e];simp⟩) (fun m hm=>?_) (fun b u e=>?_) I.bare
  · have e:b=it:=by simpa using hb
    subst e
    exact ⟨h1,hL,h2,h3⟩
  · obtain ⟨o,es,ep,ho,r⟩:=hm
    exact ⟨o,es,ep,k _ o (Ne.symm hL) ho,r⟩
  · refine (I.hok b u e).stay (fun c v hc q=>k c v ?_ q) (fun _ q=>q) fun _ _ q=>q
    rcases hc with z | z
    · rw [z];exact nit b u e
    · exact nit c _ z
theorem Inv.tok (I:Inv X pins σ H s) (t:Nat):Inv X pins σ H { s with toks:=t }:=I.un (h':=s.heap) (t':=t) Un.refl I.hok
theorem Inv.kept {t':Nat} (I:Inv X pins σ H s) (k:∀ b u,s.heap.get? b=some u→h'.get? b=some u):Inv X pins σ H { s with heap:=h',toks:=t' }:=I.un (Un.kept k) (I.hok.kept k)
theorem Inv.laid {a:Addr} {o:HO} {t':Nat} (I:Inv X pins σ H s) (k:∀ b u,s.heap.get? b=some u→h'.get? b=some u) (hp:s.heap.objs.size≤a) (new:ObjOk X.prog X.w (upd H a o) h' a o) :
    Inv X pins σ (upd H a o) { s with heap:=h',toks:=t' }:=I.un (Un.laid k hp (I.hok.fresh hp)) (I.hok.laid k hp new)
theorem Inv.write {x e:Addr} {o:HO} {t':Nat} (I:Inv X pins σ H s) (mu:Mut (H x)) (he:e=x∨H e=some (.own x)) (k:∀ b u,b≠e→s.heap.get? b=some u→h'.get? b=some u) (heo:∃ u,h'.get? e=some u)
    (new:ObjOk X.prog X.w (upd H x o) h' x o):Inv X pins σ (upd H x o) { s with heap:=h',toks:=t' }:=I.un (Un.write mu he k heo) (I.hok.write mu he k heo new)
theorem Inv.pins_of {pins':List (Addr×Obj)} (I:Inv X pins σ H s) (h:∀ p∈pins',s.heap.get? p.1=some p.2∧H p.1=none∧p.1≠X.env.locals∧p.1∉X.fs∧∀ v,p.2.data≠.cell v):Inv X pins' σ H s:=
  ⟨I.ok,I.os,I.bare,I.base,I.loc,I.cell,I.free,I.freeC,fun p hp=>(List.mem_append.mp hp).elim (fun z=>I.pin p (List.mem_append_left _ z)) (h p),I.hok,I.len⟩
theorem ZEI {N:List Str} (hN:N.Nodup) {i j:Nat} {x:Str} (a:N[i]?=some x) (b:N[j]?=some x):i=j:=by
  obtain ⟨h1,e1⟩:=List.getElem?_eq_some_iff.mp a
  obtain ⟨h2,e2⟩:=List.getElem?_eq_some_iff.mp b
  exact (List.getElem_inj hN).mp (e1.trans e2.symm)
theorem ZDQ {M:Model} {A:Around} {E:Value→Shared→Prop} {i:Nat} {x:Str} {v:V} {u:Value} {Q:Unit→Shared→Prop} (I:Inv X pins σ H s) (hN:X.N.Nodup) (hi:X.N[i]?=some x) (hx:Loc X.env.scope x) (r:RelV v u)
    (h:∀ s',Inv X pins (σ.set i (some v)) H s'→(∃ a,Heap.SameBut a s.heap s'.heap∧(a=X.env.locals∨X.env.cells.lookup x=some a))→Q () s') (hf:X.fn x=true∨X.env.scope.names.lookup x=some .local:=by first | exact .inl rfl | exact .inr rfl | assumption):wpAny M A (storeName X.env x u) Q E s:=by
  obtain ⟨m,hn,hl⟩:=id I.loc
  have hcls:(X.env.scope.kind == .class || (X.env.scope.kind == .module && X.env.locals != X.env.globals))=false:=by rw [I.ok.kind];rfl
  have hiσ:i < σ.length:=by rw [I.len];exact (List.getElem?_eq_some_iff.mp hi).1
  have cne:=I.cne
  have tracked:∀ {a:Addr} {h':Heap},(∃ o,s.heap.get? a=some o∧H a=none)→Heap.SameBut a s.heap h'→HOk X.prog X.w H h':=fun {a h'} ha hs b ob e=>by
    obtain ⟨_,_,hfree⟩:=ha
    refine (I.hok b ob e).stay (fun c w' hc q=>(hs.2 c ?_).trans q) (fun _ q=>q) fun _ _ q=>q
    rintro rfl
    rcases hc with rfl | hc
    · rw [hfree] at e;cases e
    · rw [hfree] at hc;cases hc
  rcases hx with hk | hk
  · refine wpAny_storeName_local hk hn (fun h' hn' hs=>?_) hcls
    obtain ⟨oL,_,_,hoL,_⟩:=id hn
    refine h _ ⟨I.ok,I.os,I.bare,⟨fun b o e n hb hx=>?_,fun b o e n hb hx=>?_,I.base.free,fun b o e hx=>?_,I.base.tups,I.base.frzs,I.base.tbls⟩,⟨_,hn',fun j y v' e1 e2 e3=>?_⟩,fun y c e=>?_,I.free,I.freeC,fun p hp=>?_,tracked ⟨oL,hoL,I.free⟩ hs,by simpa using I.len⟩ ⟨_,hs,.inl rfl⟩
    · exact (hs.2 b (Nat.ne_of_lt (Nat.lt_of_lt_of_le (Heap.lt_size e) I.ok.above))).trans (I.base.keep b o e n hb hx)
    · obtain ⟨sl,e1⟩:=I.base.slot b o e n hb hx
      exact ⟨sl,(hs.2 b (Nat.ne_of_lt (Nat.lt_of_lt_of_le (Heap.lt_size e) I.ok.above))).trans e1⟩
    · obtain ⟨o',e1⟩:=I.base.there b o e hx
      exact ⟨o',(hs.2 b (Nat.ne_of_lt (Nat.lt_of_lt_of_le (Heap.lt_size e) I.ok.above))).trans e1⟩
    · by_cases hj:j=i
      · subst hj
        rw [hi] at e1;cases e1
        rw [List.getElem?_set_self hiσ] at e2
        cases e2
        exact ⟨u,r,.inl ⟨hk,by simp⟩⟩
      · rw [List.getElem?_set_ne (Ne.symm hj)] at e2
        obtain ⟨u',r',q⟩:=hl j y v' e1 e2 e3
        refine ⟨u',r',?_⟩
        rcases q with ⟨k,e⟩ | ⟨k,c,e,z⟩
        · refine .inl ⟨k,?_⟩
          have:y≠x:=fun e=>hj (ZEI hN e1 (e▸hi))
          simp [this,e]
        · exact .inr ⟨k,c,e,z.sameBut hs (cne y c e)⟩
    · obtain ⟨w',z⟩:=I.cell y c e
      exact ⟨w',z.sameBut hs (cne y c e)⟩
    · obtain ⟨e,n,ne,nf,d⟩:=I.pin p hp
      exact ⟨(hs.2 p.1 ne).trans e,n,ne,nf,d⟩
  · have hfn:X.fn x=true:=by
      rcases hf with z | z
      · exact z
      · rw [z] at hk;cases hk
    obtain ⟨c,hc⟩:=I.ok.has x (.inl hk)
    obtain ⟨w',z⟩:=I.cell x c hc
    refine wpAny_storeName_cell I.ok.kind hk hc z (fun h' hc' hs=>?_)
    obtain ⟨oc,hoc,hocd⟩:=id z
    refine h { s with heap:=h' } ⟨I.ok,I.os,I.bare,⟨fun b o e n hb hx=>?_,fun b o e n hb hx=>?_,I.base.free,fun b o e hx=>?_,I.base.tups,I.base.frzs,I.base.tbls⟩,⟨m,hn.sameBut hs (Ne.symm (cne x c hc)),fun j y v' e1 e2 e3=>?_⟩,fun y c' e=>?_,I.free,I.freeC,fun p hp=>?_,tracked ⟨oc,hoc,I.freeC x c hc⟩ hs,by simpa using I.len⟩ ⟨c,hs,.inr hc⟩
    · exact (hs.2 b (Nat.ne_of_lt (Nat.lt_of_lt_of_le (Heap.lt_size e) (I.ok.cab x c hfn hc)))).trans (I.base.keep b o e n hb hx)
    · obtain ⟨sl,e1⟩:=I.base.slot b o e n hb hx
      exact ⟨sl,(hs.2 b (Nat.ne_of_lt (Nat.lt_of_lt_of_le (Heap.lt_size e) (I.ok.cab x c hfn hc)))).trans e1⟩
    · obtain ⟨o',e1⟩:=I.base.there b o e hx
      exact ⟨o',(hs.2 b (Nat.ne_of_lt (Nat.lt_of_lt_of_le (Heap.lt_size e) (I.ok.cab x c hfn hc)))).trans e1⟩
    · by_cases hj:j=i
      · subst hj
        rw [hi] at e1;cases e1
        rw [List.getElem?_set_self hiσ] at e2
        cases e2
        exact ⟨u,r,.inr ⟨.inl hk,c,hc,hc'⟩⟩
      · rw [List.getElem?_set_ne (Ne.symm hj)] at e2
        obtain ⟨u',r',q⟩:=hl j y v' e1 e2 e3
        refine ⟨u',r',?_⟩
        rcases q with q | ⟨k,c',e,z'⟩
        · exact .inl q
        · refine .inr ⟨k,c',e,z'.sameBut hs ?_⟩
          rintro rfl
          exact hj (ZEI hN e1 (I.ok.inj _ _ _ e hc▸hi))
    · by_cases hcc:c'=c
      · subst hcc;exact ⟨_,hc'⟩
      · obtain ⟨w2,z2⟩:=I.cell y c' e
        exact ⟨w2,z2.sameBut hs hcc⟩
    · obtain ⟨e,n,ne,nf,d⟩:=I.pin p hp
      refine ⟨(hs.2 p.1 ?_).trans e,n,ne,nf,d⟩
      intro q
      rw [q,hoc] at e
      have q':oc=p.2:=Option.some.inj e
      exact d w' (by rw [← q'];exact hocd)
theorem ZEF {M:Model} {A:Around} {E:Value→Shared→Prop} {i:Nat} {x:Str} {v:V} {u:Value} {Q:Unit→Shared→Prop} (I:Inv X pins σ H s) (hN:X.N.Nodup) (hi:X.N[i]?=some x) (hx:Loc X.env.scope x) (r:RelV v u)
    (h:∀ s',Inv X pins (σ.set i (some v)) H s'→Q () s') (hf:X.fn x=true∨X.env.scope.names.lookup x=some .local:=by first | exact .inl rfl | exact .inr rfl | assumption):wpAny M A (storeName X.env x u) Q E s:=
  ZDQ I hN hi hx r (fun s' I' _=>h s' I') hf
theorem Inv.call' {s':Shared} {ch:List Addr} (I:Inv X pins σ H s) (ho:s'.os=s.os) (u:Un (frs X.stack) ch H H' s.heap s'.heap) (hok:HOk X.prog X.w H' s'.heap) (hg:AllBare s'.gens)
    (hch:∀ b∈ch,(b∈X.ex∨X.s₀.heap.objs.size≤b)∧b≠X.env.locals∧(∀ x c,X.env.cells.lookup x=some c→c≠b)∧∀ p∈X.pn++pins,p.1≠b):Inv X pins σ H' s':=by
  obtain ⟨h',g',d',t',o'⟩:=s'
  have e:o'=s.os:=ho
  subst e
  exact I.call (g':=g') (t':=t') (d':=d') u hok hg hch
end
abbrev XK:=Value→Option Addr→Hp→Prop
abbrev St:=List (Option V)
abbrev VK:=V→Hp→Prop
abbrev TE:=St→Hp→VK→Prop
abbrev TT:=St→Hp→(Bool→Hp→Prop)→Prop
abbrev TA:=St→Hp→(List V→Hp→Prop)→Prop
structure Ends where
  nx:St→Hp→Prop
  rt:VK
  bk:St→Hp→Prop:=fun _ _=>False
  ct:St→Hp→Prop:=fun _ _=>False
abbrev TS:=Ends→St→Hp→Prop
def EP (X:Cx) (pins:List (Addr×Obj)) (σ:St) (Q:VK) (u:Value) (s':Shared):Prop:=∃ v H',Inv X pins σ H' s'∧RelV v u∧Q v H'
def TP (X:Cx) (pins:List (Addr×Obj)) (σ:St) (Q:Bool→Hp→Prop) (b:Bool) (s':Shared):Prop:=∃ H',Inv X pins σ H' s'∧Q b H'
def AP (X:Cx) (pins:List (Addr×Obj)) (σ:St) (Q:List V→Hp→Prop) (us:List Value) (s':Shared):Prop:=∃ vs H',Inv X pins σ H' s'∧Vals vs us∧Q vs H'
def SP (X:Cx) (pins:List (Addr×Obj)) (D:Ends) (f:Flow) (s':Shared):Prop:=
  match f with
  | .next=>∃ σ' H',Inv X pins σ' H' s'∧D.nx σ' H'
  | .brk=>∃ σ' H',Inv X pins σ' H' s'∧D.bk σ' H'
  | .cont=>∃ σ' H',Inv X pins σ' H' s'∧D.ct σ' H'
  | .ret u=>∃ v σ' H',Inv X pins σ' H' s'∧RelV v u∧D.rt v H'
def PE (X:Cx) (e:Expr) (t:TE):Prop:=
  ∀ (pins:List (Addr×Obj)) (s:Shared) (σ:St) (H:Hp) (Q:VK),Inv X pins σ H s→t σ H Q→wpAny (model X.prog X.w) X.A (eval e X.env) (EP X pins σ Q) X.xe s
def PT (X:Cx) (e:Expr) (t:TT):Prop:=
  ∀ (pins:List (Addr×Obj)) (s:Shared) (σ:St) (H:Hp) (Q:Bool→Hp→Prop),Inv X pins σ H s→t σ H Q→wpAny (model X.prog X.w) X.A (isTrue e X.env (eval e X.env)) (TP X pins σ Q) X.xe s
def PW (X:Cx) (e:Expr) (t:TT):Prop:=
  ∀ (whole:Sem Value) (pins:List (Addr×Obj)) (s:Shared) (σ:St) (H:Hp) (Q:Bool→Hp→Prop),Inv X pins σ H s→t σ H Q→wpAny (model X.prog X.w) X.A (isTrue e X.env whole) (TP X pins σ Q) X.xe s
theorem PW.pt {X:Cx} {e:Expr} {t:TT} (h:PW X e t):PT X e t:=h _
def PA (X:Cx) (es:List Expr) (t:TA):Prop:=
  ∀ (pos:Pos) (pins:List (Addr×Obj)) (s:Shared) (σ:St) (H:Hp) (Q:List V→Hp→Prop),Inv X pins σ H s→t σ H Q→wpAny (model X.prog X.w) X.A (spliced (backTo pos (starEach es X.env))) (AP X pins σ Q) X.xe s
def PS (X:Cx) (st:Stmt) (t:TS):Prop:=
  ∀ (pins:List (Addr×Obj)) (s:Shared) (σ:St) (H:Hp) (D:Ends),Inv X pins σ H s→t D σ H→wpAny (model X.prog X.w) X.A (exec st X.env) (SP X pins D) X.xe s
def PSs (X:Cx) (st:List Stmt) (t:TS):Prop:=
  ∀ (pins:List (Addr×Obj)) (s:Shared) (σ:St) (H:Hp) (D:Ends),Inv X pins σ H s→t D σ H→wpAny (model X.prog X.w) X.A (execs st X.env) (SP X pins D) X.xe s
theorem thn {α:Type} {t:Sem α} {Q Q':α→Shared→Prop} {M:Model} {A:Around} {E:Value→Shared→Prop} {s:Shared} (h:wpAny M A t Q E s) (hQ:∀ a s,Q a s→Q' a s):wpAny M A t Q' E s:=wpAny_mono h hQ fun _ _ x=>x
end L2
namespace L2
open PySem PySem.Spec PyProof.Rows
section
variable {X:Cx}
def ZBK (i:Nat):TE:=fun σ H Q=>∃ v,σ[i]?=some (some v)∧Q v H
def tC (v:V):TE:=fun _ H Q=>Q v H
theorem pe_var {i:Nat} {x:Str} {pos:Pos} (hN:X.N[i]?=some x) (hv:Vis X.env.scope x) (hd:(x == ("__debug__" : Str))=false:=by decide) (hcd:(x == ("__classdict__" : Str))=false:=by decide):PE X (.Name x pos) (ZBK i):=by
  intro pins s σ H Q I h
  obtain ⟨v,e,h⟩:=h
  obtain ⟨m,hn,hl⟩:=I.loc
  obtain ⟨u,r,l⟩:=hl i x v hN e hv
  have fin:EP X pins σ Q u s:=⟨v,H,I,r,h⟩
  rcases l with ⟨hk,hm⟩ | ⟨hk,c,hc,hcell⟩
  · exact wpAny_Name (wpAny_loadName_local I.ok.kind hk hn hm fin) hd
  · rcases hk with hk | hk
    · exact wpAny_Name (wpAny_loadName_cell I.ok.kind hk hc hcell fin) hd
    · exact wpAny_Name (wpAny_loadName_free I.ok.kind hk hc hcell fin hcd) hd
theorem pe_int {i j pos}:PE X (.Constant (.int i) j pos) (tC (.int i)):=fun _ _ _ H _ I h=>wpAny_Constant_int ⟨.int i,H,I.tok _,⟨_,rfl⟩,h⟩
theorem pe_bl {b j pos}:PE X (.Constant (.bool b) j pos) (tC (.bl b)):=fun _ _ _ H _ I h=>Constant_bool ⟨.bl b,H,I,rfl,h⟩
theorem pe_non {j pos}:PE X (.Constant .none j pos) (tC .non):=fun _ _ _ H _ I h=>Constant_none ⟨.non,H,I,rfl,h⟩
theorem pe_str {x j pos}:PE X (.Constant (.str x) j pos) (tC (.str x)):=fun _ _ _ H _ I h=>Calls.Constant_str ⟨.str x,H,I.tok _,⟨_,rfl⟩,h⟩
def Gl (X:Cx) (x:Str):Prop:=X.env.kindOf x=some .globalImplicit
theorem ZBx {E:Value→Shared→Prop} {pins:List (Addr×Obj)} {s:Shared} {σ:St} {H:Hp} {x:Str} {u:Value} {pos:Pos} {Q:Value→Shared→Prop} (I:Inv X pins σ H s) (hg:Gl X x) (hm:X.mg x=some u) (h:Q u s)
    (hd:(x == ("__debug__" : Str))=false:=by decide):wpAny (model X.prog X.w) X.A (eval (.Name x pos) X.env) Q E s:=
  Calls.Name_function_global I.ok.kind hg (Calls.loadGlobal_global (by rw [I.ok.glob];exact I.mod.glob.keeps I.bk) hm h) hd
theorem ZDa {E:Value→Shared→Prop} {pins:List (Addr×Obj)} {s:Shared} {σ:St} {H:Hp} {x:Str} {u:Value} {pos:Pos} {Q:Value→Shared→Prop} (I:Inv X pins σ H s) (hg:Gl X x) (hm:X.mg x=none) (hv:bootBuiltins x=some u) (h:Q u s)
    (hn:x ≠ "__name__" := by decide) (hd:(x == ("__debug__" : Str))=false:=by decide):wpAny (model X.prog X.w) X.A (eval (.Name x pos) X.env) Q E s:=by
  obtain ⟨mb,h1,h2⟩:=I.mod.blt
  exact Calls.Name_function_global I.ok.kind hg (Calls.loadGlobal_builtin (by rw [I.ok.glob];exact I.mod.glob.keeps I.bk) hm (by rw [I.ok.blt];exact h1.keeps I.bk) ((h2 x hn).trans hv) h) hd
theorem pe_glob {x:Str} {v:V} {u:Value} {pos:Pos} (hg:Gl X x) (hm:X.mg x=some u) (r:RelV v u) (hd:(x == ("__debug__" : Str))=false:=by decide):PE X (.Name x pos) (tC v):=
  fun _ _ _ H _ I h=>ZBx I hg hm ⟨v,H,I,r,h⟩ hd
theorem pe_bltn {x:Str} {v:V} {u:Value} {pos:Pos} (hg:Gl X x) (hm:X.mg x=none) (hv:bootBuiltins x=some u) (r:RelV v u) (hn:x ≠ "__name__" := by decide) (hd:(x == ("__debug__" : Str))=false:=by decide):PE X (.Name x pos) (tC v):=
  fun _ _ _ H _ I h=>ZDa I hg hm hv ⟨v,H,I,r,h⟩ hn hd
variable {a b:Expr} {ta tb:TE} {pos:Pos}
def tB (t:TE):TT:=fun σ H Q=>t σ H fun x H1=>∃ c,x=.bl c∧Q c H1
theorem pt_val {e:Expr} {t:TE} (h:PE X e t) (he:∀ whole,isTrue e X.env whole=(do let v ← whole;standAt e.pos;holding [v] (truthy v)):=by intro _;rfl):PT X e (tB t):=by
  intro pins s σ H Q I hw
  refine isTrue_plain (thn (h pins s σ H _ I hw) fun v s1 ⟨x,H1,I1,r1,q1⟩=>?_) (he _)
  obtain ⟨d,rfl,q⟩:=q1
  cases r1
  exact wpAny_truthy_bool ⟨H1,I1,q⟩
variable {tA tB':TT} {rest:List Expr}
def tAnd (t u:TT):TT:=fun σ H Q=>t σ H fun c H1=>if c=true then u σ H1 Q else Q false H1
def tOr (t u:TT):TT:=fun σ H Q=>t σ H fun c H1=>if c=true then Q true H1 else u σ H1 Q
def tNot (t:TT):TT:=fun σ H Q=>t σ H fun c H1=>Q (!c) H1
theorem pw_and1 (ha:PT X a tA):PW X (.BoolOp .And [a] pos) tA:=by
  intro wh pins s σ H Q I h
  refine isTrue_and (thn (ha pins s σ H Q I h) fun c s1 e=>?_)
  cases c with
  | true=>exact isTrue_and_nil e
  | false=>exact e
theorem pw_or1 (ha:PT X a tA):PW X (.BoolOp .Or [a] pos) tA:=by
  intro wh pins s σ H Q I h
  refine isTrue_or (thn (ha pins s σ H Q I h) fun c s1 e=>?_)
  cases c with
  | false=>exact isTrue_or_nil e
  | true=>exact e
theorem pw_and (ha:PT X a tA) (hb:PW X (.BoolOp .And (b :: rest) pos) tB'):PW X (.BoolOp .And (a :: b :: rest) pos) (tAnd tA tB'):=by
  intro wh pins s σ H Q I h
  refine isTrue_and (thn (ha pins s σ H _ I h) fun c s1 ⟨H1,I1,q1⟩=>?_)
  cases c with
  | true=>exact hb wh pins s1 σ H1 Q I1 q1
  | false=>exact ⟨H1,I1,q1⟩
theorem pw_or (ha:PT X a tA) (hb:PW X (.BoolOp .Or (b :: rest) pos) tB'):PW X (.BoolOp .Or (a :: b :: rest) pos) (tOr tA tB'):=by
  intro wh pins s σ H Q I h
  refine isTrue_or (thn (ha pins s σ H _ I h) fun c s1 ⟨H1,I1,q1⟩=>?_)
  cases c with
  | true=>exact ⟨H1,I1,q1⟩
  | false=>exact hb wh pins s1 σ H1 Q I1 q1
theorem pt_not (ha:PT X a tA):PT X (.UnaryOp .Not a pos) (tNot tA):=by
  intro pins s σ H Q I h
  exact isTrue_not (ha pins s σ H (fun c H1=>Q (!c) H1) I h)
def tAndV (ta tb:TE):TE:=fun σ H Q=>ta σ H fun x H1=>∃ c,x=.bl c∧if c=true then tb σ H1 Q else Q (.bl false) H1
def tOrV (ta tb:TE):TE:=fun σ H Q=>ta σ H fun x H1=>∃ c,x=.bl c∧if c=true then Q (.bl true) H1 else tb σ H1 Q
def tNotV (ta:TE):TE:=fun σ H Q=>ta σ H fun x H1=>∃ c,x=.bl c∧Q (.bl (!c)) H1
theorem pe_one {op} {t:TE} (h:PE X a t):PE X (.BoolOp op [a] pos) t:=fun pins s σ H Q I hw=>BoolOp_one (h pins s σ H Q I hw)
theorem pe_and (ha:PE X a ta) (hb:PE X (.BoolOp .And (b :: rest) pos) tb):PE X (.BoolOp .And (a :: b :: rest) pos) (tAndV ta tb):=by
  intro pins s σ H Q I h
  refine BoolOp_and (thn (ha pins s σ H _ I h) fun v s1 ⟨x,H1,I1,r1,q1⟩=>?_)
  obtain ⟨c,rfl,q1⟩:=q1
  cases r1
  refine wpAny_truthy_bool ?_
  cases c with
  | true=>exact hb pins s1 σ H1 Q I1 q1
  | false=>exact ⟨.bl false,H1,I1,rfl,q1⟩
end
end L2
namespace L2
open PySem PySem.Spec PyProof.Rows
def SqL (K:PySem.W.Frag) (H:Hp) (a:Addr) (xs:List V):Prop:=
  Rd H a (.lst xs)∨
    ∃ (o:Obj) (its:Array Value) (n:Nat),K.lookup a=some o∧o.cls=.type "list" ∧ o.dict=none∧o.data=.seq its n∧its.size≤sizeLine∧Vals xs its.toList
def SqT (K:PySem.W.Frag) (H:Hp) (a:Addr) (xs:List V):Prop:=
  Rd H a (.tup xs)∨
    ∃ (o:Obj) (its:Array Value) (n:Nat),K.lookup a=some o∧o.cls=.type "tuple" ∧ o.data=.seq its n∧its.size≤sizeLine∧Vals xs its.toList
def absV:Value→Option V
  | .none=>some .non
  | .bool b=>some (.bl b)
  | .int i _=>some (.int i)
  | .str x _=>some (.str x)
  | .bytes b _=>some (.byt b)
  | .float b _=>some (.flt b)
  | .ref a=>some (.ref a)
  | .type n=>some (.ty n)
  | _=>none
theorem RelV.abs {x:V} {u:Value} (r:RelV x u):absV u=some x:=by
  cases x with
  | non=>cases r;rfl
  | bl _=>cases r;rfl
  | int _=>obtain ⟨t,rfl⟩:=r;rfl
  | str _=>obtain ⟨t,rfl⟩:=r;rfl
  | byt _=>obtain ⟨t,rfl⟩:=r;rfl
  | flt _=>obtain ⟨t,rfl⟩:=r;rfl
  | ref _=>cases r;rfl
  | ty _=>cases r;rfl
theorem RelV.inj {x y:V} {u:Value} (r:RelV x u) (q:RelV y u):x=y:=Option.some.inj (r.abs.symm.trans q.abs)
theorem Vals.inj:∀ {xs ys:List V} {us:List Value},Vals xs us→Vals ys us→xs=ys
  | _,_,_,.nil,.nil=>rfl
  | _,_,_,.cons r t,.cons r' t'=>by rw [r.inj r',Vals.inj t t']
section
variable {X:Cx} {pins:List (Addr×Obj)} {σ:St} {H:Hp} {s:Shared} {a:Addr} {xs ys:List V}
theorem SqL.of {K:PySem.W.Frag} (h:H a=some (.lst xs)):SqL K H a xs:=.inl (.inl h)
theorem SqT.of {K:PySem.W.Frag} (h:H a=some (.tup xs)):SqT K H a xs:=.inl (.inl h)
theorem Inv.list (I:Inv X pins σ H s) (h:SqL X.K H a xs):∃ its:List Value,Vals xs its∧PlainL s.heap a its.toArray∧xs.length≤sizeLine:=by
  rcases h with h | ⟨o,its,n,hk,hc,hd,hs,hz,r⟩
  · obtain ⟨z,its,n,r,e⟩:=h.ok I.hok
    exact ⟨its,r,⟨_,n,e,rfl,rfl,rfl⟩,z⟩
  · refine ⟨its.toList,r,⟨o,n,I.kIn a o hk,hc,hd,by simpa using hs⟩,?_⟩
    have e:=r.length
    simp only [Array.length_toList] at e
    omega
theorem Inv.tuple (I:Inv X pins σ H s) (h:SqT X.K H a xs):∃ its:List Value,Vals xs its∧IsTup s.heap a its.toArray∧xs.length≤sizeLine:=by
  rcases h with h | ⟨o,its,n,hk,hc,hs,hz,r⟩
  · obtain ⟨z,its,r,p⟩:=h.ok I.hok
    exact ⟨its,r,p.1,z⟩
  · refine ⟨its.toList,r,⟨o,I.kIn a o hk,hc,n,by simpa using hs⟩,?_⟩
    have e:=r.length
    simp only [Array.length_toList] at e
    omega
theorem Inv.list_inj (I:Inv X pins σ H s) (h:SqL X.K H a xs) (h':SqL X.K H a ys):xs=ys:=by
  obtain ⟨its,r,⟨o,n,e,_,_,d⟩,_⟩:=I.list h
  obtain ⟨its',r',⟨o',n',e',_,_,d'⟩,_⟩:=I.list h'
  rw [e] at e';cases e'
  rw [d] at d'
  injection d' with d1 _
  have:its=its':=by simpa using congrArg Array.toList d1
  subst this
  exact r.inj r'
theorem Inv.tuple_inj (I:Inv X pins σ H s) (h:SqT X.K H a xs) (h':SqT X.K H a ys):xs=ys:=by
  obtain ⟨its,r,⟨o,e,_,n,d⟩,_⟩:=I.tuple h
  obtain ⟨its',r',⟨o',e',_,n',d'⟩,_⟩:=I.tuple h'
  rw [e] at e';cases e'
  rw [d] at d'
  injection d' with d1 _
  have:its=its':=by simpa using congrArg Array.toList d1
  subst this
  exact r.inj r'
end
abbrev Cx.wish (X:Cx) (E:Value→Shared→Prop):Cx:={ X with xe:=E }
abbrev Cx.nox (X:Cx):Cx:=X.wish fun _ _=>False
theorem Cx.Ok.wish {X:Cx} (ok:X.Ok) (E:Value→Shared→Prop):(X.wish E).Ok:=
  ⟨ok.mod,ok.kind,ok.glob,ok.blt,ok.above,ok.inj,ok.has,ok.cab,ok.hd,ok.frames,ok.stk,ok.exf,ok.bs,ok.bsz,ok.noex,ok.exfs,ok.funs,ok.frf⟩
theorem Cx.Ok.unwish {X:Cx} {E:Value→Shared→Prop} (ok:(X.wish E).Ok):X.Ok:=
  ⟨ok.mod,ok.kind,ok.glob,ok.blt,ok.above,ok.inj,ok.has,ok.cab,ok.hd,ok.frames,ok.stk,ok.exf,ok.bs,ok.bsz,ok.noex,ok.exfs,ok.funs,ok.frf⟩
section
variable {X:Cx} {pins:List (Addr×Obj)} {σ:St} {H:Hp} {s:Shared} {E:Value→Shared→Prop}
theorem Inv.wish (I:Inv X pins σ H s) (E:Value→Shared→Prop):Inv (X.wish E) pins σ H s:=⟨I.ok.wish E,I.os,I.bare,I.base,I.loc,I.cell,I.free,I.freeC,I.pin,I.hok,I.len⟩
theorem Inv.unwish (I:Inv (X.wish E) pins σ H s):Inv X pins σ H s:=⟨I.ok.unwish,I.os,I.bare,I.base,I.loc,I.cell,I.free,I.freeC,I.pin,I.hok,I.len⟩
theorem SP.unwish {D:Ends} {f:Flow} {s':Shared} (h:SP (X.wish E) pins D f s'):SP X pins D f s':=by
  cases f with
  | next=>obtain ⟨σ',H',I,q⟩:=h;exact ⟨σ',H',I.unwish,q⟩
  | brk=>obtain ⟨σ',H',I,q⟩:=h;exact ⟨σ',H',I.unwish,q⟩
  | cont=>obtain ⟨σ',H',I,q⟩:=h;exact ⟨σ',H',I.unwish,q⟩
  | ret u=>obtain ⟨v,σ',H',I,r,q⟩:=h;exact ⟨v,σ',H',I.unwish,r,q⟩
theorem PSs.nox {st:List Stmt} {t:TS} (h:PSs X.nox st t):PSs X st t:=fun pins s σ H D I hw=>
  wpAny_mono (h pins s σ H D (I.wish _) hw) (fun _ _ q=>q.unwish) fun _ _ z=>False.elim z
end
section
variable {X:Cx} {st:Stmt} {rest:List Stmt} {t u:TS} {e:Expr} {te:TE} {pos:Pos}
def tNext:TS:=fun D σ H=>D.nx σ H
def tSeq (t u:TS):TS:=fun D σ H=>t { D with nx:=u D } σ H
theorem ZEA:PSs X [] tNext:=fun _ _ σ H _ I h=>wpAny_execs_nil ⟨σ,H,I,h⟩
theorem ZBk (h1:PS X st t) (h2:PSs X rest u):PSs X (st :: rest) (tSeq t u):=by
  intro pins s σ H D I h
  refine wpAny_execs_cons (thn (h1 pins s σ H { D with nx:=u D } I h) fun f s1 q=>?_)
  cases f with
  | next=>
    obtain ⟨σ',H',I',q⟩:=q
    exact h2 pins s1 σ' H' D I' q
  | ret v=>exact q
  | brk=>exact q
  | cont=>exact q
theorem pss_one (h1:PS X st t):PSs X [st] t:=by
  intro pins s σ H D I h
  refine wpAny_execs_cons (thn (h1 pins s σ H D I h) fun f s1 q=>?_)
  cases f with
  | next=>exact wpAny_execs_nil q
  | ret v=>exact q
  | brk=>exact q
  | cont=>exact q
theorem Inv.quiet {pins:List (Addr×Obj)} {σ:St} {H:Hp} {s:Shared} (I:Inv X pins σ H s):interactive X.env=false:=by simp [interactive,I.ok.kind]
def ZEJ (te:TE):TS:=fun D σ H=>te σ H fun _ H1=>D.nx σ H1
theorem ZE4 (he:PE X e te) (hs:swapsWith e none pos.line X.env=pure false:=by rfl):PS X (.Expr e pos) (ZEJ te):=by
  intro pins s σ H D I h
  exact wpAny_Expr_any (thn (he pins s σ H _ I h) fun v s1 ⟨x,H1,I1,r1,q1⟩=>⟨σ,H1,I1,q1⟩) I.quiet hs
def tRet (te:TE):TS:=fun D σ H=>te σ H D.rt
theorem ps_ret (he:PE X e te):PS X (.Return (some e) pos) (tRet te):=by
  intro pins s σ H D I h
  exact wpAny_Return_some (thn (he pins s σ H _ I h) fun v s1 ⟨x,H1,I1,r1,q1⟩=>⟨x,σ,H1,I1,r1,q1⟩)
def tIfS (c:TT) (t u:TS):TS:=fun D σ H=>c σ H fun b H1=>if b=true then t D σ H1 else u D σ H1
theorem ps_if {c:Expr} {a b:List Stmt} {tc:TT} (hc:PT X c tc) (ha:PSs X a t) (hb:PSs X b u):PS X (.If c a b pos) (tIfS tc t u):=by
  intro pins s σ H D I h
  refine wpAny_If (thn (hc pins s σ H _ I h) fun d s1 ⟨H1,I1,q1⟩=>?_)
  cases d with
  | true=>exact ha pins s1 σ H1 D I1 q1
  | false=>exact hb pins s1 σ H1 D I1 q1
end
abbrev TG:=V→St→Hp→(St→Hp→Prop)→Prop
abbrev TGs:=List V→St→Hp→(St→Hp→Prop)→Prop
def PG (X:Cx) (target:Expr) (t:TG):Prop:=
  ∀ (pins:List (Addr×Obj)) (s:Shared) (σ:St) (H:Hp) (v:V) (u:Value) (Q:St→Hp→Prop),Inv X pins σ H s→RelV v u→t v σ H Q→
    wpAny (model X.prog X.w) X.A (assign target X.env u) (fun _ s'=>∃ σ' H',Inv X pins σ' H' s'∧Q σ' H') X.xe s
def PGs (X:Cx) (ts:List Expr) (t:TGs):Prop:=
  ∀ (pins:List (Addr×Obj)) (s:Shared) (σ:St) (H:Hp) (vs:List V) (us:List Value) (Q:St→Hp→Prop),Inv X pins σ H s→Vals vs us→t vs σ H Q→
    wpAny (model X.prog X.w) X.A (assignInOrder ((assignEach ts X.env).map (·.2)) us) (fun _ s'=>∃ σ' H',Inv X pins σ' H' s'∧Q σ' H') X.xe s
abbrev TSet:=V→V→V→Hp→(Hp→Prop)→Prop
def PSet (X:Cx) (t:TSet):Prop:=
  ∀ (pins:List (Addr×Obj)) (s:Shared) (σ:St) (H:Hp) (o i v:V) (ov iv u:Value) (Q:Hp→Prop),Inv X pins σ H s→RelV o ov→RelV i iv→RelV v u→t o i v H Q→
    wpAny (model X.prog X.w) X.A (setItem ov iv u) (fun _ s'=>∃ H',Inv X pins σ H' s'∧Q H') X.xe s
section
variable {X:Cx} {pos:Pos}
def ZBq (i:Nat):TG:=fun v σ H Q=>Q (σ.set i (some v)) H
theorem ZIB {i:Nat} {x:Str} (hN:X.N.Nodup) (hi:X.N[i]?=some x) (hx:Loc X.env.scope x) (hf:X.fn x=true∨X.env.scope.names.lookup x=some .local:=by first | exact .inl rfl | exact .inr rfl | assumption):PG X (.Name x pos) (ZBq i):=by
  intro pins s σ H v u Q I r h
  exact wpAny_assign_Name (ZEF I hN hi hx r (fun s' I'=>⟨_,H,I',h⟩) hf)
def gNil:TGs:=fun vs σ H Q=>vs=[]∧Q σ H
def ZEQ (t:TG) (u:TGs):TGs:=fun vs σ H Q=>∃ v r,vs=v :: r∧t v σ H fun σ' H'=>u r σ' H' Q
theorem pgs_nil:PGs X [] gNil:=by
  intro pins s σ H vs us Q I r h
  obtain ⟨e,h⟩:=h
  subst e
  cases r
  exact assignInOrder_nil ⟨σ,H,I,h⟩
theorem pgs_cons {e:Expr} {es:List Expr} {t:TG} {u:TGs} (h1:PG X e t) (h2:PGs X es u)
    (hs:(assignEach (e :: es) X.env).map (·.2)=assign e X.env :: (assignEach es X.env).map (·.2):=by rfl):PGs X (e :: es) (ZEQ t u):=by
  intro pins s σ H vs us Q I r h
  obtain ⟨v,vr,e1,h⟩:=h
  subst e1
  cases r with
  | cons r rr=>
    rw [hs]
    refine assignInOrder_cons (thn (h1 pins s σ H _ _ _ I r h) fun _ s1 ⟨σ1,H1,I1,q1⟩=>?_)
    exact h2 pins s1 σ1 H1 _ _ Q I1 rr q1
def gTup (K:PySem.W.Frag) (n:Nat) (t:TGs):TG:=fun v σ H Q=>∃ a xs,v=.ref a∧SqT K H a xs∧xs.length=n∧t xs σ H Q
theorem pg_tup {es:List Expr} {k:Nat} {t:TGs} {n:Nat} (hc:X.calm=true) (h:PGs X es t)
    (hn:(assignEach es X.env).length=n:=by rfl) (hst:(assignEach es X.env).findIdx? (·.1)=none:=by rfl):PG X (.Tuple es k pos) (gTup X.K n t):=by
  intro pins s σ H v u Q I r hw
  obtain ⟨a,xs,e1,hq,hl,hw⟩:=hw
  subst e1
  cases r
  obtain ⟨its,rv,ht,hz⟩:=I.tuple hq
  refine assign_Tuple_tuple (I.ok.hd hc) ht (by simp [hn,← hl,rv.length]) hst fun h' hx=>?_
  have I1:Inv X pins σ H { s with heap:=h' }:=I.kept (t':=s.toks) fun b o e=>hx b o (Nat.ne_of_lt (Heap.lt_size e)) e
  exact h pins _ σ H xs _ Q I1 (by simpa using rv) hw
def gSub (to ti:TE) (t:TSet):TG:=fun v σ H Q=>to σ H fun o H1=>ti σ H1 fun i H2=>t o i v H2 fun H3=>Q σ H3
theorem pg_sub {o i:Expr} {to ti:TE} {t:TSet} (ho:PE X o to) (hi:PE X i ti) (hs:PSet X t)
    (ha:∀ v,assign (.Subscript o i pos) X.env v=(do
      let ov ← holding [v] (eval o X.env)
      let iv ← holding [v,ov] (eval i X.env)
      standAt pos
      holding [v,ov,iv] (setItem ov iv v)
      release [v,ov,iv] []):=by intro _;rfl):PG X (.Subscript o i pos) (gSub to ti t):=by
  intro pins s σ H v u Q I r h
  rw [ha]
  refine wpAny_bind (wpAny_holding (thn (ho pins s σ H _ I h) fun ov s1 ⟨x,H1,I1,r1,q1⟩=>?_))
  refine wpAny_bind (wpAny_holding (thn (hi pins s1 σ H1 _ I1 q1) fun iv s2 ⟨y,H2,I2,r2,q2⟩=>?_))
  refine wpAny_bind (wpAny_standAt (wpAny_bind (wpAny_holding (thn (hs pins s2 σ H2 x y v ov iv u _ I2 r1 r2 r q2) fun _ s3 ⟨H3,I3,q3⟩=>?_))))
  exact wpAny_release ⟨σ,H3,I3,q3⟩
def tAsg (te:TE) (g:TG):TS:=fun D σ H=>te σ H fun x H1=>g x σ H1 D.nx
theorem ps_asg {tg e:Expr} {te:TE} {g:TG} (he:PE X e te) (hg:PG X tg g) (hs:swapsWithSole [tg] e pos.line X.env=pure false:=by rfl) (hw:swappedStores [tg] e X.env=pure none:=by rfl)
    (h1:(assignEach [tg] X.env).map (·.2)=[assign tg X.env]:=by rfl):PS X (.Assign [tg] e pos) (tAsg te g):=by
  intro pins s σ H D I h
  refine wpAny_Assign_stores (thn (he pins s σ H _ I h) fun v s1 ⟨x,H1,I1,r1,q1⟩=>?_) hs hw
  rw [h1]
  exact thn (hg pins s1 σ H1 x v _ I1 r1 q1) fun _ s2 q=>q
theorem ps_set {i:Nat} {x:Str} {e:Expr} {te:TE} {pos':Pos} (hN:X.N.Nodup) (hi:X.N[i]?=some x) (hx:Loc X.env.scope x) (he:PE X e te) (hs:swapsWith e (some (.Name x pos')) pos.line X.env=pure false:=by rfl) (hf:X.fn x=true∨X.env.scope.names.lookup x=some .local:=by first | exact .inl rfl | exact .inr rfl | assumption) :
    PS X (.Assign [.Name x pos'] e pos) (tAsg te (ZBq i)):=by
  intro pins s σ H D I h
  refine wpAny_Assign_Name (thn (he pins s σ H _ I h) fun v s1 ⟨y,H1,I1,r1,q1⟩=>?_) hs
  exact ZEF I1 hN hi hx r1 (fun s2 I2=>⟨_,H1,I2,q1⟩) hf
end
section
variable {X:Cx} {pos:Pos}
def tWhile (c:TT) (tb:TS):TS:=fun D σ H=>∃ W:Nat→St→Hp→Prop,(∃ m,W m σ H)∧∀ m σ H,W m σ H→
  c σ H fun b H1=>if b=true then ∃ N:St→Hp→Prop,(∀ σ' H',N σ' H'→∃ m',m' < m∧W m' σ' H')∧tb { D with nx:=N,ct:=N,bk:=D.nx } σ H1 else D.nx σ H1
theorem ps_while {c:Expr} {body:List Stmt} {tc:TT} {tb:TS} (hp:PassesOwn (model X.prog X.w) X.A X.env X.xe) (hc:PT X c tc) (hb:PSs X body tb):PS X (.While c body [] pos) (tWhile tc tb):=by
  intro pins s σ H D I h
  obtain ⟨W,⟨m0,w0⟩,turn⟩:=h
  refine wpAny_While (codeAny_whileLoop (fun n s'=>∃ σ' H',Inv X pins σ' H' s'∧W n σ' H') ?_ m0 ⟨σ,H,I,w0⟩)
  rintro n s1 ⟨σ1,H1,I1,w1⟩
  refine wpAny_passesOwn hp (thn (hc pins s1 σ1 H1 _ I1 (turn n σ1 H1 w1)) fun b s2 ⟨H2,I2,q2⟩=>?_)
  cases b with
  | true=>
    obtain ⟨N,hN,q2⟩:=q2
    rw [if_pos rfl]
    refine wpAny_passesOwn hp (thn (hb pins s2 σ1 H2 _ I2 q2) fun f s3 q3=>?_)
    cases f with
    | next=>
      obtain ⟨σ3,H3,I3,n3⟩:=q3
      obtain ⟨m',hm,w3⟩:=hN σ3 H3 n3
      exact ⟨m',hm,σ3,H3,I3,w3⟩
    | cont=>
      obtain ⟨σ3,H3,I3,n3⟩:=q3
      obtain ⟨m',hm,w3⟩:=hN σ3 H3 n3
      exact ⟨m',hm,σ3,H3,I3,w3⟩
    | brk=>exact q3
    | ret v=>exact q3
  | false=>
    rw [if_neg Bool.false_ne_true]
    exact wpAny_execs_nil ⟨σ1,H2,I2,q2⟩
end
structure It where
  go:Nat→Hp→Prop
  yld:Nat→Hp→V→Hp→Prop
  stop:Nat→Hp→Prop
def ZCZ (X:Cx) (pins:List (Addr×Obj)) (H:Hp) (b:Addr):Prop:=
  H b=none∧b≠X.env.locals∧b∉X.fs∧(b∈X.ex∨X.s₀.heap.objs.size≤b)∧(∀ x c,X.env.cells.lookup x=some c→c≠b)∧∀ p∈X.pn++pins,p.1≠b
theorem Inv.fpOk {X:Cx} {pins:List (Addr×Obj)} {σ:St} {H H':Hp} {s:Shared} {b:Addr} (I:Inv X pins σ H s) (hb:s.heap.objs.size≤b) (hn:H' b=none):ZCZ X pins H' b:=by
  refine ⟨hn,Nat.ne_of_gt (Nat.lt_of_lt_of_le I.lt hb),I.nofs hb,.inr (Nat.le_trans I.sz hb),fun x c e z=>?_,fun p hp z=>?_⟩
  · obtain ⟨v,q⟩:=I.cell x c e
    exact absurd (Nat.lt_of_lt_of_le q.lt (by rw [z];exact hb)) (Nat.lt_irrefl _)
  · exact absurd (Nat.lt_of_lt_of_le (Heap.lt_size (I.pin p hp).1) (by rw [z];exact hb)) (Nat.lt_irrefl _)
structure Turn (P:Program) (w:World) (K:PySem.W.Frag) (tg:Expr) (J:It) (fp:List Addr) (it:Addr) (tn:Nat→Heap→Prop):Prop where
  mem:it∈fp
  obj:∀ i h,tn i h→∀ b∈fp,∃ o,h.get? b=some o∧∀ v,o.data≠.cell v
  keep:∀ i h h',tn i h→(∀ b∈fp,∀ o,h.get? b=some o→h'.get? b=some o)→tn i h'
  item:∀ (X:Cx),X.prog=P→X.w=w→X.K=K→X.calm=true→∀ (i:Nat) (pins:List (Addr×Obj)) (s:Shared) (σ:St) (H:Hp) (E:Value→Shared→Prop),Inv X pins σ H s→(∀ b∈fp,ZCZ X pins H b)→tn i s.heap→J.go i H→
    wpAny (model P w) X.A (pyNext (.ref it)) (fun r s1=>∃ u,r=some u∧
      wpAny (model P w) X.A (letOwnedTupleGo tg (.ref it) u) (fun _ s2=>∃ x H',Inv X pins σ H' s2∧RelV x u∧J.yld i H x H'∧tn (i+1) s2.heap∧∀ b∈fp,H' b=none) E s1) E s
  done:∀ (X:Cx),X.prog=P→X.w=w→X.K=K→X.calm=true→∀ (i:Nat) (pins:List (Addr×Obj)) (s:Shared) (σ:St) (H:Hp) (E:Value→Shared→Prop),Inv X pins σ H s→(∀ b∈fp,ZCZ X pins H b)→tn i s.heap→J.stop i H→
    wpAny (model P w) X.A (pyNext (.ref it)) (fun r s1=>r=none∧Inv X pins σ H s1) E s
  self:∀ (A:Around) (i:Nat) (s:Shared) (Q:Value→Shared→Prop) (E:Value→Shared→Prop),tn i s.heap→Q (.ref it) s→wpAny (model P w) A (pyIter (.ref it)) Q E s
abbrev TI:=St→Hp→(It→Hp→Prop)→Prop
def PIE (X:Cx) (pins:List (Addr×Obj)) (σ:St) (tg:Expr) (R:It→Hp→Prop) (itv:Value) (s2:Shared):Prop:=
  ∃ (it:Addr) (fp:List Addr) (tn:Nat→Heap→Prop) (J:It) (H':Hp),itv=.ref it∧Inv X pins σ H' s2∧Turn X.prog X.w X.K tg J fp it tn∧tn 0 s2.heap∧(∀ b∈fp,ZCZ X pins H' b)∧R J H'
def PI (X:Cx) (tg iter:Expr) (wi:TI):Prop:=
  ∀ (pins:List (Addr×Obj)) (s:Shared) (σ:St) (H:Hp) (R:It→Hp→Prop),Inv X pins σ H s→wi σ H R→
    wpAny (model X.prog X.w) X.A (eval iter X.env) (fun v s1=>wpAny (model X.prog X.w) X.A (pyIter v) (PIE X pins σ tg R) X.xe s1) X.xe s
theorem go_of {M:Model} {A:Around} {E:Value→Shared→Prop} {s:Shared} {tg:Expr} {it:Addr} {u:Value} {o:Obj} {n:String} {vs:Array Value} {Q:Unit→Shared→Prop} (ho:s.heap.get? it=some o) (hc:o.cls=.type n) (hd:o.data=.fields vs)
    (hn:["enumerate", "zip", "dict_itemiterator", "dict_reverseitemiterator", "odict_iterator", "itertools.zip_longest", "itertools.pairwise"].contains n=false) (hQ:Q () s):wpAny M A (letOwnedTupleGo tg (.ref it) u) Q E s:=by
  unfold letOwnedTupleGo
  cases tg <;> first
    | exact wpAny_pure hQ
    | (cases u <;> first
        | exact wpAny_pure hQ
        | (refine wpAny_bind (wpAny_load ho ?_)
           rw [hc,hd]
           show wpAny M A (if (["enumerate", "zip", "dict_itemiterator", "dict_reverseitemiterator", "odict_iterator", "itertools.zip_longest", "itertools.pairwise"].contains n && vs[0]? == some (rawInt _))=true then _ else _) Q E s
           rw [if_neg (by intro h;rw [hn,Bool.false_and] at h;cases h)]
           exact wpAny_pure hQ))
def Itl (K:PySem.W.Frag) (a:Addr):It:=
  ⟨fun i H=>∃ xs x,SqL K H a xs∧xs[i]?=some x,fun i H x H'=>H'=H∧∀ xs,SqL K H a xs→xs[i]?=some x,fun i H=>∃ xs,SqL K H a xs∧xs.length≤i⟩
def Itt (K:PySem.W.Frag) (a:Addr):It:=
  ⟨fun i H=>∃ xs x,SqT K H a xs∧xs[i]?=some x,fun i H x H'=>H'=H∧∀ xs,SqT K H a xs→xs[i]?=some x,fun i H=>∃ xs,SqT K H a xs∧xs.length≤i⟩
def Itr (lo:Int) (n:Nat):It:=⟨fun i _=>i < n,fun i H x H'=>H'=H∧x=.int (lo+i),fun i _=>n≤i⟩
theorem ZCA {P:Program} {w:World} {K:PySem.W.Frag} {tg:Expr} (a it:Addr):Turn P w K tg (Itl K a) [it] it (fun i h=>h.IsListIter it a i) where
  mem:=by simp
  obj:=fun i h st b hb=>by
    have e:b=it:=by simpa using hb
    subst e
    obtain ⟨o,e,c,d⟩:=st
    exact ⟨o,e,fun v z=>by rw [d] at z;cases z⟩
  keep:=fun i h h' st k=>st.at fun o e=>k it (by simp) o e
  item:=by
    intro X hP hw hK hc i pins s σ H E I hf st hg
    subst hP hw hK
    obtain ⟨xs,x,hq,hx⟩:=hg
    obtain ⟨its,rv,p,hz⟩:=I.list hq
    obtain ⟨u,hu,ru⟩:=rv.get hx
    obtain ⟨f0,f1,f2,f3,f4,f5⟩:=hf it (by simp)
    refine wpAny_pyNext_list_item st p.isList (x:=u) (by simpa using hu) fun h' st' sb=>?_
    have I1:Inv X pins σ H { s with heap:=h' }:=I.turned (t':=s.toks) (fun b o hb e=>(sb.2 b hb).trans e) f0 f1 f3 f4 f5
    obtain ⟨o,e,c,d⟩:=id st'
    exact ⟨u,rfl,go_of (s:={ s with heap:=h' }) e c d (by decide) ⟨x,H,I1,ru,⟨rfl,fun ys hy=>by rw [I.list_inj hy hq];exact hx⟩,st',fun b hb=>(hf b hb).1⟩⟩
  done:=by
    intro X hP hw hK hc i pins s σ H E I hf st hg
    subst hP hw hK
    obtain ⟨xs,hq,hx⟩:=hg
    obtain ⟨its,rv,p,hz⟩:=I.list hq
    obtain ⟨f0,f1,f2,f3,f4,f5⟩:=hf it (by simp)
    have hl:=rv.length
    exact wpAny_pyNext_list_end (I.ok.hd hc) st p.isList (by simp;omega) fun h' eb=>⟨rfl,I.turned (t':=s.toks) (fun b o hb e=>eb b o hb e) f0 f1 f3 f4 f5⟩
  self:=fun _ _ _ _ _ st h=>wpAny_pyIter_listiter st h
theorem ZBn {P:Program} {w:World} {K:PySem.W.Frag} {tg:Expr} (a it:Addr):Turn P w K tg (Itt K a) [it] it (fun i h=>h.IsTupleIter it a i) where
  mem:=by simp
  obj:=fun i h st b hb=>by
    have e:b=it:=by simpa using hb
    subst e
    obtain ⟨o,e,c,d⟩:=st
    exact ⟨o,e,fun v z=>by rw [d] at z;cases z⟩
  keep:=fun i h h' st k=>st.at fun o e=>k it (by simp) o e
  item:=by
    intro X hP hw hK hc i pins s σ H E I hf st hg
    subst hP hw hK
    obtain ⟨xs,x,hq,hx⟩:=hg
    obtain ⟨its,rv,p,hz⟩:=I.tuple hq
    obtain ⟨u,hu,ru⟩:=rv.get hx
    obtain ⟨f0,f1,f2,f3,f4,f5⟩:=hf it (by simp)
    refine wpAny_pyNext_tuple_item st (show s.heap.IsTuple a its.toArray from p) (x:=u) (by simpa using hu) fun h' st' sb=>?_
    have I1:Inv X pins σ H { s with heap:=h' }:=I.turned (t':=s.toks) (fun b o hb e=>(sb.2 b hb).trans e) f0 f1 f3 f4 f5
    obtain ⟨o,e,c,d⟩:=id st'
    exact ⟨u,rfl,go_of (s:={ s with heap:=h' }) e c d (by decide) ⟨x,H,I1,ru,⟨rfl,fun ys hy=>by rw [I.tuple_inj hy hq];exact hx⟩,st',fun b hb=>(hf b hb).1⟩⟩
  done:=by
    intro X hP hw hK hc i pins s σ H E I hf st hg
    subst hP hw hK
    obtain ⟨xs,hq,hx⟩:=hg
    obtain ⟨its,rv,p,hz⟩:=I.tuple hq
    obtain ⟨f0,f1,f2,f3,f4,f5⟩:=hf it (by simp)
    have hl:=rv.length
    exact wpAny_pyNext_tuple_end (I.ok.hd hc) st (show s.heap.IsTuple a its.toArray from p) (by simp;omega) fun h' eb=>⟨rfl,I.turned (t':=s.toks) (fun b o hb e=>eb b o hb e) f0 f1 f3 f4 f5⟩
  self:=fun _ _ _ _ _ st h=>wpAny_pyIter_tupleiter st h
theorem ZHq {P:Program} {w:World} {K:PySem.W.Frag} {tg:Expr} (it:Addr) (lo:Int) (n:Nat):Turn P w K tg (Itr lo n) [it] it (fun i h=>IsRangeIter h it (lo+(i:Nat) * 1) ((n:Int) - (i:Nat)) 1) where
  mem:=by simp
  obj:=fun i h st b hb=>by
    have e:b=it:=by simpa using hb
    subst e
    exact ⟨_,st,fun v z=>by
      have z':Data.fields _=Data.cell v:=z
      cases z'⟩
  keep:=fun i h h' st k=>k it (by simp) _ st
  item:=by
    intro X hP hw hK hc i pins s σ H E I hf st hg
    subst hP hw hK
    obtain ⟨f0,f1,f2,f3,f4,f5⟩:=hf it (by simp)
    have W:=Walks.range (prog:=X.prog) (w:=X.w) (I.ok.hd hc) it lo 1 n
    refine W.item i s _ _ hg st fun v h' tk hv st' kk=>?_
    obtain ⟨t,rfl⟩:=hv
    have I1:Inv X pins σ H { s with heap:=h',toks:=tk }:=I.turned (fun b o hb e=>kk b o (by simpa using hb) e) f0 f1 f3 f4 f5
    refine ⟨_,rfl,go_of (s:={ s with heap:=h',toks:=tk }) (n := "range_iterator") st' rfl rfl (by decide) ⟨.int (lo+i),H,I1,⟨t,?_⟩,⟨rfl,rfl⟩,st',fun b hb=>(hf b hb).1⟩⟩
    rw [Int.mul_one]
  done:=by
    intro X hP hw hK hc i pins s σ H E I hf st hg
    subst hP hw hK
    obtain ⟨f0,f1,f2,f3,f4,f5⟩:=hf it (by simp)
    exact wpAny_pyNext_range_end (I.ok.hd hc) st (by have:n≤i:=hg;omega) fun h' eb=>⟨rfl,I.turned (t':=s.toks) (fun b o hb e=>eb b o hb e) f0 f1 f3 f4 f5⟩
  self:=fun _ _ _ _ _ st h=>wpAny_pyIter_rangeiter st h
end L2
namespace L2
open PySem PySem.Spec PyProof.Rows
section
variable {X:Cx} {tg:Expr}
theorem ZGd {pins:List (Addr×Obj)} {σ:St} {H:Hp} {s:Shared} {R:It→Hp→Prop} {E:Value→Shared→Prop} {lo hi:Int} {t u v:Tok} {tk:Nat} (I:Inv X pins σ H s) (h1:-(2 ^ 62)≤lo) (h2:lo < 2 ^ 62) (h3:-(2 ^ 62)≤hi) (h4:hi < 2 ^ 62)
    (q:R (Itr lo (hi - lo).toNat) H):wpAny (model X.prog X.w) X.A (pyIter (.ref s.heap.objs.size)) (PIE X pins σ tg R) E { s with heap:=s.heap.push { cls:=.type "range", data:=.fields #[.int lo t,.int hi u,.int 1 v] },toks:=tk }:=by
  refine wpAny_pyIter_range (IsRange.new ..) (small_one h1 h2 h3 h4) ?_
  have I1:Inv X pins σ H { s with heap:=s.heap.push { cls:=.type "range", data:=.fields #[.int lo t,.int hi u,.int 1 v] },toks:=tk }:=I.kept fun b o e=>Heap.get?_push_of_some _ e
  refine ⟨(s.heap.push { cls:=.type "range", data:=.fields #[.int lo t,.int hi u,.int 1 v] }).objs.size,[(s.heap.push { cls:=.type "range", data:=.fields #[.int lo t,.int hi u,.int 1 v] }).objs.size],_,_,H,rfl,
    I1.kept (t':=tk) fun b o e=>Heap.get?_push_of_some _ e,ZHq _ lo (hi - lo).toNat,?_,fun b hb=>?_,q⟩
  · have e1:lo+((0:Nat):Int) * 1=lo:=by simp
    have e2:(((hi - lo).toNat:Nat):Int) - ((0:Nat):Int)=Builtin.Range.rangeSize lo hi 1:=by rw [rangeSize_one];split <;> omega
    show IsRangeIter _ _ (lo+((0:Nat):Int) * 1) ((((hi - lo).toNat:Nat):Int) - ((0:Nat):Int)) 1
    rw [e1,e2]
    exact Heap.get?_push_size _ rfl
  · have e:b=(s.heap.push { cls:=.type "range", data:=.fields #[.int lo t,.int hi u,.int 1 v] }).objs.size:=by simpa using hb
    subst e
    exact I1.fpOk (Nat.le_refl _) (I1.hok.fresh (Nat.le_refl _))
def iRng1 (ta:TA):TI:=fun σ H R=>ta σ H fun vs H1=>∃ j:Int,vs=[.int j]∧-(2 ^ 62)≤j∧j < 2 ^ 62∧R (Itr 0 j.toNat) H1
def iRng2 (ta:TA):TI:=fun σ H R=>ta σ H fun vs H1=>∃ i j:Int,vs=[.int i,.int j]∧(-(2 ^ 62)≤i∧i < 2 ^ 62∧-(2 ^ 62)≤j∧j < 2 ^ 62)∧R (Itr i (j - i).toNat) H1
theorem ZIW {a:Expr} {ta:TA} {p pos:Pos} (hg:Gl X "range") (hm:X.mg "range" = none) (ha:PA X [a] ta) (hs:starEach [a] X.env=[(false,eval a X.env)]:=by rfl):PI X tg (.Call (.Name "range" p) [a] [] pos) (iRng1 ta):=by
  intro pins s σ H R I h
  refine Call_ (ZDa I hg hm boot_range (PyProof.Rows.callWith_type1 (thn (ha pos pins s σ H _ I h) fun us s1 ⟨vs,H1,I1,r1,q1⟩=>?_) hs rfl))
  obtain ⟨j,e,q1,q2,q⟩:=q1
  subst e
  cases r1 with
  | cons r rr=>
    cases rr
    obtain ⟨t,rfl⟩:=r
    exact call_range_1 (ZGd I1 (by omega) (by omega) q1 q2 (by simpa using q))
theorem ZIU {a b:Expr} {ta:TA} {p pos:Pos} (hg:Gl X "range") (hm:X.mg "range" = none) (ha:PA X [a,b] ta) (hs:starEach [a,b] X.env=[(false,eval a X.env),(false,eval b X.env)]:=by rfl) (hs2:starEach [b] X.env=[(false,eval b X.env)]:=by rfl) :
    PI X tg (.Call (.Name "range" p) [a,b] [] pos) (iRng2 ta):=by
  intro pins s σ H R I h
  refine Call_ (ZDa I hg hm boot_range (PyProof.Rows.callWith_type1 (thn (ha pos pins s σ H _ I h) fun us s1 ⟨vs,H1,I1,r1,q1⟩=>?_) (by rw [hs,hs2]) (by rw [hs2];rfl)))
  obtain ⟨i,j,e,⟨q1,q2,q3,q4⟩,q⟩:=q1
  subst e
  cases r1 with
  | cons r rr=>
    cases rr with
    | cons r' rr=>
      cases rr
      obtain ⟨t,rfl⟩:=r
      obtain ⟨t',rfl⟩:=r'
      exact call_range_2 (ZGd I1 q1 q2 q3 q4 q)
def tFor (wi:TI) (g:TG) (tb:TS):TS:=fun D σ H=>wi σ H fun J H1=>∃ W:Nat→Nat→St→Hp→Prop,(∃ m,W 0 m σ H1)∧∀ i m σ H,W i m σ H→
  (J.stop i H∧D.nx σ H)∨(J.go i H∧∃ N:St→Hp→Prop,(∀ σ' H',N σ' H'→∃ m',m' < m∧W (i+1) m' σ' H')∧∀ x H',J.yld i H x H'→g x σ H' fun σ2 H2=>tb { D with nx:=N,ct:=N,bk:=D.nx } σ2 H2)
def ZEV (fp:List Addr) (h:Heap):List (Addr×Obj):=fp.filterMap fun b=>(h.get? b).map fun o=>(b,o)
theorem ZCF {fp:List Addr} {h:Heap} {b:Addr} {o:Obj} (hb:b∈fp) (e:h.get? b=some o):(b,o)∈ZEV fp h:=List.mem_filterMap.mpr ⟨b,hb,by rw [e];rfl⟩
theorem ZIq {fp:List Addr} {h:Heap} {p:Addr×Obj} (hp:p∈ZEV fp h):p.1∈fp∧h.get? p.1=some p.2:=by
  obtain ⟨b,hb,e⟩:=List.mem_filterMap.mp hp
  cases q:h.get? b with
  | none=>rw [q] at e;cases e
  | some o=>
    rw [q] at e
    have e':(b,o)=p:=Option.some.inj e
    subst e'
    exact ⟨hb,q⟩
theorem Inv.pinned {pins:List (Addr×Obj)} {σ:St} {H:Hp} {s:Shared} {fp:List Addr} (I:Inv X pins σ H s) (hf:∀ b∈fp,ZCZ X pins H b) (ho:∀ b∈fp,∃ o,s.heap.get? b=some o∧∀ v,o.data≠.cell v):Inv X (pins++ZEV fp s.heap) σ H s:=
  I.pins_of fun p hp=>(List.mem_append.mp hp).elim (fun z=>I.pin p (List.mem_append_right _ z)) fun z=>by
    obtain ⟨hb,e⟩:=ZIq z
    obtain ⟨f0,f1,f2,_⟩:=hf p.1 hb
    obtain ⟨o,e',d⟩:=ho p.1 hb
    rw [e] at e';cases e'
    exact ⟨e,f0,f1,f2,d⟩
theorem Inv.unpinned {pins pl:List (Addr×Obj)} {σ:St} {H:Hp} {s:Shared} (I:Inv X (pins++pl) σ H s):Inv X pins σ H s:=I.pins_of fun p hp=>I.pin p (List.mem_append_right _ (List.mem_append_left _ hp))
theorem ps_for {iter:Expr} {body:List Stmt} {wi:TI} {g:TG} {tb:TS} {pos:Pos} (hp:PassesOwn (model X.prog X.w) X.A X.env X.xe) (hc:X.calm=true) (hi:PI X tg iter wi) (hg:PG X tg g) (hb:PSs X body tb)
    (hs:∀ x,foldedSetIterable iter X.env x=pure x:=by intro _;rfl):PS X (.For tg iter body [] pos) (tFor wi g tb):=by
  intro pins s σ H D I h
  refine wpAny_For (thn (hi pins s σ H _ I h) fun v s1 h1=>thn h1 fun itv s2 h2=>?_) hs
  obtain ⟨it,fp,tn,J,H2,e,I2,T,st2,f2,W,⟨m0,w0⟩,turn⟩:=h2
  subst e
  -- what stays true of the iterator's objects through the loop
  have stat:∀ {H':Hp},(∀ b∈fp,H' b=none)→∀ b∈fp,ZCZ X pins H' b:=fun hn b hb=>⟨hn b hb,(f2 b hb).2⟩
  refine codeAny_forLoop_any (fun n s'=>∃ i σ' H',Inv X pins σ' H' s'∧tn i s'.heap∧(∀ b∈fp,H' b=none)∧W i n σ' H') ?_ m0 ⟨0,σ,H2,I2,st2,fun b hb=>(f2 b hb).1,w0⟩
  rintro n s3 ⟨i,σ3,H3,I3,st3,fr3,w3⟩
  rcases turn i n σ3 H3 w3 with ⟨stop,qn⟩ | ⟨go,N,hN,step⟩
  · refine wpAny_passesOwn hp (thn (T.done X rfl rfl rfl hc i pins s3 σ3 H3 X.xe I3 (stat fr3) st3 stop) fun r s4 ⟨hr,I4⟩=>?_)
    subst hr
    exact wpAny_execs_nil ⟨σ3,H3,I4,qn⟩
  · refine wpAny_passesOwn hp (thn (T.item X rfl rfl rfl hc i pins s3 σ3 H3 X.xe I3 (stat fr3) st3 go) fun r s4 ⟨u,hr,h4⟩=>?_)
    subst hr
    refine wpAny_passesOwn hp (thn h4 fun _ s5 ⟨x,H5,I5,r5,y5,st5,fr5⟩=>?_)
    have I5':=I5.pinned (stat fr5) (T.obj _ _ st5)
    refine wpAny_passesOwn hp (thn (hg _ s5 σ3 H5 x u _ I5' r5 (step x H5 y5)) fun _ s6 ⟨σ6,H6,I6,q6⟩=>?_)
    refine wpAny_passesOwn hp (thn (hb _ s6 σ6 H6 _ I6 q6) fun f s7 q7=>?_)
    have again:∀ {σ7:St} {H7:Hp},Inv X (pins++ZEV fp s5.heap) σ7 H7 s7→N σ7 H7→∃ m,m < n∧∃ i σ' H',Inv X pins σ' H' s7∧tn i s7.heap∧(∀ b∈fp,H' b=none)∧W i m σ' H':=fun {σ7 H7} I7 n7=>by
      obtain ⟨m',hm,w7⟩:=hN σ7 H7 n7
      refine ⟨m',hm,i+1,σ7,H7,I7.unpinned,T.keep _ _ _ st5 fun b hb o e=>(I7.pin (b,o) (List.mem_append_right _ (List.mem_append_right _ (ZCF hb e)))).1,fun b hb=>?_,w7⟩
      obtain ⟨o,e,d⟩:=T.obj _ _ st5 b hb
      exact (I7.pin (b,o) (List.mem_append_right _ (List.mem_append_right _ (ZCF hb e)))).2.1
    cases f with
    | next=>obtain ⟨σ7,H7,I7,n7⟩:=q7;exact again I7 n7
    | cont=>obtain ⟨σ7,H7,I7,n7⟩:=q7;exact again I7 n7
    | brk=>obtain ⟨σ7,H7,I7,q7⟩:=q7;exact ⟨σ7,H7,I7.unpinned,q7⟩
    | ret v=>obtain ⟨x7,σ7,H7,I7,r7,q7⟩:=q7;exact ⟨x7,σ7,H7,I7.unpinned,r7,q7⟩
end
theorem ZIb {lo:Int} {n:Nat} {g:TG} {tb:TS} {D:Ends} {σ:St} {H:Hp} (Pv:Nat→St→Hp→Prop) (h0:Pv 0 σ H)
    (hs:∀ i σ H,i < n→Pv i σ H→g (.int (lo+i)) σ H fun σ2 H2=>tb { D with nx:=Pv (i+1),ct:=Pv (i+1),bk:=D.nx } σ2 H2) (hd:∀ σ H,Pv n σ H→D.nx σ H) :
    ∃ W:Nat→Nat→St→Hp→Prop,(∃ m,W 0 m σ H)∧∀ i m σ H,W i m σ H→
      ((Itr lo n).stop i H∧D.nx σ H)∨((Itr lo n).go i H∧∃ N:St→Hp→Prop,(∀ σ' H',N σ' H'→∃ m',m' < m∧W (i+1) m' σ' H')∧∀ x H',(Itr lo n).yld i H x H'→g x σ H' fun σ2 H2=>tb { D with nx:=N,ct:=N,bk:=D.nx } σ2 H2):=by
  refine ⟨fun i m σ H=>m=n - i∧i≤n∧Pv i σ H,⟨n,by simp,Nat.zero_le _,h0⟩,?_⟩
  rintro i m σ H ⟨rfl,hi,p⟩
  by_cases hlt:i < n
  · refine .inr ⟨hlt,Pv (i+1),fun σ' H' p'=>⟨n - (i+1),by omega,rfl,hlt,p'⟩,fun x H' y=>?_⟩
    obtain ⟨e,y⟩:=y
    subst e y
    exact hs i σ _ hlt p
  · have e:i=n:=by omega
    subst e
    exact .inl ⟨Nat.le_refl _,hd σ H p⟩
end L2
namespace L2
open PySem PySem.Spec PyProof.Rows
abbrev R2:=V→V→Hp→VK→Prop
def OpR (X:Cx) (f:Value→Value→Sem Value) (r:R2):Prop:=
  ∀ (pins:List (Addr×Obj)) (s:Shared) (σ:St) (H:Hp) (x y:V) (v u:Value) (Q:VK),Inv X pins σ H s→RelV x v→RelV y u→r x y H Q→
    wpAny (model X.prog X.w) X.A (f v u) (EP X pins σ Q) X.xe s
def ZC7 (X:Cx) (f:Value) (r:List V→Hp→VK→Prop):Prop:=
  ∀ (pins:List (Addr×Obj)) (s:Shared) (σ:St) (H:Hp) (xs:List V) (us:List Value) (Q:VK),Inv X pins σ H s→Vals xs us→r xs H Q→
    wpAny (model X.prog X.w) X.A (call f us) (EP X pins σ Q) X.xe s
def tOp (r:R2) (ta tb:TE):TE:=fun σ H Q=>ta σ H fun x H1=>tb σ H1 fun y H2=>r x y H2 Q
def tUn (r:V→Hp→VK→Prop) (ta:TE):TE:=fun σ H Q=>ta σ H fun x H1=>r x H1 Q
def rI (C:Int→Int→Prop) (g:Int→Int→V):R2:=fun x y H Q=>∃ i j,x=.int i∧y=.int j∧C i j∧Q (g i j) H
def rI0 (g:Int→Int→V):R2:=fun x y H Q=>∃ i j,x=.int i∧y=.int j∧Q (g i j) H
def rU (g:Int→V):V→Hp→VK→Prop:=fun x H Q=>∃ i,x=.int i∧Q (g i) H
section
variable {X:Cx} {a b c:Expr} {ta tb tc:TE} {pos:Pos}
theorem binT (ha:PE X a ta) (hb:PE X b tb) {pins:List (Addr×Obj)} {s:Shared} {σ:St} {H:Hp} {R:V→V→Hp→Prop} (I:Inv X pins σ H s)
    (h:ta σ H fun x H1=>tb σ H1 fun y H2=>R x y H2) {Q:Value→Shared→Prop} {f:Value→Value→Sem Value}
    (hf:∀ v u s2 x y H2,Inv X pins σ H2 s2→RelV x v→RelV y u→R x y H2→wpAny (model X.prog X.w) X.A (f v u) Q X.xe s2) :
    wpAny (model X.prog X.w) X.A (eval a X.env) (fun v s₁=>wpAny (model X.prog X.w) X.A (eval b X.env) (fun u s₂=>wpAny (model X.prog X.w) X.A (f v u) Q X.xe s₂) X.xe s₁) X.xe s:=by
  refine thn (ha pins s σ H _ I h) fun v s1 ⟨x,H1,I1,r1,q1⟩=>?_
  refine thn (hb pins s1 σ H1 _ I1 q1) fun u s2 ⟨y,H2,I2,r2,q2⟩=>?_
  exact hf v u s2 x y H2 I2 r1 r2 q2
theorem pe_op {op:Operator} {r:R2} (ho:OpR X (binaryOp op) r) (ha:PE X a ta) (hb:PE X b tb):PE X (.BinOp a op b pos) (tOp r ta tb):=by
  intro pins s σ H Q I h
  exact wpAny_BinOp (binT ha hb I h fun v u s2 x y H2 I2 rx ry q=>ho pins s2 σ H2 x y v u Q I2 rx ry q)
theorem opI {f:Value→Value→Sem Value} {C:Int→Int→Prop} {g:Int→Int→Int}
    (rule:∀ (i j:Int) (t u:Tok) (s:Shared) (Q:Value→Shared→Prop) (E:Value→Shared→Prop),C i j→Q (.int (g i j) s.toks) { s with toks:=s.toks+1 }→wpAny (model X.prog X.w) X.A (f (.int i t) (.int j u)) Q E s) :
    OpR X f (rI C fun i j=>.int (g i j)):=by
  intro pins s σ H x y v u Q I rx ry h
  obtain ⟨i,j,rfl,rfl,hc,q⟩:=h
  obtain ⟨t,rfl⟩:=rx
  obtain ⟨t',rfl⟩:=ry
  exact rule i j t t' s _ _ hc ⟨.int (g i j),H,I.tok _,⟨_,rfl⟩,q⟩
theorem opI0 {f:Value→Value→Sem Value} {g:Int→Int→Int}
    (rule:∀ (i j:Int) (t u:Tok) (s:Shared) (Q:Value→Shared→Prop) (E:Value→Shared→Prop),Q (.int (g i j) s.toks) { s with toks:=s.toks+1 }→wpAny (model X.prog X.w) X.A (f (.int i t) (.int j u)) Q E s) :
    OpR X f (rI0 fun i j=>.int (g i j)):=by
  intro pins s σ H x y v u Q I rx ry h
  obtain ⟨i,j,rfl,rfl,q⟩:=h
  obtain ⟨t,rfl⟩:=rx
  obtain ⟨t',rfl⟩:=ry
  exact rule i j t t' s _ _ ⟨.int (g i j),H,I.tok _,⟨_,rfl⟩,q⟩
theorem opB0 {f:Value→Value→Sem Value} {g:Int→Int→Bool}
    (rule:∀ (i j:Int) (t u:Tok) (s:Shared) (Q:Value→Shared→Prop) (E:Value→Shared→Prop),Q (.bool (g i j)) s→wpAny (model X.prog X.w) X.A (f (.int i t) (.int j u)) Q E s) :
    OpR X f (rI0 fun i j=>.bl (g i j)):=by
  intro pins s σ H x y v u Q I rx ry h
  obtain ⟨i,j,rfl,rfl,q⟩:=h
  obtain ⟨t,rfl⟩:=rx
  obtain ⟨t',rfl⟩:=ry
  exact rule i j t t' s _ _ ⟨.bl (g i j),H,I,rfl,q⟩
def CPow (i j:Int):Prop:=0≤j∧j≤1000000∧i.natAbs < 2 ^ 64
theorem ZBU:OpR X (binaryOp .Add) (rI0 fun i j=>.int (i+j)):=opI0 fun _ _ _ _ _ _ _ q=>add_int q
theorem ZEa:OpR X (binaryOp .Sub) (rI0 fun i j=>.int (i - j)):=opI0 fun _ _ _ _ _ _ _ q=>sub_int q
theorem ZCO:OpR X (binaryOp .Mod) (rI (fun _ j=>0 < j) fun i j=>.int (i % j)):=opI fun i j _ _ _ _ _ hc q=>by
  have h1:(0:Int) < j:=hc
  exact mod_int' (by omega) (by rw [Int.fmod_eq_emod_of_nonneg i (by omega)];exact q)
theorem ZDR:OpR X (binaryOp .Pow) (rI CPow fun i j=>.int (i ^ j.toNat)):=opI fun _ _ _ _ _ _ _ hc q=>pow_int_small hc.1 hc.2.1 hc.2.2 q
end
def scal:V→V→Bool
  | .non,.non=>true | .non,.int _=>true | .int _,.non=>true | .non,.bl _=>true | .bl _,.non=>true | .non,.str _=>true | .str _,.non=>true
  | .int _,.int _=>true | .bl _,.bl _=>true | .str _,.str _=>true | .byt _,.byt _=>true
  | .int _,.str _=>true | .str _,.int _=>true | .bl _,.str _=>true | .str _,.bl _=>true
  | _,_=>false
def rEq:R2:=fun x y H Q=>scal x y=true∧Q (.bl (decide (x=y))) H
def rNe:R2:=fun x y H Q=>scal x y=true∧Q (.bl (!decide (x=y))) H
theorem ZHt {i j:Int}:decide (V.int i=V.int j)=(i == j):=by
  rw [Bool.eq_iff_iff]
  simp
theorem dec_bl {i j:Bool}:decide (V.bl i=V.bl j)=(i == j):=by
  rw [Bool.eq_iff_iff]
  simp
theorem ZII {i j:Str}:decide (V.str i=V.str j)=(i == j):=by
  rw [Bool.eq_iff_iff]
  simp
theorem ZIF {i j:Array UInt8}:decide (V.byt i=V.byt j)=(i.toList == j.toList):=by
  rw [Bool.eq_iff_iff]
  cases i
  cases j
  simp
section
variable {X:Cx} {a b c:Expr} {ta tb tc:TE} {pos:Pos}
theorem ZAK {pins:List (Addr×Obj)} {σ:St} {H:Hp} {s:Shared} {Q:VK} {k k':Bool} (I:Inv X pins σ H s) (q:Q (.bl k) H) (e:k=k'):EP X pins σ Q (.bool k') s:=by
  subst e
  exact ⟨.bl k,H,I,rfl,q⟩
theorem ZBd:OpR X (compareOp .Eq) rEq:=by
  intro pins s σ H x y v u Q I rx ry h
  obtain ⟨hs,q⟩:=h
  cases x with
  | non=>
    cases rx
    cases y with
    | non=>cases ry;exact PySem.EqNone.eq_none_none (ZAK I q (by simp))
    | bl j=>cases ry;exact PySem.EqNone.eq_none_bool (ZAK I q (by simp))
    | int j=>obtain ⟨t',rfl⟩:=ry;exact PySem.EqNone.eq_none_int (ZAK I q (by simp))
    | str j=>obtain ⟨t',rfl⟩:=ry;exact PySem.EqNone.eq_none_str (ZAK I q (by simp))
    | _=>exact absurd (show false=true from hs) Bool.false_ne_true
  | bl i=>
    cases rx
    cases y with
    | non=>cases ry;exact PySem.EqNone.eq_bool_none (ZAK I q (by simp))
    | bl j=>cases ry;exact eq_bool (ZAK I q dec_bl)
    | str j=>obtain ⟨t',rfl⟩:=ry;exact PySem.EqMixed.eq_bool_str (ZAK I q (by simp))
    | _=>exact absurd (show false=true from hs) Bool.false_ne_true
  | int i=>
    obtain ⟨t,rfl⟩:=rx
    cases y with
    | non=>cases ry;exact PySem.EqNone.eq_int_none (ZAK I q (by simp))
    | int j=>obtain ⟨t',rfl⟩:=ry;exact eq_int (ZAK I q ZHt)
    | str j=>obtain ⟨t',rfl⟩:=ry;exact PySem.EqMixed.eq_int_str (ZAK I q (by simp))
    | _=>exact absurd (show false=true from hs) Bool.false_ne_true
  | str i=>
    obtain ⟨t,rfl⟩:=rx
    cases y with
    | non=>cases ry;exact PySem.EqNone.eq_str_none (ZAK I q (by simp))
    | bl j=>cases ry;exact PySem.EqMixed.eq_str_bool (ZAK I q (by simp))
    | int j=>obtain ⟨t',rfl⟩:=ry;exact PySem.EqMixed.eq_str_int (ZAK I q (by simp))
    | str j=>obtain ⟨t',rfl⟩:=ry;exact eq_str (ZAK I q ZII)
    | _=>exact absurd (show false=true from hs) Bool.false_ne_true
  | byt i=>
    obtain ⟨t,rfl⟩:=rx
    cases y with
    | byt j=>obtain ⟨t',rfl⟩:=ry;exact PySem.W.eq_bytes (ZAK I q ZIF)
    | _=>exact absurd (show false=true from hs) Bool.false_ne_true
  | _=>cases y <;> exact absurd (show false=true from hs) Bool.false_ne_true
theorem op_ne:OpR X (compareOp .NotEq) rNe:=by
  intro pins s σ H x y v u Q I rx ry h
  obtain ⟨hs,q⟩:=h
  cases x with
  | non=>
    cases rx
    cases y with
    | non=>cases ry;exact PySem.EqNone.ne_none_none (ZAK I q (by simp))
    | bl j=>cases ry;exact PySem.EqNone.ne_none_bool (ZAK I q (by simp))
    | int j=>obtain ⟨t',rfl⟩:=ry;exact PySem.EqNone.ne_none_int (ZAK I q (by simp))
    | str j=>obtain ⟨t',rfl⟩:=ry;exact PySem.EqNone.ne_none_str (ZAK I q (by simp))
    | _=>exact absurd (show false=true from hs) Bool.false_ne_true
  | bl i=>
    cases rx
    cases y with
    | non=>cases ry;exact PySem.EqNone.ne_bool_none (ZAK I q (by simp))
    | bl j=>cases ry;exact ne_bool (ZAK I q (congrArg not dec_bl))
    | str j=>obtain ⟨t',rfl⟩:=ry;exact PySem.EqMixed.ne_bool_str (ZAK I q (by simp))
    | _=>exact absurd (show false=true from hs) Bool.false_ne_true
  | int i=>
    obtain ⟨t,rfl⟩:=rx
    cases y with
    | non=>cases ry;exact PySem.EqNone.ne_int_none (ZAK I q (by simp))
    | int j=>obtain ⟨t',rfl⟩:=ry;exact ne_int (ZAK I q (congrArg not ZHt))
    | str j=>obtain ⟨t',rfl⟩:=ry;exact PySem.EqMixed.ne_int_str (ZAK I q (by simp))
    | _=>exact absurd (show false=true from hs) Bool.false_ne_true
  | str i=>
    obtain ⟨t,rfl⟩:=rx
    cases y with
    | non=>cases ry;exact PySem.EqNone.ne_str_none (ZAK I q (by simp))
    | bl j=>cases ry;exact PySem.EqMixed.ne_str_bool (ZAK I q (by simp))
    | int j=>obtain ⟨t',rfl⟩:=ry;exact PySem.EqMixed.ne_str_int (ZAK I q (by simp))
    | str j=>obtain ⟨t',rfl⟩:=ry;exact ne_str (ZAK I q (congrArg not ZII))
    | _=>exact absurd (show false=true from hs) Bool.false_ne_true
  | byt i=>
    obtain ⟨t,rfl⟩:=rx
    cases y with
    | byt j=>obtain ⟨t',rfl⟩:=ry;exact PySem.W.ne_bytes (ZAK I q (congrArg not ZIF))
    | _=>exact absurd (show false=true from hs) Bool.false_ne_true
  | _=>cases y <;> exact absurd (show false=true from hs) Bool.false_ne_true
theorem op_lt:OpR X (compareOp .Lt) (rI0 fun i j=>.bl (decide (i < j))):=opB0 fun _ _ _ _ _ _ _ q=>lt_int q
theorem ZDs:OpR X (compareOp .LtE) (rI0 fun i j=>.bl (decide (i≤j))):=opB0 fun _ _ _ _ _ _ _ q=>le_int q
theorem ZGq:OpR X (compareOp .Gt) (rI0 fun i j=>.bl (decide (j < i))):=opB0 fun _ _ _ _ _ _ _ q=>gt_int q
theorem op_ge:OpR X (compareOp .GtE) (rI0 fun i j=>.bl (decide (j≤i))):=opB0 fun _ _ _ _ _ _ _ q=>ge_int q
theorem ZIg:OpR X (compareOp .In) (fun x y H Q=>∃ i j,x=.str i∧y=.str j∧Q (.bl (!(Builtin.Str.occurrences j i 0 j.length 1).isEmpty)) H):=by
  intro pins s σ H x y v u Q I rx ry h
  obtain ⟨i,j,rfl,rfl,q⟩:=h
  obtain ⟨t,rfl⟩:=rx
  obtain ⟨t',rfl⟩:=ry
  exact in_str (ZAK I q rfl)
theorem op_isN:OpR X (compareOp .Is) (fun x y H Q=>y=.non∧Q (.bl (decide (x=.non))) H):=by
  intro pins s σ H x y v u Q I rx ry h
  obtain ⟨rfl,q⟩:=h
  cases ry
  refine is_none_gen (ZAK I q ?_)
  cases x <;> first
    | (cases rx;rfl)
    | (obtain ⟨t,rfl⟩:=rx;rfl)
theorem ZI4:OpR X (compareOp .IsNot) (fun x y H Q=>y=.non∧Q (.bl (!decide (x=.non))) H):=by
  intro pins s σ H x y v u Q I rx ry h
  obtain ⟨rfl,q⟩:=h
  cases ry
  refine isnot_none_gen (ZAK I q ?_)
  cases x <;> first
    | (cases rx;rfl)
    | (obtain ⟨t,rfl⟩:=rx;rfl)
theorem ZAJ (b:Expr) {op:CmpOp} (h:op≠.In:=by decide) (h2:op≠.NotIn:=by decide):behindInMarks op b=false:=by
  have e1:(op == CmpOp.In)=false:=by cases op <;> first | rfl | exact absurd rfl h
  have e2:(op == CmpOp.NotIn)=false:=by cases op <;> first | rfl | exact absurd rfl h2
  cases b <;> simp [behindInMarks,e1,e2]
theorem pe_cmpR {op:CmpOp} {r:R2} (ho:OpR X (compareOp op) r) (ha:PE X a ta) (hb:PE X b tb) (hm:behindInMarks op b=false):PE X (.Compare a [op] [b] pos) (tOp r ta tb):=by
  intro pins s σ H Q I h
  exact wpAny_Compare1 (binT ha hb I h fun v u s2 x y H2 I2 rx ry q=>ho pins s2 σ H2 x y v u Q I2 rx ry q) hm
def ZGa (t:TE):TT:=fun σ H Q=>t σ H fun x H'=>∃ k,x=.bl k∧Q k H'
theorem pt_cmpR {op:CmpOp} {r:R2} (ho:OpR X (compareOp op) r) (ha:PE X a ta) (hb:PE X b tb) (hm:behindInMarks op b=false):PT X (.Compare a [op] [b] pos) (ZGa (tOp r ta tb)):=by
  intro pins s σ H Q I h
  refine wpAny_isTrue_Compare1 (thn (ha pins s σ H _ I h) fun v s1 ⟨x,H1,I1,r1,q1⟩=>thn (hb pins s1 σ H1 _ I1 q1) fun u s2 ⟨y,H2,I2,r2,q2⟩=>
    thn (ho pins s2 σ H2 x y v u _ I2 r1 r2 q2) fun c s3 ⟨z,H3,I3,r3,k,e,q3⟩=>?_) hm
  subst e
  cases r3
  exact wpAny_truthy_bool ⟨H3,I3,q3⟩
def ZDW (r r':R2) (ta tb tc:TE):TE:=fun σ H Q=>ta σ H fun x H1=>tb σ H1 fun y H2=>r x y H2 fun z H3=>∃ k,z=.bl k∧
  (if k=true then tc σ H3 fun w' H4=>r' y w' H4 Q else Q (.bl false) H3)
theorem pe_chain {op op':CmpOp} {r r':R2} (ho:OpR X (compareOp op) r) (ho':OpR X (compareOp op') r') (ha:PE X a ta) (hb:PE X b tb) (hc:PE X c tc)
    (hm:lastMarks [op,op'] [b,c]=false:=by with_unfolding_all rfl):PE X (.Compare a [op,op'] [b,c] pos) (ZDW r r' ta tb tc):=by
  intro pins s σ H Q I h
  refine Compare_chain (thn (ha pins s σ H _ I h) fun v s1 ⟨x,H1,I1,r1,q1⟩=>chain_link (thn (hb pins s1 σ H1 _ I1 q1) fun u s2 ⟨y,H2,I2,r2,q2⟩=>
    thn (ho pins s2 σ H2 x y v u _ I2 r1 r2 q2) fun d s3 ⟨z,H3,I3,r3,k,e,q3⟩=>?_)) hm
  subst e
  cases r3
  refine wpAny_truthy_bool ?_
  cases k with
  | false=>exact ite_ff ⟨.bl false,H3,I3,rfl,q3⟩
  | true=>exact ite_tt (chain_last (thn (hc pins s3 σ H3 _ I3 q3) fun w' s4 ⟨z',H4,I4,r4,q4⟩=>ho' pins s4 σ H4 y z' u w' Q I4 r2 r4 q4))
theorem pt_chain {op op':CmpOp} {r r':R2} (ho:OpR X (compareOp op) r) (ho':OpR X (compareOp op') r') (ha:PE X a ta) (hb:PE X b tb) (hc:PE X c tc)
    (hm:lastMarks [op,op'] [b,c]=false:=by with_unfolding_all rfl):PT X (.Compare a [op,op'] [b,c] pos) (ZGa (ZDW r r' ta tb tc)):=by
  intro pins s σ H Q I h
  refine isTrue_chain (thn (ha pins s σ H _ I h) fun v s1 ⟨x,H1,I1,r1,q1⟩=>test_link (thn (hb pins s1 σ H1 _ I1 q1) fun u s2 ⟨y,H2,I2,r2,q2⟩=>
    thn (ho pins s2 σ H2 x y v u _ I2 r1 r2 q2) fun d s3 ⟨z,H3,I3,r3,k,e,q3⟩=>?_)) hm
  subst e
  cases r3
  refine wpAny_truthy_bool ?_
  cases k with
  | false=>
    obtain ⟨k',e',q'⟩:=q3
    cases e'
    exact ite_ff ⟨H3,I3,q'⟩
  | true=>
    refine ite_tt (test_last (thn (hc pins s3 σ H3 _ I3 q3) fun w' s4 ⟨z',H4,I4,r4,q4⟩=>thn (ho' pins s4 σ H4 y z' u w' _ I4 r2 r4 q4) fun d' s5 ⟨z2,H5,I5,r5,k2,e2,q5⟩=>?_))
    subst e2
    cases r5
    exact wpAny_truthy_bool ⟨H5,I5,q5⟩
theorem ZD3:(sizeLine:Nat) < 2 ^ 63:=by rw [sizeLine_eq];decide
theorem ZD0:OpR X (binaryOp .Add) (fun x y H Q=>∃ i j,x=.str i∧y=.str j∧i.length+j.length≤sizeLine∧Q (.str (i++j)) H):=by
  intro pins s σ H x y v u Q I rx ry h
  obtain ⟨i,j,rfl,rfl,hz,q⟩:=h
  obtain ⟨t,rfl⟩:=rx
  obtain ⟨t',rfl⟩:=ry
  exact add_str (fun t' tk=>⟨.str (i++j),H,I.tok _,⟨_,rfl⟩,q⟩) hz
theorem ZEH {x:V} {us:List Value} (r:Vals [x] us):∃ u,us=[u]∧RelV x u:=by
  cases r with
  | cons r1 r2=>cases r2;exact ⟨_,rfl,r1⟩
theorem vals2 {x y:V} {us:List Value} (r:Vals [x,y] us):∃ u w',us=[u,w']∧RelV x u∧RelV y w':=by
  cases r with
  | cons r1 r2=>
    cases r2 with
    | cons r3 r4=>cases r4;exact ⟨_,_,rfl,r1,r3⟩
theorem ZFh (hc:X.calm=true):ZC7 X (.builtin "max") (fun xs H Q=>∃ i j,xs=[.int i,.int j]∧Q (.int (if j > i then j else i)) H):=by
  intro pins s σ H xs us Q I r h
  obtain ⟨i,j,rfl,q⟩:=h
  obtain ⟨u,w',rfl,⟨t,rfl⟩,⟨t',rfl⟩⟩:=vals2 r
  refine max_two_ints (I.ok.hd hc) fun h' tk k=>⟨_,H,I.kept k,?_,q⟩
  by_cases hj:j > i
  · rw [if_pos hj,if_pos hj];exact ⟨_,rfl⟩
  · rw [if_neg hj,if_neg hj];exact ⟨_,rfl⟩
theorem ZFN (hc:X.calm=true):ZC7 X (.builtin "min") (fun xs H Q=>∃ i j,xs=[.int i,.int j]∧Q (.int (if j < i then j else i)) H):=by
  intro pins s σ H xs us Q I r h
  obtain ⟨i,j,rfl,q⟩:=h
  obtain ⟨u,w',rfl,⟨t,rfl⟩,⟨t',rfl⟩⟩:=vals2 r
  refine min_two_ints (I.ok.hd hc) fun h' tk k=>⟨_,H,I.kept k,?_,q⟩
  by_cases hj:j < i
  · rw [if_pos hj,if_pos hj];exact ⟨_,rfl⟩
  · rw [if_neg hj,if_neg hj];exact ⟨_,rfl⟩
end
end L2
namespace L2
open PySem PySem.Spec PyProof.Rows
structure ObjM (h:Heap) (x dx C:Addr) (mA:Str→Option Value):Prop where
  obj:h.get? x=some (PySem.W.instObj C dx)
  ns:h.Ns1 dx mA
  ne:dx≠x
theorem ZFG {h:Heap} {dx:Addr} {mA:Str→Option Value} (n:h.Ns1 dx mA):∃ od,h.get? dx=some od∧∀ name,PySem.W.lookIn name od=some (mA name):=by
  obtain ⟨o,es,ep,ho,hd,hk,_,hm⟩:=n
  refine ⟨o,ho,fun name=>?_⟩
  have e:=hm name
  unfold nsFind findBy at e
  rw [← Array.find?_toList] at e
  unfold PySem.W.lookIn
  rw [hd]
  dsimp only
  split
  · rename_i y q
    rw [q] at e
    exact congrArg some e
  · rename_i q
    rw [q] at e
    have a:es.toList.any (·.refKey)=false:=by
      rw [List.any_eq_false]
      intro y hy
      obtain ⟨z,t,hkey⟩:=hk y (Array.mem_toList_iff.mp hy)
      simp [DictEntry.refKey,hkey]
    have a':¬ es.toList.any (·.refKey)=true:=by rw [a];exact Bool.false_ne_true
    rw [if_neg a']
    exact congrArg some e
theorem ObjM.look {h:Heap} {x dx C:Addr} {mA:Str→Option Value} (I:ObjM h x dx C mA):∃ od,PySem.W.InstAt h x (PySem.W.instObj C dx) C (some od)∧∀ name,PySem.W.lookIn name od=some (mA name):=
  let ⟨od,ho,hl⟩:=ZFG I.ns
  ⟨od,⟨I.obj,rfl,rfl,ho⟩,hl⟩
section
variable {prog:Program} {w:World} {A:Around} {E:Value→Shared→Prop} {s:Shared} {K:PySem.W.Frag} {x dx C f:Addr} {mA:Str→Option Value} {name:Str} {v:Value}
theorem get_map {expr:Bool} {Q:Value→Shared→Prop} (X:K.In s.heap) (I:ObjM s.heap x dx C mA) (hg:PySem.W.plainGet K C name=true) (hh:PySem.W.hasDictIn K C=true)
    (ha:PySem.W.findIn K (.ref C) name=some none) (hv:mA name=some v) (hv':PySem.W.handedIn v=true) (h:Q v { s with toks:=s.toks+1 }) :
    wpAny (model prog w) A (getAttr (.ref x) name expr) Q E s:=by
  obtain ⟨od,J,hl⟩:=I.look
  exact PySem.W.get_value X J (PySem.W.plainGet_of hg).1 (PySem.W.findObj_own hh ha rfl (by rw [hl,hv])) hv' h
theorem ZHx {ns:List Str} {Q:Unit→Shared→Prop} (X:K.In s.heap) (I:ObjM s.heap x dx C mA)
    (hs:PySem.W.findIn K (.ref C) "__setattr__" = some (some (.builtin "object.__setattr__"))) (hp:PySem.W.plainOver K C=true) (ht:PySem.W.takerIn K C name=some none) (hh:PySem.W.hasDictIn K C=true)
    (hw:PySem.Within mA ns) (hsz:ns.length≤sizeLine)
    (h:∀ h',ObjM h' x dx C (fun y=>if y=name then some v else mA y)→Heap.SameBut dx s.heap h'→Q () { s with heap:=h',toks:=s.toks+2 }) :
    wpAny (model prog w) A (setAttr (.ref x) name v) Q E s:=by
  obtain ⟨od,J,hl⟩:=I.look
  refine PySem.W.set_plain X J hs (PySem.W.osa_open (s:={ s with toks:=s.toks+1 }) (r:=none) X J hp ht fun b=>?_)
  obtain ⟨cd,hc,hd'⟩:=PySem.W.any_some hh
  have hx:s.heap.get? x=some ⟨.ref C,some dx,.plain,#[]⟩:=I.obj
  refine wpAny_bind (wpAny_pure (wpAny_bind (wpAny_bind (wpAny_loadPart hx (wpAny_bind (PySem.W.Looks.here (s:={ s with toks:=s.toks+1 }) (PySem.W.looks_clsIn X hc) ?_))))))
  rw [hd']
  refine wpAny_pure (a:=some dx) (wpAny_bind (wpAny_pure (wpAny_bind ?_)))
  refine wpAny_nsSet1 (s:={ s with toks:=s.toks+1 }) I.ns fun h' hn2 hs2=>?_
  obtain ⟨oD,esD,epD,hoD,hdD,hcD⟩:=hn2.count (PySem.Within.cons name v hw)
  refine wpAny_bind (wpAny_lookBehind hoD (by rw [hdD];exact pastItsLine_dict (Nat.le_trans hcD (by rw [List.length_cons];omega))) ?_)
  exact wpAny_pure (h _ ⟨(hs2.2 _ (Ne.symm I.ne)).trans I.obj,hn2,I.ne⟩ hs2)
theorem make_map {R:Result→Shared→Prop} {vs:List Value} {kw:List (Str×Value)} (X:K.In s.heap) (hm:PySem.W.makesIn K C=true)
    (hi:PySem.W.findIn K (.ref C) "__init__" = some (some (.ref f))) (hf:PySem.W.typeIn K (.ref f)=some (.type "function"))
    (h:codeAny (model prog w) (A.under (.builtin "type.__call__" ⟨.ref C :: vs,kw⟩)) (.call (.ref f) ⟨.ref (s.heap.objs.size+1) :: vs,kw⟩) (PySem.W.InitBack (s.heap.objs.size+1) R)
      { s with heap:=(s.heap.push PySem.W.emptyDict).push (PySem.W.instObj C s.heap.objs.size) }) :
    codeAny (model prog w) A (.call (.ref C) ⟨vs,kw⟩) R s:=by
  obtain ⟨hh,g,d,t,os⟩:=s
  exact PySem.W.make_core (PySem.W.makes_of X hm) (PySem.W.looks_findIn X hi) (fun self=>PySem.W.bind_fn X self hf) (.inl rfl) h
end
def ZC9 (f:Str) (v:V):List (Str×V)→List (Str×V)
  | []=>[(f,v)]
  | (g,x) :: r=>if g=f then (g,v) :: r else (g,x) :: ZC9 f v r
theorem ZDt (f g:Str) (v:V):∀ fs:List (Str×V),(ZC9 f v fs).lookup g=if g=f then some v else fs.lookup g
  | []=>by
    show List.lookup g [(f,v)]=_
    by_cases h:g=f
    · have hb:(g == f)=true:=beq_iff_eq.mpr h
      simp only [List.lookup,hb,if_pos h]
    · have hb:(g == f)=false:=beq_eq_false_iff_ne.mpr h
      simp only [List.lookup,hb,if_neg h]
  | (k,x) :: r=>by
    have ih:=ZDt f g v r
    rw [show ZC9 f v ((k,x) :: r)=(if k=f then (k,v) :: r else (k,x) :: ZC9 f v r) from rfl]
    by_cases hk:k=f
    · rw [if_pos hk]
      by_cases h:g=k
      · have hb:(g == k)=true:=beq_iff_eq.mpr h
        simp only [List.lookup,hb,if_pos (h.trans hk)]
      · have hb:(g == k)=false:=beq_eq_false_iff_ne.mpr h
        simp only [List.lookup,hb,if_neg (fun e:g=f=>h (e.trans hk.symm))]
    · rw [if_neg hk]
      by_cases h:g=k
      · have hb:(g == k)=true:=beq_iff_eq.mpr h
        simp only [List.lookup,hb,if_neg (fun e:g=f=>hk (h.symm.trans e))]
      · have hb:(g == k)=false:=beq_eq_false_iff_ne.mpr h
        simp only [List.lookup,hb]
        exact ih
theorem ZDL (f:Str) (v:V):∀ fs:List (Str×V),f∈(ZC9 f v fs).map (·.1)∧∀ g,g∈fs.map (·.1)→g∈(ZC9 f v fs).map (·.1)
  | []=>⟨by simp [ZC9],fun g h=>by simp at h⟩
  | (k,x) :: r=>by
    obtain ⟨i1,i2⟩:=ZDL f v r
    rw [show ZC9 f v ((k,x) :: r)=(if k=f then (k,v) :: r else (k,x) :: ZC9 f v r) from rfl]
    by_cases hk:k=f
    · rw [if_pos hk]
      subst hk
      exact ⟨by simp,fun g h=>by simpa using h⟩
    · rw [if_neg hk]
      refine ⟨?_,fun g h=>?_⟩
      · rw [List.map_cons]
        exact List.mem_cons_of_mem _ i1
      · rw [List.map_cons] at h ⊢
        rcases List.mem_cons.mp h with e | e
        · exact List.mem_cons.mpr (.inl e)
        · exact List.mem_cons_of_mem _ (i2 g e)
theorem ZDm (f:Str) (v:V):∀ fs:List (Str×V),(ZC9 f v fs).length≤fs.length+1
  | []=>by simp [ZC9]
  | (k,x) :: r=>by
    have ih:=ZDm f v r
    rw [show ZC9 f v ((k,x) :: r)=(if k=f then (k,v) :: r else (k,x) :: ZC9 f v r) from rfl]
    by_cases hk:k=f
    · rw [if_pos hk,List.length_cons,List.length_cons];omega
    · rw [if_neg hk,List.length_cons,List.length_cons];omega
theorem RelO.some_of {v:V} {o:Option Value} (r:RelO (some v) o):∃ u,o=some u∧RelV v u:=by
  cases o with
  | none=>exact (show False from r).elim
  | some u=>exact ⟨u,rfl,r⟩
theorem ZFJ {v:V} {u:Value} (r:RelV v u):PySem.W.handedIn u=true:=by
  cases v with
  | non=>cases (show u=Value.none from r);rfl
  | bl b=>cases (show u=Value.bool b from r);rfl
  | int i=>obtain ⟨t,e⟩:=(show ∃ t,u=Value.int i t from r);cases e;rfl
  | str x=>obtain ⟨t,e⟩:=(show ∃ t,u=Value.str x t from r);cases e;rfl
  | byt b=>obtain ⟨t,e⟩:=(show ∃ t,u=Value.bytes b t from r);cases e;rfl
  | flt b=>obtain ⟨t,e⟩:=(show ∃ t,u=Value.float b t from r);cases e;rfl
  | ref a=>cases (show u=Value.ref a from r);rfl
  | ty n=>cases (show u=Value.type n from r);rfl
section
variable {P:Program} {w:World} {H H':Hp} {h h':Heap} {a C dx:Addr} {fs fs':List (Str×V)}
theorem ZGS (hok:HOk P w H h) (e:H a=some (.ins C dx fs)):∃ mA,ObjM h a dx C mA∧(∀ f,RelO (fs.lookup f) (mA f))∧PySem.Within mA (fs.map (·.1))∧fs.length≤1000∧H dx=some (.own a):=by
  obtain ⟨d,z,ne,ob,mA,n,r,q⟩:=(show ObjOk P w H h a (.ins C dx fs) from hok a _ e)
  exact ⟨mA,⟨ob,n,ne⟩,r,q,z,d⟩
end
structure Cls (K:PySem.W.Frag) (C:Addr):Prop where
  pg:PySem.W.plainGet K C Str.empty=true
  hd:PySem.W.hasDictIn K C=true
  po:PySem.W.plainOver K C=true
  sa:PySem.W.findIn K (.ref C) "__setattr__" = some (some (.builtin "object.__setattr__"))
theorem Cls.get {K:PySem.W.Frag} {C:Addr} (c:Cls K C) (f:Str):PySem.W.plainGet K C f=true:=c.pg
def NoAttr (K:PySem.W.Frag) (C:Addr) (f:Str):Prop:=PySem.W.findIn K (.ref C) f=some none
theorem NoAttr.taker {K:PySem.W.Frag} {C:Addr} {f:Str} (n:NoAttr K C f):PySem.W.takerIn K C f=some none:=by
  unfold PySem.W.takerIn
  rw [show PySem.W.findIn K (.ref C) f=some none from n]
  rfl
structure Con (K:PySem.W.Frag) (C:Addr) (f:Str) (v:V) (u:Value):Prop where
  at_:PySem.W.findIn K (.ref C) f=some (some u)
  rel:RelV v u
  get:PySem.W.specialIn K u "__get__" = some none
  cp:PySem.W.copiedNames.contains f=false
section
variable {X:Cx} {pins:List (Addr×Obj)} {σ:St} {H:Hp} {s:Shared} {a C dx:Addr} {fs:List (Str×V)} {f:Str} {v:V} {A:Around} {E:Value→Shared→Prop}
theorem ZHj {b:Bool} {Q:Value→Shared→Prop} (I:Inv X pins σ H s) (e:H a=some (.ins C dx fs)) (c:Cls X.K C) (n:NoAttr X.K C f) (l:fs.lookup f=some v)
    (h:∀ u s',Inv X pins σ H s'→RelV v u→Q u s'):wpAny (model X.prog X.w) A (getAttr (.ref a) f b) Q E s:=by
  obtain ⟨mA,O,r,_,_,_⟩:=ZGS I.hok e
  obtain ⟨u,hu,ru⟩:=RelO.some_of (v:=v) (o:=mA f) (by rw [← l];exact r f)
  exact get_map I.kIn O (c.get f) c.hd n hu (ZFJ ru) (h u _ (I.tok _) ru)
theorem ZHe {y:V} {u:Value} {Q:Unit→Shared→Prop} (I:Inv X pins σ H s) (e:H a=some (.ins C dx fs)) (c:Cls X.K C) (n:NoAttr X.K C f) (hl:fs.length < 1000) (ry:RelV y u)
    (h:∀ s',Inv X pins σ (upd H a (.ins C dx (ZC9 f y fs))) s'→Q () s'):wpAny (model X.prog X.w) A (setAttr (.ref a) f u) Q E s:=by
  obtain ⟨mA,O,r,wi,_,ho⟩:=ZGS I.hok e
  have hz:(fs.map (·.1)).length≤sizeLine:=by rw [List.length_map,sizeLine_eq];omega
  refine ZHx I.kIn O c.sa c.po n.taker c.hd wi hz fun h' O' sb=>h _ ?_
  have hd:∃ o,h'.get? dx=some o:=let ⟨o,_,_,e',_⟩:=O'.ns;⟨o,e'⟩
  refine I.write (x:=a) (e:=dx) (by rw [e];exact True.intro) (.inr ho) (fun b q hb z=>(sb.2 b hb).trans z) hd ?_
  refine ⟨by rw [ZA5 O.ne];exact ho,?_,O.ne,O'.obj,_,O'.ns,fun g=>?_,fun g hg=>?_⟩
  · have:=ZDm f y fs;omega
  · show RelO ((ZC9 f y fs).lookup g) (if g=f then some u else mA g)
    rw [ZDt]
    by_cases q:g=f
    · rw [if_pos q,if_pos q];exact ry
    · rw [if_neg q,if_neg q];exact r g
  · by_cases q:g=f
    · rw [q];exact (ZDL f y fs).1
    · refine (ZDL f y fs).2 g (wi g fun z=>hg ?_)
      show (if g=f then some u else mA g)=none
      rw [if_neg q];exact z
theorem Inv.made (I:Inv X pins σ H s):Inv X pins σ (upd (upd H s.heap.objs.size (.own (s.heap.objs.size+1))) (s.heap.objs.size+1) (.ins C s.heap.objs.size []))
    { s with heap:=(s.heap.push PySem.W.emptyDict).push (PySem.W.instObj C s.heap.objs.size) }:=by
  have e1:(s.heap.push PySem.W.emptyDict).get? s.heap.objs.size=some PySem.W.emptyDict:=Heap.get?_push_size s.heap rfl
  have e2:((s.heap.push PySem.W.emptyDict).push (PySem.W.instObj C s.heap.objs.size)).get? (s.heap.objs.size+1)=some (PySem.W.instObj C s.heap.objs.size):=by
    have:=Heap.get?_push_size (s.heap.push PySem.W.emptyDict) (o:=PySem.W.instObj C s.heap.objs.size) rfl
    rwa [Heap.size_push] at this
  have e3:(s.heap.push PySem.W.emptyDict).Ns s.heap.objs.size (fun _=>none):=⟨PySem.W.emptyDict,#[],_,e1,rfl,(fun e he=>absurd he (by simp)),fun _=>rfl⟩
  have I1:=I.laid (a:=s.heap.objs.size) (o:=.own (s.heap.objs.size+1)) (h':=s.heap.push PySem.W.emptyDict) (t':=s.toks) (fun b u q=>Heap.get?_push_of_some _ q) (Nat.le_refl _) ⟨_,e1⟩
  refine I1.laid (a:=s.heap.objs.size+1) (o:=.ins C s.heap.objs.size []) (t':=s.toks) (fun b u q=>Heap.get?_push_of_some _ q) (Nat.le_of_eq (Heap.size_push _ _)) ?_
  have ne:s.heap.objs.size≠s.heap.objs.size+1:=Nat.ne_of_lt (Nat.lt_succ_self _)
  refine ⟨by rw [ZA5 ne,ZA3],Nat.zero_le _,ne,e2,fun _=>none,(Heap.Ns1.of_empty e3).at fun o q=>Heap.get?_push_of_some _ q,fun _=>True.intro,fun y hy=>absurd rfl hy⟩
theorem ZI7 {prog:Program} {w:World} {env:Env} {e:Expr} {f:Str} {pos:Pos} {s:Shared} {Q:Value→Shared→Prop} (hb:attributeBase e f env (eval e env)=eval e env)
    (h:wpAny (model prog w) A (eval e env) (fun o s₁=>wpAny (model prog w) A (getAttr o f true) Q E s₁) E s):wpAny (model prog w) A (eval (.Attribute e f pos) env) Q E s:=
  Attribute_any_ h (by rw [arm_eval_Attribute,hb])
end
def tFld (K:PySem.W.Frag) (ta:TE) (f:Str):TE:=fun σ H Q=>ta σ H fun x H1=>∃ a C dx fs v,x=.ref a∧H1 a=some (.ins C dx fs)∧Cls K C∧NoAttr K C f∧fs.lookup f=some v∧Q v H1
def sFld (K:PySem.W.Frag) (ta tv:TE) (f:Str):TS:=fun D σ H=>tv σ H fun y H1=>ta σ H1 fun x H2=>∃ a C dx fs,x=.ref a∧H2 a=some (.ins C dx fs)∧Cls K C∧NoAttr K C f∧fs.length < 1000∧
  D.nx σ (upd H2 a (.ins C dx (ZC9 f y fs)))
section
variable {X:Cx} {o e value:Expr} {f:Str} {pos pos' tpos:Pos} {ta tv:TE}
theorem pe_fld (he:PE X e ta) (hb:attributeBase e f X.env (eval e X.env)=eval e X.env):PE X (.Attribute e f pos) (tFld X.K ta f):=by
  intro pins s σ H Q I h
  refine ZI7 hb (thn (he pins s σ H _ I h) fun u s1 ⟨x,H1,I1,rx,a,C,dx,fs,v,ex,ea,c,n,l,q⟩=>?_)
  subst ex
  obtain rfl:u=Value.ref a:=rx
  exact ZHj I1 ea c n l fun u' s2 I2 ru=>⟨v,H1,I2,ru,q⟩
theorem ps_fld (ha:PE X o ta) (hv:PE X value tv) (hs:swapsWith value (some (.Attribute o f pos')) pos.line X.env=pure false):PS X (.Assign [.Attribute o f pos'] value pos) (sFld X.K ta tv f):=by
  intro pins s σ H D I h
  refine plainObj_wpAny_Assign_Attribute (thn (hv pins s σ H _ I h) fun u s1 ⟨y,H1,I1,ry,q⟩=>thn (ha pins s1 σ H1 _ I1 q) fun ov s2 ⟨x,H2,I2,rx,a,C,dx,fs,ex,ea,c,n,l,q2⟩=>?_) hs
  subst ex
  obtain rfl:ov=Value.ref a:=rx
  exact ZHe I2 ea c n l ry fun s3 I3=>⟨σ,_,I3,q2⟩
end
section
variable {X:Cx} {pins:List (Addr×Obj)} {σ:St} {H:Hp} {s:Shared} {A:Around} {E:Value→Shared→Prop} {Q:Value→Shared→Prop} {c:Value} {b:Bool}
inductive TyOf (K:PySem.W.Frag) (H:Hp):V→Value→Prop where
  | non:TyOf K H .non (.type "NoneType")
  | bl (x:Bool):TyOf K H (.bl x) (.type "bool")
  | int (i:Int):TyOf K H (.int i) (.type "int")
  | str (x:Str):TyOf K H (.str x) (.type "str")
  | flt (x:UInt64):TyOf K H (.flt x) (.type "float")
  | lst {a:Addr} {xs:List V} (e:H a=some (.lst xs)):TyOf K H (.ref a) (.type "list")
  | frz {a:Addr} {o:Obj} {xs:List V} (e:H a=some (.frz o (.lst xs))):TyOf K H (.ref a) (.type "list")
  | tup {a:Addr} {xs:List V} (e:H a=some (.tup xs)):TyOf K H (.ref a) (.type "tuple")
  | dK {a:Addr} {kvs:List (Key×V)} (e:H a=some (.dK kvs)):TyOf K H (.ref a) (.type "dict")
  | dT {a:Addr} {kvs:List (List Key×V)} (e:H a=some (.dT kvs)):TyOf K H (.ref a) (.type "dict")
  | ins {a C dx:Addr} {fs:List (Str×V)} (e:H a=some (.ins C dx fs)) (cl:Cls K C) (ha:PySem.W.findIn K (.ref C) "__class__" = some (some (.builtin "object.__class__")))
      (hn:PySem.W.specialIn K (.builtin "object.__class__") "__get__" = some (some (.builtin "getset_descriptor.__get__"))) (htk:PySem.W.takesIn K (.builtin "object.__class__")=some true)
      (hm:PySem.W.mroIn K C (.type "object")=some true):TyOf K H (.ref a) (.ref C)
theorem ZIx {x:V} {u t:Value} (I:Inv X pins σ H s) (rx:RelV x u) (ty:TyOf X.K H x t) (e:PySem.W.kitOne X.K t c=some b) (h:∀ tk,Q (.bool b) { s with toks:=tk }) :
    wpAny (model X.prog X.w) A (call (.builtin "isinstance") [u,c]) Q E s:=by
  cases ty with
  | non=>cases (show u=Value.none from rx);exact PySem.W.kia_one PySem.W.kitx_none I.kIn True.intro e (fun z=>nomatch z) h
  | bl y=>cases (show u=Value.bool y from rx);exact PySem.W.kia_one PySem.W.kitx_bool I.kIn True.intro e (fun z=>nomatch z) h
  | int i=>obtain ⟨t,q⟩:=(show ∃ t,u=Value.int i t from rx);cases q;exact PySem.W.kia_one PySem.W.kitx_int I.kIn True.intro e (fun z=>nomatch z) h
  | str y=>obtain ⟨t,q⟩:=(show ∃ t,u=Value.str y t from rx);cases q;exact PySem.W.kia_one PySem.W.kitx_str I.kIn True.intro e (fun z=>nomatch z) h
  | flt y=>obtain ⟨t,q⟩:=(show ∃ t,u=Value.float y t from rx);cases q;exact PySem.W.kia_one PySem.W.kitx_float I.kIn True.intro e (fun z=>nomatch z) h
  | @lst a xs ea=>
    cases (show u=Value.ref a from rx)
    obtain ⟨_,_,n,_,h1⟩:=(show ObjOk X.prog X.w H s.heap a (.lst xs) from I.hok a _ ea)
    exact PySem.W.kia_one PySem.W.kitx_list I.kIn ⟨_,h1,rfl⟩ e (fun z=>nomatch z) h
  | @frz a ob xs ea=>
    cases (show u=Value.ref a from rx)
    obtain ⟨_,_,_,n,_,h1⟩:=(show ObjOk X.prog X.w H s.heap a (.frz ob (.lst xs)) from I.hok a _ ea)
    exact PySem.W.kia_one PySem.W.kitx_list I.kIn ⟨_,h1,rfl⟩ e (fun z=>nomatch z) h
  | @tup a xs ea=>
    cases (show u=Value.ref a from rx)
    obtain ⟨_,_,_,p⟩:=(show ObjOk X.prog X.w H s.heap a (.tup xs) from I.hok a _ ea)
    obtain ⟨o,h1,h2,_⟩:=p.1
    exact PySem.W.kia_one PySem.W.kitx_tuple I.kIn ⟨o,h1,h2⟩ e (fun z=>nomatch z) h
  | @dK a kvs ea=>
    cases (show u=Value.ref a from rx)
    obtain ⟨_,_,vs,_,p⟩:=(show ObjOk X.prog X.w H s.heap a (.dK kvs) from I.hok a _ ea)
    obtain ⟨o,es,ep,h1,h2,_⟩:=p
    exact PySem.W.kia_one PySem.W.kitx_dict I.kIn ⟨o,h1,h2.1⟩ e (fun z=>nomatch z) h
  | @dT a kvs ea=>
    cases (show u=Value.ref a from rx)
    obtain ⟨_,_,xs,_,o,es,ep,h1,h2,_⟩:=(show ObjOk X.prog X.w H s.heap a (.dT kvs) from I.hok a _ ea)
    exact PySem.W.kia_one PySem.W.kitx_dict I.kIn ⟨o,h1,h2.1⟩ e (fun z=>nomatch z) h
  | @ins a C dx fs ea cl ha hn htk hm=>
    cases (show u=Value.ref a from rx)
    obtain ⟨mA,O,_⟩:=ZGS I.hok ea
    obtain ⟨od,J,_⟩:=O.look
    exact PySem.W.kia_one (PySem.W.kitx_own (cl.get _) cl.hd ha hn htk hm) I.kIn J e (fun z=>nomatch z) h
end
end L2
namespace L2
open PySem PySem.Spec PyProof.Rows
structure Room (k:Nat) (A:Around):Prop where
  hd:A.handled=none
  dp:A.depth+3 * k+5 < recursionLimit
  un:A.units+16 * k+200 < cLine
theorem Room.mono {j k:Nat} {A:Around} (r:Room k A) (h:j≤k):Room j A:=⟨r.hd,by have:=r.dp;omega,by have:=r.un;omega⟩
theorem Room.deeper {k:Nat} {A:Around} (r:Room (k+1) A) (env:Env):Room k (A.deeper env):=
  ⟨r.hd,by have:=r.dp;show A.depth+1+3 * k+5 < _;omega,by have:=r.un;show A.units+3+16 * k+200 < _;omega⟩
theorem ZHh {A:Around} {C:Addr} {us:List Value} {kw:List (Str×Value)}:(A.under (.builtin "type.__call__" ⟨.ref C :: us,kw⟩)).depth=A.depth+1:=by
  first | rfl | simp [Around.under,Code.weight,Code.isCreation,Code.isGuard,Code.isCaller,Code.frames,Code.isFrame,guardIds]
theorem ZHp {A:Around} {C:Addr} {us:List Value} {kw:List (Str×Value)}:(A.under (.builtin "type.__call__" ⟨.ref C :: us,kw⟩)).units=A.units+1:=by
  first | rfl | simp [Around.under,Code.cUnits,Code.frames,Code.isFrame]
theorem Room.make {k:Nat} {A:Around} (r:Room (k+1) A) (C:Addr) (us:List Value) (kw:List (Str×Value)):Room k (A.under (.builtin "type.__call__" ⟨.ref C :: us,kw⟩)):=
  ⟨r.hd,by have:=r.dp;rw [ZHh];omega,by have:=r.un;rw [ZHp];omega⟩
theorem Room.depth {k:Nat} {A:Around} (r:Room k A):A.depth < recursionLimit:=by have:=r.dp;omega
theorem Room.units {k:Nat} {A:Around} (r:Room k A):A.units+64 < cLine:=by have:=r.un;omega
theorem Room.units0 {k:Nat} {A:Around} (r:Room k A):A.units < cLine:=by have:=r.un;omega
def ZAa:TA:=fun _ H Q=>Q [] H
def ZA9 (ta:TE) (tr:TA):TA:=fun σ H Q=>ta σ H fun x H1=>tr σ H1 fun xs H2=>Q (x :: xs) H2
section
variable {X:Cx} {e:Expr} {es:List Expr} {te:TE} {t:TA} {pos:Pos}
theorem ZFz:PA X [] ZAa:=fun _ _ _ _ H Q I h=>Calls.spliced_nil ⟨[],H,I,.nil,h⟩
theorem ZCI (ha:PE X e te) (hr:PA X es t) (hs:starEach (e :: es) X.env=(false,eval e X.env) :: starEach es X.env:=by rfl):PA X (e :: es) (ZA9 te t):=by
  intro pos pins s σ H Q I h
  rw [hs]
  show wpAny _ _ (spliced ((false,eval e X.env) :: backTo pos (starEach es X.env))) _ _ s
  refine Calls.spliced_cons (thn (ha pins s σ H _ I h) fun u s1 ⟨x,H1,I1,r1,q1⟩=>?_)
  exact thn (hr pos pins s1 σ H1 _ I1 q1) fun us s2 ⟨xs,H2,I2,r2,q2⟩=>⟨x :: xs,H2,I2,.cons r1 r2,q2⟩
def tTup (t:TA):TE:=fun σ H Q=>t σ H fun xs H1=>xs.length≤sizeLine∧∀ p,H1 p=none→Q (.ref p) (upd H1 p (.tup xs))
def tLst (t:TA):TE:=fun σ H Q=>t σ H fun xs H1=>xs.length≤sizeLine∧∀ p,H1 p=none→Q (.ref p) (upd H1 p (.lst xs))
theorem pe_tup {x1} (h:PA X es t):PE X (.Tuple es x1 pos) (tTup t):=by
  intro pins s σ H Q I hq
  refine wpAny_Tuple_spliced (thn (h pos pins s σ H _ I hq) fun us s1 ⟨xs,H1,I1,r,z,q⟩=>⟨by rw [← r.length];exact z,?_⟩)
  have hf:H1 s1.heap.objs.size=none:=I1.hok.fresh (Nat.le_refl _)
  refine ⟨.ref s1.heap.objs.size,upd H1 s1.heap.objs.size (.tup xs),I1.laid (t':=s1.toks) (fun b u e=>Heap.get?_push_of_some _ e) (Nat.le_refl _) ?_,rfl,q _ hf⟩
  exact ⟨z,us,r,⟨_,Heap.get?_push_size _ rfl,rfl,_,rfl⟩,fun ob' e'=>by rw [Heap.get?_push_size _ rfl] at e';cases e';rfl⟩
theorem pe_lst (h:PA X es t):PE X (.List es pos) (tLst t):=by
  intro pins s σ H Q I hq
  refine wpAny_List_spliced (thn (h pos pins s σ H _ I hq) fun us s1 ⟨xs,H1,I1,r,z,q⟩=>⟨by rw [← r.length];exact z,?_⟩)
  have hf:H1 s1.heap.objs.size=none:=I1.hok.fresh (Nat.le_refl _)
  refine ⟨.ref s1.heap.objs.size,upd H1 s1.heap.objs.size (.lst xs),I1.laid (t':=s1.toks) (fun b u e=>Heap.get?_push_of_some _ e) (Nat.le_refl _) ?_,rfl,q _ hf⟩
  exact ⟨z,us,0,r,Heap.get?_push_size _ rfl⟩
end
abbrev Sp:=List V→Hp→VK→XK→Prop
abbrev CXT:=List Env→Hp→Shared→XK→Value→Shared→Prop
structure Env0 (P:Program) (w:World) (K:PySem.W.Frag) (mg:Str→Option Value) (base:Heap) (A:Around) (outer:List Env) (s:Shared) (H:Hp):Prop where
  frames:A.frames=some outer
  mod:Mod K mg base
  bs:∀ b o,base.get? b=some o→s.heap.get? b=some o∧H b=none
  bsz:base.objs.size≤s.heap.objs.size
  funs:s.heap.FunFrames base outer
  frf:∀ b∈frs outer,H b=none
  hok:HOk P w H s.heap
  bare:AllBare s.gens
def CE (outer:List Env) (P:Program) (w:World) (H:Hp) (s:Shared) (Q:VK) (u:Value) (s':Shared):Prop:=
  ∃ v H',s'.os=s.os∧AllBare s'.gens∧Un (frs outer) [] H H' s.heap s'.heap∧HOk P w H' s'.heap∧RelV v u∧Q v H'
def CR (CX:CXT) (outer:List Env) (P:Program) (w:World) (H:Hp) (s:Shared) (Q:VK) (E:XK) (r:Result) (s':Shared):Prop:=
  match r with
  | .ok (.ret u)=>CE outer P w H s Q u s'
  | .ok _=>False
  | .error e=>CX outer H s E e s'
structure FnOk (P:Program) (w:World) (K:PySem.W.Frag) (mg:Str→Option Value) (base:Heap) (CX:CXT) (k:Nat) (f:Addr) (fd:FuncData) (ps:List Str) (sp:Sp):Prop where
  len:∀ vs H Q E,sp vs H Q E→vs.length=ps.length
  run:∀ (A:Around) (outer:List Env) (s:Shared) (H:Hp) (args:Args) (us:List Value) (vs:List V) (Q:VK) (E:XK),Room k A→Env0 P w K mg base A outer s H→BindsTo s fd args (ps.zip us)→Vals vs us→sp vs H Q E→
    codeAny (model P w) A (.call (.ref f) args) (CR CX outer P w H s Q E) s
theorem FnOk.mono {P:Program} {w:World} {K:PySem.W.Frag} {mg:Str→Option Value} {base:Heap} {CX:CXT} {j k:Nat} {f:Addr} {fd:FuncData} {ps:List Str} {sp:Sp} (F:FnOk P w K mg base CX j f fd ps sp) (h:j≤k) :
    FnOk P w K mg base CX k f fd ps sp:=⟨F.len,fun A outer s H args us vs Q E hr=>F.run A outer s H args us vs Q E (hr.mono h)⟩
theorem Env0.make {P:Program} {w:World} {K:PySem.W.Frag} {mg:Str→Option Value} {base:Heap} {A:Around} {outer:List Env} {s:Shared} {H:Hp} (e:Env0 P w K mg base A outer s H) (C:Addr) (us:List Value) (kw:List (Str×Value)) :
    Env0 P w K mg base (A.under (.builtin "type.__call__" ⟨.ref C :: us,kw⟩)) outer s H:=⟨by first | exact e.frames | (simpa [Around.under,Code.envs,Code.isFrame,pushEnvs] using e.frames),e.mod,e.bs,e.bsz,e.funs,e.frf,e.hok,e.bare⟩
section
variable {X:Cx} {pins:List (Addr×Obj)} {σ:St} {H:Hp} {s s':Shared}
theorem Inv.env0 (I:Inv X pins σ H s):Env0 X.prog X.w X.K X.mg X.base X.A X.stack s H:=
  ⟨I.ok.frames,I.ok.mod,I.bs,Nat.le_trans I.ok.bsz I.sz,I.stack,I.stkFree,I.hok,I.bare⟩
theorem Inv.after {Q:VK} {u:Value} (I:Inv X pins σ H s) (h:CE X.stack X.prog X.w H s Q u s'):EP X pins σ Q u s':=by
  obtain ⟨v,H',os,bare,un,hok,r,q⟩:=h
  obtain ⟨hh,g,d,t,os'⟩:=s'
  obtain rfl:os'=s.os:=os
  exact ⟨v,H',I.call (h':=hh) (g':=g) (d':=d) (t':=t) (ch:=[]) un hok bare (fun b z=>absurd z (by simp)),r,q⟩
end
def ZBJ (sp:Sp) (dvs:List V) (E:XK) (t:TA):TE:=fun σ H Q=>t σ H fun vs H1=>sp (vs++dvs) H1 Q E
def Binds (K:PySem.W.Frag) (fd:FuncData) (ps:List Str) (ds:List Value):Prop:=
  ∀ (s:Shared) (us:List Value),K.In s.heap→(us++ds).length=ps.length→BindsTo s fd ⟨us,[]⟩ (ps.zip (us++ds))
theorem Binds.all {K:PySem.W.Frag} {fd:FuncData} {ps:List Str} (h:∀ us:List Value,us.length=ps.length→bindArgs fd ⟨us,[]⟩=pure (ps.zip us)):Binds K fd ps []:=fun s us _ hl=>by
  rw [List.append_nil] at hl ⊢
  exact .of_eq (h us hl)
def ZHR (CX:CXT) (X:Cx) (E:XK):Prop:=∀ (pins:List (Addr×Obj)) (σ:St) (H:Hp) (s:Shared) (e:Value) (s':Shared),Inv X pins σ H s→CX X.stack H s E e s'→X.xe e s'
section
variable {X:Cx} {CX:CXT} {k:Nat} {f C:Addr} {fd:FuncData} {ps:List Str} {sp:Sp} {dvs:List V} {ds:List Value} {E:XK} {x m:Str} {p pos apos:Pos} {e o:Expr} {es:List Expr} {ta:TE} {t:TA}
theorem run_fn {pins:List (Addr×Obj)} {σ:St} {H:Hp} {s:Shared} {Q:VK} {us:List Value} {vs:List V} (F:FnOk X.prog X.w X.K X.mg X.base CX k f fd ps sp) (hr:Room k X.A) (hb:Binds X.K fd ps ds) (hd:Vals dvs ds) (hx:ZHR CX X E)
    (I:Inv X pins σ H s) (r:Vals vs us) (h:sp (vs++dvs) H Q E):wpAny (model X.prog X.w) X.A (call (.ref f) us) (EP X pins σ Q) X.xe s:=by
  have r2:Vals (vs++dvs) (us++ds):=r.append hd
  have hl:(us++ds).length=ps.length:=by rw [← r2.length];exact F.len _ _ _ _ h
  refine wpAny_call (codeAny_mono (F.run X.A X.stack s H ⟨us,[]⟩ (us++ds) (vs++dvs) Q E hr I.env0 (hb s us I.kIn hl) r2 h) fun r s' hq=>?_)
  cases r with
  | error e=>exact hx pins σ H s e s' I hq
  | ok fl=>
    cases fl with
    | ret u=>exact I.after hq
    | next=>exact False.elim hq
    | brk=>exact False.elim hq
    | cont=>exact False.elim hq
theorem pe_call (F:FnOk X.prog X.w X.K X.mg X.base CX k f fd ps sp) (hr:Room k X.A) (hg:Gl X x) (hm:X.mg x=some (.ref f)) (hk:PySem.W.keepIn X.K (.ref f)=true) (hb:Binds X.K fd ps ds) (hd:Vals dvs ds) (hx:ZHR CX X E)
    (ha:PA X (e :: es) t) (hdb:(x == ("__debug__" : Str))=false:=by decide) (he:starEach (e :: es) X.env=(false,eval e X.env) :: starEach es X.env:=by rfl) (hpl:(backTo pos (starEach es X.env)).any (·.1)=false:=by rfl) :
    PE X (.Call (.Name x p) (e :: es) [] pos) (ZBJ sp dvs E t):=by
  intro pins s σ H Q I h
  refine wpAny_Call_Name_kw (ZBx I hg hm ?_ hdb)
  refine PySem.W.callWith_K (h₀:=X.base) I.ok.mod.kin hk (thn (ha pos pins s σ H _ I h) fun us s1 ⟨vs,H1,I1,r,q⟩=>⟨I1.kIn,?_⟩) he hpl
  exact run_fn F hr hb hd hx I1 r q
structure Mk (K:PySem.W.Frag) (C f:Addr):Prop where
  makes:PySem.W.makesIn K C=true
  init:PySem.W.findIn K (.ref C) "__init__" = some (some (.ref f))
  fn:PySem.W.isFn K (.ref f)=true
  kp:PySem.W.keepIn K (.ref C)=true
end
section
variable {X:Cx} {CX:CXT} {k:Nat} {f C:Addr} {fd:FuncData} {ps ks:List Str} {sp:Sp} {E:XK} {x m:Str} {p pos apos kpos:Pos} {e o:Expr} {es:List Expr} {kws:List Keyword} {te ta:TE} {t tk:TA} {nm:Option Str}
variable {g:List Value→List Value→List Value} {gV:List V→List V→List V}
end
structure FnScope (N P:List Str) (sc:Scope):Prop where
  kind:sc.kind=.function
  co:sc.isCoroutine=false
  gen:sc.isGenerator=false
  nd:N.Nodup
  pre:N.take P.length=P
  par:∀ x∈P,sc.names.lookup x=some .local∨sc.names.lookup x=some .cell
  nofree:∀ y∈sc.names,y.2≠.free
theorem ZFf {kindOf:Str→Option NameKind} {x:Str}:∀ {binds:List (Str×Value)} {m:Str→Option Value},(∀ v,(x,v)∉binds)→bindL kindOf binds m x=m x
  | [],_,_=>rfl
  | (n,v) :: r,m,h=>by
    unfold bindL
    rw [ZFf fun w hw=>h w (List.mem_cons_of_mem _ hw)]
    split
    · have:x≠n:=by rintro rfl;exact h v List.mem_cons_self
      simp [this]
    · rfl
theorem ZFk {kindOf:Str→Option NameKind} {x:Str}:∀ {binds:List (Str×Value)} {m:Str→Option Value},(∀ v,(x,v)∉binds)→bindC kindOf binds m x=m x
  | [],_,_=>rfl
  | (n,v) :: r,m,h=>by
    unfold bindC
    rw [ZFk fun w hw=>h w (List.mem_cons_of_mem _ hw)]
    split
    · rfl
    · have:x≠n:=by rintro rfl;exact h v List.mem_cons_self
      simp [this]
theorem ZFP {kindOf:Str→Option NameKind} {x:Str} {v:Value}:∀ {P:List Str} {vs:List Value} {i:Nat} {m:Str→Option Value},P.Nodup→P[i]?=some x→vs[i]?=some v→kindOf x=some .local→
    bindL kindOf (P.zip vs) m x=some v
  | [],_,_,_,_,h,_,_=>by simp at h
  | _ :: _,[],_,_,_,_,h,_=>by simp at h
  | p :: P,w :: vs,0,m,nd,h1,h2,hk=>by
    simp at h1 h2;subst h1;subst h2
    show bindL kindOf ((p,w) :: P.zip vs) m p=_
    unfold bindL
    rw [ZFf fun v hv=>(List.nodup_cons.mp nd).1 (List.of_mem_zip hv).1,if_pos hk]
    simp
  | p :: P,w :: vs,i+1,m,nd,h1,h2,hk=>by
    show bindL kindOf ((p,w) :: P.zip vs) m x=_
    unfold bindL
    exact ZFP (i:=i) (List.nodup_cons.mp nd).2 (by simpa using h1) (by simpa using h2) hk
theorem ZFd {kindOf:Str→Option NameKind} {x:Str} {v:Value}:∀ {P:List Str} {vs:List Value} {i:Nat} {m:Str→Option Value},P.Nodup→P[i]?=some x→vs[i]?=some v→kindOf x≠some .local→
    bindC kindOf (P.zip vs) m x=some v
  | [],_,_,_,_,h,_,_=>by simp at h
  | _ :: _,[],_,_,_,_,h,_=>by simp at h
  | p :: P,w :: vs,0,m,nd,h1,h2,hk=>by
    simp at h1 h2;subst h1;subst h2
    show bindC kindOf ((p,w) :: P.zip vs) m p=_
    unfold bindC
    rw [ZFk fun v hv=>(List.nodup_cons.mp nd).1 (List.of_mem_zip hv).1,if_neg hk]
    simp
  | p :: P,w :: vs,i+1,m,nd,h1,h2,hk=>by
    show bindC kindOf ((p,w) :: P.zip vs) m x=_
    unfold bindC
    exact ZFd (i:=i) (List.nodup_cons.mp nd).2 (by simpa using h1) (by simpa using h2) hk
def start (N:List Str) (vs:List V):St:=vs.map some++List.replicate (N.length - vs.length) none
def ZCb (CX:CXT) (P:Program) (w:World) (K:PySem.W.Frag) (mg:Str→Option Value) (base:Heap) (N:List Str) (qual:Str) (scope:Scope) (f:Addr) (cd:Value) (A:Around) (outer:List Env) (s:Shared) (H:Hp) (E:XK):Cx where
  prog:=P
  w:=w
  K:=K
  mg:=mg
  base:=base
  A:=A.deeper (envOfC qual scope s.heap.objs.size f cd)
  N:=N
  s₀:=s
  H₀:=H
  env:=envOfC qual scope s.heap.objs.size f cd
  outer:=outer
  stack:=envOfC qual scope s.heap.objs.size f cd :: outer
  ex:=[]
  calm:=true
  fn:=fun _=>true
  pn:=[]
  xe:=fun e s'=>wpAny (model P w) (A.deeper (envOfC qual scope s.heap.objs.size f cd)) (leaving (envOfC qual scope s.heap.objs.size f cd) e) (fun _ s''=>CX outer H s E e s'') (fun e' s''=>CX outer H s E e' s'') s'
theorem ZGx {sc:Scope} {n:Nat} {x:Str} (h:sc.names.lookup x=some .cell):∃ c,(cellsFrom n sc.names []).lookup x=some c:=by
  have q:=PySem.W.cellsFrom_some sc.names n [] (.inl h)
  exact Option.isSome_iff_exists.mp q
theorem ZIV {CX:CXT} {P:Program} {w:World} {K:PySem.W.Frag} {mg:Str→Option Value} {base:Heap} {N ps:List Str} {qual:Str} {scope:Scope} {f:Addr} {cd:Value} {A:Around} {outer:List Env} {s s1:Shared} {H:Hp} {E:XK} {us:List Value} {vs:List V}
    (S:FnScope N ps scope) (hd:A.handled=none) (e0:Env0 P w K mg base A outer s H) (hl:vs.length=ps.length) (r:Vals vs us)
    (x:InCallC s s.heap.objs.size (bindL (envOfC qual scope s.heap.objs.size f cd).kindOf (ps.zip us) fun _=>none) (cellsFrom (s.heap.objs.size+1) scope.names []) (bindC (envOfC qual scope s.heap.objs.size f cd).kindOf (ps.zip us) fun _=>none) s1) :
    Inv (ZCb CX P w K mg base N qual scope f cd A outer s H E) [] (start N vs) H s1:=by
  have hpl:ps.length≤N.length:=by have:=congrArg List.length S.pre;rw [List.length_take] at this;omega
  obtain ⟨h1,tk,rfl,hk⟩:=x.done
  have noA:∀ b:Addr,b∉(ZCb CX P w K mg base N qual scope f cd A outer s H E).ex:=fun b z=>absurd (show b∈([]:List Addr) from z) (by simp)
  refine ⟨⟨e0.mod,S.kind,rfl,rfl,Nat.le_refl _,fun y z c h1 h2=>?_,fun y hy=>?_,fun y c _ h=>?_,fun _=>hd,Around.frames_deeper e0.frames,.inr ⟨rfl,rfl⟩,fun b z=>absurd z (noA b),e0.bs,e0.bsz,fun b _ _=>noA b,fun b z=>absurd z (noA b),e0.funs,e0.frf⟩,
    rfl,e0.bare,Un.kept hk,⟨_,x.toInCall.ns,fun i y v h1 h2 h3=>?_⟩,fun y c h=>⟨_,x.cell y c h⟩,e0.hok.fresh (Nat.le_refl _),fun y c h=>?_,fun p hp=>absurd (show p∈([]:List (Addr×Obj)) from hp) (by simp),e0.hok.kept hk,?_⟩
  · exact name_of_addr x.apart (PySem.mem_of_lookup h1) (PySem.mem_of_lookup h2)
  · have hy:scope.names.lookup y=some .cell∨scope.names.lookup y=some .free:=hy
    rcases hy with hy | hy
    · exact ZGx hy
    · exact absurd rfl (S.nofree _ (PySem.mem_of_lookup hy))
  · exact Nat.le_of_lt (x.above y c (PySem.mem_of_lookup h))
  · have hi:i < vs.length:=by
      unfold start at h2
      by_cases hi:i < vs.length
      · exact hi
      · rw [List.getElem?_append_right (by simpa using hi)] at h2
        rw [List.getElem?_replicate] at h2
        split at h2 <;> cases h2
    have ha:vs[i]?=some v:=by
      unfold start at h2
      rw [List.getElem?_append_left (by simpa using hi),List.getElem?_map] at h2
      cases e:vs[i]? with
      | none=>rw [e] at h2;cases h2
      | some a=>rw [e] at h2;cases h2;rfl
    obtain ⟨u,hu,rv⟩:=r.get ha
    have hp:ps[i]?=some y:=by
      rw [← S.pre,List.getElem?_take_of_lt (by omega)];exact h1
    have ndP:ps.Nodup:=by rw [← S.pre];exact S.nd.sublist (List.take_sublist _ _)
    refine ⟨u,rv,?_⟩
    rcases S.par y (List.mem_of_getElem? hp) with k | k
    · exact .inl ⟨k,ZFP ndP hp hu k⟩
    · obtain ⟨c,e⟩:=ZGx (n:=s.heap.objs.size+1) k
      refine .inr ⟨.inl k,c,e,?_⟩
      have q:=x.cell y c e
      rw [ZFd ndP hp hu (by show scope.names.lookup y≠_;rw [k];decide)] at q
      exact q
  · exact e0.hok.fresh (Nat.le_of_lt (x.above y c (PySem.mem_of_lookup h)))
  · unfold start
    show _=N.length
    rw [List.length_append,List.length_map,List.length_replicate]
    omega
theorem fn_of {CX:CXT} {P:Program} {w:World} {K:PySem.W.Frag} {mg:Str→Option Value} {base:Heap} {k:Nat} {f:Addr} {name qual:Str} {params:Arguments} {body:List Stmt} {scope:Scope} {dV kV doc pm cdv ct oc:Value} {an od:Option Addr}
    {osl:Array (Option Value)} {N ps:List Str} {sp:Sp} (lk:K.lookup f=some ⟨oc,od,.func (PySem.W.fnOf name qual params body scope dV kV doc pm an cdv ct),osl⟩) (hcd:PySem.W.codeIn K cdv qual=true) (S:FnScope N ps scope)
    (len:∀ vs H Q E,sp vs H Q E→vs.length=ps.length)
    (hbody:∀ (A:Around) (outer:List Env) (s:Shared) (H:Hp) (vs:List V) (Q:VK) (E:XK),Room k (A.deeper (envOfC qual scope s.heap.objs.size f cdv))→sp vs H Q E→
      ∃ t,PSs (ZCb CX P w K mg base N qual scope f cdv A outer s H E) body t∧t { nx:=fun _ H'=>Q .non H',rt:=Q } (start N vs) H) :
    FnOk P w K mg base CX (k+1) f (PySem.W.fnOf name qual params body scope dV kV doc pm an cdv ct) ps sp:=by
  refine ⟨len,fun A outer s H args us vs Q E hr e0 hb r hsp=>?_⟩
  have hl:=len _ _ _ _ hsp
  have KX:K.In s.heap:=e0.mod.kin.keeps fun b o e=>(e0.bs b o e).1
  have lim:s.heap.NoLimit:=e0.mod.nolimit.keeps fun b o e=>(e0.bs b o e).1
  have hkind:∀ y∈ps.zip us,scope.names.lookup y.1=some .local∨(scope.names.lookup y.1=some .cell∧((cellsFrom (s.heap.objs.size+1) scope.names []).lookup y.1).isSome=true):=fun ⟨n,v⟩ hy=>by
    rcases S.par n (List.of_mem_zip hy).1 with q | q
    · exact .inl q
    · exact .inr ⟨q,PySem.W.cellsFrom_some _ _ _ (.inl q)⟩
  refine codeAny_call_function hr.depth (KX _ _ lk) rfl S.co S.gen rfl (PySem.W.codeRec_of KX hcd) (hb _ _ _ _ ?_)
  refine wpAny_newFunctionEnv_cells S.kind hkind fun env he s1 x=>?_
  subst he
  refine ⟨lim.keeps x.toInCall.keep,codeAny_func ?_⟩
  obtain ⟨t,ht,hq⟩:=hbody A outer s H vs Q E (hr.deeper _) hsp
  have I:Inv (ZCb CX P w K mg base N qual scope f cdv A outer s H E) [] (start N vs) H s1:=ZIV S hr.hd e0 hl r x
  refine wpAny_mono (ht [] s1 (start N vs) H _ I hq) (fun fl s' hs=>?_) fun e s' hs=>hs
  have fin:∀ {σ':St} {H':Hp} {v:V} {u:Value},Inv (ZCb CX P w K mg base N qual scope f cdv A outer s H E) [] σ' H' s'→RelV v u→Q v H'→CE outer P w H s Q u s':=
    fun {σ' H' v u} J rv q=>⟨v,H',J.os,J.bare,J.base,J.hok,rv,q⟩
  cases fl with
  | ret u=>
    obtain ⟨v,σ',H',J,rv,q⟩:=hs
    exact fin J rv q
  | next=>
    obtain ⟨σ',H',J,q⟩:=hs
    exact fin (v:=V.non) (u:=Value.none) J rfl q
  | brk=>
    obtain ⟨_,_,_,q⟩:=hs
    exact False.elim q
  | cont=>
    obtain ⟨_,_,_,q⟩:=hs
    exact False.elim q
end L2
namespace L2
open PySem PySem.Spec PyProof.Rows
section
variable {X:Cx} {x:Str} {p pos:Pos} {e:Expr} {es:List Expr} {t:TA} {id T:String} {r:List V→Hp→VK→Prop}
def tCB (r:List V→Hp→VK→Prop) (t:TA):TE:=fun σ H Q=>t σ H fun vs H1=>r vs H1 Q
theorem pe_callB (hc:ZC7 X (.builtin id) r) (hg:Gl X x) (hm:X.mg x=none) (hv:bootBuiltins x=some (.builtin id)) (ha:PA X (e :: es) t) (hn:x ≠ "__name__" := by decide) (hdb:(x == ("__debug__" : Str))=false:=by decide)
    (he:starEach (e :: es) X.env=(false,eval e X.env) :: starEach es X.env:=by rfl) (hpl:(backTo pos (starEach es X.env)).any (·.1)=false:=by rfl):PE X (.Call (.Name x p) (e :: es) [] pos) (tCB r t):=by
  intro pins s σ H Q I h
  refine wpAny_Call_Name_kw (ZDa I hg hm hv ?_ hn hdb)
  exact PyProof.Rows.callWith_builtin1 (thn (ha pos pins s σ H _ I h) fun us s1 ⟨vs,H1,I1,r1,q1⟩=>hc pins s1 σ H1 vs us Q I1 r1 q1) he hpl
theorem ZJ0 (hc:ZC7 X (.type T) r) (hg:Gl X x) (hm:X.mg x=none) (hv:bootBuiltins x=some (.type T)) (ha:PA X (e :: es) t) (hn:x ≠ "__name__" := by decide) (hdb:(x == ("__debug__" : Str))=false:=by decide)
    (he:starEach (e :: es) X.env=(false,eval e X.env) :: starEach es X.env:=by rfl) (hpl:(backTo pos (starEach es X.env)).any (·.1)=false:=by rfl):PE X (.Call (.Name x p) (e :: es) [] pos) (tCB r t):=by
  intro pins s σ H Q I h
  refine wpAny_Call_Name_kw (ZDa I hg hm hv ?_ hn hdb)
  exact PyProof.Rows.callWith_type1 (thn (ha pos pins s σ H _ I h) fun us s1 ⟨vs,H1,I1,r1,q1⟩=>hc pins s1 σ H1 vs us Q I1 r1 q1) he hpl
end
end L2
namespace HT
open PySem PyProof.Rows
section
open PySem.SeqAt
open PySem.AutoSeq1 (wpAny_loadPart')
open PySem.MeetsSeq PySem.MeetsSeq2 PySem.MeetsSeq3
end
section
variable {prog:Program} {w:World} {A:Around} {E:Value→Shared→Prop} {s:Shared}
theorem cat_tup {t b:Addr} {vs ws:List Value} {Q:Value→Shared→Prop} (ht:IsTup s.heap t vs.toArray) (hb:IsTup s.heap b ws.toArray) (hv:vs≠[])
    (h1:ws=[]→Q (.ref t) s) (h2:ws≠[]→Q (.ref s.heap.objs.size) { s with heap:=s.heap.push { cls:=.type "tuple", data:=.seq (vs++ws).toArray } })
    (hsz:vs.length+ws.length≤sizeLine):wpAny (model prog w) A (binaryOp .Add (.ref t) (.ref b)) Q E s:=by
  obtain ⟨⟨cls,dd,data,sl⟩,ho,hc,n,hd⟩:=id ht
  obtain ⟨⟨cls2,dd2,data2,sl2⟩,ho2,hc2,n2,hd2⟩:=id hb
  simp only at hc hd hc2 hd2
  subst hc hd hc2 hd2
  have e:vs.toArray++ws.toArray=(vs++ws).toArray:=by simp
  by_cases hw:ws=[]
  · exact concat_meets ⟨_,ho,rfl⟩ ⟨_,ho2,rfl⟩ noFill_tuple_add seq_tuple_add PySem.F.slot_tuple_add PySem.F.entry_tuple_add (PySem.F.args_tuple_add_2 _ _)
      (tuple_addW1 t b vs.toArray ws.toArray n n2 dd dd2 sl sl2 (by simpa using hv) (by simp [hw])) ⟨ho,ho2,h1 hw⟩
  · refine concat_meets ⟨_,ho,rfl⟩ ⟨_,ho2,rfl⟩ noFill_tuple_add seq_tuple_add PySem.F.slot_tuple_add PySem.F.entry_tuple_add (PySem.F.args_tuple_add_2 _ _)
      (tuple_addW2 t b vs.toArray ws.toArray n n2 dd dd2 sl sl2 (by simpa using hv) (by simpa using hw) (by rw [List.size_toArray,List.size_toArray];exact hsz)) ⟨ho,ho2,?_⟩
    rw [e]
    exact h2 hw
def sIx (n d:Nat):Option Int→Nat
  | none=>d
  | some v=>if v < 0 then (v+(n:Int)).toNat else min v.toNat n
theorem sIx_none (n d:Nat):sIx n d none=d:=rfl
theorem sIx_nat (n d k:Nat):sIx n d (some (k:Int))=min k n:=by
  show (if (k:Int) < 0 then ((k:Int)+(n:Int)).toNat else min (k:Int).toNat n)=min k n
  rw [if_neg (by omega),Int.toNat_natCast]
theorem sIx_le (n d:Nat) (hd:d≤n) (o:Option Int):sIx n d o≤n:=by
  cases o with
  | none=>exact hd
  | some v=>
    show (if v < 0 then (v+(n:Int)).toNat else min v.toNat n)≤n
    by_cases hv:v < 0
    · rw [if_pos hv];omega
    · rw [if_neg hv];exact Nat.min_le_right _ _
theorem ZIE (v:Int) (n d:Nat):(if v < 0 then max (v+(n:Int)) 0 else min v (n:Int))=((sIx n d (some v):Nat):Int):=by
  show (if v < 0 then max (v+(n:Int)) 0 else min v (n:Int))=(((if v < 0 then (v+(n:Int)).toNat else min v.toNat n):Nat):Int)
  by_cases hv:v < 0
  · simp only [if_pos hv];omega
  · simp only [if_neg hv];omega
theorem ZHX (lo hi:Option Int) (n:Nat):Builtin.Slice.sliceAdjust lo hi 1 (n:Int)=(((sIx n 0 lo:Nat):Int),((sIx n n hi:Nat):Int)):=by
  have h1:¬ ((1:Int) < 0):=by omega
  unfold Builtin.Slice.sliceAdjust
  simp only [h1,if_false]
  refine Prod.ext ?_ ?_
  · cases lo with
    | none=>rfl
    | some v=>exact ZIE v n 0
  · cases hi with
    | none=>rfl
    | some v=>exact ZIE v n n
theorem ZHi (i j:Nat):Builtin.Slice.slicePlaces (i:Int) (j:Int) 1=j - i:=by
  unfold Builtin.Slice.slicePlaces
  have h1:(1:Int) > 0:=by omega
  simp only [h1,if_true,Int.ediv_one]
  split <;> omega
theorem ZEN {v:Value} {o:Option Int} {Q:Option Int→Shared→Prop} (p:IsPart v o) (h:Q o s):wpAny (model prog w) A (Builtin.Slice.slicePartIndex v) Q E s:=by
  cases p with
  | none=>exact slicePart_none h
  | int i t=>exact slicePart_int h
theorem ZC8 {sl:Addr} {vl vu:Value} {lo hi:Option Int} {n:Nat} {Q:Int×Int×Nat→Shared→Prop} (hs:s.heap.IsSliceOf sl vl vu .none) (pl:IsPart vl lo) (pu:IsPart vu hi)
    (h:Q (((sIx n 0 lo:Nat):Int),1,sIx n n hi - sIx n 0 lo) s):wpAny (model prog w) A (Builtin.Slice.sliceApplied (.ref sl) (pure (n:Int))) Q E s:=by
  obtain ⟨os,hos,hcs,hds⟩:=id hs
  unfold Builtin.Slice.sliceApplied Builtin.Slice.sliceFields
  refine wpAny_bind (wpAny_bind (wpAny_field hos hds (x:=vl) rfl (wpAny_bind (wpAny_field hos hds (x:=vu) rfl (wpAny_bind (wpAny_field hos hds (x:=.none) rfl (wpAny_pure ?_)))))))
  refine wpAny_bind (slicePart_none ?_)
  show wpAny _ _ (if ((1:Int) == 0)=true then _ else _) _ _ s
  rw [if_neg (by decide)]
  refine wpAny_bind (ZEN pl (wpAny_bind (ZEN pu (wpAny_bind (wpAny_pure ?_)))))
  show wpAny _ _ (match Builtin.Slice.sliceAdjust lo hi 1 (n:Int) with | (lo,hi)=>pure (lo,(1:Int),Builtin.Slice.slicePlaces lo hi 1)) _ _ s
  rw [ZHX lo hi n]
  show wpAny _ _ (pure (((sIx n 0 lo:Nat):Int),(1:Int),Builtin.Slice.slicePlaces ((sIx n 0 lo:Nat):Int) ((sIx n n hi:Nat):Int) 1)) _ _ s
  rw [ZHi]
  exact wpAny_pure h
theorem pick_gen (xs:Array Value) (i k:Nat):((List.range k).filterMap fun (m:Nat)=>xs[((i:Int)+(m:Int) * 1).toNat]?).toArray=((xs.toList.drop i).take k).toArray:=by
  have e:(fun (m:Nat)=>xs[((i:Int)+(m:Int) * 1).toNat]?)=fun m=>xs[i+m]?:=by
    funext m
    have:((i:Int)+(m:Int) * 1).toNat=i+m:=by omega
    rw [this]
  rw [e]
  have:=pick_run xs i k
  rw [List.filterMap_map] at this
  have e2:((fun x=>xs[x]?) ∘ fun x=>i+x)=fun m=>xs[i+m]?:=rfl
  rw [e2] at this
  rw [this]
theorem getItem_tuple_cut {t sl:Addr} {items:Array Value} {vl vu:Value} {lo hi:Option Int} {Q:Value→Shared→Prop} (ht:IsTup s.heap t items) (hs:s.heap.IsSliceOf sl vl vu .none) (pl:IsPart vl lo) (pu:IsPart vu hi)
    (hw:¬ (sIx items.size 0 lo=0∧sIx items.size items.size hi=items.size))
    (h:Q (.ref s.heap.objs.size) { s with heap:=s.heap.push { cls:=.type "tuple", data:=.seq ((items.toList.drop (sIx items.size 0 lo)).take (sIx items.size items.size hi - sIx items.size 0 lo)).toArray } })
    (hsz:items.size≤sizeLine):wpAny (model prog w) A (getItem (.ref t) (.ref sl)) Q E s:=by
  have htake:sizeOk (.seq ((items.toList.drop (sIx items.size 0 lo)).take (sIx items.size items.size hi - sIx items.size 0 lo)).toArray):=by
    show ((items.toList.drop (sIx items.size 0 lo)).take (sIx items.size items.size hi - sIx items.size 0 lo)).toArray.size≤sizeLine
    rw [List.size_toArray,List.length_take,List.length_drop,Array.length_toList]
    omega
  have hj:sIx items.size items.size hi≤items.size:=sIx_le _ _ (Nat.le_refl _) hi
  obtain ⟨os,hos,hcs,hds⟩:=id hs
  have hTs:s.TypeIs (.ref sl) "slice" := ⟨os,hos,hcs⟩
  unfold getItem
  try with_reducible refine wpAny_holding ?_
  first | refine wpAny_bind (wpAny_pure ?_) | skip
  refine wpAny_bind (wpAny_sequenceKey ht.typeIs (by decide) ?_)
  refine wpAny_bind (wpAny_callSpecial?_slot (name:=Str.ofString "__getitem__") ht.typeIs PyProof.Rows.slot_tuple_getitem
    (wpAny_call_entry PyProof.Rows.slot_tuple_getitem ht.typeIs entry_tuple_getitem ?_ (args_tuple_getitem _ _)))
  show wpAny _ _ (Builtin.Tuple.tupleItemsOf (.ref t) >>= _) _ _ s
  refine wpAny_bind (tupleItemsOf_ ht ?_)
  refine wpAny_bind (wpAny_typeOf hTs ?_)
  rw [if_pos (by decide)]
  refine wpAny_bind (ZC8 hs pl pu ?_)
  have hno:¬ ((((sIx items.size 0 lo:Nat):Int) == 0 && (1:Int) == 1 && (sIx items.size items.size hi - sIx items.size 0 lo) == items.size)=true):=by
    intro q
    rw [Bool.and_eq_true,Bool.and_eq_true] at q
    have q1:((sIx items.size 0 lo:Nat):Int)=0:=eq_of_beq q.1.1
    have q2:sIx items.size items.size hi - sIx items.size 0 lo=items.size:=eq_of_beq q.2
    exact hw ⟨by omega,by omega⟩
  show wpAny _ _ (if (((sIx items.size 0 lo:Nat):Int) == 0 && (1:Int) == 1 && (sIx items.size items.size hi - sIx items.size 0 lo) == items.size)=true then _ else _) _ _ s
  rw [if_neg hno,pick_gen]
  first
    | exact wpAny_bind (m:=Builtin.Tuple.tupleExact _) (wpAny_newObj_type (wpAny_pure ⟨_,rfl,wpAny_pure h⟩) htake)
    | exact wpAny_bind (m:=Builtin.Tuple.tupleExact _) (wpAny_newObj_type (wpAny_bind (wpAny_pure (wpAny_pure ⟨_,rfl,wpAny_pure h⟩))) htake)
    | exact wpAny_bind (wpAny_bind (m:=Builtin.Tuple.tupleExact _) (wpAny_newObj_type (wpAny_pure (wpAny_pure ⟨_,rfl,wpAny_pure h⟩)) htake))
    | exact wpAny_bind (wpAny_bind (m:=Builtin.Tuple.tupleExact _) (wpAny_newObj_type (wpAny_pure ⟨_,rfl,wpAny_pure h⟩) htake))
end
end HT
namespace L2
open PySem PySem.Spec PyProof.Rows
abbrev TO:=St→Hp→(Option Int→Hp→Prop)→Prop
def PO (X:Cx) (e:Option Expr) (t:TO):Prop:=
  ∀ (pins:List (Addr×Obj)) (s:Shared) (σ:St) (H:Hp) (Q:Option Int→Hp→Prop),Inv X pins σ H s→t σ H Q→
    wpAny (model X.prog X.w) X.A (evalPart e X.env) (fun u s'=>∃ o H',Inv X pins σ H' s'∧IsPart u o∧Q o H') X.xe s
def ZGN:TO:=fun _ H Q=>Q none H
def tPart (t:TE):TO:=fun σ H Q=>t σ H fun x H1=>∃ i,x=.int i∧Q (some i) H1
section
variable {X:Cx} {e:Expr} {te:TE} {lo hi:Option Expr} {tl th:TO} {pos p2:Pos}
theorem po_none:PO X none ZGN:=by
  intro pins s σ H Q I h
  rw [evalPart_none]
  exact wpAny_pure ⟨none,H,I,.none,h⟩
theorem po_some (h:PE X e te):PO X (some e) (tPart te):=by
  intro pins s σ H Q I hw
  rw [evalPart_some]
  refine thn (h pins s σ H _ I hw) fun u s1 ⟨x,H1,I1,r1,q1⟩=>?_
  obtain ⟨i,rfl,q⟩:=q1
  obtain ⟨t,rfl⟩:=r1
  exact ⟨some i,H1,I1,.int i t,q⟩
def SlR (X:Cx) (r:V→Option Int→Option Int→Hp→VK→Prop):Prop:=
  ∀ (pins:List (Addr×Obj)) (s:Shared) (σ:St) (H:Hp) (x:V) (v vl vu:Value) (lo hi:Option Int) (sl:Addr) (Q:VK),Inv X pins σ H s→RelV x v→s.heap.IsSliceOf sl vl vu .none→IsPart vl lo→IsPart vu hi→r x lo hi H Q→
    ∃ T id,typeLookup (.type T) "__getitem__" = pure (some (.builtin id))∧s.TypeIs v T∧wpAny (model X.prog X.w) X.A (getItem v (.ref sl)) (EP X pins σ Q) X.xe s
def tSl (r:V→Option Int→Option Int→Hp→VK→Prop) (te:TE) (tl th:TO):TE:=fun σ H Q=>te σ H fun x H1=>tl σ H1 fun l H2=>th σ H2 fun u H3=>r x l u H3 Q
theorem pe_slice {r:V→Option Int→Option Int→Hp→VK→Prop} (hr:SlR X r) (he:PE X e te) (hl:PO X lo tl) (hu:PO X hi th):PE X (.Subscript e (.Slice lo hi none p2) pos) (tSl r te tl th):=by
  intro pins s σ H Q I h
  refine Subscript_ (thn (he pins s σ H _ I h) fun v s1 ⟨x,H1,I1,r1,q1⟩=>?_)
  refine wpAny_Slice (thn (hl pins s1 σ H1 _ I1 q1) fun vl s2 ⟨l,H2,I2,pl,q2⟩=>thn (hu pins s2 σ H2 _ I2 q2) fun vu s3 ⟨u,H3,I3,pu,q3⟩=>?_)
  rw [evalPart_none]
  refine wpAny_pure ?_
  have I4:Inv X pins σ H3 { s3 with heap:=s3.heap.push { cls:=.type "slice", data:=.fields #[vl,vu,.none] } }:=I3.kept (t':=s3.toks) fun b ob q=>Heap.get?_push_of_some _ q
  obtain ⟨T,id,hT,ht,hg⟩:=hr pins { s3 with heap:=s3.heap.push { cls:=.type "slice", data:=.fields #[vl,vu,.none] } } σ H3 x v vl vu l u s3.heap.objs.size Q I4 r1 (Heap.IsSliceOf.new ..) pl pu q3
  show wpAny (model X.prog X.w) X.A (subscriptTail e (.Slice lo hi none p2) v (.ref s3.heap.objs.size)) (EP X pins σ Q) X.xe { s3 with heap:=s3.heap.push { cls:=.type "slice", data:=.fields #[vl,vu,.none] } }
  exact tail_any (ops:=[.ref s3.heap.objs.size,v]) ht hT hg (by with_unfolding_all rfl)
def ZDD (xs:List V) (lo hi:Option Int):List V:=(xs.drop (HT.sIx xs.length 0 lo)).take (HT.sIx xs.length xs.length hi - HT.sIx xs.length 0 lo)
theorem ZDp (xs:List V) (lo hi:Option Int):(ZDD xs lo hi).length≤xs.length:=by
  unfold ZDD
  rw [List.length_take,List.length_drop]
  omega
def rSlT (K:PySem.W.Frag):V→Option Int→Option Int→Hp→VK→Prop:=fun x lo hi H Q=>∃ a xs,x=.ref a∧SqT K H a xs∧
  ¬ (HT.sIx xs.length 0 lo=0∧HT.sIx xs.length xs.length hi=xs.length)∧∀ p,H p=none→Q (.ref p) (upd H p (.tup (ZDD xs lo hi)))
theorem sl_tup:SlR X (rSlT X.K):=by
  intro pins s σ H x v vl vu lo hi sl Q I rx hs pl pu h
  obtain ⟨a,xs,rfl,hx,hw,q⟩:=h
  cases rx
  obtain ⟨its,r,ht,hz⟩:=I.tuple hx
  have hlen:its.toArray.size=xs.length:=by rw [List.size_toArray];exact r.length.symm
  refine ⟨"tuple", _,PyProof.Rows.slot_tuple_getitem.lookup,ht.typeIs,?_⟩
  refine HT.getItem_tuple_cut ht hs pl pu (by rw [hlen];exact hw) ?_ (by rw [hlen];exact hz)
  rw [hlen]
  refine ⟨.ref s.heap.objs.size,_,I.laid (t':=s.toks) (o:=.tup (ZDD xs lo hi)) (fun b ob q=>Heap.get?_push_of_some _ q) (Nat.le_refl _) ?_,rfl,q _ (I.hok.fresh (Nat.le_refl _))⟩
  exact ⟨Nat.le_trans (ZDp xs lo hi) hz,_,(r.drop (HT.sIx xs.length 0 lo)).take (HT.sIx xs.length xs.length hi - HT.sIx xs.length 0 lo),⟨IsTup.new _ _,fun ob' e'=>by rw [Heap.get?_push_size _ rfl] at e';cases e';rfl⟩⟩
def rCatT (K:PySem.W.Frag):R2:=fun x y H Q=>∃ a b xs ys,x=.ref a∧y=.ref b∧SqT K H a xs∧SqT K H b ys∧xs≠[]∧xs.length+ys.length≤sizeLine∧
  (ys=[]→Q (.ref a) H)∧(ys≠[]→∀ p,H p=none→Q (.ref p) (upd H p (.tup (xs++ys))))
theorem Vals.nil_iff {xs:List V} {us:List Value} (r:Vals xs us):us=[]↔xs=[]:=by
  cases r with
  | nil=>simp
  | cons _ _=>simp
theorem op_catT:OpR X (binaryOp .Add) (rCatT X.K):=by
  intro pins s σ H x y v u Q I rx ry h
  obtain ⟨a,b,xs,ys,rfl,rfl,ha,hb,hx,hz,q1,q2⟩:=h
  cases rx
  cases ry
  obtain ⟨its,r1,p1,_⟩:=I.tuple ha
  obtain ⟨its2,r2,p2,_⟩:=I.tuple hb
  refine HT.cat_tup p1 p2 (fun z=>hx (r1.nil_iff.mp z)) (fun z=>⟨.ref a,H,I,rfl,q1 (r2.nil_iff.mp z)⟩) (fun z=>?_) (by rw [← r1.length,← r2.length];exact hz)
  refine ⟨.ref s.heap.objs.size,_,I.laid (t':=s.toks) (o:=.tup (xs++ys)) (fun b ob q=>Heap.get?_push_of_some _ q) (Nat.le_refl _) ?_,rfl,q2 (fun w=>z (r2.nil_iff.mpr w)) _ (I.hok.fresh (Nat.le_refl _))⟩
  exact ⟨by rw [List.length_append];exact hz,_,r1.append r2,⟨IsTup.new _ _,fun ob' e'=>by rw [Heap.get?_push_size _ rfl] at e';cases e';rfl⟩⟩
end
end L2
namespace L2
open PySem PySem.Spec PyProof.Rows
def ixN (n:Nat) (i:Int):Option Nat:=if 0≤i then (if i < n then some i.toNat else none) else if -(n:Int)≤i then some (i+n).toNat else none
def atI {α:Type} (xs:List α) (i:Int):Option α:=(ixN xs.length i).bind fun j=>xs[j]?
theorem ZI1 {n:Nat} {i:Int} {j:Nat} (h:ixN n i=some j):seqIndex? i n=some j∧j < n∧-(n:Int)≤i∧i < n:=by
  unfold ixN at h
  by_cases h0:0≤i
  · rw [if_pos h0] at h
    by_cases h1:i < n
    · rw [if_pos h1] at h
      have e:i.toNat=j:=Option.some.inj h
      exact ⟨by rw [seqIndex_of h0 h1,e],by omega,by omega,h1⟩
    · rw [if_neg h1] at h;cases h
  · rw [if_neg h0] at h
    by_cases h1:-(n:Int)≤i
    · rw [if_pos h1] at h
      have e:(i+n).toNat=j:=Option.some.inj h
      exact ⟨by rw [seqIndex_neg (by omega) h1,e],by omega,h1,by omega⟩
    · rw [if_neg h1] at h;cases h
theorem ZFs {α:Type} {xs:List α} {i:Int} {v:α} (h:atI xs i=some v):∃ j,seqIndex? i xs.length=some j∧xs[j]?=some v∧j < xs.length∧-(xs.length:Int)≤i∧i < xs.length:=by
  unfold atI at h
  cases e:ixN xs.length i with
  | none=>rw [e] at h;cases h
  | some j=>
    rw [e] at h
    obtain ⟨h1,h2,h3,h4⟩:=ZI1 e
    exact ⟨j,h1,h,h2,h3,h4⟩
theorem atI_nat {α:Type} {xs:List α} {j:Nat} {v:α} (h:xs[j]?=some v):atI xs (j:Int)=some v:=by
  have hj:j < xs.length:=(List.getElem?_eq_some_iff.mp h).1
  have e:ixN xs.length (j:Int)=some j:=by
    unfold ixN
    rw [if_pos (by omega),if_pos (by omega)];simp
  unfold atI;rw [e];exact h
def ZI6 (b:Expr):Prop:=∀ o i,subscripted b false o i=operate [o,i] (getItem o i)
def IxR (X:Cx) (r:R2):Prop:=
  ∀ (value slice:Expr) (pins:List (Addr×Obj)) (s:Shared) (σ:St) (H:Hp) (x y:V) (v u:Value) (Q:VK),Inv X pins σ H s→RelV x v→RelV y u→r x y H Q→
    subscripted slice false v u=operate [v,u] (getItem v u)→wpAny (model X.prog X.w) X.A (subscriptTail value slice v u) (EP X pins σ Q) X.xe s
def MtR (X:Cx) (id:String) (r:V→List V→Hp→VK→Prop):Prop:=
  ∀ (pins:List (Addr×Obj)) (s:Shared) (σ:St) (H:Hp) (x:V) (xs:List V) (v:Value) (us:List Value) (Q:VK),Inv X pins σ H s→RelV x v→Vals xs us→r x xs H Q→
    wpAny (model X.prog X.w) X.A (call (.builtin id) (v :: us)) (EP X pins σ Q) X.xe s
section
variable {X:Cx} {a b:Expr} {ta tb:TE} {pos:Pos}
theorem pe_ix {r:R2} (hr:IxR X r) (ha:PE X a ta) (hb:PE X b tb) (hs:ZI6 b):PE X (.Subscript a b pos) (tOp r ta tb):=by
  intro pins s σ H Q I h
  exact Subscript_ (binT ha hb I h fun v u s2 x y H2 I2 rx ry q=>hr a b pins s2 σ H2 x y v u Q I2 rx ry q (hs _ _))
def rIxL (K:PySem.W.Frag):R2:=fun x y H Q=>∃ p xs i v,x=.ref p∧y=.int i∧SqL K H p xs∧atI xs i=some v∧Q v H
def rIxT (K:PySem.W.Frag):R2:=fun x y H Q=>∃ p xs i v,x=.ref p∧y=.int i∧SqT K H p xs∧atI xs i=some v∧Q v H
def rIxS:R2:=fun x y H Q=>∃ z i c,x=.str z∧y=.int i∧z.length≤sizeLine∧atI z.cps.toList i=some c∧Q (.str ⟨#[c]⟩) H
theorem ZAy:IxR X (rIxL X.K):=by
  intro value slice pins s σ H x y v u Q I rx ry h hs
  obtain ⟨p,xs,i,z,rfl,rfl,hq,he,q⟩:=h
  cases rx
  obtain ⟨t,rfl⟩:=ry
  obtain ⟨its,r,pl,hz⟩:=I.list hq
  obtain ⟨j,h1,h2,h3,h4,h5⟩:=ZFs he
  obtain ⟨w,ew,rw'⟩:=r.get h2
  have hl:=r.length
  have hn:=ZD3
  have fin:EP X pins σ Q w s:=⟨z,H,I,rw',q⟩
  by_cases h0:0≤i
  · have hj:i.toNat=j:=by
      rw [seqIndex_of h0 h5] at h1
      exact Option.some.inj h1
    exact item_listR pl.isList h0 (by omega) (by rw [hj];simpa using ew) fin hs
  · have hj:(i+(its.toArray.size:Int)).toNat=j:=by
      rw [seqIndex_neg (by omega) h4] at h1
      rw [List.size_toArray,← hl]
      exact Option.some.inj h1
    exact subscriptTail_builtinR (x:=w) pl.isList.typeIs slot_list_getitem.lookup
      (wpAny_getItem_list_neg (Q:=fun r s'=>r=w∧EP X pins σ Q r s') pl.isList (by omega) (by rw [List.size_toArray] <;> omega) (by omega) (by rw [hj];simpa using ew) ⟨rfl,fin⟩) hs
theorem ZAY:IxR X (rIxT X.K):=by
  intro value slice pins s σ H x y v u Q I rx ry h hs
  obtain ⟨p,xs,i,z,rfl,rfl,hq,he,q⟩:=h
  cases rx
  obtain ⟨t,rfl⟩:=ry
  obtain ⟨its,r,pl,hz⟩:=I.tuple hq
  obtain ⟨j,h1,h2,h3,h4,h5⟩:=ZFs he
  obtain ⟨w,ew,rw'⟩:=r.get h2
  have hl:=r.length
  have hn:=ZD3
  have fin:EP X pins σ Q w s:=⟨z,H,I,rw',q⟩
  exact subscriptTail_builtinR (x:=w) pl.typeIs slot_tuple_getitem.lookup
    (getItem_tuple (j:=j) (Q:=fun r s'=>r=w∧EP X pins σ Q r s') pl (by omega) (by omega) (by rw [List.size_toArray,← hl];exact h1) (by simpa using ew) ⟨rfl,fin⟩) hs
theorem ix_str:IxR X rIxS:=by
  intro value slice pins s σ H x y v u Q I rx ry h hs
  obtain ⟨z,i,c,rfl,rfl,hz,he,q⟩:=h
  obtain ⟨t,rfl⟩:=rx
  obtain ⟨t',rfl⟩:=ry
  obtain ⟨j,h1,h2,h3,h4,h5⟩:=ZFs he
  have hl:z.cps.toList.length=z.length:=by simp [Str.length]
  rw [hl] at h1 h4 h5
  have hn:=ZD3
  exact tail_any (typeIs_str s z t) slot_str_getitem.lookup (getItem_str (c:=c) (by
    have e1:decide (i < -(2 ^ 63:Int))=false:=decide_eq_false (by omega)
    have e2:decide (i≥2 ^ 63)=false:=decide_eq_false (by omega)
    rw [e1,e2,Bool.or_false]) (by rw [h1];simpa using h2) ⟨.str ⟨#[c]⟩,H,I.tok _,⟨_,rfl⟩,q⟩) hs
theorem ZHk (its:List Value) (n j:Nat) (u:Value):Obj.mapSeq (·.setIfInBounds j u) { cls:=.type "list", data:=.seq its.toArray n }={ cls:=.type "list", data:=.seq (its.set j u).toArray n }:=by
  simp [Obj.mapSeq]
theorem Inv.lst {pins:List (Addr×Obj)} {σ:St} {H:Hp} {s:Shared} {p:Addr} {xs:List V} (I:Inv X pins σ H s) (h:H p=some (.lst xs)) :
    ∃ (its:List Value) (n:Nat),Vals xs its∧s.heap.get? p=some { cls:=.type "list", data:=.seq its.toArray n }∧xs.length≤sizeLine:=by
  obtain ⟨z,its,n,r,e⟩:=I.hok p _ h
  exact ⟨its,n,r,e,z⟩
theorem Inv.lstUpd {pins:List (Addr×Obj)} {σ:St} {H:Hp} {s:Shared} {p:Addr} {xs ys:List V} {its its':List Value} {n n':Nat} {f:Obj→Obj} (I:Inv X pins σ H s) (h:H p=some (.lst xs))
    (ho:s.heap.get? p=some { cls:=.type "list", data:=.seq its.toArray n }) (hf:f { cls:=.type "list", data:=.seq its.toArray n }={ cls:=.type "list", data:=.seq its'.toArray n' }) (r:Vals ys its') (hz:ys.length≤sizeLine) (t:Nat) :
    Inv X pins σ (upd H p (.lst ys)) { s with heap:=s.heap.update p f,toks:=t }:=by
  have e:(s.heap.update p f).get? p=some { cls:=.type "list", data:=.seq its'.toArray n' }:=by
    rw [Heap.get?_update_self f ho (by rw [hf] <;> rfl),hf]
  refine I.write (x:=p) (e:=p) (by rw [h];trivial) (.inl rfl) (fun b u hb q=>(Heap.get?_update_other _ _ (Ne.symm hb)).trans q) ⟨_,e⟩ ?_
  exact ⟨hz,its',n',r,e⟩
def rSetL:V→V→V→Hp→(Hp→Prop)→Prop:=fun o i v H Q=>∃ p xs k j,o=.ref p∧i=.int k∧H p=some (.lst xs)∧ixN xs.length k=some j∧Q (upd H p (.lst (xs.set j v)))
theorem ZGY:PSet X rSetL:=by
  intro pins s σ H o i v ov iv u Q I ro ri rv h
  obtain ⟨p,xs,k,j,rfl,rfl,hp,hj,q⟩:=h
  cases ro
  obtain ⟨t,rfl⟩:=ri
  obtain ⟨its,n,r,ho,hz⟩:=I.lst hp
  obtain ⟨h1,h2,h3,h4⟩:=ZI1 hj
  have hl:=r.length
  have hn:=ZD3
  have I':Inv X pins σ (upd H p (.lst (xs.set j v))) { s with heap:=s.heap.update p (Obj.mapSeq (·.setIfInBounds j u)) }:=
    I.lstUpd hp ho (ZHk its n j u) (r.set rv j) (by rw [List.length_set];exact hz) s.toks
  by_cases h0:0≤k
  · have hk:k.toNat=j:=by
      rw [seqIndex_of h0 h4] at h1
      exact Option.some.inj h1
    exact PySem.W.ki_setAt ho h0 (by omega) (by rw [List.size_toArray,← hl];exact h4) (by rw [hk];exact ⟨_,I',q⟩)
  · have hk:(k+(its.toArray.size:Int)).toNat=j:=by
      rw [seqIndex_neg (by omega) h3] at h1
      rw [List.size_toArray,← hl]
      exact Option.some.inj h1
    exact PySem.W.ki_setBack ho (by omega) (by rw [List.size_toArray,← hl];exact h3) (by omega) (by rw [hk];exact ⟨_,I',q⟩)
theorem ZG2 (lo hi:Option Int) (n:Nat):(sliceBounds lo hi none n).1=((HT.sIx n 0 lo:Nat):Int)∧(sliceBounds lo hi none n).2.1=((HT.sIx n n hi:Nat):Int)∧(sliceBounds lo hi none n).2.2=1:=by
  refine ⟨?_,?_,rfl⟩
  · cases lo with
    | none=>simp [sliceBounds,HT.sIx]
    | some i=>
      simp only [sliceBounds,HT.sIx,Option.getD_none,show (1:Int) > 0 by decide,if_true]
      by_cases h:i < 0
      · simp only [h,if_true] <;> omega
      · simp only [h,if_false] <;> omega
  · cases hi with
    | none=>simp [sliceBounds,HT.sIx]
    | some i=>
      simp only [sliceBounds,HT.sIx,Option.getD_none,show (1:Int) > 0 by decide,if_true]
      by_cases h:i < 0
      · simp only [h,if_true] <;> omega
      · simp only [h,if_false] <;> omega
theorem ZF6 (its:List Value) (lo hi:Option Int):slicePick its.toArray lo hi none=((its.drop (HT.sIx its.length 0 lo)).take (HT.sIx its.length its.length hi - HT.sIx its.length 0 lo)).toArray:=by
  obtain ⟨h1,h2,h3⟩:=ZG2 lo hi its.toArray.size
  unfold slicePick
  rw [h1,h2,h3]
  simp only [sliceRange_one,pick_run,List.size_toArray] <;> rfl
def rSlL (K:PySem.W.Frag):V→Option Int→Option Int→Hp→VK→Prop:=fun x lo hi H Q=>∃ a xs,x=.ref a∧SqL K H a xs∧∀ p,H p=none→Q (.ref p) (upd H p (.lst (ZDD xs lo hi)))
theorem ZE1:SlR X (rSlL X.K):=by
  intro pins s σ H x v vl vu lo hi sl Q I rx hs pl pu h
  obtain ⟨a,xs,rfl,hx,q⟩:=h
  cases rx
  obtain ⟨its,r,ht,hz⟩:=I.list hx
  have hlen:=r.length
  refine ⟨"list", _,slot_list_getitem.lookup,ht.isList.typeIs,?_⟩
  refine wpAny_getItem_list_slice ht.isList hs pl pu .none (by simp) ?_ (by rw [List.size_toArray] <;> omega)
  rw [ZF6,← hlen]
  refine ⟨.ref s.heap.objs.size,_,I.laid (t':=s.toks) (o:=.lst (ZDD xs lo hi)) (fun b ob q=>Heap.get?_push_of_some _ q) (Nat.le_refl _) ?_,rfl,q _ (I.hok.fresh (Nat.le_refl _))⟩
  exact ⟨Nat.le_trans (ZDp xs lo hi) hz,_,0,(r.drop (HT.sIx xs.length 0 lo)).take (HT.sIx xs.length xs.length hi - HT.sIx xs.length 0 lo),Heap.get?_push_size _ rfl⟩
def ZAz:V→Bool
  | .non=>true
  | .bl _=>true
  | .int _=>true
  | .str _=>true
  | _=>false
def eqV:V→V→Bool
  | .non,.non=>true
  | .bl a,.bl b=>a == b
  | .bl a,.int b=>(if a then 1 else 0) == b
  | .int a,.bl b=>a == (if b then 1 else 0)
  | .int a,.int b=>a == b
  | .str a,.str b=>a == b
  | _,_=>false
theorem ZGM {A:Around} {s:Shared} {y x:V} {u v:Value} (ry:RelV y u) (rx:RelV x v) (fy:ZAz y=true) (fx:ZAz x=true):SeqAt.EqAt A s u v (eqV y x):=by
  cases y with
  | non=>
    cases ry
    cases x with
    | non=>cases rx;exact SeqAt.EqAt.same _
    | bl b=>cases rx;exact SeqAt.EqAt.none_bool b
    | int b=>obtain ⟨t,rfl⟩:=rx;exact SeqAt.EqAt.none_int b t
    | str b=>obtain ⟨t,rfl⟩:=rx;exact SeqAt.EqAt.none_str b t
    | _=>exact absurd (show false=true from fx) Bool.false_ne_true
  | bl a=>
    cases ry
    cases x with
    | non=>cases rx;exact SeqAt.EqAt.bool_none a
    | bl b=>cases rx;exact SeqAt.EqAt.bool_bool a b
    | int b=>obtain ⟨t,rfl⟩:=rx;exact SeqAt.EqAt.bool_int a b t
    | str b=>obtain ⟨t,rfl⟩:=rx;exact SeqAt.EqAt.bool_str a b t
    | _=>exact absurd (show false=true from fx) Bool.false_ne_true
  | int a=>
    obtain ⟨t',rfl⟩:=ry
    cases x with
    | non=>cases rx;exact SeqAt.EqAt.int_none a t'
    | bl b=>cases rx;exact SeqAt.EqAt.int_bool a t' b
    | int b=>obtain ⟨t,rfl⟩:=rx;exact SeqAt.EqAt.int_int a t' b t
    | str b=>obtain ⟨t,rfl⟩:=rx;exact SeqAt.EqAt.int_str a t' b t
    | _=>exact absurd (show false=true from fx) Bool.false_ne_true
  | str a=>
    obtain ⟨t',rfl⟩:=ry
    cases x with
    | non=>cases rx;exact SeqAt.EqAt.str_none a t'
    | bl b=>cases rx;exact SeqAt.EqAt.str_bool a t' b
    | int b=>obtain ⟨t,rfl⟩:=rx;exact SeqAt.EqAt.str_int a t' b t
    | str b=>obtain ⟨t,rfl⟩:=rx;exact SeqAt.EqAt.str_str a t' b t
    | _=>exact absurd (show false=true from fx) Bool.false_ne_true
  | _=>exact absurd (show false=true from fy) Bool.false_ne_true
def eqU (x:V) (u:Value):Bool:=match u with
  | .none=>eqV .non x
  | .bool b=>eqV (.bl b) x
  | .int i _=>eqV (.int i) x
  | .str z _=>eqV (.str z) x
  | _=>false
theorem ZHZ {x y:V} {u:Value} (r:RelV y u) (f:ZAz y=true):eqU x u=eqV y x:=by
  cases y with
  | non=>cases r;rfl
  | bl b=>cases r;rfl
  | int i=>obtain ⟨t,rfl⟩:=r;rfl
  | str z=>obtain ⟨t,rfl⟩:=r;rfl
  | _=>exact absurd (show false=true from f) Bool.false_ne_true
theorem ZDH {x:V}:∀ {xs:List V} {us:List Value},Vals xs us→xs.all ZAz=true→us.any (eqU x)=xs.any fun y=>eqV y x
  | _,_,.nil,_=>rfl
  | y :: xs,u :: us,.cons r t,f=>by
    rw [List.all_cons,Bool.and_eq_true] at f
    rw [List.any_cons,List.any_cons,ZHZ r f.1,ZDH t f.2]
theorem ZC6 {A:Around} {s:Shared} {x:V} {v:Value} (rx:RelV x v) (fx:ZAz x=true):∀ {xs:List V} {us:List Value},Vals xs us→xs.all ZAz=true→∀ u∈us,SeqAt.EqAt A s u v (eqU x u)
  | _,_,.nil,_=>fun u hu=>by cases hu
  | y :: xs,u :: us,.cons r t,f=>fun u' hu=>by
    rw [List.all_cons,Bool.and_eq_true] at f
    rcases List.mem_cons.mp hu with rfl | hu
    · rw [ZHZ r f.1];exact ZGM r rx f.1 fx
    · exact ZC6 rx fx t f.2 u' hu
def inV (x:V) (xs:List V):Bool:=xs.any fun y=>eqV y x
def rIn (K:PySem.W.Frag) (neg:Bool):R2:=fun x y H Q=>∃ p xs,y=.ref p∧(SqL K H p xs∨SqT K H p xs)∧ZAz x=true∧xs.all ZAz=true∧Q (.bl (if neg then !inV x xs else inV x xs)) H
theorem ZDg:OpR X (compareOp .In) (rIn X.K false):=by
  intro pins s σ H x y v u Q I rx ry h
  obtain ⟨p,xs,rfl,hq,fx,fs,q⟩:=h
  cases ry
  rcases hq with hq | hq
  · obtain ⟨its,r,pl,hz⟩:=I.list hq
    refine SeqAt.in_listAt (eqU x) pl.isList (fun w hw=>ZC6 rx fx r fs w (by simpa using hw)) ⟨.bl _,H,I,rfl,?_⟩
    rw [show its.toArray.any (eqU x)=its.any (eqU x) by simp,ZDH r fs]
    exact q
  · obtain ⟨its,r,pl,hz⟩:=I.tuple hq
    refine SeqAt.in_tupleAt (eqU x) pl (fun w hw=>ZC6 rx fx r fs w (by simpa using hw)) ⟨.bl _,H,I,rfl,?_⟩
    rw [show its.toArray.any (eqU x)=its.any (eqU x) by simp,ZDH r fs]
    exact q
theorem ZBe:OpR X (compareOp .NotIn) (rIn X.K true):=by
  intro pins s σ H x y v u Q I rx ry h
  obtain ⟨p,xs,rfl,hq,fx,fs,q⟩:=h
  cases ry
  rcases hq with hq | hq
  · obtain ⟨its,r,pl,hz⟩:=I.list hq
    refine SeqAt.notIn_listAt (eqU x) pl.isList (fun w hw=>ZC6 rx fx r fs w (by simpa using hw)) ⟨.bl _,H,I,rfl,?_⟩
    rw [show its.toArray.any (eqU x)=its.any (eqU x) by simp,ZDH r fs]
    exact q
  · obtain ⟨its,r,pl,hz⟩:=I.tuple hq
    refine SeqAt.notIn_tupleAt (eqU x) pl (fun w hw=>ZC6 rx fx r fs w (by simpa using hw)) ⟨.bl _,H,I,rfl,?_⟩
    rw [show its.toArray.any (eqU x)=its.any (eqU x) by simp,ZDH r fs]
    exact q
theorem ZBf:ZC7 X (.builtin "len") (fun xs H Q=>∃ p ys,xs=[.ref p]∧(SqL X.K H p ys∨SqT X.K H p ys)∧Q (.int ys.length) H):=by
  intro pins s σ H xs us Q I r h
  obtain ⟨p,ys,rfl,hq,q⟩:=h
  obtain ⟨u,rfl,rx⟩:=ZEH r
  cases rx
  have hn:=ZD3
  rcases hq with hq | hq
  · obtain ⟨its,r',pl,hz⟩:=I.list hq
    have hlen:=r'.length
    exact Calls.call_len_list pl.isList (by simp only [List.size_toArray] <;> omega) ⟨.int ys.length,H,I.tok _,⟨s.toks+1,by rw [List.size_toArray,hlen]⟩,q⟩
  · obtain ⟨its,r',pl,hz⟩:=I.tuple hq
    have hlen:=r'.length
    exact len_tuple pl (by simp only [List.size_toArray] <;> omega) ⟨.int ys.length,H,I.tok _,⟨s.toks+1,by rw [List.size_toArray,hlen]⟩,q⟩
theorem ZCK:ZC7 X (.builtin "len") (fun xs H Q=>∃ z,xs=[.str z]∧z.length≤sizeLine∧Q (.int z.length) H):=by
  intro pins s σ H xs us Q I r h
  obtain ⟨z,rfl,hz,q⟩:=h
  obtain ⟨u,rfl,t,rfl⟩:=ZEH r
  have hn:=ZD3
  exact len_str (by omega) ⟨.int z.length,H,I.tok _,⟨_,rfl⟩,q⟩
theorem ZFt:ZC7 X (.type "list") (fun xs H Q=>∃ p ys,xs=[.ref p]∧(SqL X.K H p ys∨SqT X.K H p ys)∧∀ l,H l=none→Q (.ref l) (upd H l (.lst ys))):=by
  intro pins s σ H xs us Q I r h
  obtain ⟨p,ys,rfl,hq,q⟩:=h
  obtain ⟨u,rfl,rx⟩:=ZEH r
  cases rx
  have fin:∀ (its:List Value),Vals ys its→ys.length≤sizeLine→∀ (h':Heap) (c':Nat),(∀ b o',s.heap.get? b=some o'→h'.get? b=some o')→
      h'.get? s.heap.objs.size=some { cls:=.type "list", dict:=none,data:=.seq its.toArray c',slots:=#[] }→EP X pins σ Q (.ref s.heap.objs.size) { s with heap:=h' }:=fun its r' hz h' c' kp e=>
    ⟨.ref s.heap.objs.size,_,I.laid (t':=s.toks) kp (Nat.le_refl _) (show ObjOk X.prog X.w _ h' _ (.lst ys) from ⟨hz,its,c',r',e⟩),rfl,q _ (I.hok.fresh (Nat.le_refl _))⟩
  rcases hq with hq | hq
  · obtain ⟨its,r',pl,hz⟩:=I.list hq
    have hlen:=r'.length
    obtain ⟨o,ho,hc,n,hd⟩:=pl.isList
    exact call_list_seq p (.inl rfl) ho hc hd (fun h' c' kp e=>fin its r' hz h' c' kp e) (by simp only [List.size_toArray] <;> omega)
  · obtain ⟨its,r',pl,hz⟩:=I.tuple hq
    have hlen:=r'.length
    obtain ⟨o,ho,hc,n,hd⟩:=pl
    exact call_list_seq p (.inr rfl) ho hc hd (fun h' c' kp e=>fin its r' hz h' c' kp e) (by simp only [List.size_toArray] <;> omega)
theorem ZCr:ZC7 X (.type "tuple") (fun xs H Q=>∃ p ys,xs=[.ref p]∧((SqL X.K H p ys∧∀ l,H l=none→Q (.ref l) (upd H l (.tup ys)))∨(SqT X.K H p ys∧Q (.ref p) H))):=by
  intro pins s σ H xs us Q I r h
  obtain ⟨p,ys,rfl,h⟩:=h
  obtain ⟨u,rfl,rx⟩:=ZEH r
  cases rx
  rcases h with ⟨hq,q⟩ | ⟨hq,q⟩
  · obtain ⟨its,r',pl,hz⟩:=I.list hq
    have hlen:=r'.length
    refine call_tuple_list pl.isList (fun h' kp=>?_) (by simp only [List.size_toArray] <;> omega)
    have I1:Inv X pins σ H { s with heap:=h' }:=I.kept (t':=s.toks) kp
    have I2:Inv X pins σ (upd H h'.objs.size (.tup ys)) { s with heap:=h'.push { cls:=.type "tuple", data:=.seq its.toArray } }:=
      I1.laid (t':=s.toks) (fun b o e=>Heap.get?_push_of_some _ e) (Nat.le_refl _) (show ObjOk X.prog X.w _ _ _ (.tup ys) from ⟨hz,its,r',⟨IsTup.new _ _,fun ob' e'=>by rw [Heap.get?_push_size _ rfl] at e';cases e';rfl⟩⟩)
    exact ⟨.ref h'.objs.size,_,I2,rfl,q _ (I1.hok.fresh (Nat.le_refl _))⟩
  · obtain ⟨its,r',pl,hz⟩:=I.tuple hq
    exact call_tuple_same pl ⟨.ref p,H,I,rfl,q⟩
def tyV (K:PySem.W.Frag) (T:String) (x:V) (H:Hp):Prop:=match x with
  | .str _=>T = "str"
  | .int _=>T = "int"
  | .ref p=>(T = "list" ∧ ∃ xs,SqL K H p xs)∨(T = "tuple" ∧ ∃ o,K.lookup p=some o∧o.cls=.type "tuple" ∧ o.dict=none)∨
      (T = "dict" ∧ ((∃ kvs,H p=some (.dK kvs))∨∃ kvs,H p=some (.dT kvs)))∨(T = "set" ∧ ∃ S n,H p=some (.set S n))∨(T = "tuple" ∧ ∃ xs,H p=some (.tup xs))
  | _=>False
theorem tyV_is {pins:List (Addr×Obj)} {σ:St} {H:Hp} {s:Shared} {T:String} {x:V} {v:Value} (I:Inv X pins σ H s) (r:RelV x v) (ty:tyV X.K T x H) :
    s.TypeIs v T∧∀ a,v=.ref a→∃ ob,s.heap.get? a=some ob∧ob.dict=none:=by
  cases x with
  | str z=>
    obtain ⟨t,rfl⟩:=r
    cases (show T = "str" from ty)
    exact ⟨typeIs_str s z t,fun _ e=>nomatch e⟩
  | int i=>
    obtain ⟨t,rfl⟩:=r
    cases (show T = "int" from ty)
    exact ⟨typeIs_int s i t,fun _ e=>nomatch e⟩
  | ref p=>
    cases r
    rcases ty with ⟨rfl,xs,hq⟩ | ⟨rfl,o,hk,hc,hd⟩ | ⟨rfl,hk⟩ | ⟨rfl,S,n,hk⟩ | ⟨rfl,xs,hk⟩
    · obtain ⟨its,_,pl,_⟩:=I.list hq
      refine ⟨pl.isList.typeIs,fun a e=>?_⟩
      cases e
      obtain ⟨o,n,e,c,hd,_⟩:=pl
      exact ⟨o,e,hd⟩
    · refine ⟨⟨o,I.kIn p o hk,hc⟩,fun a e=>?_⟩
      cases e
      exact ⟨o,I.kIn _ o hk,hd⟩
    · have z:∃ o,s.heap.get? p=some o∧o.ExactDict:=by
        rcases hk with ⟨kvs,hk⟩ | ⟨kvs,hk⟩
        · obtain ⟨_,_,_,_,o,_,_,e,ex,_⟩:=I.hok p _ hk
          exact ⟨o,e,ex⟩
        · obtain ⟨_,_,_,_,o,_,_,e,ex,_⟩:=I.hok p _ hk
          exact ⟨o,e,ex⟩
      obtain ⟨o,e,ex⟩:=z
      refine ⟨⟨o,e,ex.1⟩,fun a e2=>?_⟩
      cases e2
      exact ⟨o,e,ex.2.1⟩
    · obtain ⟨o,_,_,_,e,ex,_⟩:=I.hok p _ hk
      refine ⟨⟨o,e,ex.1⟩,fun a e2=>?_⟩
      cases e2
      exact ⟨o,e,ex.2.1⟩
    · obtain ⟨_,its,_,⟨o,e,c,_⟩,dn⟩:=I.hok p _ hk
      refine ⟨⟨o,e,c⟩,fun a e2=>?_⟩
      cases e2
      exact ⟨o,e,dn o e⟩
  | _=>exact False.elim ty
def tBM0 (K:PySem.W.Frag) (T:String) (r:V→List V→Hp→VK→Prop) (to:TE):TE:=fun σ H Q=>to σ H fun x H1=>tyV K T x H1∧r x [] H1 Q
def tBM (K:PySem.W.Frag) (T:String) (r:V→List V→Hp→VK→Prop) (to:TE) (t:TA):TE:=fun σ H Q=>to σ H fun x H1=>tyV K T x H1∧t σ H1 fun xs H2=>r x xs H2 Q
variable {o e:Expr} {es:List Expr} {to:TE} {t:TA} {name:Str} {apos cpos:Pos} {T id:String} {r:V→List V→Hp→VK→Prop}
theorem pe_bm (pa:PlainAttrs T) (slot:Slot T name id) (hty:typeOf (.builtin id)=pure (.type "method_descriptor")) (hm:MtR X id r) (ho:PE X o to) (ha:PA X (e :: es) t)
    (hbase:attributeBase o name X.env (eval o X.env)=eval o X.env:=by rfl)
    (hfew:((backTo cpos (starEach (e :: es) X.env)).all (fun x=>!x.1) && (backToKw cpos (keywordEach [] X.env)).all (fun x=>x.1.isSome)
      && decide ((e :: es).length+([]:List Keyword).length+(if ([]:List Keyword).isEmpty then 0 else 1) < 30))=true:=by rfl)
    (hline:(apos.endLine == cpos.line)=true:=by rfl) (hs:starEach (e :: es) X.env=(false,eval e X.env) :: starEach es X.env:=by rfl) (hplain:(backTo cpos (starEach es X.env)).any (·.1)=false:=by rfl) :
    PE X (.Call (.Attribute o name apos) (e :: es) [] cpos) (tBM X.K T r to t):=by
  intro pins s σ H Q I h
  refine wpAny_Call_method_late hbase hfew hline rfl (thn (ho pins s σ H _ I h) fun v s1 ⟨x,H1,I1,r1,ty,q1⟩=>?_)
  obtain ⟨h1,h2⟩:=tyV_is I1 r1 ty
  refine ⟨T,id,pa,slot,hty,h1,h2,?_⟩
  have hA:=ha cpos pins s1 σ H1 _ I1 q1
  rw [hs] at hA ⊢
  refine Calls.callWith_builtin (by show (false || (backTo cpos (starEach es X.env)).any (·.1))=false;rw [hplain] <;> rfl) (Calls.evalArgs_plain ?_)
  exact thn hA fun us s2 ⟨vs,H2,I2,r2,q2⟩=>hm pins s2 σ H2 x vs v us Q I2 r1 r2 q2
end
end L2
namespace L2
open PySem PySem.Spec PyProof.Rows
def MtM (X:Cx) (id:String) (r:V→List V→Hp→VK→Prop):Prop:=
  ∀ (pins:List (Addr×Obj)) (s:Shared) (σ:St) (H:Hp) (x:V) (xs:List V) (v:Value) (us:List Value) (Q:VK),Inv X pins σ H s→RelV x v→Vals xs us→r x xs H Q→
    wpAny (model X.prog X.w) X.A (call (.builtin id) (v :: us)) (EP X pins σ Q) X.xe s
theorem Vals.one:∀ {x:V} {us:List Value},Vals [x] us→∃ u,us=[u]∧RelV x u
  | _,_,.cons r .nil=>⟨_,rfl,r⟩
theorem Vals.two:∀ {x y:V} {us:List Value},Vals [x,y] us→∃ u v,us=[u,v]∧RelV x u∧RelV y v
  | _,_,_,.cons r (.cons q .nil)=>⟨_,_,rfl,r,q⟩
theorem Vals.reverse {xs:List V} {us:List Value} (h:Vals xs us):Vals xs.reverse us.reverse:=by
  induction h with
  | nil=>exact .nil
  | cons r t ih=>rw [List.reverse_cons,List.reverse_cons];exact Vals.append ih (.cons r .nil)
theorem Vals.rep {xs:List V} {us:List Value} (h:Vals xs us):∀ k:Nat,Vals (List.replicate k xs).flatten (List.replicate k us).flatten
  | 0=>.nil
  | k+1=>by
    rw [List.replicate_succ,List.replicate_succ,List.flatten_cons,List.flatten_cons]
    exact Vals.append h (Vals.rep h k)
theorem ZFe (its:List Value):∀ (k:Nat) (acc:List Value),
    List.foldl (fun x1 x2=>x1++x2) acc.toArray (List.replicate k its.toArray)=(acc++(List.replicate k its).flatten).toArray
  | 0,acc=>by simp
  | k+1,acc=>by
    have e:acc.toArray++its.toArray=(acc++its).toArray:=by simp
    have e2:(acc++its)++(List.replicate k its).flatten=acc++(List.replicate (k+1) its).flatten:=by
      rw [List.replicate_succ,List.flatten_cons,List.append_assoc]
    rw [← e2,← ZFe its k (acc++its),← e,List.replicate_succ,List.foldl_cons]
section
variable {X:Cx} {pins:List (Addr×Obj)} {σ:St} {H:Hp} {s:Shared} {l b:Addr} {xs ys zs:List V}
theorem Inv.lset {its its':List Value} {n:Nat} {f:Array Value→Array Value} {t':Nat} (I:Inv X pins σ H s) (hH:H l=some (.lst xs))
    (e:s.heap.get? l=some { cls:=.type "list", data:=.seq its.toArray n }) (hf:f its.toArray=its'.toArray) (hv:Vals ys its') (hz:ys.length≤sizeLine) :
    Inv X pins σ (upd H l (.lst ys)) { s with heap:=s.heap.update l (Obj.mapSeq f),toks:=t' }:=by
  have q:=PySem.IsL.update e f
  rw [hf] at q
  refine I.write (x:=l) (e:=l) (by rw [hH];exact trivial) (.inl rfl) (fun b' u hb hu=>(Heap.get?_update_other s.heap (Obj.mapSeq f) (Ne.symm hb)).trans hu) ⟨_,q⟩ ?_
  exact ⟨hz,its',_,hv,q⟩
theorem Inv.lnew {its:List Value} {t':Nat} (I:Inv X pins σ H s) (hv:Vals ys its) (hz:ys.length≤sizeLine) :
    Inv X pins σ (upd H s.heap.objs.size (.lst ys)) { s with heap:=s.heap.push { cls:=.type "list", data:=.seq its.toArray },toks:=t' }:=
  I.laid (fun _ _ q=>Heap.get?_push_of_some _ q) (Nat.le_refl _) ⟨hz,its,0,hv,Heap.get?_push_size _ rfl⟩
theorem Inv.fresh (I:Inv X pins σ H s):H s.heap.objs.size=none:=I.hok.fresh (Nat.le_refl _)
theorem Inv.lstM (I:Inv X pins σ H s) (hH:H l=some (.lst xs)):xs.length≤sizeLine∧∃ (its:List Value) (n:Nat),Vals xs its∧xs.length=its.length∧s.heap.get? l=some { cls:=.type "list", data:=.seq its.toArray n }:=by
  obtain ⟨z,its,n,r,e⟩:=I.hok l _ hH
  exact ⟨z,its,n,r,r.length,e⟩
end
section
variable {X:Cx}
def ZGC:V→List V→Hp→VK→Prop:=fun x vs H Q=>∃ l xs y,x=.ref l∧vs=[y]∧H l=some (.lst xs)∧xs.length < sizeLine∧Q .non (upd H l (.lst (xs++[y])))
theorem ZFl:MtM X "list.append" ZGC:=by
  intro pins s σ H x vs v us Q I rx rv h
  obtain ⟨l,xs,y,rfl,rfl,hH,hz,q⟩:=h
  cases rx
  obtain ⟨u,rfl,ru⟩:=rv.one
  obtain ⟨z,its,n,r,hl,e⟩:=I.lstM hH
  refine call_meets F.slot_list_append ⟨_,e,rfl⟩ F.entry_list_append (F.args_list_append_2 _ _) (PySem.list_append l its.toArray n u (by rw [List.size_toArray];omega)) ⟨e,?_⟩
  refine ⟨.non,_,I.lset (its':=its++[u]) hH e (by simp) (r.append (.cons ru .nil)) ?_,rfl,q⟩
  rw [List.length_append,List.length_singleton]
  omega
def rReverse:V→List V→Hp→VK→Prop:=fun x vs H Q=>∃ l xs,x=.ref l∧vs=[]∧H l=some (.lst xs)∧Q .non (upd H l (.lst xs.reverse))
def rCat:R2:=fun x y H Q=>∃ l b xs zs,x=.ref l∧y=.ref b∧H l=some (.lst xs)∧H b=some (.lst zs)∧xs.length+zs.length≤sizeLine∧∀ p,H p=none→Q (.ref p) (upd H p (.lst (xs++zs)))
theorem ZHS:OpR X (binaryOp .Add) rCat:=by
  intro pins s σ H x y v u Q I rx ry h
  obtain ⟨l,b,xs,zs,rfl,rfl,hH,hB,hz,q⟩:=h
  cases rx
  cases ry
  obtain ⟨z,its,n,r,hl,e⟩:=I.lstM hH
  obtain ⟨z2,its2,n2,r2,hl2,e2⟩:=I.lstM hB
  refine PySem.P.add_list e e2 ?_ (by rw [List.size_toArray,List.size_toArray];omega)
  have ea:its.toArray++its2.toArray=(its++its2).toArray:=by simp
  rw [ea]
  exact ⟨.ref _,_,I.lnew (t':=s.toks) (r.append r2) (by rw [List.length_append];omega),rfl,q _ I.fresh⟩
theorem len_rep {α:Type} (xs:List α) (k:Nat):(List.replicate k xs).flatten.length=k * xs.length:=by
  induction k with
  | zero=>simp
  | succ k ih=>rw [List.replicate_succ,List.flatten_cons,List.length_append,ih,Nat.succ_mul,Nat.add_comm]
end
section
variable {prog:Program} {w:World} {A:Around} {E:Value→Shared→Prop} {s:Shared}
set_option maxRecDepth 100000 in
end
section
variable {X:Cx}
end
end L2
namespace Att
open PySem PySem.W PySem.Calls PyProof.Rows
theorem ZDu {P:Params} {h:Heap}:∀ (ns:List Int) (vs:List Value),WellAll P h vs (ns.map WData.int)→IntsAre vs ns:=by
  intro ns
  induction ns with
  | nil=>
    intro vs w
    rw [List.map_nil] at w
    cases w
    exact .nil
  | cons n ns ih=>
    intro vs w
    rw [List.map_cons] at w
    cases w with
    | cons a b=>
      cases a
      exact .cons _ _ (ih _ b)
theorem ZIu {l:OpenLaw} {n:Nat} (hn:l.most=some n) {P:Params} {h:Heap} {args:List WData} {vals:List Value}
    (hpre:l.row.toRowW.claim.pre args=true) (hwl:WellAll P h vals args) :
    ∃ a vs ns,vals=[Value.ref a]∧args=[WData.list (ns.map WData.int)]∧h.get? a=some { cls:=.type "list", data:=.seq vs.toArray }∧IntsAre vs ns∧ns.length≤n:=by
  have hsh:WShape.hasAll [] args [.list .int]=true:=(pre_splitW hpre).1
  have hc:l.pre.holds [] { args:=args }=true:=(pre_splitW hpre).2
  obtain ⟨d,r,rfl,h1,h2⟩:=hasAllW_cons hsh
  obtain rfl:=hasAllW_nil h2
  obtain ⟨xs,rfl,h3⟩:=hasW_list h1
  obtain ⟨ns,rfl⟩:=items_int h3
  have hlen:ns.length≤n:=by
    unfold OpenLaw.pre at hc
    have h4:(WTm.not (.lt (.lit (.int (n:Int))) (.len (.arg 0)))).holds [] { args:=[.list (ns.map .int)] }=true:=by
      have h4:=(holds_andW hc).1
      rw [hn] at h4
      exact h4
    have h5:=condW_of h4 (w_not (w_lt w_lit (w_len_list (w_arg rfl))))
    rw [List.length_map] at h5
    refine Nat.le_of_not_lt fun q=>?_
    have q':(n:Int) < ((ns.length:Nat):Int):=by omega
    first
      | (rw [decide_eq_true q'] at h5;exact absurd h5 (by decide))
      | (simp at h5;omega)
  cases hwl with
  | cons w1 w2=>
    cases w2
    cases w1 with
    | list ho hall=>exact ⟨_,_,ns,rfl,rfl,ho,ZDu ns _ hall,hlen⟩
theorem ZJ6 (l:OpenLaw) (args:List WData):l.row.toRowW.claim.post args (.bool true) args=true:=
  postW_of (r:=l.row.toRowW) (X:=(true == true))
    (show WShape.has [] (.bool true) .bool=true by first | rfl | decide | simp [WShape.has,WShape.arms,WShape.armsAll])
    (show (WTm.eq .res (.lit (.bool true))).value [] { args:=args,res:=some (.bool true),after:=args }=some (.bool (true == true)) from w_eq_bool (w_res rfl) w_lit) rfl
theorem attach_call {l:OpenLaw} {n:Nat} {q:Program} {loose:List Str} {XP:(Str→Option Value)→Heap→Prop} {YP:World→Heap→Prop} {d:DefRec}
    (hn:l.most=some n) (hdf:d.params.defaults=[])
    (call:∀ (w:World) (s₀ s₁:Shared) (mg mb:Str→Option Value) (fa:Addr) (o:Obj) (pm cd doc:Value) (a:Addr) (vs:List Value) (ns:List Int),
      Ground q loose [] XP w s₀ mg mb s₁.heap→YP w s₁.heap→
      s₁.heap.get? fa=some o→o.data=.func (docDef d.name d.params d.body d.scope pm cd doc)→s₁.heap.CodeRec cd d.name→mg d.name=some (.ref fa)→
      s₁.heap.get? a=some { cls:=.type "list", data:=.seq vs.toArray }→IntsAre vs ns→ns.length≤n→s₁.gens=#[]→
      codeAny (model l.prog w) callerA (.call (.ref fa) ⟨[.ref a],[]⟩) (fun r s'=>r=.ok (.ret (.bool true))∧OldK s₁.heap s'.heap∧s'.os=s₁.os∧AllBare s'.gens) s₁) :
    WalkO q loose XP YP l.row.toRowW d [] (fun f vs=>PySem.call f vs):=by
  intro w s₀ s₁ mg mb G Y fa o pm cd doc dV kV ho hd hcd hD hmg hg args vals as hpre hlay hrd hwl hlo
  obtain rfl:dV=.none:=Dflts.none hD hdf
  obtain rfl:kV=.none:=Dflts.noKw hD
  obtain ⟨a,vs,ns,rfl,rfl,hobj,hints,hlen⟩:=ZIu hn hpre hwl
  refine enter_call (codeAny_mono (call w s₀ s₁ mg mb fa o pm cd doc a vs ns G Y ho (fd_plain hd) hcd hmg hobj hints hlen hg) fun r s' hq=>?_)
  obtain ⟨rfl,h2,h3,h4⟩:=hq
  exact ⟨.inl ⟨.bool true,.bool true,[],rfl,fun _=>rfl,.bool true,ZJ6 l _,fun _=>⟨List.Pairwise.nil,fun _ hm=>(nomatch hm)⟩⟩,h2,h3,h4⟩
section
variable {prog:Program} {w:World} {A:Around} {E:Value→Shared→Prop} {s:Shared} {K:Frag}
end
end Att
namespace L2
open PySem PySem.Spec PyProof.Rows
theorem ZFE:∀ {vs:List Value} {ns:List Int},IntsAre vs ns→Vals (ns.map V.int) vs
  | _,_,.nil=>.nil
  | _,_,.cons n t h=>.cons ⟨t,rfl⟩ (ZFE h)
def Only (H:Hp):Prop:=∀ b,H b=none∨∃ o xs,H b=some (.frz o (.lst xs))
theorem law_call {P:Program} {w:World} {K:PySem.W.Frag} {mg mb:Str→Option Value} {CX:CXT} {k:Nat} {fa a:Addr} {fd:FuncData} {x:Str} {sp:Sp} {s₁:Shared} {vs:List Value} {ns:List Int}
    (KX:K.In s₁.heap) (hns:s₁.heap.Ns mainGlobals mg) (hb:s₁.heap.Ns builtinsNs mb) (hbb:∀ x:Str,x ≠ "__name__" → mb x=bootBuiltins x) (hlim:s₁.heap.NoLimit) (hg:s₁.gens=#[])
    (ha:s₁.heap.get? a=some { cls:=.type "list", data:=.seq vs.toArray }) (hi:IntsAre vs ns) (hl:ns.length≤sizeLine) (hr:Room k callerA)
    (F:∀ base:Heap,K.In base→base.Ns mainGlobals mg→FnOk P w K mg base CX k fa fd [x] sp) (hbind:∀ (s:Shared) (u:Value),BindsTo s fd ⟨[u],[]⟩ [(x,u)])
    (hsp:∀ H:Hp,Only H→SqL K H a (ns.map V.int)→sp [.ref a] H (fun v _=>v=.bl true) fun _ _ _=>False)
    (hCX:∀ H e s',CX [] H s₁ (fun _ _ _=>False) e s'→False) :
    codeAny (model P w) callerA (.call (.ref fa) ⟨[.ref a],[]⟩) (fun r s'=>r=.ok (.ret (.bool true))∧OldK s₁.heap s'.heap∧s'.os=s₁.os∧AllBare s'.gens) s₁:=by
  have rv:=ZFE hi
  have lenV:=hi.length
  -- from an abstract heap in which nothing but the script may be tracked
  have core:∀ H:Hp,Only H→SqL K H a (ns.map V.int)→HOk P w H s₁.heap→(∀ b,H b≠none→b=a)→(H a≠none→K.lookup a=none)→
      codeAny (model P w) callerA (.call (.ref fa) ⟨[.ref a],[]⟩) (fun r s'=>r=.ok (.ret (.bool true))∧OldK s₁.heap s'.heap∧s'.os=s₁.os∧AllBare s'.gens) s₁:=by
    intro H hO hS hok hA hK
    have base_of:∀ {b:Addr} {o:Obj},s₁.heap.get? b=some o→H b=none→(hidT s₁.heap H).get? b=some o:=fun e n=>hidT_get e n
    have noA:∀ {b:Addr} {o:Obj} {es:Array DictEntry} {ep:Nat},s₁.heap.get? b=some o→o.data=.dict es ep→H b=none:=fun {b o es ep} e d=>by
      cases q:H b with
      | none=>rfl
      | some u=>
        have e':b=a:=hA b (by rw [q];simp)
        subst e'
        rw [ha] at e;cases e
        have d':Data.seq vs.toArray _=Data.dict es ep:=d
        cases d'
    have nsK:∀ {b:Addr} {m:Str→Option Value},s₁.heap.Ns b m→(hidT s₁.heap H).Ns b m:=fun {b m} ⟨o,es,ep,e,d,r⟩=>⟨o,es,ep,base_of e (noA e d),d,r⟩
    have hKb:K.In (hidT s₁.heap H):=fun b o e=>base_of (KX b o e) (by
      cases q:H b with
      | none=>rfl
      | some u=>
        have e':b=a:=hA b (by rw [q];simp)
        subst e'
        rw [hK (by rw [q];simp)] at e;cases e)
    have hM:Mod K mg (hidT s₁.heap H):=⟨hKb,nsK hns,⟨mb,nsK hb,hbb⟩,let ⟨mc,h1,h2⟩:=hlim;⟨mc,nsK h1,h2⟩⟩
    have e0:Env0 P w K mg (hidT s₁.heap H) callerA [] s₁ H:=⟨rfl,hM,fun b o e=>of_hidT e,Nat.le_of_eq (ZIi _ _),trivial,fun b hb=>absurd (show b∈([]:List Addr) from hb) (by simp),hok,.of_eq hg⟩
    refine codeAny_mono ((F _ hKb (nsK hns)).run callerA [] s₁ H ⟨[.ref a],[]⟩ [.ref a] [.ref a] _ _ hr e0 (hbind s₁ (.ref a)) (.cons rfl .nil) (hsp H hO hS)) fun r s' h=>?_
    cases r with
    | error e=>exact (hCX H e s' h).elim
    | ok fl=>
      cases fl with
      | next=>exact False.elim h
      | brk=>exact False.elim h
      | cont=>exact False.elim h
      | ret u=>
        obtain ⟨v,H',os,bare,un,hok',r',q⟩:=h
        have q':v=.bl true:=q
        subst q'
        obtain rfl:u=Value.bool true:=r'
        refine ⟨rfl,OldK.of_keep fun b o e=>?_,os,bare⟩
        cases q:H b with
        | none=>exact un.keep b o e q (by intro z;exact absurd (show b∈([]:List Addr) from z) (by simp)) (by simp)
        | some u=>
          rcases hO b with z | ⟨ob,xs,z⟩
          · rw [q] at z;cases z
          · have z2:=un.frzs b ob _ z
            obtain ⟨e1,_⟩:=hok b _ z
            obtain ⟨e2,_⟩:=hok' b _ z2
            rw [e] at e1;cases e1
            exact e2
  cases hk:K.lookup a with
  | some o=>
    -- the script is one of the module's own objects
    have e:=KX a o hk
    rw [ha] at e
    cases e
    refine core (fun _=>none) (fun _=>.inl rfl) (.inr ⟨_,vs.toArray,_,hk,rfl,rfl,rfl,by rw [List.size_toArray,lenV];exact hl,by simpa using rv⟩) (fun b u z=>by have z':(none:Option HO)=some u:=z;cases z') (fun b z=>absurd rfl z) fun z=>absurd rfl z
  | none=>
    refine core (fun b=>if b=a then some (.frz { cls:=.type "list", data:=.seq vs.toArray } (.lst (ns.map V.int))) else none) (fun b=>?_) (.inl (.inr ⟨{ cls:=.type "list", data:=.seq vs.toArray },if_pos rfl⟩)) (fun b u z=>?_) (fun b z=>?_) fun _=>hk
    · by_cases hb:b=a
      · exact .inr ⟨_,_,if_pos hb⟩
      · exact .inl (if_neg hb)
    · by_cases hb:b=a
      · have z':=(if_pos hb).symm.trans z
        cases z'
        subst hb
        exact ⟨ha,by rw [List.length_map];exact hl,vs,_,rv,ha⟩
      · have z':=(if_neg hb).symm.trans z
        cases z'
    · by_cases hb:b=a
      · exact hb
      · exact absurd (if_neg hb) z
end L2
namespace L2
open PySem PySem.Spec PyProof.Rows
theorem walk_of {l:PySem.W.OpenLaw} {n k:Nat} {q:Program} {loose:List Str} {XP:(Str→Option Value)→Heap→Prop} {YP:World→Heap→Prop} {d:DefRec} {K:Params→PySem.W.Frag} {CX:World→CXT} {sp:World→Sp} {x:Str}
    (hn:l.most=some n) (hn2:n≤sizeLine) (hdf:d.params.defaults=[]) (hr:Room k callerA)
    (hY:∀ (w:World) (h:Heap),YP w h→(K w.params).In h)
    (F:∀ (w:World) (mg:Str→Option Value) (fa:Addr) (h:Heap),(K w.params).In h→h.Ns mainGlobals mg→mg d.name=some (.ref fa)→
      ∃ fd:FuncData,(∀ (s:Shared) (u:Value),BindsTo s fd ⟨[u],[]⟩ [(x,u)])∧
        ∀ base:Heap,(K w.params).In base→base.Ns mainGlobals mg→FnOk l.prog w (K w.params) mg base (CX w) k fa fd [x] (sp w))
    (hsp:∀ (w:World) (H:Hp) (a:Addr) (ns:List Int),ns.length≤n→Only H→SqL (K w.params) H a (ns.map V.int)→sp w [.ref a] H (fun v _=>v=.bl true) fun _ _ _=>False)
    (hCX:∀ (w:World) (H:Hp) (s:Shared) (e:Value) (s':Shared),CX w [] H s (fun _ _ _=>False) e s'→False) :
    PySem.W.WalkO q loose XP YP l.row.toRowW d [] (fun f vs=>PySem.call f vs):=by
  refine Att.attach_call hn hdf fun w s₀ s₁ mg mb fa o pm cd doc a vs ns G Y ho hd hcd hmg hobj hints hlen hg=>?_
  have KX:=hY w _ Y
  obtain ⟨fd,hb,hF⟩:=F w mg fa _ KX G.T.g hmg
  exact law_call KX G.T.g G.T.b G.T.builtins G.T.nolimit hg hobj hints (Nat.le_trans hlen hn2) hr hF hb (fun H hO hS=>hsp w H a ns hlen hO hS) fun H e s'=>hCX w H s₁ e s'
end L2
namespace L2
open PySem PySem.Spec PyProof.Rows
def ZAL (s:Stmt):Arguments:=match s with
  | .FunctionDef _ a _ _ _ _ _ _ _ _=>a
  | _=>{ posonlyargs:=[],args:=[],vararg:=none,kwonlyargs:=[],kw_defaults:=[],kwarg:=none,defaults:=[] }
def ZAI (s:Stmt):List Stmt:=match s with
  | .FunctionDef _ _ b _ _ _ _ _ _ _=>b
  | _=>[]
def ZA4 (s:Stmt):Scope:=match s with
  | .FunctionDef _ _ _ _ _ _ sc _ _ _=>sc
  | _=>{ kind:=.function,names:=[],isGenerator:=false,isCoroutine:=false }
abbrev CX0:CXT:=fun _ _ _ _ _ _=>False
abbrev E0:XK:=fun _ _ _=>False
theorem pass0 {X:Cx}:ZHR CX0 X E0:=fun _ _ _ _ _ _ _ h=>h.elim
structure Fun (K:PySem.W.Frag) (x qual:Str) (st:Stmt) (f:Addr) (fd:FuncData):Prop where
  ex:∃ (oc:Value) (od:Option Addr) (kV doc pm:Value) (an:Option Addr) (cdv ct:Value) (osl:Array (Option Value)),
    fd=PySem.W.fnOf x qual (ZAL st) (ZAI st) (ZA4 st) .none kV doc pm an cdv ct∧K.lookup f=some ⟨oc,od,.func fd,osl⟩∧PySem.W.codeIn K cdv qual=true
  kp:PySem.W.keepIn K (.ref f)=true
section
variable {P:Program} {w:World} {K:PySem.W.Frag} {mg:Str→Option Value} {base:Heap}
theorem Fun.ok {x qual:Str} {st:Stmt} {f:Addr} {fd:FuncData} {N ps:List Str} {k:Nat} {sp:Sp} (F:Fun K x qual st f fd) (S:FnScope N ps (ZA4 st)) (len:∀ vs H Q E,sp vs H Q E→vs.length=ps.length)
    (hbody:∀ (cdv:Value) (A:Around) (outer:List Env) (s:Shared) (H:Hp) (vs:List V) (Q:VK) (E:XK),Room k (A.deeper (envOfC qual (ZA4 st) s.heap.objs.size f cdv))→sp vs H Q E→
      ∃ t,PSs (ZCb CX0 P w K mg base N qual (ZA4 st) f cdv A outer s H E).nox (ZAI st) t∧t { nx:=fun _ H'=>Q .non H',rt:=Q } (start N vs) H):FnOk P w K mg base CX0 (k+1) f fd ps sp:=by
  obtain ⟨oc,od,kV,doc,pm,an,cdv,ct,osl,rfl,lk,hcd⟩:=F.ex
  refine fn_of lk hcd S len fun A outer s H vs Q E hr hsp=>?_
  obtain ⟨t,h,q⟩:=hbody cdv A outer s H vs Q E hr hsp
  exact ⟨t,h.nox,q⟩
theorem Fun.binds {x qual:Str} {st:Stmt} {f:Addr} {fd:FuncData} {ps:List Str} (F:Fun K x qual st f fd)
    (h:∀ (kV doc pm:Value) (an:Option Addr) (cdv ct:Value) (us:List Value),us.length=ps.length→bindArgs (PySem.W.fnOf x qual (ZAL st) (ZAI st) (ZA4 st) .none kV doc pm an cdv ct) ⟨us,[]⟩=pure (ps.zip us)):Binds K fd ps []:=by
  obtain ⟨oc,od,kV,doc,pm,an,cdv,ct,osl,rfl,lk,hcd⟩:=F.ex
  exact .all (h kV doc pm an cdv ct)
theorem ZAc {x qual:Str} {st:Stmt} {f:Addr} {oc:Value} {od an:Option Addr} {osl:Array (Option Value)} {kV doc pm cdv ct:Value} (l:K.lookup f=some ⟨oc,od,.func (PySem.W.fnOf x qual (ZAL st) (ZAI st) (ZA4 st) .none kV doc pm an cdv ct),osl⟩)
    (c:PySem.W.codeIn K cdv qual=true) (k:PySem.W.keepIn K (.ref f)=true):Fun K x qual st f (PySem.W.fnOf x qual (ZAL st) (ZAI st) (ZA4 st) .none kV doc pm an cdv ct):=⟨⟨oc,od,kV,doc,pm,an,cdv,ct,osl,rfl,l,c⟩,k⟩
end
theorem hu_of {A:Around} {k:Nat} (hr:Room k A):A.units+1 < cLine:=Nat.lt_of_le_of_lt (Nat.add_le_add_left (by decide:1≤64) _) hr.units
section
variable {X:Cx}
theorem pv (i:Nat) {x:Str} {pos:Pos} (hN:X.N[i]?=some x:=by rfl) (hv:Vis X.env.scope x:=by first | exact Or.inl rfl | exact Or.inr (Or.inl rfl) | exact Or.inr (Or.inr rfl)) (hd:(x == ("__debug__" : Str))=false:=by decide)
    (hcd:(x == ("__classdict__" : Str))=false:=by decide):PE X (.Name x pos) (ZBK i):=pe_var hN hv hd hcd
end
theorem iteF {A B:Prop} (h:B):if false=true then A else B:=by
  rw [if_neg Bool.false_ne_true]
  exact h
theorem iteT {A B:Prop} (h:A):if true=true then A else B:=by
  rw [if_pos rfl]
  exact h
theorem ZAm {c A B:Prop} [Decidable c] (h1:c→A) (h2:¬ c→B):if c then A else B:=by
  by_cases h:c
  · rw [if_pos h]
    exact h1 h
  · rw [if_neg h]
    exact h2 h
def Same (H H':Hp):Prop:=∀ b o,H b=some o→H' b=some o
theorem Same.refl (H:Hp):Same H H:=fun _ _ h=>h
theorem Same.trans {H H1 H2:Hp} (a:Same H H1) (b:Same H1 H2):Same H H2:=fun c o h=>b c o (a c o h)
end L2
set_option Elab.async false
set_option linter.all false
set_option maxRecDepth 100000
set_option maxHeartbeats 4000000
namespace L2
open PySem PySem.Spec PyProof.Rows
theorem ZHd {α β:Type} {l:List α} {f:α→β→Sem (ForInStep β)} (g:β→α→β) (h:∀ x∈l,∀ c,f x c=pure (.yield (g c x))):∀ c,forIn l c f=pure (l.foldl g c):=by
  induction l with
  | nil=>intro c;rfl
  | cons x l ih=>
    intro c
    rw [List.forIn_cons,h x List.mem_cons_self,pure_bind]
    exact ih (fun y hy=>h y (List.mem_cons_of_mem _ hy)) (g c x)
def ZCE (cells:List (Str×Addr)) (cs:List (Str×Addr)) (x:Str×NameKind):List (Str×Addr):=
  if x.2=.free then (x.1,(cells.lookup x.1).getD 0) :: cs else cs
def ZAZ (cells:List (Str×Addr)) (names:List (Str×NameKind)):List (Str×Addr):=names.foldl (ZCE cells) []
theorem ZGH {scope:Scope} {env:Env} (h:∀ x∈scope.names,x.2=.free→(env.cells.lookup x.1).isSome=true):closureFor scope env=pure (ZAZ env.cells scope.names):=by
  simp only [closureFor]
  rw [ZHd (ZCE env.cells) (fun x hx c=>by
    obtain ⟨n,k⟩:=x
    unfold ZCE
    by_cases hk:k=NameKind.free
    · subst hk
      have q:=h _ hx rfl
      obtain ⟨a,ha⟩:=Option.isSome_iff_exists.mp q
      have ha':env.cells.lookup n=some a:=ha
      have hc:cellOf env n=pure a:=by unfold cellOf;rw [ha']
      simp [hc,ha']
    · have:(k == NameKind.free)=false:=by simpa using hk
      simp [this,hk])]
  rfl
theorem cap_of {cells:List (Str×Addr)}:∀ (names:List (Str×NameKind)) (acc:List (Str×Addr)),(∀ y∈names,y.2=.free→(cells.lookup y.1).isSome=true)→
    (∀ x c,acc.lookup x=some c→cells.lookup x=some c)→∀ x c,(names.foldl (ZCE cells) acc).lookup x=some c→cells.lookup x=some c
  | [],acc,_,ha,x,c,e=>ha x c e
  | (n,k) :: r,acc,hs,ha,x,c,e=>by
    rw [List.foldl_cons] at e
    refine cap_of r _ (fun y hy=>hs y (List.mem_cons_of_mem _ hy)) (fun x c e=>?_) x c e
    unfold ZCE at e
    by_cases hk:k=NameKind.free
    · rw [if_pos hk] at e
      have q:=hs _ List.mem_cons_self hk
      obtain ⟨a,q⟩:=Option.isSome_iff_exists.mp q
      have q':cells.lookup n=some a:=q
      rw [List.lookup_cons] at e
      by_cases hx:x=n
      · subst hx
        simp only [beq_self_eq_true,q',Option.getD_some] at e
        rw [q',← e]
      · have hb:(x == n)=false:=by simpa using hx
        rw [hb] at e
        exact ha x c e
    · rw [if_neg hk] at e
      exact ha x c e
theorem ZGJ {cells:List (Str×Addr)} {x:Str}:∀ (names:List (Str×NameKind)) (acc:List (Str×Addr)),((acc.lookup x).isSome=true∨(x,NameKind.free)∈names)→
    ((names.foldl (ZCE cells) acc).lookup x).isSome=true
  | [],acc,h=>by
    rcases h with h | h
    · exact h
    · cases h
  | (n,k) :: r,acc,h=>by
    rw [List.foldl_cons]
    refine ZGJ r _ ?_
    unfold ZCE
    rcases h with h | h
    · refine .inl ?_
      split
      · rw [List.lookup_cons]
        split
        · rfl
        · exact h
      · exact h
    · rcases List.mem_cons.mp h with e | h
      · cases e
        refine .inl ?_
        rw [if_pos rfl,List.lookup_cons]
        simp
      · exact .inr h
theorem ZBl {env:Env}:∀ (names:List (Str×NameKind)) (x:Str),
    (names.map fun (n,k)=>if (k == NameKind.free && env.scope.kind == .function && env.kindOf n == some .cell) then (n,NameKind.cell) else (n,k)).lookup x =
      (names.lookup x).map fun k=>if (k == NameKind.free && env.scope.kind == .function && env.kindOf x == some .cell) then NameKind.cell else k
  | [],x=>rfl
  | (n,k) :: r,x=>by
    have ih:=ZBl (env:=env) r x
    rw [List.map_cons]
    by_cases hc:(k == NameKind.free && env.scope.kind == .function && env.kindOf n == some .cell)=true
    · show List.lookup x ((if (k == NameKind.free && env.scope.kind == .function && env.kindOf n == some .cell)=true then (n,NameKind.cell) else (n,k)) :: _)=_
      rw [if_pos hc,List.lookup_cons,List.lookup_cons]
      by_cases hx:x=n
      · subst hx;simp only [beq_self_eq_true,Option.map_some];rw [if_pos hc]
      · have hb:(x == n)=false:=by simpa using hx
        rw [hb];exact ih
    · show List.lookup x ((if (k == NameKind.free && env.scope.kind == .function && env.kindOf n == some .cell)=true then (n,NameKind.cell) else (n,k)) :: _)=_
      rw [if_neg hc,List.lookup_cons,List.lookup_cons]
      by_cases hx:x=n
      · subst hx;simp only [beq_self_eq_true,Option.map_some];rw [if_neg hc]
      · have hb:(x == n)=false:=by simpa using hx
        rw [hb];exact ih
abbrev ZAe (X:Cx) (N:List Str) (scope:Scope) (cl:List (Str×Addr)) (C:Addr) (s:Shared) (H:Hp) (fp:List Addr):Cx:=
  { X with N:=N,s₀:=s,H₀:=H,env:=compEnvC scope cl C X.env,outer:=X.stack,ex:=fp,fn:=fun _=>false,pn:=[],xe:=fun _ _=>False }
def ZAg (js:List Nat) (σ:St):St:=js.map fun j=>(σ[j]?).join
structure CompScope (N:List Str) (outer scope:Scope) (x:Str) (caps:List Str) (js:List Nat):Prop where
  kind:scope.kind=.function
  nocell:∀ y∈scope.names,y.2≠.cell
  loc:∀ y∈scope.names,y.2=.local→scope.names.lookup y.1=some .local
  tgt:scope.names.lookup x=some .local
  at':js.map (fun j=>N[j]?)=caps.map some
  cell:∀ y∈caps,outer.names.lookup y=some .cell
  free:∀ y∈caps,scope.names.lookup y=some .free
  all:∀ y∈scope.names,y.2=.free→outer.names.lookup y.1=some .cell
  nd:(caps++[x]).Nodup
def PIfs (X:Cx) (ifs:List Expr) (t:TT):Prop:=
  ∀ (pins:List (Addr×Obj)) (s:Shared) (σ:St) (H:Hp) (Q:Bool→Hp→Prop),Inv X pins σ H s→t σ H Q→
    wpAny (model X.prog X.w) X.A (forIn ifs true fun c r=>if r=true then do let ok ← isTrue c X.env (eval c X.env);pure (ForInStep.yield ok) else pure (ForInStep.yield r)) (TP X pins σ Q) X.xe s
def tTrue:TT:=fun _ H Q=>Q true H
theorem pif_nil {X:Cx}:PIfs X [] tTrue:=fun pins s σ H Q I h=>by
  rw [List.forIn_nil];exact wpAny_pure ⟨H,I,h⟩
theorem pif_one {X:Cx} {c:Expr} {t:TT} (hc:PT X c t):PIfs X [c] t:=fun pins s σ H Q I h=>by
  rw [List.forIn_cons]
  refine wpAny_bind ?_
  rw [if_pos rfl]
  refine wpAny_bind (thn (hc pins s σ H Q I h) fun b s1 q=>wpAny_pure ?_)
  show wpAny _ _ (forIn [] b _) _ _ s1
  rw [List.forIn_nil]
  exact wpAny_pure q
def CompW (J:It) (js:List Nat) (tt:TT) (te:TE) (σ:St) (H1:Hp) (acc:Addr) (Q:VK):Prop:=
  ∃ W:Nat→Nat→Hp→Prop,(∃ m,W 0 m (upd H1 acc (.lst [])))∧∀ i m H2,W i m H2→
    (J.stop i H2∧Q (.ref acc) H2)∨(J.go i H2∧∀ x H3,J.yld i H2 x H3→tt (ZAg js σ++[some x]) H3 fun b H4=>
      if b=true then te (ZAg js σ++[some x]) H4 fun y H5=>∃ ys,H5 acc=some (.lst ys)∧ys.length < sizeLine∧∃ m',m' < m∧W (i+1) m' (upd H5 acc (.lst (ys++[y])))
      else ∃ m',m' < m∧W (i+1) m' H4)
def ZFi (wi:TI) (js:List Nat) (tt:TT) (te:TE):TE:=fun σ H Q=>wi σ H fun J H1=>∀ acc,H1 acc=none→CompW J js tt te σ H1 acc Q
theorem set_last {α:Type} (l:List α) (a b:α):(l++[a]).set l.length b=l++[b]:=by
  induction l with
  | nil=>rfl
  | cons x l ih=>simp [ih]
section
variable {X:Cx} {pins:List (Addr×Obj)} {σ:St} {H2:Hp} {s2:Shared} {elt iter:Expr} {x:Str} {px pos:Pos} {ifs:List Expr} {scope:Scope} {caps:List Str} {js:List Nat} {tt:TT} {te:TE} {J:It} {fp:List Addr} {it:Addr}
  {tn:Nat→Heap→Prop}
theorem comp_inv (S:CompScope X.N X.env.scope scope x caps js) (I3:Inv X pins σ H2 s2) (f2:∀ b∈fp,ZCZ X pins H2 b) (lt2:∀ b∈fp,b < s2.heap.objs.size) {h1:Heap}
    {m:Str→Option Value} (hns:h1.Ns s2.heap.objs.size m) (old:∀ b o,s2.heap.get? b=some o→h1.get? b=some o) {t':Nat} :
    Inv (ZAe X (caps++[x]) scope (ZAZ X.env.cells scope.names) s2.heap.objs.size s2 H2 fp) [] (ZAg js σ++[none]) H2 { s2 with heap:=h1,toks:=t' }:=by
  have hsome:∀ y∈scope.names,y.2=.free→(X.env.cells.lookup y.1).isSome=true:=fun y hy hk=>by
    obtain ⟨c,e⟩:=I3.ok.has y.1 (.inl (S.all y hy hk))
    rw [e];rfl
  have cof:∀ y c,(ZAZ X.env.cells scope.names).lookup y=some c→X.env.cells.lookup y=some c:=cap_of scope.names [] hsome (fun _ _ e=>by cases e)
  have hrel:∀ y k,(relabel scope X.env).names.lookup y=some k→k=.cell∨k=.free→scope.names.lookup y=some .free:=fun y k e hk=>by
    have e':=(ZBl (env:=X.env) scope.names y).symm.trans e
    cases q:scope.names.lookup y with
    | none=>rw [q] at e';cases e'
    | some k0=>
      rw [q] at e'
      have hne:=S.nocell _ (PySem.mem_of_lookup q)
      cases k0 with
      | free=>rfl
      | cell=>exact absurd rfl hne
      | _=>simp at e';rcases hk with rfl | rfl <;> cases e'
  have hlen:js.length=caps.length:=by have:=congrArg List.length S.at';simpa using this
  have clt:∀ y c,X.env.cells.lookup y=some c→c < s2.heap.objs.size:=fun y c e=>by
    obtain ⟨v,o,ho,_⟩:=I3.cell y c e
    exact Heap.lt_size ho
  have cellK:∀ c v,s2.heap.IsCell c v→h1.IsCell c v:=fun c v ⟨o,ho,hd⟩=>⟨o,old c o ho,hd⟩
  refine ⟨⟨I3.ok.mod,S.kind,I3.ok.glob,I3.ok.blt,Nat.le_refl _,fun y z c e1 e2=>I3.ok.inj y z c (cof y c e1) (cof z c e2),fun y hy=>?_,fun y c hf _=>(by cases hf),I3.ok.hd,I3.ok.frames,.inl rfl,fun b hb=>⟨Nat.ne_of_lt (lt2 b hb),fun y c e=>(f2 b hb).2.2.2.2.1 y c (cof y c e)⟩,
    fun b o e=>I3.bs b o e,Nat.le_trans I3.ok.bsz I3.sz,fun b o e hb=>?_,fun b hb hs=>?_,I3.stack,I3.stkFree⟩,rfl,I3.bare,Un.kept old,⟨m,hns,fun i y v e1 e2 e3=>?_⟩,fun y c e=>?_,I3.hok.fresh (Nat.le_refl _),fun y c e=>I3.freeC y c (cof y c e),fun p hp=>(by cases hp),I3.hok.kept old,?_⟩
  · have hf:scope.names.lookup y=some .free:=by
      rcases hy with hy | hy
      · exact hrel y _ hy (.inl rfl)
      · exact hrel y _ hy (.inr rfl)
    exact Option.isSome_iff_exists.mp (ZGJ scope.names [] (.inr (PySem.mem_of_lookup hf)))
  · rcases (f2 b hb).2.2.2.1 with z | z
    · exact I3.ok.noex b o e z
    · exact absurd (Nat.lt_of_lt_of_le (Nat.lt_of_lt_of_le (Heap.lt_size e) I3.ok.bsz) z) (Nat.lt_irrefl _)
  · rcases List.mem_cons.mp (I3.stkSub b hs) with z | z
    · exact (f2 b hb).2.1 z
    · exact (f2 b hb).2.2.1 z
  · have hcl:(ZAg js σ).length=caps.length:=by unfold ZAg;rw [List.length_map,hlen]
    have hi:i < caps.length:=by
      by_cases hi:i < caps.length
      · exact hi
      · have e2':(ZAg js σ++[none])[i]?=some (some v):=e2
        rw [List.getElem?_append_right (by rw [hcl];omega),hcl] at e2'
        cases hd:i - caps.length with
        | zero=>rw [hd] at e2';cases e2'
        | succ k=>rw [hd] at e2';simp at e2'
    have e1':caps[i]?=some y:=by
      have e1':(caps++[x])[i]?=some y:=e1
      rwa [List.getElem?_append_left hi] at e1'
    have e2':(ZAg js σ)[i]?=some (some v):=by
      have e2':(ZAg js σ++[none])[i]?=some (some v):=e2
      rwa [List.getElem?_append_left (by rw [hcl];exact hi)] at e2'
    have hmem:y∈caps:=List.mem_of_getElem? e1'
    unfold ZAg at e2'
    rw [List.getElem?_map] at e2'
    cases hj:js[i]? with
    | none=>rw [hj] at e2';cases e2'
    | some j=>
      rw [hj] at e2'
      have hN:X.N[j]?=some y:=by
        have q:=congrArg (fun l=>l[i]?) S.at'
        simp only [List.getElem?_map,hj,e1',Option.map_some] at q
        exact Option.some.inj q
      have hσ:σ[j]?=some (some v):=by
        simp only [Option.map_some,Option.some.injEq] at e2'
        cases q:σ[j]? with
        | none=>rw [q] at e2';cases e2'
        | some w=>rw [q] at e2';simp at e2';rw [e2']
      obtain ⟨m0,hn0,hl0⟩:=I3.loc
      obtain ⟨u,r,l⟩:=hl0 j y v hN hσ (.inr (.inl (S.cell y hmem)))
      refine ⟨u,r,?_⟩
      rcases l with ⟨k,_⟩ | ⟨_,c,e,z⟩
      · have k':X.env.scope.names.lookup y=some .local:=k
        rw [S.cell y hmem] at k';cases k'
      · have hkc:X.env.kindOf y=some .cell:=S.cell y hmem
        have hk:(relabel scope X.env).names.lookup y=some .cell:=by
          refine (ZBl (env:=X.env) scope.names y).trans ?_
          rw [S.free y hmem]
          simp [I3.ok.kind,hkc]
        obtain ⟨c',e'⟩:=Option.isSome_iff_exists.mp (ZGJ (cells:=X.env.cells) scope.names [] (.inr (PySem.mem_of_lookup (S.free y hmem))))
        have e'':=cof y c' e'
        rw [e] at e'';cases e''
        exact .inr ⟨.inl hk,c,e',cellK c _ z⟩
  · obtain ⟨v,z⟩:=I3.cell y c (cof y c e)
    exact ⟨v,cellK c v z⟩
  · show (ZAg js σ++[none]).length=(caps++[x]).length
    unfold ZAg
    simp [hlen]
end
end L2
set_option Elab.async false
set_option linter.all false
set_option maxRecDepth 100000
set_option maxHeartbeats 4000000
namespace L2
open PySem PySem.Spec PyProof.Rows
section
variable {X:Cx} {pins:List (Addr×Obj)} {σ:St} {H2:Hp} {s2:Shared} {elt iter:Expr} {x:Str} {px pos:Pos} {ifs:List Expr} {scope:Scope} {caps:List Str} {js:List Nat} {tt:TT} {te:TE} {J:It} {fp:List Addr} {it:Addr}
  {tn:Nat→Heap→Prop}
theorem ZId {acc C:Addr} {s3:Shared} {H3:Hp} {cl:List (Str×Addr)} {s4:Shared} {w0:Option V} {H4:Hp} {R:Result→Shared→Prop} (hc:X.calm=true) (S:CompScope X.N X.env.scope scope x caps js)
    (hifs:PIfs (ZAe X (caps++[x]) scope cl C s3 H3 fp) ifs tt) (helt:PE (ZAe X (caps++[x]) scope cl C s3 H3 fp) elt te)
    (T:Turn X.prog X.w X.K (.Name x px) J fp it tn) (lt3:∀ b∈fp,(ZAe X (caps++[x]) scope cl C s3 H3 fp).Ok→ZCZ (ZAe X (caps++[x]) scope cl C s3 H3 fp) [] (fun _=>none) b)
    (W:Nat→Nat→Hp→Prop) (Q:VK)
    (turn:∀ i m H2,W i m H2→(J.stop i H2∧Q (.ref acc) H2)∨(J.go i H2∧∀ x H3,J.yld i H2 x H3→tt (ZAg js σ++[some x]) H3 fun b H4=>
      if b=true then te (ZAg js σ++[some x]) H4 fun y H5=>∃ ys,H5 acc=some (.lst ys)∧ys.length < sizeLine∧∃ m',m' < m∧W (i+1) m' (upd H5 acc (.lst (ys++[y])))
      else ∃ m',m' < m∧W (i+1) m' H4))
    (I4:Inv (ZAe X (caps++[x]) scope cl C s3 H3 fp) [] (ZAg js σ++[w0]) H4 s4) (st4:tn 0 s4.heap) (fr4:∀ b∈fp,H4 b=none) (m0:Nat) (w4:W 0 m0 H4)
    (hR:∀ H' s' w,Inv (ZAe X (caps++[x]) scope cl C s3 H3 fp) [] (ZAg js σ++[w]) H' s'→Q (.ref acc) H'→R (.ok .next) s') :
    codeAny (model X.prog X.w) X.A (.compLoop (.ListComp elt [⟨.Name x px,iter,ifs,0⟩] scope pos) 0 (.ref it) (.ref acc) (compEnvC scope cl C X.env)) R s4:=by
  have hlen:(ZAg js σ).length=caps.length:=by
    unfold ZAg;rw [List.length_map];have:=congrArg List.length S.at';simpa using this
  have hN:(caps++[x])[(ZAg js σ).length]?=some x:=by rw [hlen];simp
  have hloc:Loc (relabel scope X.env) x:=.inl (lookup_relabel_local S.tgt)
  have hok:=I4.ok
  have stat:∀ {H':Hp},(∀ b∈fp,H' b=none)→∀ b∈fp,ZCZ (ZAe X (caps++[x]) scope cl C s3 H3 fp) [] H' b:=fun hn b hb=>⟨hn b hb,(lt3 b hb hok).2⟩
  refine codeAny_compLoop_tests (fun n s'=>∃ i w H',Inv (ZAe X (caps++[x]) scope cl C s3 H3 fp) [] (ZAg js σ++[w]) H' s'∧tn i s'.heap∧(∀ b∈fp,H' b=none)∧W i n H') ?_ m0 ⟨0,w0,H4,I4,st4,fr4,w4⟩
  rintro n s5 ⟨i,w,H5,I5,st5,fr5,w5⟩
  rcases turn i n H5 w5 with ⟨stop,q⟩ | ⟨go,step⟩
  · refine wpAny_mono (T.done (ZAe X (caps++[x]) scope cl C s3 H3 fp) rfl rfl rfl hc i [] s5 _ H5 (fun _ _=>False) I5 (stat fr5) st5 stop) (fun r s6 ⟨hr,I6⟩=>?_) fun _ _ z=>z.elim
    subst hr
    exact hR H5 s6 w I6 q
  · refine wpAny_mono (T.item (ZAe X (caps++[x]) scope cl C s3 H3 fp) rfl rfl rfl hc i [] s5 _ H5 (fun _ _=>False) I5 (stat fr5) st5 go) (fun r s6 ⟨u,hr,h6⟩=>?_) fun _ _ z=>z.elim
    subst hr
    have key:∀ (Q':Unit→Shared→Prop) (E':Value→Shared→Prop) (f:Unit→Sem Unit),wpAny (model X.prog X.w) X.A (letOwnedTupleGo (.Name x px) (.ref it) u >>= f) Q' E' s6→wpAny (model X.prog X.w) X.A (f ()) Q' E' s6:=fun Q' E' f h=>h
    refine key _ _ (fun _=>assign (.Name x px) (compEnvC scope cl C X.env) u) (wpAny_bind (wpAny_mono h6 (fun _ s7 ⟨v,H7,I7,r7,y7,st7,fr7⟩=>?_) fun _ _ z=>z.elim))
    have I7':=I7.pinned (stat fr7) (T.obj _ _ st7)
    refine wpAny_mono (ZIB (X:=ZAe X (caps++[x]) scope cl C s3 H3 fp) (pos:=px) S.nd hN hloc (.inr (lookup_relabel_local S.tgt)) _ s7 _ H7 v u
      (fun σ8 H8=>σ8=ZAg js σ++[some v]∧H8=H7) I7' r7 ⟨set_last _ _ _,rfl⟩) (fun _ s8 ⟨σ8,H8,I8,e8,e8'⟩=>?_) fun _ _ z=>z.elim
    subst e8;subst e8'
    refine wpAny_mono (hifs _ s8 _ H8 _ I8 (step v H8 y7)) (fun b s9 ⟨H9,I9,q9⟩=>?_) fun _ _ z=>z.elim
    have again:∀ {σa:St} {Ha:Hp} {sa:Shared},Inv (ZAe X (caps++[x]) scope cl C s3 H3 fp) ([]++ZEV fp s7.heap) σa Ha sa→tn (i+1) sa.heap∧(∀ b∈fp,Ha b=none):=fun {σa Ha sa} Ia=>by
      refine ⟨T.keep _ _ _ st7 fun b hb o e=>(Ia.pin (b,o) (List.mem_append_right _ (List.mem_append_right _ (ZCF hb e)))).1,fun b hb=>?_⟩
      obtain ⟨o,e,d⟩:=T.obj _ _ st7 b hb
      exact (Ia.pin (b,o) (List.mem_append_right _ (List.mem_append_right _ (ZCF hb e)))).2.1
    cases b with
    | false=>
      have q9':∃ m',m' < n∧W (i+1) m' H9:=q9
      obtain ⟨m',hm,w9⟩:=q9'
      rw [if_neg (by decide)]
      exact ⟨m',hm,i+1,_,H9,I9.unpinned,(again I9).1,(again I9).2,w9⟩
    | true=>
      rw [if_pos rfl]
      rw [if_pos rfl] at q9
      refine wpAny_mono (helt _ s9 _ H9 _ I9 q9) (fun yv s10 ⟨y,H10,I10,r10,ys,hacc,hz,m',hm,w10⟩=>?_) fun _ _ z=>z.elim
      refine wpAny_mono (ZFl (X:=ZAe X (caps++[x]) scope cl C s3 H3 fp) _ s10 _ H10 (.ref acc) [y] (.ref acc) [yv] (fun _ H11=>H11=upd H10 acc (.lst (ys++[y]))) I10 rfl (.cons r10 .nil) ⟨acc,ys,y,rfl,rfl,hacc,hz,rfl⟩)
        (fun _ s11 ⟨_,H11,I11,_,e11⟩=>?_) fun _ _ z=>z.elim
      subst e11
      exact ⟨m',hm,i+1,_,_,I11.unpinned,(again I11).1,(again I11).2,w10⟩
theorem ZEj {RR:Value→Addr→Result→Shared→Prop} {E:Value→Shared→Prop} (hc:X.calm=true) (S:CompScope X.N X.env.scope scope x caps js)
    (hifs:∀ C s H,PIfs (ZAe X (caps++[x]) scope (ZAZ X.env.cells scope.names) C s H fp) ifs tt) (helt:∀ C s H,PE (ZAe X (caps++[x]) scope (ZAZ X.env.cells scope.names) C s H fp) elt te)
    (T:Turn X.prog X.w X.K (.Name x px) J fp it tn) (I2:Inv X pins σ H2 s2) (st2:tn 0 s2.heap) (f2:∀ b∈fp,ZCZ X pins H2 b) (Q:VK) (hW:∀ acc,H2 acc=none→CompW J js tt te σ H2 acc Q)
    (hRR:∀ acc C H' s' m,Inv X pins σ H' s'→ZCZ X pins H' C→s'.heap.Ns C m→Q (.ref acc) H'→RR (.ref acc) C (.ok .next) s') :
    wpAny (model X.prog X.w) X.A (newList []) (fun acc s3=>wpAny (model X.prog X.w) X.A (newFunctionEnv scope X.env.globals (ZAZ X.env.cells scope.names) [] X.env.qual none .none (some X.env)) (fun cenv s4=>
      codeAny (model X.prog X.w) X.A (.compStart (.ListComp elt [⟨.Name x px,iter,ifs,0⟩] scope pos) 0 (.ref it) acc { cenv with scope:=relabel scope X.env }) (RR acc cenv.locals) s4) E s3) E s2:=by
  refine wpAny_newObj_type (wpAny_newFunctionEnv S.nocell (fun y hy=>by cases hy) (fun h1 hns hsb=>?_) S.kind)
  have I3:Inv X pins σ (upd H2 s2.heap.objs.size (.lst [])) { s2 with heap:=s2.heap.push { cls:=.type "list", data:=.seq ([]:List Value).toArray } }:=I2.lnew (t':=s2.toks) .nil (Nat.zero_le _)
  have hlt:∀ b∈fp,b < s2.heap.objs.size:=fun b hb=>by
    obtain ⟨o,e,_⟩:=T.obj _ _ st2 b hb
    exact Heap.lt_size e
  have hsz:(s2.heap.push { cls:=.type "list", data:=.seq ([]:List Value).toArray }).objs.size=s2.heap.objs.size+1:=Heap.size_push ..
  have f3:∀ b∈fp,ZCZ X pins (upd H2 s2.heap.objs.size (.lst [])) b:=fun b hb=>⟨by rw [ZA5 (Nat.ne_of_lt (hlt b hb))];exact (f2 b hb).1,(f2 b hb).2⟩
  generalize hs3:({ s2 with heap:=s2.heap.push { cls:=.type "list", data:=.seq ([]:List Value).toArray } }:Shared)=s3 at I3 hns hsb ⊢
  have hs3h:s3.heap=s2.heap.push { cls:=.type "list", data:=.seq ([]:List Value).toArray }:=by rw [← hs3]
  have hlt3:∀ b∈fp,b < s3.heap.objs.size:=fun b hb=>by rw [hs3h,hsz];exact Nat.lt_succ_of_lt (hlt b hb)
  have old:∀ b o,s3.heap.get? b=some o→h1.get? b=some o:=fun b o e=>hsb.extBut b o (Nat.ne_of_lt (Heap.lt_size e)) (Heap.get?_push_of_some _ e)
  have old2:∀ b o,s2.heap.get? b=some o→h1.get? b=some o:=fun b o e=>old b o (by rw [hs3h];exact Heap.get?_push_of_some _ e)
  have I4:=comp_inv S I3 f3 hlt3 hns old (t':=s3.toks+([]:List (Str×Value)).length)
  have st4:tn 0 h1:=T.keep _ _ _ st2 fun b _ o e=>old2 b o e
  obtain ⟨W,⟨m0,w0⟩,turn⟩:=hW s2.heap.objs.size (I2.hok.fresh (Nat.le_refl _))
  have loop:codeAny (model X.prog X.w) X.A (.compLoop (.ListComp elt [⟨.Name x px,iter,ifs,0⟩] scope pos) 0 (.ref it) (.ref s2.heap.objs.size) (compEnvC scope (ZAZ X.env.cells scope.names) s3.heap.objs.size X.env))
      (RR (.ref s2.heap.objs.size) s3.heap.objs.size) { s3 with heap:=h1,toks:=s3.toks+([]:List (Str×Value)).length }:=by
    refine ZId (acc:=s2.heap.objs.size) (Q:=Q) hc S (hifs _ _ _) (helt _ _ _) T (fun b hb ok=>⟨rfl,(ok.exf b hb).1,ok.exfs b hb,.inl hb,(ok.exf b hb).2,fun p hp=>by cases hp⟩) W turn I4 st4 (fun b hb=>(f3 b hb).1) m0 w0 fun H' s' w I' q=>?_
    obtain ⟨m,hn,_⟩:=I'.loc
    exact hRR _ _ H' s' m (I3.call' (ch:=fp) I'.os I'.base I'.hok I'.bare fun b hb=>⟨(f3 b hb).2.2.2.1,(f3 b hb).2.1,(f3 b hb).2.2.2.2.1,(f3 b hb).2.2.2.2.2⟩) (I3.fpOk (Nat.le_refl _) I'.free) hn q
  exact codeAny_compStart_list loop (T.self X.A 0 _ _ _ st4 loop)
theorem ZDr {σ:St} {H:Hp} {s:Shared} (S:CompScope X.N X.env.scope scope x caps js) (I:Inv X pins σ H s):closureFor scope X.env=pure (ZAZ X.env.cells scope.names):=ZGH fun y hy hk=>by
  obtain ⟨c,e⟩:=I.ok.has y.1 (.inl (S.all y hy hk))
  rw [e];rfl
theorem pe_comp {wi:TI} (hc:X.calm=true) (S:CompScope X.N X.env.scope scope x caps js) (hi:PI X (.Name x px) iter wi)
    (hifs:∀ fp C s H,PIfs (ZAe X (caps++[x]) scope (ZAZ X.env.cells scope.names) C s H fp) ifs tt) (helt:∀ fp C s H,PE (ZAe X (caps++[x]) scope (ZAZ X.env.cells scope.names) C s H fp) elt te)
    (hs:∀ v,foldedSetIterable iter X.env v=pure v:=by intro _;rfl):PE X (.ListComp elt [⟨.Name x px,iter,ifs,0⟩] scope pos) (ZFi wi js tt te):=by
  intro pins s σ H Q I h
  rw [eval_ListComp]
  refine wpAny_comprehension_free (use:=none) rfl hs (ZDr S I) S.kind S.loc (thn (hi pins s σ H _ I h) fun v s1 h1=>thn h1 fun itv s2 h2=>?_)
  obtain ⟨it,fp,tn,J,H2,e,I2,T,st2,f2,hW⟩:=h2
  subst e
  refine ZEj (RR:=fun acc C=>compPost (model X.prog X.w) X.A X.xe none (EP X pins σ Q) acc C) hc S (hifs fp) (helt fp) T I2 st2 f2 Q hW fun acc C H' s' m I' fC hn q=>⟨m,hn,fun h' hsb=>?_⟩
  exact ⟨.ref acc,H',I'.turned (t':=s'.toks) (fun b o hb e=>(hsb.2 b hb).trans e) fC.1 fC.2.1 fC.2.2.2.1 fC.2.2.2.2.1 fC.2.2.2.2.2,rfl,q⟩
theorem ps_comp {wi:TI} {i:Nat} {y:Str} {py spos:Pos} (hN:X.N.Nodup) (hi':X.N[i]?=some y) (hy:Loc X.env.scope y) (hc:X.calm=true) (S:CompScope X.N X.env.scope scope x caps js) (hi:PI X (.Name x px) iter wi)
    (hifs:∀ fp C s H,PIfs (ZAe X (caps++[x]) scope (ZAZ X.env.cells scope.names) C s H fp) ifs tt) (helt:∀ fp C s H,PE (ZAe X (caps++[x]) scope (ZAZ X.env.cells scope.names) C s H fp) elt te)
    (hsw:swapsWith (.ListComp elt [⟨.Name x px,iter,ifs,0⟩] scope pos) (some (.Name y py)) spos.line X.env=pure true:=by rfl)
    (hf:X.fn y=true∨X.env.scope.names.lookup y=some .local:=by first | exact .inl rfl | exact .inr rfl | assumption)
    (hs:∀ v,foldedSetIterable iter X.env v=pure v:=by intro _;rfl):PS X (.Assign [.Name y py] (.ListComp elt [⟨.Name x px,iter,ifs,0⟩] scope pos) spos) (tAsg (ZFi wi js tt te) (ZBq i)):=by
  intro pins s σ H D I h
  rw [exec_Assign_Name_used _ _ _ _ hsw]
  refine wpAny_bind (wpAny_standAt (wpAny_bind ?_))
  show wpAny _ X.A (do let _ ← comprehension (.ListComp elt [⟨.Name x px,iter,ifs,0⟩] scope pos) scope X.env _ (newList []) false (eval iter X.env) (some (assign (.Name y py) X.env))) _ _ s
  refine wpAny_bind (wpAny_mono (wpAny_comprehension_free (use:=some (assign (.Name y py) X.env)) (Q:=fun _ s'=>SP X pins D .next s') rfl hs (ZDr S I) S.kind S.loc
    (thn (hi pins s σ H _ I h) fun v s1 h1=>thn h1 fun itv s2 h2=>?_)) (fun _ s' hq=>wpAny_pure (wpAny_pure hq)) fun _ _ e=>e)
  obtain ⟨it,fp,tn,J,H2,e,I2,T,st2,f2,hW⟩:=h2
  subst e
  refine ZEj (RR:=fun acc C=>compPost (model X.prog X.w) X.A X.xe (some (assign (.Name y py) X.env)) (fun _ s'=>SP X pins D .next s') acc C) hc S (hifs fp) (helt fp) T I2 st2 f2 _ hW fun acc C H' s' m I' fC hn q=>?_
  show wpAny _ X.A (assign (.Name y py) X.env (.ref acc)) _ _ s'
  refine wpAny_assign_Name (ZDQ (v:=.ref acc) I' hN hi' hy rfl (fun s'' I'' ⟨a,hsa,ha⟩=>?_) hf)
  have hne:C≠a:=by
    rcases ha with z | z
    · rw [z];exact fC.2.1
    · exact (fC.2.2.2.2.1 y a z).symm
  refine ⟨m,hn.sameBut hsa hne,fun h' hsb=>?_⟩
  exact ⟨_,H',I''.turned (t':=s''.toks) (fun b o hb e=>(hsb.2 b hb).trans e) fC.1 fC.2.1 fC.2.2.2.1 fC.2.2.2.2.1 fC.2.2.2.2.2,q⟩
end
end L2
set_option Elab.async false
set_option linter.all false
set_option maxRecDepth 100000
set_option maxHeartbeats 4000000
namespace L2
open PySem PySem.Spec PyProof.Rows
def SqB (K:PySem.W.Frag) (tp:Bool) (H:Hp) (a:Addr) (xs:List V):Prop:=match tp with
  | false=>SqL K H a xs
  | true=>SqT K H a xs
theorem SqB.or {K:PySem.W.Frag} {tp:Bool} {H:Hp} {a:Addr} {xs:List V} (h:SqB K tp H a xs):SqL K H a xs∨SqT K H a xs:=by
  cases tp
  · exact .inl h
  · exact .inr h
def Its (K:PySem.W.Frag) (tp:Bool) (a:Addr) (xs:List V):It:=
  ⟨fun i H=>SqB K tp H a xs∧i < xs.length,fun i H x H'=>H'=H∧xs[i]?=some x,fun i H=>SqB K tp H a xs∧xs.length≤i⟩
section
variable {X:Cx} {tg:Expr}
theorem turn_sqL {P:Program} {w:World} {K:PySem.W.Frag} (a it:Addr) (xs:List V):Turn P w K tg (Its K false a xs) [it] it (fun i h=>h.IsListIter it a i) where
  mem:=by simp
  obj:=(ZCA (P:=P) (w:=w) (K:=K) (tg:=tg) a it).obj
  keep:=(ZCA (P:=P) (w:=w) (K:=K) (tg:=tg) a it).keep
  item:=by
    intro X hP hw hK hc i pins s σ H E I hf st hg
    obtain ⟨hq,hi⟩:=hg
    refine thn ((ZCA (P:=P) (w:=w) (K:=K) (tg:=tg) a it).item X hP hw hK hc i pins s σ H E I hf st ⟨xs,xs[i],hq,by simp [hi]⟩) fun r s1 ⟨u,e,h⟩=>⟨u,e,thn h fun _ s2 ⟨x,H',I',rx,y,st',f'⟩=>⟨x,H',I',rx,⟨y.1,y.2 xs hq⟩,st',f'⟩⟩
  done:=by
    intro X hP hw hK hc i pins s σ H E I hf st hg
    exact (ZCA (P:=P) (w:=w) (K:=K) (tg:=tg) a it).done X hP hw hK hc i pins s σ H E I hf st ⟨xs,hg.1,hg.2⟩
  self:=(ZCA (P:=P) (w:=w) (K:=K) (tg:=tg) a it).self
theorem turn_sqT {P:Program} {w:World} {K:PySem.W.Frag} (a it:Addr) (xs:List V):Turn P w K tg (Its K true a xs) [it] it (fun i h=>h.IsTupleIter it a i) where
  mem:=by simp
  obj:=(ZBn (P:=P) (w:=w) (K:=K) (tg:=tg) a it).obj
  keep:=(ZBn (P:=P) (w:=w) (K:=K) (tg:=tg) a it).keep
  item:=by
    intro X hP hw hK hc i pins s σ H E I hf st hg
    obtain ⟨hq,hi⟩:=hg
    refine thn ((ZBn (P:=P) (w:=w) (K:=K) (tg:=tg) a it).item X hP hw hK hc i pins s σ H E I hf st ⟨xs,xs[i],hq,by simp [hi]⟩) fun r s1 ⟨u,e,h⟩=>⟨u,e,thn h fun _ s2 ⟨x,H',I',rx,y,st',f'⟩=>⟨x,H',I',rx,⟨y.1,y.2 xs hq⟩,st',f'⟩⟩
  done:=by
    intro X hP hw hK hc i pins s σ H E I hf st hg
    exact (ZBn (P:=P) (w:=w) (K:=K) (tg:=tg) a it).done X hP hw hK hc i pins s σ H E I hf st ⟨xs,hg.1,hg.2⟩
  self:=(ZBn (P:=P) (w:=w) (K:=K) (tg:=tg) a it).self
def iSq (K:PySem.W.Frag) (tl:TE):TI:=fun σ H R=>tl σ H fun x H1=>∃ tp a xs,x=.ref a∧SqB K tp H1 a xs∧R (Its K tp a xs) H1
theorem pi_sq {l:Expr} {tl:TE} (hl:PE X l tl):PI X tg l (iSq X.K tl):=by
  intro pins s σ H R I h
  refine thn (hl pins s σ H _ I h) fun v s1 ⟨x,H1,I1,r1,q1⟩=>?_
  obtain ⟨tp,a,xs,e,hq,q⟩:=q1
  subst e
  cases r1
  have fin:∀ b∈[s1.heap.objs.size],ZCZ X pins H1 b:=fun b hb=>by
    have e:b=s1.heap.objs.size:=by simpa using hb
    subst e
    exact I1.fpOk (Nat.le_refl _) (I1.hok.fresh (Nat.le_refl _))
  cases tp with
  | false=>
    obtain ⟨its,rv,p,hz⟩:=I1.list hq
    refine wpAny_pyIter_list p.isList ?_
    exact ⟨s1.heap.objs.size,[s1.heap.objs.size],_,_,H1,rfl,I1.kept (t':=s1.toks) fun b o e=>Heap.get?_push_of_some _ e,turn_sqL a _ xs,⟨_,Heap.get?_push_size _ rfl,rfl,rfl⟩,fin,q⟩
  | true=>
    obtain ⟨its,rv,p,hz⟩:=I1.tuple hq
    refine wpAny_pyIter_tuple (show s1.heap.IsTuple a its.toArray from p) ?_
    exact ⟨s1.heap.objs.size,[s1.heap.objs.size],_,_,H1,rfl,I1.kept (t':=s1.toks) fun b o e=>Heap.get?_push_of_some _ e,turn_sqT a _ xs,⟨_,Heap.get?_push_size _ rfl,rfl,rfl⟩,fin,q⟩
def Itc (z:Str):It:=⟨fun i _=>i < z.cps.size,fun i H x H'=>H'=H∧∃ c,z.cps[i]?=some c∧x=.str ⟨#[c]⟩,fun i _=>i=z.cps.size⟩
theorem ZH9 {P:Program} {w:World} {K:PySem.W.Frag} {it:Addr} {z:Str} {t:Tok} {ty:String}
    (hn:["enumerate", "zip", "dict_itemiterator", "dict_reverseitemiterator", "odict_iterator", "itertools.zip_longest", "itertools.pairwise"].contains ty=false)
    (W:∀ A:Around,A.handled=none→Walks P w A it [it] [it] z.cps.size (SignAt z) (fun i h=>h.IsStrIter it ty z t i))
    (self:∀ (A:Around) (i:Nat) (s:Shared) (Q:Value→Shared→Prop) (E:Value→Shared→Prop),s.heap.IsStrIter it ty z t i→Q (.ref it) s→wpAny (model P w) A (pyIter (.ref it)) Q E s) :
    Turn P w K tg (Itc z) [it] it (fun i h=>h.IsStrIter it ty z t i) where
  mem:=by simp
  obj:=fun i h st b hb=>by
    have e:b=it:=by simpa using hb
    subst e
    obtain ⟨o,e,c,d⟩:=st
    exact ⟨o,e,fun v z=>by rw [d] at z;cases z⟩
  keep:=fun i h h' st k=>let ⟨o,e,r⟩:=st;⟨o,k it (by simp) o e,r⟩
  item:=by
    intro X hP hw hK hc i pins s σ H E I hf st hg
    subst hP hw hK
    obtain ⟨f0,f1,f2,f3,f4,f5⟩:=hf it (by simp)
    refine (W X.A (I.ok.hd hc)).item i s _ _ hg st fun v h' tk ⟨c,u,hcc,hv⟩ st' kp=>?_
    subst hv
    have I1:Inv X pins σ H { s with heap:=h',toks:=tk }:=I.turned (t':=tk) (fun b o hb e=>kp b o (by simpa using hb) e) f0 f1 f3 f4 f5
    obtain ⟨o,e,cl,d⟩:=id st'
    exact ⟨_,rfl,go_of (s:={ s with heap:=h',toks:=tk }) e cl d hn ⟨.str ⟨#[c]⟩,H,I1,⟨u,rfl⟩,⟨rfl,c,hcc,rfl⟩,st',fun b hb=>(hf b hb).1⟩⟩
  done:=by
    intro X hP hw hK hc i pins s σ H E I hf st hg
    subst hP hw hK
    obtain ⟨f0,f1,f2,f3,f4,f5⟩:=hf it (by simp)
    have hg':i=z.cps.size:=hg
    subst hg'
    exact (W X.A (I.ok.hd hc)).done s _ _ st fun h' tk kp=>⟨rfl,I.turned (t':=tk) (fun b o hb e=>kp b o (by simpa using hb) e) f0 f1 f3 f4 f5⟩
  self:=self
def iStr (tl:TE):TI:=fun σ H R=>tl σ H fun x H1=>∃ z,x=.str z∧R (Itc z) H1
theorem pi_str {l:Expr} {tl:TE} (hl:PE X l tl):PI X tg l (iStr tl):=by
  intro pins s σ H R I h
  refine thn (hl pins s σ H _ I h) fun v s1 ⟨x,H1,I1,r1,q1⟩=>?_
  obtain ⟨z,e,q⟩:=q1
  subst e
  obtain ⟨t,rfl⟩:=r1
  have fin:∀ b∈[s1.heap.objs.size],ZCZ X pins H1 b:=fun b hb=>by
    have e:b=s1.heap.objs.size:=by simpa using hb
    subst e
    exact I1.fpOk (Nat.le_refl _) (I1.hok.fresh (Nat.le_refl _))
  have kp:∀ (ob:Obj),Inv X pins σ H1 { s1 with heap:=s1.heap.push ob }:=fun ob=>I1.kept (t':=s1.toks) fun b o e=>Heap.get?_push_of_some _ e
  cases ha:z.cps.all (· < 128)
  · refine wpAny_pyIter_wide ha ?_
    exact ⟨s1.heap.objs.size,[s1.heap.objs.size],_,_,H1,rfl,kp _,ZH9 (t:=t) (by decide) (fun A' hA=>Walks.strWide hA _ z t) (fun _ _ _ _ _ st h=>wpAny_pyIter_striter_wide st h),⟨_,Heap.get?_push_size _ rfl,rfl,rfl⟩,fin,q⟩
  · refine wpAny_pyIter_ascii ha ?_
    exact ⟨s1.heap.objs.size,[s1.heap.objs.size],_,_,H1,rfl,kp _,ZH9 (t:=t) (by decide) (fun A' hA=>Walks.strAscii hA _ z t) (fun _ _ _ _ _ st h=>wpAny_pyIter_striter_ascii st h),⟨_,Heap.get?_push_size _ rfl,rfl,rfl⟩,fin,q⟩
end
theorem ZAN {H:Hp} {p:Addr} (h:H p=none) (o:HO):Same H (upd H p o):=fun b u q=>by rw [ZA5 (ZAF q h)];exact q
theorem Same.sqT {K:PySem.W.Frag} {H H':Hp} {a:Addr} {xs:List V} (e:Same H H') (h:SqT K H a xs):SqT K H' a xs:=by
  rcases h with (h | ⟨o,h⟩) | h
  · exact .inl (.inl (e _ _ h))
  · exact .inl (.inr ⟨o,e _ _ h⟩)
  · exact .inr h
theorem comp_gen {J:It} {js:List Nat} {tt:TT} {te:TE} {σ:St} {H1:Hp} {acc:Addr} {Q:VK} (xs:List V) (f:V→Bool) (g:V→V) (hacc:H1 acc=none) (hz:xs.length≤sizeLine)
    (hgo:∀ i H,Same H1 H→i < xs.length→J.go i H) (hst:∀ H,Same H1 H→J.stop xs.length H) (hy:∀ i H x H',J.yld i H x H'→H'=H∧xs[i]?=some x)
    (ht:∀ (i:Nat) (x:V) (H':Hp) (Q':Bool→Hp→Prop),xs[i]?=some x→Same H1 H'→(∀ H'',Same H' H''→Q' (f x) H'')→tt (ZAg js σ++[some x]) H' Q')
    (he:∀ (i:Nat) (x:V) (H':Hp) (Q':VK),xs[i]?=some x→f x=true→Same H1 H'→(∀ H'',Same H' H''→Q' (g x) H'')→te (ZAg js σ++[some x]) H' Q')
    (hd:∀ H',Same H1 H'→H' acc=some (.lst ((xs.filter f).map g))→Q (.ref acc) H'):CompW J js tt te σ H1 acc Q:=by
  refine ⟨fun i m H=>m=xs.length - i∧i≤xs.length∧Same H1 H∧H acc=some (.lst (((xs.take i).filter f).map g)),⟨xs.length,by simp,Nat.zero_le _,ZAN hacc _,ZA3⟩,?_⟩
  rintro i m H2 ⟨rfl,hi,sm,ha⟩
  by_cases hlt:i < xs.length
  · refine .inr ⟨hgo i H2 sm hlt,fun x H3 y=>?_⟩
    obtain ⟨e,hx⟩:=hy i H2 x H3 y
    subst e
    have htk:(xs.take (i+1))=xs.take i++[x]:=by
      have e2:xs[i]=x:=by
        rw [List.getElem?_eq_getElem hlt] at hx;exact Option.some.inj hx
      rw [List.take_succ_eq_append_getElem hlt,e2]
    have e1:List.filter f (xs.take (i+1))=(xs.take i).filter f++(if f x=true then [x] else []):=by
      rw [htk,List.filter_append];congr 1
      by_cases hf:f x=true <;> simp [hf]
    refine ht i x _ _ hx sm fun H4 s4=>?_
    by_cases hf:f x=true
    · rw [if_pos hf]
      refine he i x H4 _ hx hf (sm.trans s4) fun H5 s5=>?_
      have hlen:(((xs.take i).filter f).map g).length < sizeLine:=by
        rw [List.length_map]
        have:=List.length_filter_le f (xs.take i)
        rw [List.length_take] at this
        omega
      refine ⟨_,s5 _ _ (s4 _ _ ha),hlen,xs.length - (i+1),by omega,rfl,hlt,fun b o q=>?_,?_⟩
      · have hb:b≠acc:=by rintro rfl;rw [hacc] at q;cases q
        rw [ZA5 hb];exact s5 _ _ (s4 _ _ (sm b o q))
      · rw [ZA3,e1,if_pos hf,List.map_append];rfl
    · have hf':f x=false:=by simpa using hf
      rw [hf']
      rw [if_neg (by decide)]
      refine ⟨xs.length - (i+1),by omega,rfl,hlt,sm.trans s4,?_⟩
      rw [e1,if_neg hf,List.append_nil]
      exact s4 _ _ ha
  · have e:i=xs.length:=by omega
    subst e
    refine .inl ⟨hst H2 sm,hd H2 sm ?_⟩
    rw [List.take_length] at ha
    exact ha
def ZBc (z:Str):List V:=z.cps.toList.map fun c=>.str ⟨#[c]⟩
theorem ZC3 (z:Str):(ZBc z).length=z.cps.size:=by unfold ZBc;simp
theorem comp_str {z:Str} {js:List Nat} {tt:TT} {te:TE} {σ:St} {H1:Hp} {acc:Addr} {Q:VK} (f:V→Bool) (g:V→V) (hacc:H1 acc=none) (hz:z.cps.size≤sizeLine)
    (ht:∀ (i:Nat) (x:V) (H':Hp) (Q':Bool→Hp→Prop),(ZBc z)[i]?=some x→Same H1 H'→(∀ H'',Same H' H''→Q' (f x) H'')→tt (ZAg js σ++[some x]) H' Q')
    (he:∀ (i:Nat) (x:V) (H':Hp) (Q':VK),(ZBc z)[i]?=some x→f x=true→Same H1 H'→(∀ H'',Same H' H''→Q' (g x) H'')→te (ZAg js σ++[some x]) H' Q')
    (hd:∀ H',Same H1 H'→H' acc=some (.lst (((ZBc z).filter f).map g))→Q (.ref acc) H'):CompW (Itc z) js tt te σ H1 acc Q:=by
  refine comp_gen (ZBc z) f g hacc (by rw [ZC3];exact hz) (fun i H s hi=>?_) (fun H s=>?_) (fun i H x H' y=>?_) ht he hd
  · rw [ZC3] at hi;exact hi
  · show (ZBc z).length=z.cps.size
    exact ZC3 z
  · obtain ⟨e,c,hc,hx⟩:=y
    refine ⟨e,?_⟩
    subst hx
    unfold ZBc
    rw [List.getElem?_map,Array.getElem?_toList,hc]
    rfl
end L2
set_option Elab.async false
set_option linter.all false
set_option maxRecDepth 100000
set_option maxHeartbeats 4000000
namespace L2
open PySem PySem.Spec PyProof.Rows
def eqVs (xs ys:List V):Bool:=xs.length == ys.length && (List.range xs.length).all fun j=>eqV (xs.getD j .non) (ys.getD j .non)
theorem ZDF {xs:List V} {j:Nat} {x:V} (h:xs[j]?=some x):xs.getD j .non=x:=by rw [List.getD_eq_getElem?_getD,h];rfl
section
variable {X:Cx} {pins:List (Addr×Obj)} {σ:St} {H:Hp} {s:Shared}
theorem ZHw {xs:List V} {j:Nat} {x:V} (h:xs.all ZAz=true) (e:xs[j]?=some x):ZAz x=true:=List.all_eq_true.mp h x (List.mem_of_getElem? e)
theorem ZGg {A:Around} {xs ys:List V} {its its2:List Value} (r1:Vals xs its) (r2:Vals ys its2) (fx:xs.all ZAz=true) (fy:ys.all ZAz=true) :
    ∀ j (h1:j < its.toArray.size) (h2:j < its2.toArray.size),SeqAt.EqAt A s its.toArray[j] its2.toArray[j] (eqV (xs.getD j .non) (ys.getD j .non)):=fun j h1 h2=>by
  have l1:=r1.length
  have l2:=r2.length
  have h1':j < its.length:=by simpa using h1
  have h2':j < its2.length:=by simpa using h2
  have e1:xs[j]?=some (xs[j]'(by omega)):=List.getElem?_eq_getElem _
  have e2:ys[j]?=some (ys[j]'(by omega)):=List.getElem?_eq_getElem _
  obtain ⟨u,hu,ru⟩:=r1.get e1
  obtain ⟨v,hv,rv⟩:=r2.get e2
  rw [List.getElem?_eq_getElem h1'] at hu
  rw [List.getElem?_eq_getElem h2'] at hv
  have hu':its[j]=u:=Option.some.inj hu
  have hv':its2[j]=v:=Option.some.inj hv
  rw [ZDF e1,ZDF e2]
  have q:=ZGM (A:=A) (s:=s) ru rv (ZHw fx e1) (ZHw fy e2)
  rw [← hu',← hv'] at q
  simpa using q
def rEqS (K:PySem.W.Frag) (neg:Bool):R2:=fun x y H Q=>∃ p q xs ys,x=.ref p∧y=.ref q∧((SqL K H p xs∧SqL K H q ys)∨(SqT K H p xs∧SqT K H q ys))∧xs.all ZAz=true∧ys.all ZAz=true∧
  Q (.bl (if neg then !eqVs xs ys else eqVs xs ys)) H
theorem ZE7 {xs ys:List V} (h:xs.length≠ys.length):eqVs xs ys=false:=by
  unfold eqVs
  have:(xs.length == ys.length)=false:=by simpa using h
  rw [this,Bool.false_and]
theorem ZCo {xs ys:List V} (h:xs.length=ys.length):eqVs xs ys=(List.range xs.length).all fun j=>eqV (xs.getD j .non) (ys.getD j .non):=by
  unfold eqVs
  have:(xs.length == ys.length)=true:=by simpa using h
  rw [this,Bool.true_and]
theorem ZHY (hu:X.A.units < cLine):OpR X (compareOp .NotEq) (rEqS X.K true):=by
  intro pins s σ H x y v u Q I rx ry h
  obtain ⟨p,q,xs,ys,rfl,rfl,hq,fx,fy,hQ⟩:=h
  cases rx;cases ry
  have hQ':Q (.bl (!eqVs xs ys)) H:=hQ
  rcases hq with ⟨ha,hb⟩ | ⟨ha,hb⟩
  · obtain ⟨its,r1,p1,z1⟩:=I.list ha
    obtain ⟨its2,r2,p2,z2⟩:=I.list hb
    have l1:=r1.length;have l2:=r2.length
    by_cases hl:xs.length=ys.length
    · refine SeqAt.RcNeAt.lists (e:=fun j=>eqV (xs.getD j .non) (ys.getD j .non)) p1.isList p2.isList (by simp;omega) hu (ZGg r1 r2 fx fy) _ _ _ _ ⟨.bl _,H,I,rfl,?_⟩
      rw [ZCo hl] at hQ'
      simp only [List.size_toArray,← l1]
      exact hQ'
    · rw [ZE7 hl] at hQ'
      exact SeqAt.RcNeAt.lists_lengths p1.isList p2.isList (by simp;omega) hu _ _ _ _ ⟨.bl true,H,I,rfl,hQ'⟩
  · obtain ⟨its,r1,p1,z1⟩:=I.tuple ha
    obtain ⟨its2,r2,p2,z2⟩:=I.tuple hb
    have l1:=r1.length;have l2:=r2.length
    refine SeqAt.RcNeAt.tuples (e:=fun j=>eqV (xs.getD j .non) (ys.getD j .non)) p1 p2 hu (ZGg r1 r2 fx fy) _ _ _ _ ⟨.bl _,H,I,rfl,?_⟩
    simp only [List.size_toArray,← l1,← l2]
    by_cases hl:xs.length=ys.length
    · rw [ZCo hl] at hQ'
      have:(xs.length == ys.length)=true:=by simpa using hl
      rw [this,Bool.and_true,← hl,Nat.min_self]
      exact hQ'
    · rw [ZE7 hl] at hQ'
      have:(xs.length == ys.length)=false:=by simpa using hl
      rw [this,Bool.and_false]
      exact hQ'
theorem bools_at {bs:List Bool} {its:List Value} (r:Vals (bs.map V.bl) its) {i:Nat} {v:Value} (e:its[i]?=some v):v=.bool (bs.getD i false):=by
  have hl:=r.length
  rw [List.length_map] at hl
  have hi:i < its.length:=(List.getElem?_eq_some_iff.mp e).1
  have e1:(bs.map V.bl)[i]?=some (.bl (bs[i]'(by omega))):=by rw [List.getElem?_map,List.getElem?_eq_getElem (by omega)];rfl
  obtain ⟨u,hu,ru⟩:=r.get e1
  rw [e] at hu;cases hu
  cases ru
  rw [List.getD_eq_getElem?_getD,List.getElem?_eq_getElem (by omega)];rfl
theorem ZIn (bs:List Bool):(List.range bs.length).all (fun i=>bs.getD i false)=bs.all id:=by
  rw [Bool.eq_iff_iff,List.all_eq_true,List.all_eq_true]
  constructor
  · intro h x hx
    obtain ⟨i,hi,rfl⟩:=List.mem_iff_getElem.mp hx
    have:=h i (List.mem_range.mpr hi)
    rw [List.getD_eq_getElem?_getD,List.getElem?_eq_getElem hi] at this
    exact this
  · intro h i hi
    rw [List.getD_eq_getElem?_getD,List.getElem?_eq_getElem (List.mem_range.mp hi)]
    exact h _ (List.getElem_mem _)
theorem call_all (hc:X.calm=true):ZC7 X (.builtin "all") (fun xs H Q=>∃ (p:Addr) (bs:List Bool),xs=[.ref p]∧SqL X.K H p (bs.map V.bl)∧Q (.bl (bs.all id)) H):=by
  intro pins s σ H xs us Q I r h
  obtain ⟨p,bs,rfl,hq,q⟩:=h
  obtain ⟨u,rfl,rx⟩:=ZEH r
  cases rx
  obtain ⟨its,rv,pl,hz⟩:=I.list hq
  have hl:=rv.length
  rw [List.length_map] at hl
  refine call_all_walk (wpAny_pyIter_list pl.isList ?_)
  obtain ⟨o,n,ho,_⟩:=id pl
  have hne:p≠s.heap.objs.size:=Nat.ne_of_lt (Heap.lt_size ho)
  refine ⟨s.heap.objs.size,_,_,_,_,_,fun i=>bs.getD i false,rfl,Walks.list (by rw [Around.in1_handled];exact I.ok.hd hc) _ p hne its.toArray,⟨⟨_,Heap.get?_push_size _ rfl,rfl,rfl⟩,pl.isList.push _⟩,fun i v s' Q' E' hv hQ'=>?_,fun h' tk kp=>?_⟩
  · have ev:v=.bool (bs.getD i false):=bools_at rv (by simpa using hv)
    rw [ev]
    exact wpAny_truthy_bool hQ'
  · refine ⟨.bl _,H,I.kept (t':=tk) fun b ob e=>kp b ob (by simpa using Nat.ne_of_lt (Heap.lt_size e)) (Heap.get?_push_of_some _ e),rfl,?_⟩
    rw [List.size_toArray,← hl,ZIn]
    exact q
def ZGQ:V→List V→Hp→VK→Prop:=fun x vs H Q=>∃ (l:Addr) (xs:List V) (j:Int) (y:V),x=.ref l∧vs=[.int j,y]∧H l=some (.lst xs)∧0≤j∧j≤xs.length∧xs.length < sizeLine∧Q .non (upd H l (.lst (xs.take j.toNat++y :: xs.drop j.toNat)))
theorem ZIQ:MtM X "list.insert" ZGQ:=by
  intro pins s σ H x vs v us Q I rx rv h
  obtain ⟨l,xs,j,y,rfl,rfl,hH,hj0,hj1,hz,q⟩:=h
  cases rx
  obtain ⟨ui,uy,rfl,ri,ry⟩:=rv.two
  obtain ⟨t,rfl⟩:=ri
  obtain ⟨z,its,n,r,hl,e⟩:=I.lstM hH
  have h2:j < 2 ^ 63:=by
    have h4:(xs.length:Int)≤(sizeLine:Int):=Int.ofNat_le.mpr z
    have h3:((sizeLine:Nat):Int) < 2 ^ 63:=by exact_mod_cast ZD3
    omega
  have hfit:(!Builtin.List.listFitsIndex j)=true→False:=by
    have h1:Builtin.List.listFitsIndex j=true:=by
      unfold Builtin.List.listFitsIndex
      rw [Bool.and_eq_true]
      exact ⟨decide_eq_true (by omega),decide_eq_true h2⟩
    rw [h1];exact fun h=>nomatch h
  have hz2:its.toArray.size≤sizeLine:=Nat.le_trans (Nat.le_of_eq (List.size_toArray.trans hl.symm)) z
  refine call_meets PySem.F.slot_list_insert ⟨_,e,rfl⟩ PySem.F.entry_list_insert (PySem.F.args_list_insert_3 _ _ _) (PySem.AutoSeq1.list_insert_list_int_val_1 l its.toArray n j t uy hfit hz2) ⟨e,?_⟩
  refine ⟨.non,_,I.lset (its':=its.take j.toNat++uy :: its.drop j.toNat) hH e ?_ ((r.take _).append (.cons ry (r.drop _))) ?_,rfl,q⟩
  · have h0:¬ (j < 0):=by omega
    have hm:min j.toNat its.toArray.size=j.toNat:=by simp;omega
    simp only [h0,if_false,hm]
    apply Array.toList_inj.mp
    simp
    exact List.take_of_length_le (by simp)
  · rw [List.length_append,List.length_cons,List.length_take,List.length_drop]
    omega
def ZEY (x:V) (xs:List V):Nat:=xs.countP fun y=>eqV y x
theorem ZFS {x:V}:∀ {xs:List V} {us:List Value},Vals xs us→xs.all ZAz=true→us.countP (eqU x)=ZEY x xs
  | _,_,.nil,_=>rfl
  | y :: xs,u :: us,.cons r t,h=>by
    have h1:ZAz y=true∧xs.all ZAz=true:=by simpa [List.all_cons] using h
    unfold ZEY
    rw [List.countP_cons,List.countP_cons,ZHZ r h1.1,ZFS t h1.2]
    rfl
def ZHL (K:PySem.W.Frag):V→List V→Hp→VK→Prop:=fun x vs H Q=>∃ l xs y,x=.ref l∧vs=[y]∧SqL K H l xs∧ZAz y=true∧xs.all ZAz=true∧Q (.int (ZEY y xs)) H
theorem mt_count:MtM X "list.count" (ZHL X.K):=by
  intro pins s σ H x vs v us Q I rx rv h
  obtain ⟨l,xs,y,rfl,rfl,hq,fy,fs,q⟩:=h
  cases rx
  obtain ⟨u,rfl,ru⟩:=rv.one
  obtain ⟨its,r,pl,hz⟩:=I.list hq
  obtain ⟨⟨c,d,dt,sl⟩,n,ho,hc,hd,hdt⟩:=id pl
  simp only at hc hd hdt
  subst hc;subst hd;subst hdt
  refine call_meets F.slot_list_count ⟨_,ho,rfl⟩ F.entry_list_count (F.args_list_count_2 _ _) (SeqAt.list_countAt l its.toArray n none sl u (eqU y)) ⟨ho,fun z hz'=>ZC6 ru fy r fs z (by simpa using hz'),?_⟩
  refine ⟨.int _,H,I.tok _,⟨_,rfl⟩,?_⟩
  rw [List.toList_toArray,ZFS r fs]
  exact q
def rSlS:V→Option Int→Option Int→Hp→VK→Prop:=fun x lo hi H Q=>∃ z,x=.str z∧z.length≤sizeLine∧Q (.str (Txt.slice z lo hi)) H
theorem ZID {v:Value} {o:Option Int} (p:IsPart v o):∃ l:Option (Int×Tok),v=partValue l∧l.map (·.1)=o:=by
  cases p with
  | none=>exact ⟨none,rfl,rfl⟩
  | int i t=>exact ⟨some (i,t),rfl,rfl⟩
theorem sl_str:SlR X rSlS:=by
  intro pins s σ H x v vl vu lo hi sl Q I rx hs pl pu h
  obtain ⟨z,rfl,hz,q⟩:=h
  obtain ⟨t,rfl⟩:=rx
  obtain ⟨l,rfl,hl⟩:=ZID pl
  obtain ⟨u,rfl,hu⟩:=ZID pu
  subst hl;subst hu
  refine ⟨"str", _,F.slot_str_getitem.lookup,typeIs_str _ _ _,wpAny_getItem_str_slice (l:=l) (u:=u) (st:=none) hs rfl (post_val_or_str ⟨Nat.le_trans (Txt.slice_le z _ _) hz,fun t' k=>?_⟩)⟩
  exact ⟨.str _,H,I.tok k,⟨t',rfl⟩,q⟩
end
end L2
set_option Elab.async false
set_option linter.all false
set_option maxRecDepth 100000
set_option maxHeartbeats 4000000
set_option exponentiation.threshold 5000
namespace L2
open PySem PySem.Spec PyProof.Rows
def Has (P:Program) (w:World) (K:PySem.W.Frag) (mg:Str→Option Value) (base:Heap) (x:Str) (k:Nat) (ps:List Str) (sp:Sp):Prop:=
  ∃ f fd,FnOk P w K mg base CX0 k f fd ps sp∧Binds K fd ps []∧PySem.W.keepIn K (.ref f)=true∧mg x=some (.ref f)
section
variable {P:Program} {w:World} {K:PySem.W.Frag} {mg:Str→Option Value} {base:Heap} {x qual:Str} {k:Nat} {ps:List Str} {sp:Sp} {st:Stmt} {f:Addr} {fd:FuncData}
theorem Has.mk (F:Fun K x qual st f fd) (b:Binds K fd ps []) (m:mg x=some (.ref f)) (h:FnOk P w K mg base CX0 k f fd ps sp):Has P w K mg base x k ps sp:=⟨f,fd,h,b,F.kp,m⟩
end
section
variable {X:Cx} {x:Str} {j k:Nat} {ps:List Str} {sp:Sp} {p pos:Pos} {e:Expr} {es:List Expr} {t:TA}
theorem pe_fn (h:Has X.prog X.w X.K X.mg X.base x k ps sp) (hr:Room j X.A) (hk:k≤j) (ha:PA X (e :: es) t) (hg:Gl X x:=by rfl) (hdb:(x == ("__debug__" : Str))=false:=by decide)
    (he:starEach (e :: es) X.env=(false,eval e X.env) :: starEach es X.env:=by rfl) (hpl:(backTo pos (starEach es X.env)).any (·.1)=false:=by rfl) :
    PE X (.Call (.Name x p) (e :: es) [] pos) (ZBJ sp [] E0 t):=by
  obtain ⟨f,fd,F,b,kp,m⟩:=h
  exact pe_call (F.mono hk) hr hg m kp b .nil pass0 ha hdb he hpl
def rLenS (K:PySem.W.Frag):List V→Hp→VK→Prop:=fun xs H Q=>∃ (p:Addr) (ys:List V),xs=[.ref p]∧(SqL K H p ys∨SqT K H p ys)∧Q (.int ys.length) H
theorem ZAs:ZC7 X (.builtin "len") (rLenS X.K):=ZBf
theorem ZDO:MtR X "list.append" ZGC:=ZFl
theorem ZIr:MtR X "list.insert" ZGQ:=ZIQ
theorem mr_count:MtR X "list.count" (ZHL X.K):=mt_count
theorem pe_ty (T:String) {x:Str} {pos:Pos} (hm:X.mg x=none) (hg:Gl X x:=by rfl) (hv:bootBuiltins x=some (.type T):=by decide +kernel) (hn:x ≠ "__name__" := by decide) (hd:(x == ("__debug__" : Str))=false:=by decide) :
    PE X (.Name x pos) (tC (.ty T)):=pe_bltn hg hm hv rfl hn hd
def CBit (i j:Int):Prop:=i.natAbs < 2 ^ 1000∧j.natAbs < 2 ^ 1000
theorem log_lt {n:Nat} (h:n < 2 ^ 1000):n.log2 < 1000:=by
  rcases Nat.eq_zero_or_pos n with e | e
  · subst e;exact (show (0:Nat).log2 < 1000 by decide)
  · exact (Nat.log2_lt (Nat.ne_of_gt e)).mpr h
theorem ZI8 {i:Int} (h:i.natAbs < 2 ^ 1000):Builtin.Int.intBits i≤2 ^ 20:=by
  unfold Builtin.Int.intBits
  split
  · exact Nat.zero_le _
  · have:=log_lt h
    have e:(2:Nat) ^ 20=1048576:=by decide
    omega
theorem ZCM:OpR X (binaryOp .Mult) (rI CBit fun i j=>.int (i * j)):=opI fun _ _ _ _ _ _ _ hc q=>mul_int q (.of_bits (ZI8 hc.1) (ZI8 hc.2))
theorem ZEL:OpR X (binaryOp .FloorDiv) (rI (fun _ j=>0 < j∧j.natAbs < 2 ^ 1000) fun i j=>.int (i / j)):=opI fun i j _ _ _ _ _ hc q=>by
  have h1:(0:Int) < j:=hc.1
  have h2:=log_lt hc.2
  exact floordiv_int (by omega) (by rw [Int.fdiv_eq_ediv_of_nonneg i (by omega)];exact q) (.inl (PyProof.noPylong_of_log2 (by omega)))
theorem pss_c {body rest:List Stmt} {st:Stmt} {t u:TS} (e:body=st :: rest) (h:PS X st t) (h2:PSs X rest u):PSs X body (tSeq t u):=by rw [e];exact ZBk h h2
theorem pss_o {body:List Stmt} {st:Stmt} {t:TS} (e:body=[st]) (h:PS X st t):PSs X body t:=by rw [e];exact pss_one h
def tCut (t:TS):TS:=fun D σ H=>∃ J:St→Hp→Prop,t { D with nx:=J } σ H∧∀ σ' H',J σ' H'→D.nx σ' H'
theorem ps_cut {st:Stmt} {t:TS} (h:PS X st t):PS X st (tCut t):=by
  intro pins s σ H D I hw
  obtain ⟨J,h1,h2⟩:=hw
  refine thn (h pins s σ H _ I h1) fun f s' q=>?_
  cases f with
  | next=>obtain ⟨σ',H',I',q⟩:=q;exact ⟨σ',H',I',h2 σ' H' q⟩
  | ret v=>exact q
  | brk=>exact q
  | cont=>exact q
end
def SameX (p:Addr) (H H':Hp):Prop:=∀ b o,b≠p→H b=some o→H' b=some o
theorem SameX.trans {p:Addr} {H H1 H2:Hp} (a:SameX p H H1) (b:SameX p H1 H2):SameX p H H2:=fun c o hc e=>b c o hc (a c o hc e)
theorem SameX.of {p:Addr} {H H':Hp} (a:Same H H'):SameX p H H':=fun c o _ e=>a c o e
theorem SameX.upd {p:Addr} {H:Hp} {o:HO}:SameX p H (upd H p o):=fun c u hc e=>by rw [ZA5 hc];exact e
theorem SameX.sqT {K:PySem.W.Frag} {p:Addr} {H H':Hp} {a:Addr} {xs:List V} (e:SameX p H H') (hne:a≠p) (h:SqT K H a xs):SqT K H' a xs:=by
  rcases h with (h | ⟨o,h⟩) | h
  · exact .inl (.inl (e _ _ hne h))
  · exact .inl (.inr ⟨o,e _ _ hne h⟩)
  · exact .inr h
end L2
set_option Elab.async false
set_option linter.all false
set_option maxRecDepth 100000
set_option maxHeartbeats 8000000
namespace L2
open PySem PySem.Spec PyProof.Rows
def ZEf (acc:List Str) (x:Str):List Str:=if acc.any (· == x) then acc else acc++[x]
def dd (ss:List Str):List Str:=ss.foldl ZEf []
theorem ZHF (acc:List Str) (x:Str):(ZEf acc x).length=if acc.any (· == x) then acc.length else acc.length+1:=by
  unfold ZEf;split <;> simp
theorem dd_len (ss:List Str):(dd ss).length≤ss.length:=by
  have:∀ (l acc:List Str),(l.foldl ZEf acc).length≤acc.length+l.length:=by
    intro l
    induction l with
    | nil=>intro acc;simp
    | cons x r ih=>
      intro acc
      rw [List.foldl_cons]
      have h1:=ih (ZEf acc x)
      rw [ZHF] at h1
      simp only [List.length_cons]
      split at h1 <;> omega
  have q:=this ss []
  simp only [List.length_nil,Nat.zero_add] at q
  exact q
section
variable {prog:Program} {w:World} {A:Around} {R:Result→Shared→Prop} {I:Addr} {fp wr:List Addr} {G:Array GenState→Array GenState→Prop} {n:Nat} {P:Nat→Value→Prop} {St:Nat→Shared→Prop} {ss:List Str}
end
section
variable {prog:Program} {w:World} {A:Around} {E:Value→Shared→Prop} {s:Shared} {ss:List Str}
end
def SetO (P:Program) (w:World) (a:Addr) (f:Str→Bool) (n:Nat):HO:=.ext fun h=>h.SetOf (strKind P w) a f n
section
variable {X:Cx}
end
end L2
set_option Elab.async false
set_option linter.all false
set_option maxRecDepth 100000
set_option maxHeartbeats 4000000
namespace L2
open PySem PySem.Spec PyProof.Rows
structure QE (X:Cx) (e:Expr) (t:TE):Prop where h:PE X e t
structure QT (X:Cx) (e:Expr) (t:TT):Prop where h:PT X e t
structure QW (X:Cx) (e:Expr) (t:TT):Prop where h:PW X e t
structure QA (X:Cx) (es:List Expr) (t:TA):Prop where h:PA X es t
structure QS (X:Cx) (st:Stmt) (t:TS):Prop where h:PS X st t
structure QSs (X:Cx) (st:List Stmt) (t:TS):Prop where h:PSs X st t
structure QG (X:Cx) (tg:Expr) (t:TG):Prop where h:PG X tg t
structure QGs (X:Cx) (ts:List Expr) (t:TGs):Prop where h:PGs X ts t
structure QI (X:Cx) (tg iter:Expr) (wi:TI):Prop where h:PI X tg iter wi
structure QIf (X:Cx) (ifs:List Expr) (t:TT):Prop where h:PIfs X ifs t
structure QO (X:Cx) (e:Option Expr) (t:TO):Prop where h:PO X e t
section
variable {X:Cx} {a b c e o:Expr} {es rest:List Expr} {ta tb tc te to:TE} {tA tB':TT} {t:TA} {pos p p2 apos cpos:Pos} {x:Str}
theorem qv (i:Nat) {x:Str} {pos:Pos} (hN:X.N[i]?=some x:=by rfl) (hv:Vis X.env.scope x:=by first | exact Or.inl rfl | exact Or.inr (Or.inl rfl) | exact Or.inr (Or.inr rfl)) (hd:(x == ("__debug__" : Str))=false:=by decide)
    (hcd:(x == ("__classdict__" : Str))=false:=by decide):QE X (.Name x pos) (ZBK i):=⟨pe_var hN hv hd hcd⟩
theorem ZA2 {i j pos}:QE X (.Constant (.int i) j pos) (tC (.int i)):=⟨pe_int⟩
theorem ZEn {b j pos}:QE X (.Constant (.bool b) j pos) (tC (.bl b)):=⟨pe_bl⟩
theorem ZEr {j pos}:QE X (.Constant .none j pos) (tC .non):=⟨pe_non⟩
theorem ZAC {x j pos}:QE X (.Constant (.str x) j pos) (tC (.str x)):=⟨pe_str⟩
theorem ZAT {v:V} {u:Value} (hg:Gl X x) (hm:X.mg x=some u) (r:RelV v u) (hd:(x == ("__debug__" : Str))=false:=by decide):QE X (.Name x pos) (tC v):=⟨pe_glob hg hm r hd⟩
theorem qe_ty (T:String) {x:Str} {pos:Pos} (hm:X.mg x=none) (hg:Gl X x:=by rfl) (hv:bootBuiltins x=some (.type T):=by decide +kernel) (hn:x ≠ "__name__" := by decide) (hd:(x == ("__debug__" : Str))=false:=by decide) :
    QE X (.Name x pos) (tC (.ty T)):=⟨pe_ty T hm hg hv hn hd⟩
theorem ZAH {op:Operator} {r:R2} (ho:OpR X (binaryOp op) r) (ha:QE X a ta) (hb:QE X b tb):QE X (.BinOp a op b pos) (tOp r ta tb):=⟨pe_op ho ha.h hb.h⟩
theorem ZG4 {op:CmpOp} {r:R2} (ho:OpR X (compareOp op) r) (ha:QE X a ta) (hb:QE X b tb) (hm:behindInMarks op b=false):QE X (.Compare a [op] [b] pos) (tOp r ta tb):=⟨pe_cmpR ho ha.h hb.h hm⟩
theorem ZAB {op:CmpOp} {r:R2} (ho:OpR X (compareOp op) r) (ha:QE X a ta) (hb:QE X b tb) (hm:behindInMarks op b=false):QT X (.Compare a [op] [b] pos) (ZGa (tOp r ta tb)):=⟨pt_cmpR ho ha.h hb.h hm⟩
theorem qe_chain {op op':CmpOp} {r r':R2} (ho:OpR X (compareOp op) r) (ho':OpR X (compareOp op') r') (ha:QE X a ta) (hb:QE X b tb) (hc:QE X c tc)
    (hm:lastMarks [op,op'] [b,c]=false:=by with_unfolding_all rfl):QE X (.Compare a [op,op'] [b,c] pos) (ZDW r r' ta tb tc):=⟨pe_chain ho ho' ha.h hb.h hc.h hm⟩
theorem ZDE {op op':CmpOp} {r r':R2} (ho:OpR X (compareOp op) r) (ho':OpR X (compareOp op') r') (ha:QE X a ta) (hb:QE X b tb) (hc:QE X c tc)
    (hm:lastMarks [op,op'] [b,c]=false:=by with_unfolding_all rfl):QT X (.Compare a [op,op'] [b,c] pos) (ZGa (ZDW r r' ta tb tc)):=⟨pt_chain ho ho' ha.h hb.h hc.h hm⟩
theorem qe_one {op} (h:QE X a ta):QE X (.BoolOp op [a] pos) ta:=⟨pe_one h.h⟩
theorem qe_and (ha:QE X a ta) (hb:QE X (.BoolOp .And (b :: rest) pos) tb):QE X (.BoolOp .And (a :: b :: rest) pos) (tAndV ta tb):=⟨pe_and ha.h hb.h⟩
theorem ZE2 (ha:QT X a tA):QW X (.BoolOp .And [a] pos) tA:=⟨pw_and1 ha.h⟩
theorem ZDS (ha:QT X a tA):QW X (.BoolOp .Or [a] pos) tA:=⟨pw_or1 ha.h⟩
theorem ZFq (ha:QT X a tA) (hb:QW X (.BoolOp .And (b :: rest) pos) tB'):QW X (.BoolOp .And (a :: b :: rest) pos) (tAnd tA tB'):=⟨pw_and ha.h hb.h⟩
theorem ZFR (ha:QT X a tA) (hb:QW X (.BoolOp .Or (b :: rest) pos) tB'):QW X (.BoolOp .Or (a :: b :: rest) pos) (tOr tA tB'):=⟨pw_or ha.h hb.h⟩
theorem QW.pt {e:Expr} {t:TT} (h:QW X e t):QT X e t:=⟨h.h.pt⟩
theorem ZCw (ha:QT X a tA):QT X (.UnaryOp .Not a pos) (tNot tA):=⟨pt_not ha.h⟩
theorem ZFv (h:QE X e te) (he:∀ whole,isTrue e X.env whole=(do let v ← whole;standAt e.pos;holding [v] (truthy v)):=by intro _;rfl):QT X e (tB te):=⟨pt_val h.h he⟩
theorem ZA1:QA X [] ZAa:=⟨ZFz⟩
theorem ZA0 (ha:QE X e te) (hr:QA X es t) (hs:starEach (e :: es) X.env=(false,eval e X.env) :: starEach es X.env:=by rfl):QA X (e :: es) (ZA9 te t):=⟨ZCI ha.h hr.h hs⟩
theorem ZAd {x1} (h:QA X es t):QE X (.Tuple es x1 pos) (tTup t):=⟨pe_tup h.h⟩
theorem ZBa (h:QA X es t):QE X (.List es pos) (tLst t):=⟨pe_lst h.h⟩
theorem ZBy:QO X none ZGN:=⟨po_none⟩
theorem ZBz (h:QE X e te):QO X (some e) (tPart te):=⟨po_some h.h⟩
theorem ZBY {r:V→Option Int→Option Int→Hp→VK→Prop} {lo hi:Option Expr} {tl th:TO} (hr:SlR X r) (he:QE X e te) (hl:QO X lo tl) (hu:QO X hi th):QE X (.Subscript e (.Slice lo hi none p2) pos) (tSl r te tl th):=⟨pe_slice hr he.h hl.h hu.h⟩
theorem ZAQ {r:R2} (hr:IxR X r) (ha:QE X a ta) (hb:QE X b tb) (hs:ZI6 b):QE X (.Subscript a b pos) (tOp r ta tb):=⟨pe_ix hr ha.h hb.h hs⟩
theorem ZAR {j k:Nat} {ps:List Str} {sp:Sp} (h:Has X.prog X.w X.K X.mg X.base x k ps sp) (hr:Room j X.A) (hk:k≤j) (ha:QA X (e :: es) t) (hg:Gl X x:=by rfl) (hdb:(x == ("__debug__" : Str))=false:=by decide)
    (he:starEach (e :: es) X.env=(false,eval e X.env) :: starEach es X.env:=by rfl) (hpl:(backTo pos (starEach es X.env)).any (·.1)=false:=by rfl):QE X (.Call (.Name x p) (e :: es) [] pos) (ZBJ sp [] E0 t):=⟨pe_fn h hr hk ha.h hg hdb he hpl⟩
theorem ZA7 {id:String} {r:List V→Hp→VK→Prop} (hc:ZC7 X (.builtin id) r) (hg:Gl X x) (hm:X.mg x=none) (hv:bootBuiltins x=some (.builtin id)) (ha:QA X (e :: es) t) (hn:x ≠ "__name__" := by decide) (hdb:(x == ("__debug__" : Str))=false:=by decide)
    (he:starEach (e :: es) X.env=(false,eval e X.env) :: starEach es X.env:=by rfl) (hpl:(backTo pos (starEach es X.env)).any (·.1)=false:=by rfl):QE X (.Call (.Name x p) (e :: es) [] pos) (tCB r t):=⟨pe_callB hc hg hm hv ha.h hn hdb he hpl⟩
theorem ZDZ {T:String} {r:List V→Hp→VK→Prop} (hc:ZC7 X (.type T) r) (hg:Gl X x) (hm:X.mg x=none) (hv:bootBuiltins x=some (.type T)) (ha:QA X (e :: es) t) (hn:x ≠ "__name__" := by decide) (hdb:(x == ("__debug__" : Str))=false:=by decide)
    (he:starEach (e :: es) X.env=(false,eval e X.env) :: starEach es X.env:=by rfl) (hpl:(backTo pos (starEach es X.env)).any (·.1)=false:=by rfl):QE X (.Call (.Name x p) (e :: es) [] pos) (tCB r t):=⟨ZJ0 hc hg hm hv ha.h hn hdb he hpl⟩
theorem ZGz {name:Str} {T id:String} {r:V→List V→Hp→VK→Prop} (pa:PlainAttrs T) (slot:Slot T name id) (hty:typeOf (.builtin id)=pure (.type "method_descriptor")) (hm:MtR X id r) (ho:QE X o to) (ha:QA X (e :: es) t)
    (hbase:attributeBase o name X.env (eval o X.env)=eval o X.env:=by rfl)
    (hfew:((backTo cpos (starEach (e :: es) X.env)).all (fun x=>!x.1) && (backToKw cpos (keywordEach [] X.env)).all (fun x=>x.1.isSome)
      && decide ((e :: es).length+([]:List Keyword).length+(if ([]:List Keyword).isEmpty then 0 else 1) < 30))=true:=by rfl)
    (hline:(apos.endLine == cpos.line)=true:=by rfl) (hs:starEach (e :: es) X.env=(false,eval e X.env) :: starEach es X.env:=by rfl) (hplain:(backTo cpos (starEach es X.env)).any (·.1)=false:=by rfl) :
    QE X (.Call (.Attribute o name apos) (e :: es) [] cpos) (tBM X.K T r to t):=⟨pe_bm pa slot hty hm ho.h ha.h hbase hfew hline hs hplain⟩
end
section
variable {X:Cx} {elt iter:Expr} {x:Str} {px pos:Pos} {ifs:List Expr} {scope:Scope} {caps:List Str} {js:List Nat} {tt:TT} {te:TE} {wi:TI} {tg:Expr}
theorem ZEE {l:Expr} {tl:TE} (hl:QE X l tl):QI X tg l (iSq X.K tl):=⟨pi_sq hl.h⟩
theorem qi_str {l:Expr} {tl:TE} (hl:QE X l tl):QI X tg l (iStr tl):=⟨pi_str hl.h⟩
theorem ZCB {a:Expr} {ta:TA} {p pos:Pos} (hg:Gl X "range") (hm:X.mg "range" = none) (ha:QA X [a] ta) (hs:starEach [a] X.env=[(false,eval a X.env)]:=by rfl):QI X tg (.Call (.Name "range" p) [a] [] pos) (iRng1 ta):=⟨ZIW hg hm ha.h hs⟩
theorem ZG3:QIf X [] tTrue:=⟨pif_nil⟩
theorem qif_one {c:Expr} {t:TT} (hc:QT X c t):QIf X [c] t:=⟨pif_one hc.h⟩
theorem ZGK (hc:X.calm=true) (S:CompScope X.N X.env.scope scope x caps js) (hi:QI X (.Name x px) iter wi)
    (hifs:∀ fp C s H,QIf (ZAe X (caps++[x]) scope (ZAZ X.env.cells scope.names) C s H fp) ifs tt) (helt:∀ fp C s H,QE (ZAe X (caps++[x]) scope (ZAZ X.env.cells scope.names) C s H fp) elt te)
    (hs:∀ v,foldedSetIterable iter X.env v=pure v:=by intro _;rfl):QE X (.ListComp elt [⟨.Name x px,iter,ifs,0⟩] scope pos) (ZFi wi js tt te):=⟨pe_comp hc S hi.h (fun fp C s H=>(hifs fp C s H).h) (fun fp C s H=>(helt fp C s H).h) hs⟩
theorem qs_comp {i:Nat} {y:Str} {py spos:Pos} (hN:X.N.Nodup) (hi':X.N[i]?=some y) (hy:Loc X.env.scope y) (hc:X.calm=true) (S:CompScope X.N X.env.scope scope x caps js) (hi:QI X (.Name x px) iter wi)
    (hifs:∀ fp C s H,QIf (ZAe X (caps++[x]) scope (ZAZ X.env.cells scope.names) C s H fp) ifs tt) (helt:∀ fp C s H,QE (ZAe X (caps++[x]) scope (ZAZ X.env.cells scope.names) C s H fp) elt te)
    (hsw:swapsWith (.ListComp elt [⟨.Name x px,iter,ifs,0⟩] scope pos) (some (.Name y py)) spos.line X.env=pure true:=by rfl)
    (hf:X.fn y=true∨X.env.scope.names.lookup y=some .local:=by first | exact .inl rfl | exact .inr rfl | assumption)
    (hs:∀ v,foldedSetIterable iter X.env v=pure v:=by intro _;rfl):QS X (.Assign [.Name y py] (.ListComp elt [⟨.Name x px,iter,ifs,0⟩] scope pos) spos) (tAsg (ZFi wi js tt te) (ZBq i)):=
  ⟨ps_comp hN hi' hy hc S hi.h (fun fp C s H=>(hifs fp C s H).h) (fun fp C s H=>(helt fp C s H).h) hsw hf hs⟩
theorem ZAV {i:Nat} {x:Str} (hN:X.N.Nodup) (hi:X.N[i]?=some x) (hx:Loc X.env.scope x) (hf:X.fn x=true∨X.env.scope.names.lookup x=some .local:=by first | exact .inl rfl | exact .inr rfl | assumption):QG X (.Name x pos) (ZBq i):=⟨ZIB hN hi hx hf⟩
theorem ZD7:QGs X [] gNil:=⟨pgs_nil⟩
theorem ZAo {e:Expr} {es:List Expr} {t:TG} {u:TGs} (h1:QG X e t) (h2:QGs X es u)
    (hs:(assignEach (e :: es) X.env).map (·.2)=assign e X.env :: (assignEach es X.env).map (·.2):=by rfl):QGs X (e :: es) (ZEQ t u):=⟨pgs_cons h1.h h2.h hs⟩
theorem ZEl {es:List Expr} {k:Nat} {t:TGs} {n:Nat} (hc:X.calm=true) (h:QGs X es t) (hn:(assignEach es X.env).length=n:=by rfl) (hst:(assignEach es X.env).findIdx? (·.1)=none:=by rfl):QG X (.Tuple es k pos) (gTup X.K n t):=⟨pg_tup hc h.h hn hst⟩
theorem qg_sub {o i:Expr} {to ti:TE} {t:TSet} (ho:QE X o to) (hi:QE X i ti) (hs:PSet X t)
    (ha:∀ v,assign (.Subscript o i pos) X.env v=(do
      let ov ← holding [v] (eval o X.env)
      let iv ← holding [v,ov] (eval i X.env)
      standAt pos
      holding [v,ov,iv] (setItem ov iv v)
      release [v,ov,iv] []):=by intro _;rfl):QG X (.Subscript o i pos) (gSub to ti t):=⟨pg_sub ho.h hi.h hs ha⟩
end
section
variable {X:Cx} {st:Stmt} {rest:List Stmt} {t u:TS} {e:Expr} {te:TE} {pos:Pos}
theorem ZAG:QSs X [] tNext:=⟨ZEA⟩
theorem ZA8 {body rest:List Stmt} {st:Stmt} {t u:TS} (e:body=st :: rest) (h:QS X st t) (h2:QSs X rest u):QSs X body (tSeq t u):=⟨pss_c e h.h h2.h⟩
theorem ZAA {body:List Stmt} {st:Stmt} {t:TS} (e:body=[st]) (h:QS X st t):QSs X body t:=⟨pss_o e h.h⟩
theorem ZBw (he:QE X e te) (hs:swapsWith e none pos.line X.env=pure false:=by rfl):QS X (.Expr e pos) (ZEJ te):=⟨ZE4 he.h hs⟩
theorem ZAP (he:QE X e te):QS X (.Return (some e) pos) (tRet te):=⟨ps_ret he.h⟩
theorem ZAX {c:Expr} {a b:List Stmt} {tc:TT} (hc:QT X c tc) (ha:QSs X a t) (hb:QSs X b u):QS X (.If c a b pos) (tIfS tc t u):=⟨ps_if hc.h ha.h hb.h⟩
theorem ZHH {tg e:Expr} {te:TE} {g:TG} (he:QE X e te) (hg:QG X tg g) (hs:swapsWithSole [tg] e pos.line X.env=pure false:=by rfl) (hw:swappedStores [tg] e X.env=pure none:=by rfl)
    (h1:(assignEach [tg] X.env).map (·.2)=[assign tg X.env]:=by rfl):QS X (.Assign [tg] e pos) (tAsg te g):=⟨ps_asg he.h hg.h hs hw h1⟩
theorem ZAE {i:Nat} {x:Str} {pos':Pos} (hN:X.N.Nodup) (hi:X.N[i]?=some x) (hx:Loc X.env.scope x) (he:QE X e te) (hs:swapsWith e (some (.Name x pos')) pos.line X.env=pure false:=by rfl) (hf:X.fn x=true∨X.env.scope.names.lookup x=some .local:=by first | exact .inl rfl | exact .inr rfl | assumption) :
    QS X (.Assign [.Name x pos'] e pos) (tAsg te (ZBq i)):=⟨ps_set hN hi hx he.h hs hf⟩
theorem ZGu {c:Expr} {body:List Stmt} {tc:TT} {tb:TS} (hp:PassesOwn (model X.prog X.w) X.A X.env X.xe) (hc:QT X c tc) (hb:QSs X body tb):QS X (.While c body [] pos) (tWhile tc tb):=⟨ps_while hp hc.h hb.h⟩
theorem ZBb {tg iter:Expr} {body:List Stmt} {wi:TI} {g:TG} {tb:TS} (hp:PassesOwn (model X.prog X.w) X.A X.env X.xe) (hc:X.calm=true) (hi:QI X tg iter wi) (hg:QG X tg g) (hb:QSs X body tb)
    (hs:∀ x,foldedSetIterable iter X.env x=pure x:=by intro _;rfl):QS X (.For tg iter body [] pos) (tFor wi g tb):=⟨ps_for hp hc hi.h hg.h hb.h hs⟩
theorem ZAp (h:QS X st t):QS X st (tCut t):=⟨ps_cut h.h⟩
end
theorem Fun.okq {P:Program} {w:World} {K:PySem.W.Frag} {mg:Str→Option Value} {base:Heap} {x qual:Str} {st:Stmt} {f:Addr} {fd:FuncData} {N ps:List Str} {k:Nat} {sp:Sp} (F:Fun K x qual st f fd) (S:FnScope N ps (ZA4 st)) (len:∀ vs H Q E,sp vs H Q E→vs.length=ps.length)
    (hbody:∀ (cdv:Value) (A:Around) (outer:List Env) (s:Shared) (H:Hp) (vs:List V) (Q:VK) (E:XK),Room k (A.deeper (envOfC qual (ZA4 st) s.heap.objs.size f cdv))→sp vs H Q E→
      ∃ t,QSs (ZCb CX0 P w K mg base N qual (ZA4 st) f cdv A outer s H E).nox (ZAI st) t∧t { nx:=fun _ H'=>Q .non H',rt:=Q } (start N vs) H):FnOk P w K mg base CX0 (k+1) f fd ps sp:=
  F.ok S len fun cdv A outer s H vs Q E hr h=>let ⟨t,q,r⟩:=hbody cdv A outer s H vs Q E hr h;⟨t,q.h,r⟩
end L2
set_option Elab.async false
set_option linter.all false
set_option maxRecDepth 100000
set_option maxHeartbeats 4000000
namespace L2
open PySem PySem.Spec PyProof.Rows
section
variable {X:Cx}
def rIndexL (K:PySem.W.Frag):V→List V→Hp→VK→Prop:=fun x vs H Q=>∃ (l:Addr) (ss:List Str) (y:Str),x=.ref l∧vs=[.str y]∧SqL K H l (ss.map V.str)∧y∈ss∧Q (.int (ss.idxOf y:Nat)) H
end
end L2
namespace L2
open PySem PySem.Spec PyProof.Rows
section
variable {X:Cx}
end
end L2
set_option Elab.async false
set_option linter.all false
set_option maxRecDepth 100000
set_option maxHeartbeats 4000000
namespace L2
open PySem PySem.Spec PyProof.Rows
section
variable {prog:Program} {w:World} {A:Around} {s:Shared} {R:Result→Shared→Prop}
variable {I:Addr} {fp wr:List Addr} {G:Array GenState→Array GenState→Prop} {n:Nat} {P:Nat→Value→Prop} {St:Nat→Shared→Prop}
end
section
variable {prog:Program} {w:World} {A:Around} {E:Value→Shared→Prop} {s:Shared}
variable {I:Addr} {fp wr:List Addr} {G:Array GenState→Array GenState→Prop} {n:Nat} {P:Nat→Value→Prop} {St:Nat→Shared→Prop}
end
end L2
set_option Elab.async false
set_option linter.all false
set_option maxRecDepth 100000
set_option maxHeartbeats 4000000
namespace L2
open PySem PySem.Spec PyProof.Rows
section
variable {prog:Program} {w:World} {A:Around} {E:Value→Shared→Prop} {s:Shared}
end
end L2
set_option Elab.async false
set_option linter.all false
set_option maxRecDepth 100000
set_option maxHeartbeats 4000000
namespace L2
open PySem PySem.Spec PyProof.Rows
section
variable {prog:Program} {w:World} {A:Around} {E:Value→Shared→Prop} {s:Shared}
end
section
variable {prog:Program} {w:World} {A:Around} {s:Shared} {R:Result→Shared→Prop}
variable {I:Addr} {l:Addr} {items:Array Value}
end
section
variable {prog:Program} {w:World} {A:Around} {E:Value→Shared→Prop} {s:Shared}
end
end L2
set_option Elab.async false
set_option linter.all false
set_option maxRecDepth 100000
set_option maxHeartbeats 4000000
namespace HT
open PySem PyProof.Rows
section
variable {prog:Program} {w:World} {A:Around} {E:Value→Shared→Prop} {s:Shared}
theorem getItem_tuple_all {t sl:Addr} {items:Array Value} {vl vu:Value} {lo hi:Option Int} {Q:Value→Shared→Prop} (ht:IsTup s.heap t items) (hs:s.heap.IsSliceOf sl vl vu .none) (pl:IsPart vl lo) (pu:IsPart vu hi)
    (hw:sIx items.size 0 lo=0∧sIx items.size items.size hi=items.size) (h:Q (.ref t) s):wpAny (model prog w) A (getItem (.ref t) (.ref sl)) Q E s:=by
  obtain ⟨os,hos,hcs,hds⟩:=id hs
  have hTs:s.TypeIs (.ref sl) "slice" := ⟨os,hos,hcs⟩
  unfold getItem
  try with_reducible refine wpAny_holding ?_
  first | refine wpAny_bind (wpAny_pure ?_) | skip
  refine wpAny_bind (wpAny_sequenceKey ht.typeIs (by decide) ?_)
  refine wpAny_bind (wpAny_callSpecial?_slot (name:=Str.ofString "__getitem__") ht.typeIs PyProof.Rows.slot_tuple_getitem
    (wpAny_call_entry PyProof.Rows.slot_tuple_getitem ht.typeIs entry_tuple_getitem ?_ (args_tuple_getitem _ _)))
  show wpAny _ _ (Builtin.Tuple.tupleItemsOf (.ref t) >>= _) _ _ s
  refine wpAny_bind (tupleItemsOf_ ht ?_)
  refine wpAny_bind (wpAny_typeOf hTs ?_)
  rw [if_pos (by decide)]
  refine wpAny_bind (ZC8 hs pl pu ?_)
  have hyes:((((sIx items.size 0 lo:Nat):Int) == 0 && (1:Int) == 1 && (sIx items.size items.size hi - sIx items.size 0 lo) == items.size)=true):=by
    rw [hw.1,hw.2];simp
  first
  | rw [if_pos hyes]
  | simp only [hyes,if_true]
  refine wpAny_bind ?_
  unfold Builtin.Tuple.tupleIsExact
  refine wpAny_bind (wpAny_typeOf ht.typeIs (wpAny_pure ?_))
  rw [if_pos (by decide)]
  exact wpAny_bind (wpAny_rule (wpAny_pure ⟨_,rfl,wpAny_pure h⟩))
end
end HT
namespace L2
open PySem PySem.Spec PyProof.Rows
section
variable {X:Cx}
def rSlA (K:PySem.W.Frag):V→Option Int→Option Int→Hp→VK→Prop:=fun x lo hi H Q=>∃ a xs,x=.ref a∧SqT K H a xs∧
  ((HT.sIx xs.length 0 lo=0∧HT.sIx xs.length xs.length hi=xs.length)→Q (.ref a) H)∧(¬ (HT.sIx xs.length 0 lo=0∧HT.sIx xs.length xs.length hi=xs.length)→∀ p,H p=none→Q (.ref p) (upd H p (.tup (ZDD xs lo hi))))
theorem sl_tupA:SlR X (rSlA X.K):=by
  intro pins s σ H x v vl vu lo hi sl Q I rx hs pl pu h
  obtain ⟨a,xs,rfl,hx,q1,q2⟩:=h
  by_cases hw:HT.sIx xs.length 0 lo=0∧HT.sIx xs.length xs.length hi=xs.length
  · cases rx
    obtain ⟨its,r,ht,hz⟩:=I.tuple hx
    have hlen:its.toArray.size=xs.length:=by rw [List.size_toArray];exact r.length.symm
    refine ⟨"tuple", _,PyProof.Rows.slot_tuple_getitem.lookup,ht.typeIs,?_⟩
    exact HT.getItem_tuple_all ht hs pl pu (by rw [hlen];exact hw) ⟨.ref a,H,I,rfl,q1 hw⟩
  · exact sl_tup pins s σ H _ v vl vu lo hi sl Q I rx hs pl pu ⟨a,xs,rfl,hx,hw,q2 hw⟩
end
end L2
set_option Elab.async false
set_option linter.all false
set_option maxRecDepth 100000
set_option maxHeartbeats 4000000
namespace L2
open PySem PySem.Spec PyProof.Rows
section
variable {X:Cx}
def tRev (K:PySem.W.Frag) (t:TA):TE:=fun σ H Q=>t σ H fun vs H1=>∃ a tp ys,vs=[.ref a]∧SqB K tp H1 a ys∧∀ l,H1 l=none→Q (.ref l) (upd H1 l (.lst ys.reverse))
end
end L2
set_option Elab.async false
set_option linter.all false
set_option maxRecDepth 100000
set_option maxHeartbeats 4000000
namespace L2
open PySem PySem.Spec PyProof.Rows
section
variable {X:Cx}
theorem Inv.turnL {pins:List (Addr×Obj)} {σ:St} {H:Hp} {s:Shared} {h':Heap} {t':Nat} {fp:List Addr} (I:Inv X pins σ H s) (hf:∀ b∈fp,ZCZ X pins H b) (k:∀ b o,b∉fp→s.heap.get? b=some o→h'.get? b=some o) :
    Inv X pins σ H { s with heap:=h',toks:=t' }:=by
  have nit:∀ b u,H b=some u→b∉fp:=fun b u e z=>by rw [(hf b z).1] at e;cases e
  refine I.step (g':=s.gens) (d':=s.drawn) (ch:=fp) (fun b hb=>?_) (fun b o _ _ hc e _=>k b o hc e) (fun b o _ _ hc e _=>⟨o.slots,k b o hc e⟩) (fun _ _ _ _ n=>n)
    (fun b o hc e=>⟨o,k b o hc e⟩) (fun _ _ e=>e) (fun _ _ _ e=>e) (fun b ps e=>⟨#[],by rw [e];simp⟩) (fun m hm=>?_) (fun b u e=>?_) I.bare
  · obtain ⟨_,h1,_,h3,h4,h5⟩:=hf b hb
    exact ⟨h3,h1,h4,h5⟩
  · obtain ⟨o,es,ep,ho,r⟩:=hm
    exact ⟨o,es,ep,k _ o (fun z=>(hf _ z).2.1 rfl) ho,r⟩
  · refine (I.hok b u e).stay (fun c v hc q=>k c v ?_ q) (fun _ q=>q) fun _ _ q=>q
    rcases hc with z | z
    · rw [z];exact nit b u e
    · exact nit c _ z
theorem Inv.turnLaid {pins:List (Addr×Obj)} {σ:St} {H:Hp} {s:Shared} {h':Heap} {t':Nat} {fp:List Addr} {a:Addr} {o:HO} (I:Inv X pins σ H s) (hf:∀ b∈fp,ZCZ X pins H b) (k:∀ b o,b∉fp→s.heap.get? b=some o→h'.get? b=some o)
    (ha:s.heap.objs.size≤a) (new:ObjOk X.prog X.w (upd H a o) h' a o):Inv X pins σ (upd H a o) { s with heap:=h',toks:=t' }:=by
  have hn:H a=none:=I.hok.fresh ha
  have nit:∀ b u,H b=some u→b∉fp:=fun b u e z=>by rw [(hf b z).1] at e;cases e
  have ne:∀ b u,H b=some u→b≠a:=fun b u e=>ZAF e hn
  have ne2:∀ b u,s.heap.get? b=some u→b≠a:=fun b u e=>Nat.ne_of_lt (Nat.lt_of_lt_of_le (Heap.lt_size e) ha)
  refine I.step (g':=s.gens) (d':=s.drawn) (ch:=fp) (fun b hb=>?_) (fun b o _ _ hc e _=>k b o hc e) (fun b o _ _ hc e _=>⟨o.slots,k b o hc e⟩) (fun b o _ e n=>by rw [ZA5 (ne2 b o e)];exact n)
    (fun b o hc e=>⟨o,k b o hc e⟩) (fun b _ e=>by rw [ZA5 (ne b _ e)];exact e) (fun b _ _ e=>by rw [ZA5 (ne b _ e)];exact e) (fun b ps e=>⟨#[],by rw [ZA5 (ne b _ e),e];simp⟩) (fun m hm=>?_) (fun b u e=>?_) I.bare
  · obtain ⟨_,h1,_,h3,h4,h5⟩:=hf b hb
    exact ⟨h3,h1,h4,h5⟩
  · obtain ⟨o,es,ep,ho,r⟩:=hm
    exact ⟨o,es,ep,k _ o (fun z=>(hf _ z).2.1 rfl) ho,r⟩
  · by_cases hb:b=a
    · subst hb
      rw [ZA3] at e;cases e
      exact new
    · rw [ZA5 hb] at e
      refine (I.hok b u e).stay (fun c v hc q=>k c v ?_ q) (fun c q=>by rw [ZA5 (ne c _ q)];exact q) fun c _ q=>by rw [ZA5 (ne c _ q)];exact q
      rcases hc with z | z
      · rw [z];exact nit b u e
      · exact nit c _ z
def Ien (K:PySem.W.Frag) (a:Addr) (xs:List V):It:=
  ⟨fun i H=>SqL K H a xs∧i < xs.length,fun i H x H'=>∃ p y,xs[i]?=some y∧x=.ref p∧H p=none∧H'=upd H p (.tup [.int i,y]),fun i H=>SqL K H a xs∧xs.length≤i⟩
theorem ZIy {P:Program} {w:World} {K:PySem.W.Frag} {es:List Expr} {k1:Nat} {p1:Pos} (a e it:Addr) (xs:List V) (hei:e≠it) :
    Turn P w K (.Tuple es k1 p1) (Ien K a xs) [e,it] e (fun i h=>(∃ old,IsEnum h e it i old)∧h.IsListIter it a i) where
  mem:=by simp
  obj:=fun i h st b hb=>by
    obtain ⟨⟨old,h1⟩,o,h2,_,d⟩:=st
    rcases List.mem_cons.mp hb with z | z
    · subst z;exact ⟨_,h1,fun v z=>by cases z⟩
    · have:b=it:=by simpa using z
      subst this
      exact ⟨o,h2,fun v z=>by rw [d] at z;cases z⟩
  keep:=fun i h h' st k=>⟨let ⟨old,h1⟩:=st.1;⟨old,k e (by simp) _ h1⟩,st.2.at fun o q=>k it (by simp) o q⟩
  item:=by
    intro X hP hw hK hc i pins s σ H E I hf st hg
    subst hP hw hK
    obtain ⟨hq,hi⟩:=hg
    obtain ⟨⟨old,he⟩,hit⟩:=st
    obtain ⟨its,rv,p,hz⟩:=I.list hq
    obtain ⟨u,hu,ru⟩:=rv.get (List.getElem?_eq_getElem hi)
    refine wpAny_pyNext_enum_item he hit p.isList (x:=u) (by simpa using hu) hei fun h1 heo hit1 ht1 hz1 hk1=>⟨_,rfl,?_⟩
    refine wpAny_letOwnedTupleGo_enum heo fun h2 he2 hs2=>?_
    have hlt:e < s.heap.objs.size:=Heap.lt_size he
    have ht2:h2.get? s.heap.objs.size=some { cls:=.type "tuple", data:=.seq #[.int i s.toks,u] }:=(hs2.2 _ (Nat.ne_of_gt hlt)).trans ht1
    have kp:∀ b o,b∉[e,it]→s.heap.get? b=some o→h2.get? b=some o:=fun b o hb q=>by
      have hb':b≠e∧b≠it:=by simpa using hb
      exact (hs2.2 b hb'.1).trans (hk1 b o hb'.1 hb'.2 q)
    refine ⟨.ref s.heap.objs.size,_,I.turnLaid (t':=s.toks+1) (a:=s.heap.objs.size) (o:=.tup [.int i,xs[i]]) hf kp (Nat.le_refl _) ?_,rfl,⟨_,_,List.getElem?_eq_getElem hi,rfl,I.hok.fresh (Nat.le_refl _),rfl⟩,⟨⟨_,he2⟩,hit1.at fun o q=>(hs2.2 it (Ne.symm hei)).trans q⟩,fun b hb=>?_⟩
    · exact ⟨(by show 2≤sizeLine;decide),[.int i s.toks,u],.cons ⟨_,rfl⟩ (.cons ru .nil),⟨_,ht2,rfl,_,rfl⟩,fun ob q=>by rw [ht2] at q;cases q;rfl⟩
    · have hb2:b < s.heap.objs.size:=by
        rcases List.mem_cons.mp hb with z | z
        · rw [z];exact hlt
        · have:b=it:=by simpa using z
          obtain ⟨o,q,_⟩:=hit
          rw [this];exact Heap.lt_size q
      rw [ZA5 (Nat.ne_of_lt hb2)]
      exact (hf b hb).1
  done:=by
    intro X hP hw hK hc i pins s σ H E I hf st hg
    subst hP hw hK
    obtain ⟨hq,hx⟩:=hg
    obtain ⟨⟨old,he⟩,hit⟩:=st
    obtain ⟨its,rv,p,hz⟩:=I.list hq
    have hl:=rv.length
    exact wpAny_pyNext_enum_end (I.ok.hd hc) he hit p.isList (by simp;omega) fun h' eb=>⟨rfl,I.turnL (t':=s.toks) hf fun b o hb q=>eb b o (fun z=>hb (by simp [z])) q⟩
  self:=fun _ _ _ _ _ st h=>let ⟨⟨_,he⟩,_⟩:=st;wpAny_pyIter_enum he h
end
end L2
set_option Elab.async false
set_option linter.all false
set_option maxRecDepth 100000
set_option maxHeartbeats 4000000
namespace L2
open PySem PySem.Spec PyProof.Rows
def byT (w:World):Bool:=w.params.followText "set-order"
def SetT (prog:Program) (w:World) (h:Heap) (a:Addr) (S:Str→Bool) (n:Nat):Prop:=
  ∃ o es ep t,h.get? a=some o∧o.ExactSet∧o.data=.set es ep t∧ElemsOf (PySem.strKind prog w) es.toList∧(∀ k,S k=true↔∃ e∈es.toList,(PySem.strKind prog w).is k e.2=true)∧
    es.size < scanBound∧t.fits es.size=true∧es.size=n∧(t.led=!byT w)∧(0 < es.size→t.plain=false)
section
variable {prog:Program} {w:World} {A:Around} {E:Value→Shared→Prop} {s:Shared}
end
end L2
set_option Elab.async false
set_option linter.all false
set_option maxRecDepth 100000
set_option maxHeartbeats 4000000
namespace L2
open PySem PySem.Spec PyProof.Rows
section
variable {prog:Program} {w:World} {A:Around} {E:Value→Shared→Prop} {s:Shared}
end
section
variable {prog:Program} {w:World} {A:Around} {E:Value→Shared→Prop} {s:Shared}
end
end L2
set_option Elab.async false
set_option linter.all false
set_option maxRecDepth 100000
set_option maxHeartbeats 4000000
namespace L2
open PySem PySem.Spec PyProof.Rows
section
variable {prog:Program} {w:World} {A:Around}
end
theorem StrsAre.len:∀ {vs:List Value} {ss:List Str},StrsAre vs ss→vs.length=ss.length
  | _,_,.nil=>rfl
  | _,_,.cons _ _ h=>by rw [List.length_cons,List.length_cons,StrsAre.len h]
section
variable {prog:Program} {w:World} {A:Around} {E:Value→Shared→Prop} {s:Shared}
end
end L2
set_option Elab.async false
set_option linter.all false
set_option maxRecDepth 100000
set_option maxHeartbeats 4000000
namespace L2
open PySem PySem.Spec PyProof.Rows
section
variable {prog:Program} {w:World} {A:Around} {R:Result→Shared→Prop} {I:Addr} {fp wr:List Addr} {G:Array GenState→Array GenState→Prop} {n:Nat} {P:Nat→Value→Prop} {St:Nat→Shared→Prop} {ss:List Str}
end
section
variable {prog:Program} {w:World} {A:Around} {E:Value→Shared→Prop} {s:Shared} {ss:List Str}
end
def SetTO (P:Program) (w:World) (a:Addr) (f:Str→Bool) (n:Nat):HO:=.ext fun h=>SetT P w h a f n
section
variable {X:Cx}
end
section
variable {prog:Program} {w:World} {A:Around} {E:Value→Shared→Prop} {s:Shared}
end
section
variable {X:Cx}
def rSorted (K:PySem.W.Frag):List V→Hp→VK→Prop:=fun xs H Q=>∃ (p:Addr) (tp:Bool) (ss:List Str),xs=[.ref p]∧SqB K tp H p (ss.map V.str)∧ss.length < 64∧∀ l ss',H l=none→ss'.Perm ss→sortedS ss'=true→Q (.ref l) (upd H l (.lst (ss'.map V.str)))
def rSortedT (P:Program) (w:World):List V→Hp→VK→Prop:=fun xs H Q=>∃ (p:Addr) (f:Str→Bool) (n:Nat),xs=[.ref p]∧H p=some (SetTO P w p f n)∧n < 64∧∀ l ts,H l=none→ts.length=n→(∀ k,f k=true↔k∈ts)→sortedS ts=true→Q (.ref l) (upd H l (.lst (ts.map V.str)))
end
end L2
set_option Elab.async false
set_option linter.all false
set_option maxRecDepth 100000
set_option maxHeartbeats 4000000
namespace L2
open PySem PySem.Spec PyProof.Rows
inductive EqT (K:PySem.W.Frag) (H:Hp):Nat→V→V→Prop where
  | flat {d:Nat} {x y:V}:ZAz x=true→ZAz y=true→eqV x y=true→EqT K H d x y
  | same {d:Nat} {p:Addr}:EqT K H d (.ref p) (.ref p)
  | tup {d:Nat} {p q:Addr} {xs ys:List V}:SqT K H p xs→SqT K H q ys→xs.length=ys.length→(∀ (j:Nat) (x y:V),xs[j]?=some x→ys[j]?=some y→EqT K H d x y)→EqT K H (d+1) (.ref p) (.ref q)
theorem EqT.mono {K:PySem.W.Frag} {H H':Hp} (s:Same H H') {d:Nat} {x y:V} (h:EqT K H d x y):EqT K H' d x y:=by
  induction h with
  | flat a b c=>exact .flat a b c
  | same=>exact .same
  | tup a b c _ ih=>exact .tup (s.sqT a) (s.sqT b) c ih
section
variable {X:Cx} {pins:List (Addr×Obj)} {σ:St} {H:Hp} {s:Shared}
end
end L2
set_option linter.all false
namespace MA
def lets (n:Nat):List Nat:=if h:n < 26 then [97+n] else (97+n % 26) :: lets (n / 26)
termination_by n
decreasing_by omega
def vals:List Nat→Nat
  | []=>0
  | c :: r=>(c - 97)+26 * vals r
theorem lets_small {n:Nat} (h:n < 26):lets n=[97+n]:=by unfold lets;simp [h]
theorem lets_big {n:Nat} (h:¬ n < 26):lets n=(97+n % 26) :: lets (n / 26):=by rw [lets];simp [h]
theorem ZFT:∀ n,vals (lets n)=n:=by
  intro n
  induction n using Nat.strongRecOn with
  | _ n ih=>
    by_cases h:n < 26
    · rw [lets_small h];simp [vals]
    · rw [lets_big h]
      have:=ih (n / 26) (by omega)
      simp only [vals,this]
      omega
theorem lets_inj {a b:Nat} (h:lets a=lets b):a=b:=by rw [← ZFT a,h,ZFT]
theorem lets_pos (n:Nat):1≤(lets n).length:=by
  by_cases h:n < 26
  · rw [lets_small h];simp
  · rw [lets_big h];simp
theorem lets_len:∀ (k n:Nat),n < 26 ^ (k+1)→(lets n).length≤k+1
  | 0,n,h=>by rw [lets_small (by simpa using h)];simp
  | k+1,n,h=>by
    by_cases h1:n < 26
    · rw [lets_small h1];simp
    · rw [lets_big h1]
      have:=lets_len k (n / 26) (by rw [Nat.pow_succ] at h;exact Nat.div_lt_of_lt_mul (by rw [Nat.mul_comm];exact h))
      simp only [List.length_cons];omega
theorem lets_abc:∀ n,∀ c∈lets n,97≤c∧c≤122:=by
  intro n
  induction n using Nat.strongRecOn with
  | _ n ih=>
    by_cases h:n < 26
    · rw [lets_small h];intro c hc;simp at hc;omega
    · rw [lets_big h]
      intro c hc
      rcases List.mem_cons.mp hc with e | e
      · omega
      · exact ih (n / 26) (by omega) c e
theorem pigeon {α:Type} [DecidableEq α]:∀ (k:Nat) (f:Nat→α) (l:List α),(∀ i j,i < k→j < k→f i=f j→i=j)→(∀ i,i < k→f i∈l)→k≤l.length
  | 0,_,_,_,_=>Nat.zero_le _
  | k+1,f,l,hi,hm=>by
    have h1:=hm k (Nat.lt_succ_self k)
    have:=pigeon k f (l.erase (f k)) (fun i j a b e=>hi i j (by omega) (by omega) e) (fun i a=>by
      have hne:f i≠f k:=fun e=>by have:=hi i k (by omega) (by omega) e;omega
      exact (List.mem_erase_of_ne hne).mpr (hm i (by omega)))
    rw [List.length_erase_of_mem h1] at this
    have hp:=List.length_pos_of_mem h1
    omega
end MA
set_option Elab.async false
set_option linter.all false
set_option maxRecDepth 100000
set_option maxHeartbeats 4000000
set_option exponentiation.threshold 5000
namespace Lw
open PySem PySem.Spec PyProof.Rows L2
def Pot (H:Hp) (p:Addr):Prop:=∃ a b:Int,H p=some (.lst [.int a,.int b])∧0≤a∧a < 10 ^ 256∧0≤b∧b < 2147483647
structure PStep (p:Addr) (H H':Hp):Prop where
  pot:Pot H' p
  same:SameX p H H'
theorem PStep.trans {p:Addr} {H H1 H2:Hp} (a:PStep p H H1) (b:PStep p H1 H2):PStep p H H2:=⟨b.pot,a.same.trans b.same⟩
theorem PStep.of {p:Addr} {H H':Hp} (h:Pot H p) (s:Same H H'):PStep p H H':=by
  obtain ⟨a,b,e,r⟩:=h
  exact ⟨⟨a,b,s _ _ e,r⟩,SameX.of s⟩
theorem Pot.same {p:Addr} {H H':Hp} (h:Pot H p) (s:Same H H'):Pot H' p:=(PStep.of h s).pot
theorem PStep.sqL {K:PySem.W.Frag} {p a:Addr} {H H':Hp} {xs:List V} (s:PStep p H H') (h:SqL K H a xs) (hne:a≠p):SqL K H' a xs:=by
  rcases h with (h | ⟨o,h⟩) | h
  · exact .inl (.inl (s.same _ _ hne h))
  · exact .inl (.inr ⟨o,s.same _ _ hne h⟩)
  · exact .inr h
theorem PStep.at' {p a:Addr} {H H':Hp} {o:HO} (s:PStep p H H') (h:H a=some o) (hne:a≠p):H' a=some o:=s.same _ _ hne h
theorem ZBh {a:Int} (h0:-(10 ^ 20) < a) (h1:a < 10 ^ 20):a.natAbs < 2 ^ 1000:=by
  have h4:a.natAbs < 10 ^ 20:=by omega
  exact Nat.lt_trans h4 (by decide +kernel)
def ZH4 (K:PySem.W.Frag):Sp:=fun vs H Q _=>∃ (a:Addr) (ns:List Int) (k:Int),vs=[.ref a,.int k]∧SqL K H a (ns.map V.int)∧0≤k∧k≤1000∧∀ p H',H p=none→Same H H'→Pot H' p→Q (.ref p) H'
def ZDe:Sp:=fun vs H Q _=>∃ (p:Addr) (m:Int),vs=[.ref p,.int m]∧Pot H p∧0 < m∧m < 10 ^ 18∧∀ r H',0≤r→r < m→PStep p H H'→Q (.int r) H'
def ZBv (l:List Nat):Str:=⟨l.toArray⟩
def ZFZ:Sp:=fun vs H Q _=>∃ r:Int,vs=[.int r]∧0≤r∧r < 26 ^ 8∧Q (.str (ZBv (MA.lets r.toNat))) H
end Lw
namespace Lw
open PySem PySem.Spec PyProof.Rows L2
theorem ZD4 {α:Type} {xs:List α} {k:Int} {v:α} (h0:0≤k) (h:xs[k.toNat]?=some v):atI xs k=some v:=by
  have ek:k=((k.toNat:Nat):Int):=by omega
  have q:=atI_nat h
  rw [← ek] at q
  exact q
end Lw
namespace Lw
open PySem PySem.Spec PyProof.Rows L2
abbrev abc:Str := "abcdefghijklmnopqrstuvwxyz"
theorem abc_nth:∀ j,j < 26→abc.cps.toList[j]?=some (97+j):=by decide +kernel
theorem abc_at {k:Int} (h0:0≤k) (h1:k < 26):atI abc.cps.toList k=some (97+k.toNat):=ZD4 h0 (abc_nth _ (by omega))
theorem ZFA (l:List Nat) (c:Nat):ZBv l++(⟨#[c]⟩:Str)=ZBv (l++[c]):=by
  show (⟨l.toArray++#[c]⟩:Str)=⟨(l++[c]).toArray⟩
  simp
theorem ZDG (l:List Nat):(ZBv l).length=l.length:=by simp [ZBv,Str.length]
theorem strL_empty {l:List Nat}:(V.str (ZBv l)=V.str (Str.ofString ""))↔l=[]:=by
  constructor
  · intro h
    injection h with h
    have h2:=congrArg (fun x=>x.cps.toList) h
    have e:(Str.ofString "").cps.toList=[]:=by decide +kernel
    rw [e] at h2
    simpa [ZBv] using h2
  · rintro rfl;rfl
theorem ZBs {n:Nat} (h:n≤100000):n≤sizeLine:=Nat.le_trans h (by decide +kernel)
theorem ZFL {n k:Nat} {pre:List Nat} (h:pre++MA.lets k=MA.lets n):(0 < k / 26→(pre++[97+k % 26])++MA.lets (k / 26)=MA.lets n)∧(k / 26=0→pre++[97+k % 26]=MA.lets n):=by
  constructor
  · intro h1
    rw [MA.lets_big (by omega)] at h
    rw [← h,List.append_assoc];rfl
  · intro h1
    have h2:k < 26:=by omega
    rw [MA.lets_small h2] at h
    rw [← h,Nat.mod_eq_of_lt h2]
end Lw
namespace Lw
open PySem PySem.Spec PyProof.Rows L2
def Nm (x:Str):Prop:=1≤x.length∧x.length≤8∧∀ c∈x.cps.toList,97≤c∧c≤122
instance (x:Str):Decidable (Nm x):=by unfold Nm;exact inferInstance
theorem ZBL (x:Str):x.length=x.cps.toList.length:=by simp [Str.length]
theorem ZFu {n:Nat} (h:n < 26 ^ 8):Nm (ZBv (MA.lets n)):=by
  refine ⟨by rw [ZDG];exact MA.lets_pos n,by rw [ZDG];exact MA.lets_len 7 n h,fun c hc=>MA.lets_abc n c (by simpa [ZBv] using hc)⟩
def menu:List Str:=["put", "take", "none", "ahead", "all", "over", "next", "a", "ab", "abc", "abcdefgh", "b", "step"]
theorem menu_nm:∀ x∈menu,Nm x:=by decide +kernel
def menuV:List V:=[.str "put", .str "take", .str "none", .str "ahead", .str "all", .str "over", .str "next", .str "a", .str "ab", .str "abc", .str "abcdefgh", .str "b", .str "step"]
theorem menu_at {i:Int} (h0:0≤i) (h1:i < 13):∃ x,atI menuV i=some (.str x)∧Nm x:=by
  have hl:menu.length=13:=rfl
  have hi:i.toNat < menu.length:=by omega
  have e:menuV=menu.map V.str:=rfl
  refine ⟨menu[i.toNat],ZD4 h0 ?_,menu_nm _ (List.getElem_mem hi)⟩
  rw [e,List.getElem?_map,List.getElem?_eq_getElem hi];rfl
theorem ZGW {ns:List Str} {i:Int} (h0:0≤i) (h1:i < ns.length):∃ x,atI (ns.map V.str) i=some (.str x)∧x∈ns∧ns[i.toNat]?=some x:=by
  have hi:i.toNat < ns.length:=by omega
  exact ⟨ns[i.toNat],ZD4 h0 (by rw [List.getElem?_map,List.getElem?_eq_getElem hi];rfl),List.getElem_mem hi,List.getElem?_eq_getElem hi⟩
theorem ZBQ (ns:List Str):(ns.map V.str).all ZAz=true:=by
  rw [List.all_eq_true];intro x hx
  obtain ⟨y,_,rfl⟩:=List.mem_map.mp hx;rfl
theorem ZEc (x:Str) (ns:List Str):inV (.str x) (ns.map V.str)=decide (x∈ns):=by
  unfold inV
  rw [Bool.eq_iff_iff,List.any_eq_true,decide_eq_true_iff]
  constructor
  · rintro ⟨v,hv,h⟩
    obtain ⟨y,hy,rfl⟩:=List.mem_map.mp hv
    have h':(y == x)=true:=h
    have:y=x:=by simpa using h'
    rw [← this];exact hy
  · intro h
    exact ⟨.str x,List.mem_map.mpr ⟨x,h,rfl⟩,by show (x == x)=true;simp⟩
theorem ZHA (xs:List V):eqVs xs []=decide (xs=[]):=by
  cases xs with
  | nil=>rfl
  | cons x r=>rw [ZE7 (by simp)];simp
theorem ZIt (z:Str) {a b:Nat} {lo hi:Option Int} (hab:a≤b) (hb:b≤z.length) (e:Builtin.Str.strSliceIndices lo hi 1 z.length=Builtin.Str.strSliceIndices (some (a:Int)) (some (b:Int)) 1 z.length) :
    (Txt.slice z lo hi).cps.toList=(z.cps.toList.drop a).take (b - a):=by
  have q:=StrLaws.sliced_plain z hab hb
  rw [← e] at q
  unfold Txt.slice
  split
  · rename_i h
    have hl:(Builtin.Str.strSliceIndices lo hi 1 z.length).length=z.length:=by simpa using h
    rw [e,StrLaws.strSliceIndices_plain hab hb,List.length_map,List.length_range] at hl
    have h1:a=0:=by omega
    have h2:b=z.length:=by omega
    subst h1;subst h2
    rw [List.drop_zero,Nat.sub_zero,ZBL,List.take_length]
  · rw [← q]
theorem ZHI (z:Str) {j:Int} (h:0≤j):(Txt.slice z none (some j)).cps.toList=z.cps.toList.take j.toNat:=by
  have e:=ZIt z (a:=0) (b:=min j.toNat z.length) (lo:=none) (hi:=some j) (Nat.zero_le _) (Nat.min_le_right _ _) (by
    have h1:¬ j < 0:=by omega
    have h2:¬ (((min j.toNat z.length:Nat):Int) < 0):=by omega
    have h3:max (0:Int) (min j (z.length:Int))=max 0 (min ((min j.toNat z.length:Nat):Int) (z.length:Int)):=by omega
    simp only [Builtin.Str.strSliceIndices,h1,h2,if_false,h3]
    rfl)
  rw [e,List.drop_zero,Nat.sub_zero]
  rcases Nat.le_total j.toNat z.length with h1 | h1
  · rw [Nat.min_eq_left h1]
  · rw [Nat.min_eq_right h1,ZBL,List.take_length,List.take_of_length_le (by rw [← ZBL];exact h1)]
theorem ZH2 {z:Str} {j:Int} (h:1≤j) (hj:j≤8) (hz:1≤z.length) (hc:∀ c∈z.cps.toList,97≤c∧c≤122):Nm (Txt.slice z none (some j)):=by
  have e:=ZHI z (j:=j) (by omega)
  refine ⟨?_,?_,fun c hc'=>hc c ?_⟩
  · rw [ZBL,e,List.length_take,← ZBL];omega
  · rw [ZBL,e,List.length_take];omega
  · rw [e] at hc';exact List.mem_of_mem_take hc'
theorem ZCt (x y:Str):(x++y).cps.toList=x.cps.toList++y.cps.toList:=by
  show (x.cps++y.cps).toList=_
  simp
theorem ZCy (x y:Str):(x++y).length=x.length+y.length:=by rw [ZBL,ZCt,List.length_append,← ZBL,← ZBL]
def ZHO (K:PySem.W.Frag):Sp:=fun vs H Q _=>∃ (p q:Addr) (ns:List Str),vs=[.ref p,.ref q]∧Pot H p∧SqL K H q (ns.map V.str)∧q≠p∧(∀ x∈ns,Nm x)∧ns.length≤1000∧∀ x H',Nm x→x∉ns→PStep p H H'→Q (.str x) H'
theorem ZIX {ns:List Str} {k:Nat} (h:∀ j,j < k→ZBv (MA.lets j)∈ns):k≤ns.length:=
  MA.pigeon k (fun j=>ZBv (MA.lets j)) ns (fun i j _ _ e=>MA.lets_inj (by
    have:=congrArg (fun x=>x.cps.toList) e
    simpa [ZBv] using this)) h
end Lw
namespace Lw
theorem lt268:1000 < 26 ^ 8:=by decide +kernel
theorem lt268i:(1000:Int) < 26 ^ 8:=by decide +kernel
theorem lt268j:(26:Int) ^ (8:Int).toNat - 26 < 26 ^ 8:=by decide +kernel
theorem lt268k:(26:Int) < 26 ^ 8:=by decide +kernel
theorem lt268a:(0:Int) < 26 ^ (8:Int).toNat - 26:=by decide +kernel
theorem lt268b:(26:Int) ^ (8:Int).toNat - 26 < 10 ^ 18:=by decide +kernel
theorem lt268n {r:Int} (h0:0≤r) (h:r < 26 ^ 8):r.toNat < 26 ^ 8:=by omega
end Lw
namespace Lw
open PySem PySem.Spec PyProof.Rows L2
theorem PStep.upd {p l:Addr} {H H2:Hp} {o:HO} (s:PStep p H H2) (h:H l=none) (hne:l≠p):PStep p H (upd H2 l o):=by
  obtain ⟨a,b,e,r⟩:=s.pot
  refine ⟨⟨a,b,by rw [ZA5 (Ne.symm hne)];exact e,r⟩,fun c u hc q=>?_⟩
  rw [ZA5 (ZAF q h)]
  exact s.same c u hc q
theorem Pot.ne {p l:Addr} {H:Hp} (h:Pot H p) (hl:H l=none):l≠p:=by
  obtain ⟨_,_,e,_⟩:=h
  exact (ZAF e hl).symm
theorem Same.none {l:Addr} {H H2:Hp} (s:Same H H2) (h:H2 l=none):H l=none:=by
  cases q:H l with
  | none=>rfl
  | some o=>rw [s l o q] at h;cases h
def ZGR:Sp:=fun vs H Q _=>∃ (p:Addr) (m:Int),vs=[.ref p,.int m]∧Pot H p∧0≤m∧m≤100∧
  ∀ l H' (ns:List Str),H l=none→PStep p H H'→H' l=some (.lst (ns.map V.str))→(ns.length:Int)=m→(∀ x∈ns,Nm x)→ns.Nodup→Q (.ref l) H'
def spRow:Sp:=fun vs H Q _=>∃ (p:Addr) (m:Int),vs=[.ref p,.int m]∧Pot H p∧1≤m∧m≤100∧
  ∀ l H' (ns:List Str),H l=none→PStep p H H'→H' l=some (.lst (ns.map V.str))→(ns.length:Int)≤m→(∀ x∈ns,Nm x)→ns.Nodup→Q (.ref l) H'
theorem ZEi {α:Type} {l:List α} {x:α} (h:l.Nodup) (hx:x∉l):(l++[x]).Nodup:=by
  rw [List.nodup_append]
  exact ⟨h,by simp,fun a ha b hb=>by
    have:b=x:=by simpa using hb
    subst this
    rintro rfl
    exact hx ha⟩
def ZFB (c:Nat):Bool:=!(Builtin.Str.occurrences abc ⟨#[c]⟩ 0 abc.length 1).isEmpty
def ZBt (x:Str):Bool:=decide ((1:Int)≤x.length) && (decide ((x.length:Int)≤8) && x.cps.toList.all ZFB)
def ZET:Sp:=fun vs H Q _=>∃ x:Str,vs=[.str x]∧x.length≤1000∧∀ H',Same H H'→Q (.bl (ZBt x)) H'
end Lw
namespace Lw
open PySem PySem.Spec PyProof.Rows L2
theorem ZIv {α:Type} (l:List α):l.filter (fun _=>true)=l:=List.filter_eq_self.mpr fun _ _=>rfl
def inV1:V→V
  | .str y=>.bl (!(Builtin.Str.occurrences abc y 0 abc.length 1).isEmpty)
  | _=>.bl false
theorem signs_in (x:Str):((ZBc x).filter (fun _=>true)).map inV1=(x.cps.toList.map ZFB).map V.bl:=by
  unfold ZBc
  rw [ZIv,List.map_map,List.map_map]
  rfl
theorem ZIk {x:Str} {i:Nat} {v:V} (h:(ZBc x)[i]?=some v):∃ c,v=.str ⟨#[c]⟩:=by
  unfold ZBc at h
  rw [List.getElem?_map] at h
  cases q:x.cps.toList[i]? with
  | none=>rw [q] at h;cases h
  | some c=>rw [q] at h;simp at h;exact ⟨c,h.symm⟩
theorem all_map {α:Type} (f:α→Bool) (l:List α):(l.map f).all id=l.all f:=by rw [List.all_map];rfl
end Lw
namespace Lw
open PySem PySem.Spec PyProof.Rows L2
end Lw
namespace Lw
open PySem PySem.Spec PyProof.Rows L2
theorem ZJ7 (xs:List Str):eqVs (xs.map V.str) (xs.map V.str)=true:=by
  rw [ZCo rfl,List.all_eq_true]
  intro j hj
  have hj':j < xs.length:=by simpa using hj
  have e:(xs.map V.str)[j]?=some (.str xs[j]):=by rw [List.getElem?_map,List.getElem?_eq_getElem hj'];rfl
  rw [ZDF e];show (xs[j] == xs[j])=true;simp
def ZH7 (K:PySem.W.Frag):Sp:=fun vs H Q _=>∃ (a:Addr) (ns:List Int),vs=[.ref a]∧SqL K H a (ns.map V.int)∧ns.length≤63∧∀ H',Q (.bl true) H'
end Lw
set_option Elab.async false
set_option linter.all false
set_option maxRecDepth 100000
set_option maxHeartbeats 4000000
namespace Lw
open PySem PySem.Spec PyProof.Rows L2
inductive Deed where
  | put (x:Str) (i:Nat) | take (x:Str) | move (x:Str) (i:Nat) | turn (lo hi:Nat)
def Deed.vals:Deed→List V
  | .put x i=>[.str "put", .str x,.int i]
  | .take x=>[.str "take", .str x]
  | .move x i=>[.str "move", .str x,.int i]
  | .turn lo hi=>[.str "turn", .int lo,.int hi]
def Deed.Ok (m:Nat) (ns:List Str):Deed→Prop
  | .put x i=>Nm x∧x∉ns∧i≤ns.length∧ns.length < m
  | .take x=>x∈ns
  | .move x i=>x∈ns∧i < ns.length
  | .turn lo hi=>lo≤hi∧hi≤ns.length
def ins (ns:List Str) (x:Str) (i:Nat):List Str:=ns.take i++x :: ns.drop i
def wo (ns:List Str) (x:Str):List Str:=ns.filter fun y=>!decide (y=x)
def trn (ns:List Str) (lo hi:Nat):List Str:=ns.take lo++((ns.drop lo).take (hi - lo)).reverse++ns.drop hi
def Deed.done (ns:List Str):Deed→List Str
  | .put x i=>ins ns x i
  | .take x=>wo ns x
  | .move x i=>ins (wo ns x) x i
  | .turn lo hi=>trn ns lo hi
theorem cut_to (xs:List V) (i:Nat):ZDD xs none (some (i:Int))=xs.take i:=by
  unfold ZDD
  rw [HT.sIx_none,HT.sIx_nat,List.drop_zero,Nat.sub_zero]
  rcases Nat.le_total i xs.length with h | h
  · rw [Nat.min_eq_left h]
  · rw [Nat.min_eq_right h,List.take_length,List.take_of_length_le h]
def HOq (tp:Bool) (xs:List V):HO:=match tp with
  | false=>.lst xs
  | true=>.tup xs
theorem HOq.sq {K:PySem.W.Frag} {tp:Bool} {H:Hp} {a:Addr} {xs:List V} (h:H a=some (HOq tp xs)):SqB K tp H a xs:=by
  cases tp
  · exact SqL.of h
  · exact SqT.of h
def spPlace:Sp:=fun vs H Q _=>∃ (a:Addr) (tp:Bool) (ns:List Str) (x:Str),vs=[.ref a,.str x]∧H a=some (HOq tp (ns.map V.str))∧x∈ns∧Q (.int (ns.idxOf x:Nat)) H
def NewRow (H:Hp) (Q:VK) (ns:List Str):Prop:=∀ l H',H l=none→Same H H'→H' l=some (.lst (ns.map V.str))→Q (.ref l) H'
def spLDone:Sp:=fun vs H Q _=>∃ (a t:Addr) (ns:List Str) (d:Deed),vs=[.ref a,.ref t]∧H a=some (.lst (ns.map V.str))∧H t=some (.tup d.vals)∧d.Ok 40 ns∧ns.length≤40∧ns.Nodup∧NewRow H Q (d.done ns)
def spDeed:Sp:=fun vs H Q _=>∃ (p a:Addr) (m:Nat) (ns:List Str),vs=[.ref p,.ref a,.int m]∧Pot H p∧H a=some (.lst (ns.map V.str))∧a≠p∧(∀ x∈ns,Nm x)∧ns.length≤m∧1≤m∧m≤100∧
  ∀ (d:Deed) t H',H t=none→PStep p H H'→H' t=some (.tup d.vals)→d.Ok m ns→Q (.ref t) H'
end Lw
namespace Lw
open PySem PySem.Spec PyProof.Rows L2
theorem ZCJ {c A B:Prop} [Decidable c] (h:¬ c) (b:B):if c then A else B:=by rw [if_neg h];exact b
theorem abc_all:∀ j,j < 26→ZFB (97+j)=true:=by decide +kernel
theorem nm_isNm {x:Str} (h:Nm x):ZBt x=true:=by
  obtain ⟨h1,h2,h3⟩:=h
  unfold ZBt
  rw [decide_eq_true (by omega),decide_eq_true (by omega),Bool.true_and,Bool.true_and,List.all_eq_true]
  intro c hc
  obtain ⟨a,b⟩:=h3 c hc
  have:=abc_all (c - 97) (by omega)
  have e:97+(c - 97)=c:=by omega
  rw [e] at this
  exact this
end Lw
namespace Lw
open PySem PySem.Spec PyProof.Rows L2
end Lw
namespace Lw
open PySem PySem.Spec PyProof.Rows L2
end Lw
set_option Elab.async false
set_option linter.all false
set_option maxRecDepth 100000
set_option maxHeartbeats 4000000
namespace Fz
open PySem PySem.Spec PyProof.Rows L2 Lw
inductive PV where
  | non | bl (b:Bool) | int (i:Int) | str (x:Str) | lst (xs:List PV) | tup (xs:List PV)
  | dct (ks:List Key) (xs:List PV) | obj (C:Addr) (ns:List Str) (xs:List PV) | exc (C:Addr) (ns:List Str) (xs:List PV) | con (a:Addr) (xs:List PV)
def excO (a C:Addr) (dx:Option Addr):HO:=.ext fun h=>∃ ob vs,h.get? a=some ob∧ob.cls=.ref C∧ob.dict=dx∧ob.data=.fields vs
mutual
inductive Rep (F:Hp):V→PV→Prop where
  | non:Rep F .non .non
  | bl (b:Bool):Rep F (.bl b) (.bl b)
  | int (i:Int):Rep F (.int i) (.int i)
  | str (x:Str):Rep F (.str x) (.str x)
  | lst {a:Addr} {vs:List V} {xs:List PV}:F a=some (.lst vs)→Reps F vs xs→Rep F (.ref a) (.lst xs)
  | tup {a:Addr} {vs:List V} {xs:List PV}:F a=some (.tup vs)→Reps F vs xs→Rep F (.ref a) (.tup xs)
  | dct {a:Addr} {ks:List Key} {vs:List V} {xs:List PV}:F a=some (.dK (ks.zip vs))→ks.length=vs.length→Reps F vs xs→Rep F (.ref a) (.dct ks xs)
  | obj {a C dx:Addr} {ns:List Str} {vs:List V} {xs:List PV}:F a=some (.ins C dx (ns.zip vs))→F dx=some (.own a)→ns.length=vs.length→Reps F vs xs→Rep F (.ref a) (.obj C ns xs)
  | con {a:Addr} {xs:List PV}:Rep F (.ref a) (.con a xs)
  | exc0 {a C:Addr}:F a=some (excO a C none)→Rep F (.ref a) (.exc C [] [])
  | exc {a C dx:Addr} {ns:List Str} {vs:List V} {xs:List PV}:F a=some (excO a C (some dx))→F dx=some (.xd (ns.zip vs))→ns.length=vs.length→Reps F vs xs→Rep F (.ref a) (.exc C ns xs)
inductive Reps (F:Hp):List V→List PV→Prop where
  | nil:Reps F [] []
  | cons {v:V} {p:PV} {vs:List V} {ps:List PV}:Rep F v p→Reps F vs ps→Reps F (v :: vs) (p :: ps)
end
mutual
theorem Rep.mono {F F':Hp} (s:Same F F'):∀ {v:V} {p:PV},Rep F v p→Rep F' v p
  | _,_,.non=>.non
  | _,_,.bl b=>.bl b
  | _,_,.int i=>.int i
  | _,_,.str x=>.str x
  | _,_,.lst h r=>.lst (s _ _ h) (Reps.mono s r)
  | _,_,.tup h r=>.tup (s _ _ h) (Reps.mono s r)
  | _,_,.dct h e r=>.dct (s _ _ h) e (Reps.mono s r)
  | _,_,.obj h h2 e r=>.obj (s _ _ h) (s _ _ h2) e (Reps.mono s r)
  | _,_,.con=>.con
  | _,_,.exc0 h=>.exc0 (s _ _ h)
  | _,_,.exc h h2 e r=>.exc (s _ _ h) (s _ _ h2) e (Reps.mono s r)
theorem Reps.mono {F F':Hp} (s:Same F F'):∀ {vs:List V} {ps:List PV},Reps F vs ps→Reps F' vs ps
  | _,_,.nil=>.nil
  | _,_,.cons r t=>.cons (Rep.mono s r) (Reps.mono s t)
end
theorem Reps.length {F:Hp}:∀ {vs:List V} {ps:List PV},Reps F vs ps→vs.length=ps.length
  | [],_,.nil=>rfl
  | _ :: _,_,.cons _ t=>by rw [List.length_cons,List.length_cons,Reps.length t]
theorem Reps.get {F:Hp}:∀ {vs:List V} {ps:List PV} {i:Nat} {p:PV},Reps F vs ps→ps[i]?=some p→∃ v,vs[i]?=some v∧Rep F v p
  | _,_,_,_,.nil,e=>by simp at e
  | _,_,0,_,.cons r _,e=>by simp at e;subst e;exact ⟨_,rfl,r⟩
  | _,_,i+1,p,.cons _ t,e=>by
    obtain ⟨u,h1,h2⟩:=Reps.get (i:=i) (p:=p) t (by simpa using e)
    exact ⟨u,by simpa using h1,h2⟩
theorem Reps.get' {F:Hp}:∀ {vs:List V} {ps:List PV} {i:Nat} {v:V},Reps F vs ps→vs[i]?=some v→∃ p,ps[i]?=some p∧Rep F v p
  | _,_,_,_,.nil,e=>by simp at e
  | _,_,0,_,.cons r _,e=>by simp at e;subst e;exact ⟨_,rfl,r⟩
  | _,_,i+1,p,.cons _ t,e=>by
    obtain ⟨u,h1,h2⟩:=Reps.get' (i:=i) (v:=p) t (by simpa using e)
    exact ⟨u,by simpa using h1,h2⟩
theorem Reps.append {F:Hp}:∀ {vs ws:List V} {ps qs:List PV},Reps F vs ps→Reps F ws qs→Reps F (vs++ws) (ps++qs)
  | _,_,_,_,.nil,s=>s
  | _,_,_,_,.cons r t,s=>.cons r (Reps.append t s)
theorem Reps.take {F:Hp}:∀ {vs:List V} {ps:List PV} (n:Nat),Reps F vs ps→Reps F (vs.take n) (ps.take n)
  | _,_,0,_=>by simp only [List.take_zero];exact .nil
  | _,_,_+1,.nil=>.nil
  | _,_,n+1,.cons r t=>.cons r (Reps.take n t)
theorem Reps.drop {F:Hp}:∀ {vs:List V} {ps:List PV} (n:Nat),Reps F vs ps→Reps F (vs.drop n) (ps.drop n)
  | _,_,0,r=>r
  | _,_,_+1,.nil=>.nil
  | _,_,n+1,.cons _ t=>Reps.drop n t
theorem Reps.one {F:Hp} {v:V} {p:PV} (r:Rep F v p):Reps F [v] [p]:=.cons r .nil
theorem Reps.reverse {F:Hp}:∀ {vs:List V} {ps:List PV},Reps F vs ps→Reps F vs.reverse ps.reverse
  | _,_,.nil=>.nil
  | _,_,.cons r t=>by rw [List.reverse_cons,List.reverse_cons];exact (Reps.reverse t).append (.one r)
def flat:PV→Bool
  | .lst _=>false
  | .tup _=>false
  | .dct _ _=>false
  | .obj _ _ _=>false
  | .exc _ _ _=>false
  | .con _ _=>false
  | _=>true
def enc:PV→V
  | .bl b=>.bl b
  | .int i=>.int i
  | .str x=>.str x
  | _=>.non
theorem Rep.enc {F:Hp} {v:V} {p:PV} (h:flat p=true) (r:Rep F v p):v=enc p:=by
  cases r <;> first | rfl | cases h
theorem rep_enc {F:Hp} {p:PV} (h:flat p=true):Rep F (enc p) p:=by
  cases p with
  | non=>exact .non
  | bl b=>exact .bl b
  | int i=>exact .int i
  | str x=>exact .str x
  | lst xs=>cases h
  | tup xs=>cases h
  | dct ks xs=>cases h
  | obj C ns xs=>cases h
  | exc C ns xs=>cases h
  | con a xs=>cases h
theorem Reps.enc {F:Hp}:∀ {vs:List V} {ps:List PV},ps.all flat=true→Reps F vs ps→vs=ps.map enc
  | _,_,_,.nil=>rfl
  | _,_,h,.cons r t=>by
    rw [List.all_cons,Bool.and_eq_true] at h
    rw [List.map_cons,← Rep.enc h.1 r,← Reps.enc h.2 t]
theorem ZD9 {F:Hp}:∀ {ps:List PV},ps.all flat=true→Reps F (ps.map enc) ps
  | [],_=>.nil
  | p :: r,h=>by
    rw [List.all_cons,Bool.and_eq_true] at h
    exact .cons (rep_enc h.1) (ZD9 h.2)
theorem ZDA {p:PV} (h:flat p=true):ZAz (Fz.enc p)=true:=by cases p <;> first | rfl | cases h
theorem ZFV (ns:List Str):(ns.map PV.str).all flat=true:=by
  rw [List.all_eq_true];intro x hx
  obtain ⟨y,_,rfl⟩:=List.mem_map.mp hx;rfl
theorem ZJ8 (ns:List Int):(ns.map PV.int).all flat=true:=by
  rw [List.all_eq_true];intro x hx
  obtain ⟨y,_,rfl⟩:=List.mem_map.mp hx;rfl
theorem bls_flat (ns:List Bool):(ns.map PV.bl).all flat=true:=by
  rw [List.all_eq_true];intro x hx
  obtain ⟨y,_,rfl⟩:=List.mem_map.mp hx;rfl
theorem ZEo (ns:List Str):(ns.map PV.str).map Fz.enc=ns.map V.str:=by rw [List.map_map];rfl
theorem enc_bls (ns:List Bool):(ns.map PV.bl).map Fz.enc=ns.map V.bl:=by rw [List.map_map];rfl
theorem enc_ints (ns:List Int):(ns.map PV.int).map Fz.enc=ns.map V.int:=by rw [List.map_map];rfl
theorem Reps.strs {F:Hp} {vs:List V} {ns:List Str} (r:Reps F vs (ns.map PV.str)):vs=ns.map V.str:=(r.enc (ZFV ns)).trans (ZEo ns)
theorem ZBR {F:Hp} (ns:List Str):Reps F (ns.map V.str) (ns.map PV.str):=by rw [← ZEo];exact ZD9 (ZFV ns)
theorem Reps.bls {F:Hp} {vs:List V} {ns:List Bool} (r:Reps F vs (ns.map PV.bl)):vs=ns.map V.bl:=(r.enc (bls_flat ns)).trans (enc_bls ns)
inductive NK where
  | lst | dct (ks:List Key) | obj (C dx:Addr) (ns:List Str)
def NK.ho:NK→List V→HO
  | .lst,vs=>.lst vs
  | .dct ks,vs=>.dK (ks.zip vs)
  | .obj C dx ns,vs=>.ins C dx (ns.zip vs)
def NK.more:NK→List Addr
  | .obj _ dx _=>[dx]
  | _=>[]
def NK.side (k:NK) (a:Addr) (H:Hp):Prop:=match k with
  | .obj _ dx _=>H dx=some (.own a)
  | _=>True
def NK.fit (k:NK) (n:Nat):Prop:=match k with
  | .dct ks=>ks.length=n
  | .obj _ _ ns=>ns.length=n
  | _=>True
inductive OV where
  | fz (p:PV)
  | tp (xs:List OV)
  | nd (k:NK) (a:Addr) (xs:List OV)
mutual
def OV.addrs:OV→List Addr
  | .fz _=>[]
  | .tp xs=>OV.addrsL xs
  | .nd k a xs=>a :: (k.more++OV.addrsL xs)
def OV.addrsL:List OV→List Addr
  | []=>[]
  | x :: r=>x.addrs++OV.addrsL r
end
mutual
def OV.pv:OV→PV
  | .fz p=>p
  | .tp xs=>.tup (OV.pvL xs)
  | .nd .lst _ xs=>.lst (OV.pvL xs)
  | .nd (.dct ks) _ xs=>.dct ks (OV.pvL xs)
  | .nd (.obj C _ ns) _ xs=>.obj C ns (OV.pvL xs)
def OV.pvL:List OV→List PV
  | []=>[]
  | x :: r=>x.pv :: OV.pvL r
end
mutual
inductive Orep (F H:Hp):V→OV→Prop where
  | fz {v:V} {p:PV}:Rep F v p→Orep F H v (.fz p)
  | tp {a:Addr} {vs:List V} {xs:List OV}:F a=some (.tup vs)→Oreps F H vs xs→Orep F H (.ref a) (.tp xs)
  | nd {k:NK} {a:Addr} {vs:List V} {xs:List OV}:H a=some (k.ho vs)→k.side a H→k.fit vs.length→Oreps F H vs xs→Orep F H (.ref a) (.nd k a xs)
inductive Oreps (F H:Hp):List V→List OV→Prop where
  | nil:Oreps F H [] []
  | cons {v:V} {t:OV} {vs:List V} {ts:List OV}:Orep F H v t→Oreps F H vs ts→Oreps F H (v :: vs) (t :: ts)
end
theorem OV.addrs_nd {k:NK} {a:Addr} {xs:List OV}:(OV.nd k a xs).addrs=a :: (k.more++OV.addrsL xs):=by rw [OV.addrs]
theorem OV.addrs_tp {xs:List OV}:(OV.tp xs).addrs=OV.addrsL xs:=by rw [OV.addrs]
theorem OV.addrs_fz {p:PV}:(OV.fz p).addrs=[]:=by rw [OV.addrs]
theorem OV.addrsL_cons {x:OV} {r:List OV}:OV.addrsL (x :: r)=x.addrs++OV.addrsL r:=by rw [OV.addrsL]
theorem OV.addrsL_nil:OV.addrsL []=[]:=by rw [OV.addrsL]
theorem NK.side_mono {k:NK} {a:Addr} {H H':Hp} (h:k.side a H) (s:∀ b∈k.more,∀ o,H b=some o→H' b=some o):k.side a H':=by
  cases k with
  | obj C dx ns=>exact s dx (by simp [NK.more]) _ h
  | _=>trivial
mutual
theorem Orep.mono {F F' H H':Hp} (f:Same F F'):∀ {v:V} {t:OV},Orep F H v t→(∀ a∈t.addrs,∀ o,H a=some o→H' a=some o)→Orep F' H' v t
  | _,_,.fz r,_=>.fz (r.mono f)
  | _,_,.tp h r,s=>by
    rw [OV.addrs_tp] at s
    exact .tp (f _ _ h) (Oreps.mono f r s)
  | _,_,.nd h sd ft r,s=>by
    rw [OV.addrs_nd] at s
    exact .nd (s _ (by simp) _ h) (NK.side_mono sd fun b hb=>s b (by simp [hb])) ft (Oreps.mono f r fun a ha=>s a (by simp [ha]))
theorem Oreps.mono {F F' H H':Hp} (f:Same F F'):∀ {vs:List V} {ts:List OV},Oreps F H vs ts→(∀ a∈OV.addrsL ts,∀ o,H a=some o→H' a=some o)→Oreps F' H' vs ts
  | _,_,.nil,_=>.nil
  | _,_,.cons r t,s=>by
    rw [OV.addrsL_cons] at s
    exact .cons (Orep.mono f r fun a ha=>s a (by simp [ha])) (Oreps.mono f t fun a ha=>s a (by simp [ha]))
end
mutual
theorem Orep.there {F H:Hp}:∀ {v:V} {t:OV},Orep F H v t→∀ a∈t.addrs,H a≠none
  | _,_,.fz _,a,ha=>by rw [OV.addrs] at ha;cases ha
  | _,_,.tp _ r,a,ha=>by rw [OV.addrs_tp] at ha;exact Oreps.there r a ha
  | _,_,@Orep.nd _ _ k b vs xs h sd ft r,a,ha=>by
    rw [OV.addrs_nd,List.mem_cons,List.mem_append] at ha
    rcases ha with rfl | ha | ha
    · rw [h];simp
    · cases k with
      | obj C dx ns=>
        have e:a=dx:=by simpa [NK.more] using ha
        subst e
        have sd':H a=some (.own b):=sd
        rw [sd'];simp
      | _=>simp [NK.more] at ha
    · exact Oreps.there r a ha
theorem Oreps.there {F H:Hp}:∀ {vs:List V} {ts:List OV},Oreps F H vs ts→∀ a∈OV.addrsL ts,H a≠none
  | _,_,.nil,a,ha=>by rw [OV.addrsL_nil] at ha;cases ha
  | _,_,.cons r t,a,ha=>by
    rw [OV.addrsL_cons,List.mem_append] at ha
    rcases ha with ha | ha
    · exact Orep.there r a ha
    · exact Oreps.there t a ha
end
theorem Oreps.length {F H:Hp}:∀ {vs:List V} {ts:List OV},Oreps F H vs ts→vs.length=ts.length
  | [],_,.nil=>rfl
  | _ :: _,_,.cons _ t=>by rw [List.length_cons,List.length_cons,Oreps.length t]
inductive Slot where
  | any | is (p:PV) | own (xs:List PV) | pot | sq (tp:Bool) (xs:List PV) | raw (P:Hp→V→Prop) | ow (lt:Bool) (t:OV)
structure Ent0 where
  A:List Addr
  F0:Hp
  H0:Hp
  B:List Addr
abbrev E3 (A:List Addr) (F H:Hp):Ent0:=⟨A,F,H,[]⟩
def Ok (E:Ent0) (F H:Hp):Slot→Option (Option V)→Prop
  | .any,_=>True
  | .is p,o=>∃ v,o=some (some v)∧Rep F v p
  | .own xs,o=>∃ l vs,o=some (some (.ref l))∧F l=none∧E.H0 l=none∧H l=some (.lst vs)∧Reps F vs xs
  | .pot,o=>∃ l,o=some (some (.ref l))∧F l=none∧(E.H0 l=none∨l∈E.A)∧Pot H l
  | .sq true xs,o=>∃ v,o=some (some v)∧Rep F v (.tup xs)
  | .sq false xs,o=>∃ l vs,o=some (some (.ref l))∧(l∉E.A∧l∉E.B)∧E.H0 l=some (.lst vs)∧Reps F vs xs
  | .raw P,o=>∃ v,o=some (some v)∧P F v∧∀ F F',Same F F'→P F v→P F' v
  | .ow lt t,o=>∃ v,o=some (some v)∧Orep F H v t∧t.addrs.Nodup∧∀ a∈t.addrs,F a=none∧(E.H0 a=none∨(lt=true∧a∈E.B))
def ZB1:Slot→Option (Option V)→Addr→Prop
  | .own _,o,l=>o=some (some (.ref l))
  | .pot,o,l=>o=some (some (.ref l))
  | .ow _ t,_,l=>l∈t.addrs
  | _,_,_=>False
structure Fin (E:Ent0) (F H:Hp):Prop where
  fh:Same F H
  f0:Same E.F0 F
  keep:∀ a o,(a∉E.A∧a∉E.B)→E.H0 a=some o→H a=some o
  fresh:∀ a o,F a=some o→E.F0 a=some o∨E.H0 a=none
  pots:∀ a,a∈E.A→Pot H a
  potF:∀ a,a∈E.A→F a=none
  a0:∀ a,a∈E.A→E.H0 a≠none
  bF:∀ a,a∈E.B→F a=none
  bH:∀ a,a∈E.B→H a≠none
  b0:∀ a,a∈E.B→E.H0 a≠none∧a∉E.A
structure Sg (E:Ent0) (ss:List Slot) (σ:L2.St) (F H:Hp):Prop extends Fin E F H where
  len:ss.length=σ.length
  ok:∀ (i:Nat) s,ss[i]?=some s→Ok E F H s σ[i]?
  dis:∀ (i j:Nat) s u l,i≠j→ss[i]?=some s→ss[j]?=some u→ZB1 s σ[i]? l→¬ ZB1 u σ[j]? l
structure Ex where
  C:Addr
  ns:List Str
  xs:List PV
def Ex.at (x:Ex) (F:Hp) (C:Value) (dx:Option Addr):Prop:=
  C=.ref x.C∧((x.ns=[]∧x.xs=[]∧dx=none)∨∃ a vs,dx=some a∧F a=some (.xd (x.ns.zip vs))∧x.ns.length=vs.length∧Reps F vs x.xs)
class Xw where
  e:L2.St→XK
  J:List Slot→Prop
  D:Ex→Prop
structure Ent [Xw] extends Ent0 where
  hx:∀ (ss:List Slot) (σ:L2.St) (F H:Hp) (x:Ex) (C:Value) (dx:Option Addr),Xw.J ss→Sg toEnt0 ss σ F H→Xw.D x→x.at F C dx→Xw.e σ C dx H
instance [Xw]:CoeOut Ent Ent0:=⟨Ent.toEnt0⟩
instance noX:Xw:=⟨fun _=>E0,fun _=>True,fun _=>False⟩
def ZC1 (ss:List Slot) (σ:L2.St) (a:Addr):Prop:=∀ i:Nat,ss[i]?=some .pot→σ[i]?≠some (some (.ref a))
structure Mv (E:Ent0) (ss:List Slot) (σ:L2.St) (F H F' H':Hp):Prop where
  st:Sg E ss σ F' H'
  ff:Same F F'
  hh:∀ a o,ZC1 ss σ a→H a=some o→H' a=some o
  nn:∀ a o,F' a=some o→F a=some o∨H a=none
theorem Sg.npotN {E:Ent0} {ss:List Slot} {σ:L2.St} {F H:Hp} (S:Sg E ss σ F H) {l:Addr} (h:H l=none):ZC1 ss σ l:=fun i hi e=>by
  obtain ⟨l',e1,_,_,_,_,e2,_⟩:=S.ok i _ hi
  rw [e] at e1
  cases e1
  rw [h] at e2;cases e2
theorem Mv.none {E:Ent0} {ss:List Slot} {σ:L2.St} {F H F' H':Hp} (m:Mv E ss σ F H F' H') {a:Addr} (h:H' a=none):H a=none:=by
  cases e:H a with
  | none=>rfl
  | some o=>rw [m.hh a o (m.st.npotN h) e] at h;cases h
theorem Mv.refl {E:Ent0} {ss:List Slot} {σ:L2.St} {F H:Hp} (S:Sg E ss σ F H):Mv E ss σ F H F H:=⟨S,Same.refl _,fun _ _ _ e=>e,fun _ _ e=>.inl e⟩
theorem Mv.trans {E:Ent0} {ss:List Slot} {σ:L2.St} {F H F1 H1 F2 H2:Hp} (a:Mv E ss σ F H F1 H1) (b:Mv E ss σ F1 H1 F2 H2):Mv E ss σ F H F2 H2:=
  ⟨b.st,a.ff.trans b.ff,fun c o n e=>b.hh c o n (a.hh c o n e),fun c o e=>(b.nn c o e).elim (fun e=>a.nn c o e) fun e=>.inr (a.none e)⟩
section
variable {E:Ent0} {ss:List Slot} {σ:L2.St} {F H F' H':Hp}
theorem Sg.new0 (S:Sg E ss σ F H) {p:Addr} (h:H p=none):E.H0 p=none:=by
  cases e:E.H0 p with
  | none=>rfl
  | some o=>
    by_cases q:p∈E.A
    · obtain ⟨_,_,e1,_⟩:=S.pots p q
      rw [h] at e1;cases e1
    · by_cases qb:p∈E.B
      · exact absurd h (S.bH p qb)
      · rw [S.keep p o ⟨q,qb⟩ e] at h;cases h
theorem Sg.newF (S:Sg E ss σ F H) {p:Addr} (h:H p=none):F p=none:=Same.none S.fh h
theorem Pot.keep {H H':Hp} {l:Addr} (h:Pot H l) (k:∀ o,H l=some o→H' l=some o):Pot H' l:=by
  obtain ⟨a,b,e,r⟩:=h
  exact ⟨a,b,k _ e,r⟩
theorem Sg.npotF (S:Sg E ss σ F H) {l:Addr} {o:HO} (h:F l=some o):ZC1 ss σ l:=fun i hi e=>by
  obtain ⟨l',e1,e2,_⟩:=S.ok i _ hi
  rw [e] at e1
  cases e1
  rw [h] at e2;cases e2
theorem Sg.npot0 (S:Sg E ss σ F H) {l:Addr} {o:HO} (hA:l∉E.A) (h:E.H0 l=some o):ZC1 ss σ l:=fun i hi e=>by
  obtain ⟨l',e1,_,q,_⟩:=S.ok i _ hi
  rw [e] at e1
  cases e1
  rcases q with q | q
  · rw [h] at q;cases q
  · exact hA q
theorem Sg.npotB (S:Sg E ss σ F H) {l:Addr} (h:l∈E.B):ZC1 ss σ l:=fun i hi e=>by
  obtain ⟨l',e1,_,q,_⟩:=S.ok i _ hi
  rw [e] at e1
  cases e1
  obtain ⟨h0,hA⟩:=S.b0 l h
  rcases q with q | q
  · exact h0 q
  · exact hA q
theorem Sg.own_there (S:Sg E ss σ F H) {i:Nat} {s:Slot} {l:Addr} (h:ss[i]?=some s) (m:ZB1 s σ[i]? l):H l≠none:=by
  have k:=S.ok i s h
  cases s with
  | own xs=>obtain ⟨l',vs,e1,_,_,e2,_⟩:=k;rw [show σ[i]?=some (some (.ref l)) from m] at e1;cases e1;rw [e2];simp
  | pot=>obtain ⟨l',e1,_,_,_,_,e2,_⟩:=k;rw [show σ[i]?=some (some (.ref l)) from m] at e1;cases e1;rw [e2];simp
  | ow lt t=>obtain ⟨v,_,r,_⟩:=k;exact r.there l m
  | _=>cases m
theorem Sg.newAddr (S:Sg E ss σ F H) {i:Nat} {s:Slot} {l:Addr} (h:ss[i]?=some s) (hl:H l=none):¬ ZB1 s σ[i]? l:=fun m=>S.own_there h m hl
theorem Sg.own_npot (S:Sg E ss σ F H) {i:Nat} {s:Slot} {l:Addr} (h:ss[i]?=some s) (m:ZB1 s σ[i]? l) (np:s≠.pot):ZC1 ss σ l:=fun j hj ej=>
  S.dis i j s _ l (by rintro rfl;rw [h] at hj;exact np (Option.some.inj hj)) h hj m ej
theorem Ok.go (S:Sg E ss σ F H) {i:Nat} {s:Slot} (hi:ss[i]?=some s) (ff:Same F F') (hk:∀ a o,ZB1 s σ[i]? a→H a=some o→H' a=some o) (newF:∀ a,H a≠none→F a=none→F' a=none) (np:s≠.pot):Ok E F' H' s σ[i]?:=by
  have k:=S.ok i s hi
  cases s with
  | any=>trivial
  | is p=>obtain ⟨v,e,r⟩:=k;exact ⟨v,e,r.mono ff⟩
  | own xs=>
    obtain ⟨l,vs,e,e1,e2,e3,r⟩:=k
    exact ⟨l,vs,e,newF l (by rw [e3];simp) e1,e2,hk l _ e e3,r.mono ff⟩
  | pot=>exact absurd rfl np
  | sq tp xs=>
    cases tp with
    | true=>obtain ⟨v,e,r⟩:=k;exact ⟨v,e,r.mono ff⟩
    | false=>obtain ⟨l,vs,e,e1,e2,r⟩:=k;exact ⟨l,vs,e,e1,e2,r.mono ff⟩
  | raw P=>obtain ⟨v,e,r,st⟩:=k;exact ⟨v,e,st _ _ ff r,st⟩
  | ow lt t=>
    obtain ⟨v,e,r,nd,q⟩:=k
    exact ⟨v,e,r.mono ff fun a ha o=>hk a o ha,nd,fun a ha=>⟨newF a (r.there a ha) (q a ha).1,(q a ha).2⟩⟩
theorem Sg.step (S:Sg E ss σ F H) (ff:Same F F') (fh:Same F' H') (hk:∀ a o,ZC1 ss σ a→H a=some o→H' a=some o) (hn:∀ a o,F' a=some o→F a=some o∨H a=none)
    (hp:∀ (i:Nat) l,ss[i]?=some .pot→σ[i]?=some (some (.ref l))→Pot H' l):Mv E ss σ F H F' H':=by
  have newF:∀ a,H a≠none→F a=none→F' a=none:=fun a h1 h2=>by
    cases e:F' a with
    | none=>rfl
    | some o=>
      rcases hn a o e with q | q
      · rw [h2] at q;cases q
      · exact absurd q h1
  have potk:∀ a,Pot H a→ZC1 ss σ a→Pot H' a:=fun a p n=>Pot.keep p fun o e=>hk a o n e
  refine ⟨⟨⟨fh,S.f0.trans ff,fun a o hA e=>?_,fun a o e=>?_,fun a hA=>?_,fun a hA=>?_,S.a0,fun a hB=>newF a (S.bH a hB) (S.bF a hB),fun a hB=>?_,S.b0⟩,S.len,fun i s hi=>?_,S.dis⟩,ff,hk,hn⟩
  · exact hk a o (S.npot0 hA.1 e) (S.keep a o hA e)
  · rcases hn a o e with q | q
    · exact S.fresh a o q
    · exact .inr (S.new0 q)
  · by_cases q:∃ i:Nat,ss[i]?=some .pot∧σ[i]?=some (some (.ref a))
    · obtain ⟨i,q1,q2⟩:=q
      exact hp i a q1 q2
    · exact potk a (S.pots a hA) fun i h1 h2=>q ⟨i,h1,h2⟩
  · refine newF a ?_ (S.potF a hA)
    obtain ⟨_,_,e1,_⟩:=S.pots a hA
    rw [e1];simp
  · obtain ⟨o,e⟩:=Option.ne_none_iff_exists'.mp (S.bH a hB)
    rw [hk a o (S.npotB hB) e];simp
  · by_cases np:s=.pot
    · subst np
      obtain ⟨l,e,e1,e2,e3⟩:=S.ok i _ hi
      have e3':=e3
      obtain ⟨_,_,e4,_⟩:=e3'
      exact ⟨l,e,newF l (by rw [e4];simp) e1,e2,hp i l hi e⟩
    · exact Ok.go S hi ff (fun a o m=>hk a o (S.own_npot hi m np)) newF np
theorem Sg.potAt (S:Sg E ss σ F H) {i:Nat} {l:Addr} (hi:ss[i]?=some .pot) (e:σ[i]?=some (some (.ref l))):Pot H l:=by
  obtain ⟨l',e1,_,_,p⟩:=S.ok i _ hi
  rw [e] at e1;cases e1;exact p
theorem Sg.alloc (S:Sg E ss σ F H) {p:Addr} (h:H p=none) (o:HO):Mv E ss σ F H (upd F p o) (upd H p o):=by
  refine S.step (ZAN (S.newF h) _) (fun a u e=>?_) (fun a u _ e=>ZAN h o a u e) (fun a u e=>?_) fun i l hi e=>Pot.keep (S.potAt hi e) fun u e=>ZAN h o l u e
  · by_cases q:a=p
    · subst q;rw [ZA3] at e ⊢;exact e
    · rw [ZA5 q] at e ⊢;exact S.fh a u e
  · by_cases q:a=p
    · subst q;exact .inr h
    · rw [ZA5 q] at e;exact .inl e
theorem Sg.make (S:Sg E ss σ F H) {p:Addr} (h:H p=none) (o:HO):Mv E ss σ F H F (upd H p o):=
  S.step (Same.refl _) (S.fh.trans (ZAN h o)) (fun a u _ e=>ZAN h o a u e) (fun a u e=>.inl e) fun i l hi e=>Pot.keep (S.potAt hi e) fun u e=>ZAN h o l u e
theorem Sg.grow (S:Sg E ss σ F H) (s:Same H H'):Mv E ss σ F H F H':=
  S.step (Same.refl _) (S.fh.trans s) (fun a u _ e=>s a u e) (fun a u e=>.inl e) fun i l hi e=>Pot.keep (S.potAt hi e) fun u e=>s l u e
theorem Sg.setG (S:Sg E ss σ F H) {j:Nat} {s:Slot} {v:V} (hok:Ok E F H s (some (some v))) (hdis:∀ l,ZB1 s (some (some v)) l→∀ (i:Nat) u,i≠j→ss[i]?=some u→¬ ZB1 u σ[i]? l):Sg E (ss.set j s) (σ.set j (some v)) F H:=by
  refine ⟨S.toFin,by rw [List.length_set,List.length_set];exact S.len,fun i u hi=>?_,fun i k u w l hik hi hk mu mw=>?_⟩
  · by_cases q:i=j
    · subst q
      have hlt:i < ss.length:=by have:=(List.getElem?_eq_some_iff.mp hi).1;simpa using this
      rw [List.getElem?_set_self hlt] at hi
      cases hi
      rw [List.getElem?_set_self (by rw [← S.len];exact hlt)]
      exact hok
    · rw [List.getElem?_set_ne (Ne.symm q)] at hi ⊢
      exact S.ok i u hi
  · by_cases q:i=j
    · subst q
      have hlt:i < ss.length:=by have:=(List.getElem?_eq_some_iff.mp hi).1;simpa using this
      rw [List.getElem?_set_self hlt] at hi
      rw [List.getElem?_set_self (by rw [← S.len];exact hlt)] at mu
      cases hi
      rw [List.getElem?_set_ne hik] at hk mw
      exact hdis l mu k w (Ne.symm hik) hk mw
    · rw [List.getElem?_set_ne (Ne.symm q)] at hi mu
      by_cases q2:k=j
      · subst q2
        have hlt:k < ss.length:=by have:=(List.getElem?_eq_some_iff.mp hk).1;simpa using this
        rw [List.getElem?_set_self hlt] at hk
        cases hk
        rw [List.getElem?_set_self (by rw [← S.len];exact hlt)] at mw
        exact hdis l mw i u hik hi mu
      · rw [List.getElem?_set_ne (Ne.symm q2)] at hk mw
        exact S.dis i k u w l hik hi hk mu mw
theorem Sg.setIs (S:Sg E ss σ F H) {j:Nat} {v:V} {p:PV} (r:Rep F v p):Sg E (ss.set j (.is p)) (σ.set j (some v)) F H:=S.setG ⟨v,rfl,r⟩ fun _ h=>by cases h
end
end Fz
set_option Elab.async false
set_option linter.all false
set_option maxRecDepth 100000
set_option maxHeartbeats 4000000
namespace Fz
open PySem PySem.Spec PyProof.Rows L2 Lw
def Sv (ss:List Slot) (σ:L2.St) (F H:Hp) (v:V):Bool→List PV→Prop
  | true,xs=>Rep F v (.tup xs)
  | false,xs=>∃ l vs,v=.ref l∧ZC1 ss σ l∧H l=some (.lst vs)∧Reps F vs xs
def Fv (E:Ent0) (F:Hp) (v:V):Bool→List PV→Prop
  | true,xs=>Rep F v (.tup xs)
  | false,xs=>∃ l vs,v=.ref l∧(F l=some (.lst vs)∨((l∉E.A∧l∉E.B)∧E.H0 l=some (.lst vs)))∧Reps F vs xs
structure Wp [Xw] (ss:List Slot) (t:TE) (k:PV→Prop):Prop where
  go:∀ (E:Ent) (σ:L2.St) (F H:Hp) (Q:VK),Sg E ss σ F H→(∀ v p F' H',Mv E ss σ F H F' H'→Rep F' v p→k p→Q v H')→t σ H Q
structure Wn [Xw] (ss:List Slot) (t:TE) (k:List PV→Prop):Prop where
  go:∀ (E:Ent) (σ:L2.St) (F H:Hp) (Q:VK),Sg E ss σ F H→(∀ l vs xs F' H',Mv E ss σ F H F' H'→F' l=none→H l=none→H' l=some (.lst vs)→Reps F' vs xs→k xs→Q (.ref l) H')→t σ H Q
structure Wq [Xw] (ss:List Slot) (t:TE) (k:Bool→List PV→Prop):Prop where
  go:∀ (E:Ent) (σ:L2.St) (F H:Hp) (Q:VK),Sg E ss σ F H→(∀ v tp xs F' H',Mv E ss σ F H F' H'→Sv ss σ F' H' v tp xs→k tp xs→Q v H')→t σ H Q
structure Wz [Xw] (ss:List Slot) (t:TE) (k:Bool→List PV→Prop):Prop where
  go:∀ (E:Ent) (σ:L2.St) (F H:Hp) (Q:VK),Sg E ss σ F H→(∀ v tp xs F' H',Mv E ss σ F H F' H'→Fv E F' v tp xs→k tp xs→Q v H')→t σ H Q
structure Wt [Xw] (ss:List Slot) (t:TT) (k:Bool→Prop):Prop where
  go:∀ (E:Ent) (σ:L2.St) (F H:Hp) (Q:Bool→Hp→Prop),Sg E ss σ F H→(∀ b F' H',Mv E ss σ F H F' H'→k b→Q b H')→t σ H Q
def Av (ss:List Slot) (σ:L2.St) (F H:Hp) (v:V):Slot→Prop
  | .is p=>Rep F v p
  | .sq tp xs=>Sv ss σ F H v tp xs
  | .raw P=>P F v∧∀ F F',Same F F'→P F v→P F' v
  | _=>False
inductive Avs (ss:List Slot) (σ:L2.St) (F H:Hp):List V→List Slot→Prop where
  | nil:Avs ss σ F H [] []
  | cons {v:V} {s:Slot} {vs:List V} {l:List Slot}:Av ss σ F H v s→Avs ss σ F H vs l→Avs ss σ F H (v :: vs) (s :: l)
structure Wa [Xw] (ss:List Slot) (t:TA) (k:List Slot→Prop):Prop where
  go:∀ (E:Ent) (σ:L2.St) (F H:Hp) (Q:List V→Hp→Prop),Sg E ss σ F H→(∀ vs l F' H',Mv E ss σ F H F' H'→Avs ss σ F' H' vs l→k l→Q vs H')→t σ H Q
inductive Ret where
  | is (k:PV→Prop) | new (k:List PV→Prop) | pot | ow (k:OV→Prop) | mt (k:PV→OV→Prop)
def OV.val:OV→V
  | .nd _ a _=>.ref a
  | _=>.non
def Ret.ok (R:Ret) (E:Ent0) (F' H':Hp) (v:V):Prop:=match R with
  | .is k=>∃ p,Rep F' v p∧k p
  | .new k=>∃ l vs xs,v=.ref l∧F' l=none∧E.H0 l=none∧H' l=some (.lst vs)∧Reps F' vs xs∧k xs
  | .pot=>∃ l,v=.ref l∧F' l=none∧E.H0 l=none∧Pot H' l
  | .ow k=>∃ t,Orep F' H' v t∧t.addrs.Nodup∧(∀ a∈t.addrs,F' a=none∧E.H0 a=none)∧k t
  | .mt k=>∃ p t,Rep F' v p∧Orep F' H' t.val t∧t.addrs.Nodup∧(∀ a∈t.addrs,F' a=none∧(E.H0 a=none∨a∈E.B))∧k p t
structure Ws [Xw] (ss:List Slot) (t:TS) (nx:List Slot→Prop) (R:Ret):Prop where
  go:∀ (E:Ent) (D:Ends) (σ:L2.St) (F H:Hp),Sg E ss σ F H→(∀ ss' σ' F' H',nx ss'→Sg E ss' σ' F' H'→Same F F'→D.nx σ' H')→(∀ v F' H',Fin E F' H'→R.ok E F' H' v→D.rt v H')→t D σ H
section
variable [Xw]
variable {E:Ent0} {ss:List Slot} {σ:L2.St} {F H F' H':Hp} {K:PySem.W.Frag} {ta tb tc te:TE} {k:PV→Prop} {v:V} {tp:Bool} {xs:List PV} {nx:List Slot→Prop} {R:Ret}
theorem Sv.mv (h:Sv ss σ F H v tp xs) (m:Mv E ss σ F H F' H'):Sv ss σ F' H' v tp xs:=by
  cases tp with
  | true=>exact Rep.mono m.ff h
  | false=>
    obtain ⟨l,vs,e,n,r,q⟩:=h
    exact ⟨l,vs,e,n,m.hh l _ n r,q.mono m.ff⟩
theorem Sv.seq (S:Sg E ss σ F H) (h:Sv ss σ F H v tp xs):∃ l vs,v=.ref l∧H l=some (HOq tp vs)∧Reps F vs xs:=by
  cases tp with
  | true=>cases h with | tup e r=>exact ⟨_,_,rfl,S.fh _ _ e,r⟩
  | false=>obtain ⟨l,vs,e,_,r,q⟩:=h;exact ⟨l,vs,e,r,q⟩
theorem Fv.sv (S:Sg E ss σ F H) (h:Fv E F v tp xs):Sv ss σ F H v tp xs:=by
  cases tp with
  | true=>exact h
  | false=>
    obtain ⟨l,vs,e,h1 | ⟨hA,h1⟩,r⟩:=h
    · exact ⟨l,vs,e,S.npotF h1,S.fh _ _ h1,r⟩
    · exact ⟨l,vs,e,S.npot0 hA.1 h1,S.keep _ _ hA h1,r⟩
theorem Fv.mono (h:Fv E F v tp xs) (s:Same F F'):Fv E F' v tp xs:=by
  cases tp with
  | true=>exact Rep.mono s h
  | false=>
    obtain ⟨l,vs,e,h1,r⟩:=h
    exact ⟨l,vs,e,h1.imp (fun h=>s _ _ h) id,r.mono s⟩
theorem Wp.mono {k':PV→Prop} (h:Wp ss te k) (i:∀ p,k p→k' p):Wp ss te k':=⟨fun E σ F H Q S q=>h.go E σ F H Q S fun v p F' H' m r kk=>q v p F' H' m r (i p kk)⟩
theorem ZA6 {i:Nat} {p:PV} (h:ss[i]?=some (.is p)) (hk:k p):Wp ss (ZBK i) k:=⟨fun E σ F H Q S q=>by
  obtain ⟨v,hv,r⟩:=S.ok i _ h
  exact ⟨v,hv,q v p F H (.refl S) r hk⟩⟩
theorem ZAO {i:Int} (hk:k (.int i)):Wp ss (tC (.int i)) k:=⟨fun E σ F H Q S q=>q _ _ F H (.refl S) (.int i) hk⟩
theorem ZDc {x:Str} (hk:k (.str x)):Wp ss (tC (.str x)) k:=⟨fun E σ F H Q S q=>q _ _ F H (.refl S) (.str x) hk⟩
theorem wp_bl {b:Bool} (hk:k (.bl b)):Wp ss (tC (.bl b)) k:=⟨fun E σ F H Q S q=>q _ _ F H (.refl S) (.bl b) hk⟩
theorem ZCx (hk:k .non):Wp ss (tC .non) k:=⟨fun E σ F H Q S q=>q _ _ F H (.refl S) .non hk⟩
theorem ZAv (h:Wn ss te (fun xs=>k (.lst xs))):Wp ss te k:=⟨fun E σ F H Q S q=>h.go E σ F H Q S fun l vs xs F' H' m fl hl hl' r kk=>by
  have S':=m.st
  have fr:Mv E ss σ F H (upd F' l (.lst vs)) H':=by
    have nF:∀ a,H' a≠none→a≠l→F' a=none→upd F' l (.lst vs) a=none:=fun a _ h1 h2=>by rw [ZA5 h1];exact h2
    refine ⟨⟨⟨fun a u e=>?_,S'.f0.trans (ZAN fl _),S'.keep,fun a u e=>?_,S'.pots,fun a hA=>?_,S'.a0,fun a hB=>?_,S'.bH,S'.b0⟩,S'.len,fun i s hi=>?_,S'.dis⟩,m.ff.trans (ZAN fl _),m.hh,fun a u e=>?_⟩
    · by_cases q:a=l
      · subst q;rw [ZA3] at e;rw [← e];exact hl'
      · rw [ZA5 q] at e;exact S'.fh a u e
    · by_cases q:a=l
      · subst q;exact .inr (S.new0 hl)
      · rw [ZA5 q] at e;exact S'.fresh a u e
    · by_cases q:a=l
      · subst q
        obtain ⟨_,_,e,_⟩:=S.pots _ hA
        rw [hl] at e;cases e
      · rw [ZA5 q];exact S'.potF a hA
    · by_cases q:a=l
      · subst q;exact absurd hl (S.bH _ hB)
      · rw [ZA5 q];exact S'.bF a hB
    · have own_ne:∀ a,ZB1 s σ[i]? a→a≠l:=by
        rintro a m rfl;exact S.newAddr hi hl m
      have kk:=S'.ok i s hi
      cases s with
      | any=>trivial
      | is p=>obtain ⟨v,e,r⟩:=kk;exact ⟨v,e,r.mono (ZAN fl _)⟩
      | own ys=>
        obtain ⟨l',ws,e,e1,e2,e3,r⟩:=kk
        exact ⟨l',ws,e,by rw [ZA5 (own_ne l' e)];exact e1,e2,e3,r.mono (ZAN fl _)⟩
      | pot=>
        obtain ⟨l',e,e1,e2,e3⟩:=kk
        exact ⟨l',e,by rw [ZA5 (own_ne l' e)];exact e1,e2,e3⟩
      | sq tp ys=>
        cases tp with
        | true=>obtain ⟨v,e,r⟩:=kk;exact ⟨v,e,r.mono (ZAN fl _)⟩
        | false=>obtain ⟨l',ws,e,e1,e2,r⟩:=kk;exact ⟨l',ws,e,e1,e2,r.mono (ZAN fl _)⟩
      | raw P=>obtain ⟨v,e,r,st⟩:=kk;exact ⟨v,e,st _ _ (ZAN fl _) r,st⟩
      | ow lt t=>
        obtain ⟨v,e,r,nd,q⟩:=kk
        exact ⟨v,e,r.mono (ZAN fl _) fun a _ o h=>h,nd,fun a ha=>⟨by rw [ZA5 (own_ne a ha)];exact (q a ha).1,(q a ha).2⟩⟩
    · by_cases q:a=l
      · subst q;exact .inr hl
      · rw [ZA5 q] at e;exact m.nn a u e
  exact q _ _ _ _ fr (.lst ZA3 (r.mono (ZAN fl _))) kk⟩
theorem ZAt {k:Bool→List PV→Prop} (h:Wp ss te (fun p=>∃ xs,(p=.lst xs∧k false xs)∨(p=.tup xs∧k true xs))):Wq ss te k:=⟨fun E σ F H Q S q=>h.go E σ F H Q S fun v p F' H' m r ⟨xs,h⟩=>by
  rcases h with ⟨rfl,kk⟩ | ⟨rfl,kk⟩
  · cases r with | lst h r=>exact q _ false xs F' H' m ⟨_,_,rfl,m.st.npotF h,m.st.fh _ _ h,r⟩ kk
  · exact q v true xs F' H' m r kk⟩
theorem ZEW {i:Nat} {k:Bool→List PV→Prop} (h:ss[i]?=some (.is (.lst xs))) (hk:k false xs):Wq ss (ZBK i) k:=ZAt (ZA6 h ⟨xs,.inl ⟨rfl,hk⟩⟩)
theorem ZAS {i:Nat} {k:Bool→List PV→Prop} (h:ss[i]?=some (.is (.tup xs))) (hk:k true xs):Wq ss (ZBK i) k:=ZAt (ZA6 h ⟨xs,.inr ⟨rfl,hk⟩⟩)
theorem ZGO {i:Nat} {k:Bool→List PV→Prop} (h:ss[i]?=some (.own xs)) (hk:k false xs):Wq ss (ZBK i) k:=⟨fun E σ F H Q S q=>by
  obtain ⟨l,vs,e,e1,e2,e3,r⟩:=S.ok i _ h
  exact ⟨_,e,q _ false xs F H (.refl S) ⟨l,vs,rfl,S.own_npot h e (by simp),e3,r⟩ hk⟩⟩
theorem wz_sq {i:Nat} {k:Bool→List PV→Prop} (h:ss[i]?=some (.sq tp xs)) (hk:k tp xs):Wz ss (ZBK i) k:=⟨fun E σ F H Q S q=>by
  have kk:=S.ok i _ h
  cases tp with
  | true=>obtain ⟨v,e,r⟩:=kk;exact ⟨_,e,q _ true xs F H (.refl S) r hk⟩
  | false=>
    obtain ⟨l,vs,e,hA,h0,r⟩:=kk
    exact ⟨_,e,q _ false xs F H (.refl S) ⟨l,vs,rfl,.inr ⟨hA,h0⟩,r⟩ hk⟩⟩
theorem ZEZ {k:Bool→List PV→Prop} (h:Wp ss te (fun p=>∃ xs,(p=.lst xs∧k false xs)∨(p=.tup xs∧k true xs))):Wz ss te k:=⟨fun E σ F H Q S q=>h.go E σ F H Q S fun v p F' H' m r ⟨xs,h⟩=>by
  rcases h with ⟨rfl,kk⟩ | ⟨rfl,kk⟩
  · cases r with | lst h r=>exact q _ false xs F' H' m ⟨_,_,rfl,.inl h,r⟩ kk
  · exact q _ true xs F' H' m r kk⟩
theorem ZGi {k:Bool→List PV→Prop} (h:Wz ss te k):Wq ss te k:=⟨fun E σ F H Q S q=>h.go E σ F H Q S fun v tp xs F' H' m f kk=>q v tp xs F' H' m (f.sv m.st) kk⟩
theorem wq_sq {i:Nat} {k:Bool→List PV→Prop} (h:ss[i]?=some (.sq tp xs)) (hk:k tp xs):Wq ss (ZBK i) k:=ZGi (wz_sq h hk)
theorem wp_rI {C:Int→Int→Prop} {f:Int→Int→Int} (h:Wp ss ta fun x=>∃ i,x=.int i∧Wp ss tb fun y=>∃ j,y=.int j∧C i j∧k (.int (f i j))):Wp ss (tOp (rI C fun i j=>.int (f i j)) ta tb) k:=⟨fun E σ F H Q S q=>
  h.go E σ F H _ S fun v p F1 H1 m1 r1 ⟨i,e1,h2⟩=>by
    subst e1;cases r1
    exact h2.go E σ F1 H1 _ m1.st fun v2 p2 F2 H2 m2 r2 ⟨j,e2,c,kk⟩=>by
      subst e2;cases r2
      exact ⟨i,j,rfl,rfl,c,q _ _ F2 H2 (m1.trans m2) (.int _) kk⟩⟩
theorem wp_rI0 {f:Int→Int→Int} (h:Wp ss ta fun x=>∃ i,x=.int i∧Wp ss tb fun y=>∃ j,y=.int j∧k (.int (f i j))):Wp ss (tOp (rI0 fun i j=>.int (f i j)) ta tb) k:=⟨fun E σ F H Q S q=>
  h.go E σ F H _ S fun v p F1 H1 m1 r1 ⟨i,e1,h2⟩=>by
    subst e1;cases r1
    exact h2.go E σ F1 H1 _ m1.st fun v2 p2 F2 H2 m2 r2 ⟨j,e2,kk⟩=>by
      subst e2;cases r2
      exact ⟨i,j,rfl,rfl,q _ _ F2 H2 (m1.trans m2) (.int _) kk⟩⟩
theorem wp_rB0 {f:Int→Int→Bool} (h:Wp ss ta fun x=>∃ i,x=.int i∧Wp ss tb fun y=>∃ j,y=.int j∧k (.bl (f i j))):Wp ss (tOp (rI0 fun i j=>.bl (f i j)) ta tb) k:=⟨fun E σ F H Q S q=>
  h.go E σ F H _ S fun v p F1 H1 m1 r1 ⟨i,e1,h2⟩=>by
    subst e1;cases r1
    exact h2.go E σ F1 H1 _ m1.st fun v2 p2 F2 H2 m2 r2 ⟨j,e2,kk⟩=>by
      subst e2;cases r2
      exact ⟨i,j,rfl,rfl,q _ _ F2 H2 (m1.trans m2) (.bl _) kk⟩⟩
theorem wp_neg {f:Int→Int} (h:Wp ss ta fun x=>∃ i,x=.int i∧k (.int (f i))):Wp ss (tUn (rU fun i=>.int (f i)) ta) k:=⟨fun E σ F H Q S q=>
  h.go E σ F H _ S fun v p F1 H1 m1 r1 ⟨i,e1,kk⟩=>by
    subst e1;cases r1
    exact ⟨i,rfl,q _ _ F1 H1 m1 (.int _) kk⟩⟩
def ZBo:PV→PV→Bool
  | .int i,.int j=>decide (i=j)
  | .str i,.str j=>decide (i=j)
  | .bl i,.bl j=>decide (i=j)
  | .non,.non=>true
  | _,_=>false
def ZFg (p q:PV):Bool:=flat p && flat q && scal (Fz.enc p) (Fz.enc q)
theorem ZGl {p q:PV} (h:ZFg p q=true):decide (Fz.enc p=Fz.enc q)=ZBo p q:=by
  unfold ZFg at h
  rw [Bool.and_eq_true,Bool.and_eq_true] at h
  obtain ⟨⟨h1,h2⟩,h3⟩:=h
  cases p <;> cases q <;> first | (simp [Fz.enc,ZBo];done) | (simp [flat] at h1;done) | (simp [flat] at h2;done) | (simp [Fz.enc,scal] at h3;done)
theorem wp_eq (h:Wp ss ta fun x=>Wp ss tb fun y=>ZFg x y=true∧k (.bl (ZBo x y))):Wp ss (tOp rEq ta tb) k:=⟨fun E σ F H Q S q=>
  h.go E σ F H _ S fun v p F1 H1 m1 r1 h2=>h2.go E σ F1 H1 _ m1.st fun v2 p2 F2 H2 m2 r2 ⟨sc,kk⟩=>by
    have sc':=sc
    unfold ZFg at sc
    rw [Bool.and_eq_true,Bool.and_eq_true] at sc
    rw [r1.enc sc.1.1,r2.enc sc.1.2]
    refine ⟨sc.2,?_⟩
    rw [ZGl sc']
    exact q _ _ F2 H2 (m1.trans m2) (.bl _) kk⟩
theorem ZGk (h:Wp ss ta fun x=>Wp ss tb fun y=>ZFg x y=true∧k (.bl (!ZBo x y))):Wp ss (tOp rNe ta tb) k:=⟨fun E σ F H Q S q=>
  h.go E σ F H _ S fun v p F1 H1 m1 r1 h2=>h2.go E σ F1 H1 _ m1.st fun v2 p2 F2 H2 m2 r2 ⟨sc,kk⟩=>by
    have sc':=sc
    unfold ZFg at sc
    rw [Bool.and_eq_true,Bool.and_eq_true] at sc
    rw [r1.enc sc.1.1,r2.enc sc.1.2]
    refine ⟨sc.2,?_⟩
    rw [ZGl sc']
    exact q _ _ F2 H2 (m1.trans m2) (.bl _) kk⟩
theorem wp_and (h:Wp ss ta fun x=>∃ c,x=.bl c∧if c=true then Wp ss tb k else k (.bl false)):Wp ss (tAndV ta tb) k:=⟨fun E σ F H Q S q=>
  h.go E σ F H _ S fun v p F1 H1 m1 r1 ⟨c,e,h2⟩=>by
    subst e;cases r1
    refine ⟨c,rfl,?_⟩
    cases c with
    | true=>rw [if_pos rfl] at h2 ⊢;exact h2.go E σ F1 H1 _ m1.st fun v2 p2 F2 H2 m2 r2 kk=>q _ _ F2 H2 (m1.trans m2) r2 kk
    | false=>rw [if_neg (by decide)] at h2 ⊢;exact q _ _ F1 H1 m1 (.bl _) h2⟩
theorem wp_or (h:Wp ss ta fun x=>∃ c,x=.bl c∧if c=true then k (.bl true) else Wp ss tb k):Wp ss (tOrV ta tb) k:=⟨fun E σ F H Q S q=>
  h.go E σ F H _ S fun v p F1 H1 m1 r1 ⟨c,e,h2⟩=>by
    subst e;cases r1
    refine ⟨c,rfl,?_⟩
    cases c with
    | true=>rw [if_pos rfl] at h2 ⊢;exact q _ _ F1 H1 m1 (.bl _) h2
    | false=>rw [if_neg (by decide)] at h2 ⊢;exact h2.go E σ F1 H1 _ m1.st fun v2 p2 F2 H2 m2 r2 kk=>q _ _ F2 H2 (m1.trans m2) r2 kk⟩
theorem wp_not (h:Wp ss ta fun x=>∃ c,x=.bl c∧k (.bl (!c))):Wp ss (tNotV ta) k:=⟨fun E σ F H Q S q=>
  h.go E σ F H _ S fun v p F1 H1 m1 r1 ⟨c,e,kk⟩=>by subst e;cases r1;exact ⟨c,rfl,q _ _ F1 H1 m1 (.bl _) kk⟩⟩
theorem ZHE {f g:Int→Int→Bool} (h:Wp ss ta fun x=>∃ i,x=.int i∧Wp ss tb fun y=>∃ j,y=.int j∧if f i j=true then Wp ss tc (fun z=>∃ l,z=.int l∧k (.bl (g j l))) else k (.bl false)) :
    Wp ss (ZDW (rI0 fun i j=>.bl (f i j)) (rI0 fun i j=>.bl (g i j)) ta tb tc) k:=⟨fun E σ F H Q S q=>
  h.go E σ F H _ S fun v p F1 H1 m1 r1 ⟨i,e1,h2⟩=>by
    subst e1;cases r1
    exact h2.go E σ F1 H1 _ m1.st fun v2 p2 F2 H2 m2 r2 ⟨j,e2,h3⟩=>by
      subst e2;cases r2
      refine ⟨i,j,rfl,rfl,f i j,rfl,?_⟩
      cases c:f i j with
      | true=>
        rw [c,if_pos rfl] at h3
        rw [if_pos rfl]
        exact h3.go E σ F2 H2 _ m2.st fun v3 p3 F3 H3 m3 r3 ⟨l,e3,kk⟩=>by
          subst e3;cases r3
          exact ⟨j,l,rfl,rfl,q _ _ F3 H3 (m1.trans (m2.trans m3)) (.bl _) kk⟩
      | false=>
        rw [c,if_neg (by decide)] at h3
        rw [if_neg (by decide)]
        exact q _ _ F2 H2 (m1.trans m2) (.bl _) h3⟩
theorem ZAu {k:Bool→Prop} (h:Wp ss te fun x=>∃ c,x=.bl c∧k c):Wt ss (ZGa te) k:=⟨fun E σ F H Q S q=>
  h.go E σ F H _ S fun v p F1 H1 m1 r1 ⟨c,e,kk⟩=>by subst e;cases r1;exact ⟨c,rfl,q _ F1 H1 m1 kk⟩⟩
theorem wt_b {k:Bool→Prop} (h:Wp ss te fun x=>∃ c,x=.bl c∧k c):Wt ss (tB te) k:=⟨fun E σ F H Q S q=>
  h.go E σ F H _ S fun v p F1 H1 m1 r1 ⟨c,e,kk⟩=>by subst e;cases r1;exact ⟨c,rfl,q _ F1 H1 m1 kk⟩⟩
theorem ZGB {k:Bool→Prop} (h:k true):Wt ss tTrue k:=⟨fun E σ F H Q S q=>q _ F H (.refl S) h⟩
theorem ZCP {t:TT} {k:Bool→Prop} (h:Wt ss t fun c=>k (!c)):Wt ss (tNot t) k:=⟨fun E σ F H Q S q=>h.go E σ F H _ S fun c F1 H1 m1 kk=>q _ F1 H1 m1 kk⟩
theorem ZHa {t u:TT} {k:Bool→Prop} (h:Wt ss t fun c=>if c=true then Wt ss u k else k false):Wt ss (tAnd t u) k:=⟨fun E σ F H Q S q=>
  h.go E σ F H _ S fun c F1 H1 m1 h2=>by
    show if c=true then _ else _
    cases c with
    | true=>rw [if_pos rfl] at h2 ⊢;exact h2.go E σ F1 H1 _ m1.st fun c2 F2 H2 m2 kk=>q _ F2 H2 (m1.trans m2) kk
    | false=>rw [if_neg (by decide)] at h2 ⊢;exact q _ F1 H1 m1 h2⟩
theorem ZEq {t u:TT} {k:Bool→Prop} (h:Wt ss t fun c=>if c=true then k true else Wt ss u k):Wt ss (tOr t u) k:=⟨fun E σ F H Q S q=>
  h.go E σ F H _ S fun c F1 H1 m1 h2=>by
    show if c=true then _ else _
    cases c with
    | true=>rw [if_pos rfl] at h2 ⊢;exact q _ F1 H1 m1 h2
    | false=>rw [if_neg (by decide)] at h2 ⊢;exact h2.go E σ F1 H1 _ m1.st fun c2 F2 H2 m2 kk=>q _ F2 H2 (m1.trans m2) kk⟩
end
end Fz
set_option Elab.async false
set_option linter.all false
set_option maxRecDepth 100000
set_option maxHeartbeats 4000000
namespace Fz
open PySem PySem.Spec PyProof.Rows L2 Lw
structure We [Xw] (ss:List Slot) (t:TA) (k:List PV→Prop):Prop where
  go:∀ (E:Ent) (σ:L2.St) (F H:Hp) (Q:List V→Hp→Prop),Sg E ss σ F H→(∀ vs ps F' H',Mv E ss σ F H F' H'→Reps F' vs ps→k ps→Q vs H')→t σ H Q
structure Wo [Xw] (ss:List Slot) (t:TO) (k:Option Int→Prop):Prop where
  go:∀ (E:Ent) (σ:L2.St) (F H:Hp) (Q:Option Int→Hp→Prop),Sg E ss σ F H→(∀ o F' H',Mv E ss σ F H F' H'→k o→Q o H')→t σ H Q
section
variable [Xw]
variable {E:Ent0} {ss:List Slot} {σ:L2.St} {F H F' H':Hp} {K:PySem.W.Frag} {ta tb tc te:TE} {k:PV→Prop} {v:V} {tp:Bool} {xs:List PV} {nx:List Slot→Prop} {R:Ret}
theorem we_nil {k:List PV→Prop} (h:k []):We ss ZAa k:=⟨fun E σ F H Q S q=>q _ _ F H (.refl S) .nil h⟩
theorem we_cons {k:List PV→Prop} {t:TA} (h:Wp ss te fun p=>We ss t fun ps=>k (p :: ps)):We ss (ZA9 te t) k:=⟨fun E σ F H Q S q=>
  h.go E σ F H _ S fun v p F1 H1 m1 r1 h2=>h2.go E σ F1 H1 _ m1.st fun vs ps F2 H2 m2 r2 kk=>q _ _ F2 H2 (m1.trans m2) (.cons (r1.mono m2.ff) r2) kk⟩
theorem ZB0 {k:List Slot→Prop} (h:k []):Wa ss ZAa k:=⟨fun E σ F H Q S q=>q _ _ F H (.refl S) .nil h⟩
theorem ZAw {k:List Slot→Prop} {t:TA} (h:Wp ss te fun p=>Wa ss t fun l=>k (.is p :: l)):Wa ss (ZA9 te t) k:=⟨fun E σ F H Q S q=>
  h.go E σ F H _ S fun v p F1 H1 m1 r1 h2=>h2.go E σ F1 H1 _ m1.st fun vs l F2 H2 m2 r2 kk=>q _ _ F2 H2 (m1.trans m2) (.cons (s:=.is p) (r1.mono m2.ff) r2) kk⟩
theorem wa_sq {k:List Slot→Prop} {t:TA} (h:Wq ss te fun tp xs=>Wa ss t fun l=>k (.sq tp xs :: l)):Wa ss (ZA9 te t) k:=⟨fun E σ F H Q S q=>
  h.go E σ F H _ S fun v tp xs F1 H1 m1 r1 h2=>h2.go E σ F1 H1 _ m1.st fun vs l F2 H2 m2 r2 kk=>q _ _ F2 H2 (m1.trans m2) (.cons (s:=.sq tp xs) (r1.mv m2) r2) kk⟩
theorem wo_none {k:Option Int→Prop} (h:k none):Wo ss ZGN k:=⟨fun E σ F H Q S q=>q _ F H (.refl S) h⟩
theorem wo_some {k:Option Int→Prop} (h:Wp ss te fun p=>∃ i,p=.int i∧k (some i)):Wo ss (tPart te) k:=⟨fun E σ F H Q S q=>
  h.go E σ F H _ S fun v p F1 H1 m1 r1 ⟨i,e,kk⟩=>by subst e;cases r1;exact ⟨i,rfl,q _ F1 H1 m1 kk⟩⟩
theorem ZGE {n:Nat} (h:n≤99999):n < sizeLine:=Nat.lt_of_lt_of_le (Nat.lt_succ_of_le h) (ZBs (Nat.le_refl 100000))
theorem ZCN {t:TA} (h:We ss t fun ps=>ps.length≤100000∧k (.tup ps)):Wp ss (tTup t) k:=⟨fun E σ F H Q S q=>
  h.go E σ F H _ S fun vs ps F1 H1 m1 r1 ⟨hz,kk⟩=>⟨ZBs (by rw [r1.length];exact hz),fun a ha=>by
    have m2:=m1.st.alloc ha (.tup vs)
    exact q _ _ _ _ (m1.trans m2) (.tup ZA3 (r1.mono m2.ff)) kk⟩⟩
theorem ZHN {t:TA} {k:List PV→Prop} (h:We ss t fun ps=>ps.length≤100000∧k ps):Wn ss (tLst t) k:=⟨fun E σ F H Q S q=>
  h.go E σ F H _ S fun vs ps F1 H1 m1 r1 ⟨hz,kk⟩=>⟨ZBs (by rw [r1.length];exact hz),fun a ha=>by
    have m2:=m1.st.make ha (.lst vs)
    refine q a vs ps F1 _ (m1.trans m2) (m1.st.newF ha) ?_ ZA3 r1 kk
    cases e:H a with
    | none=>rfl
    | some o=>rw [m1.hh a o (m1.st.npotN ha) e] at ha;cases ha⟩⟩
theorem wp_len (h:Wq ss te fun _ xs=>k (.int xs.length)):Wp ss (tCB (rLenS K) (ZA9 te ZAa)) k:=⟨fun E σ F H Q S q=>
  h.go E σ F H _ S fun v tp xs F1 H1 m1 sv kk=>by
    obtain ⟨l,vs,rfl,hl,r⟩:=sv.seq m1.st
    refine ⟨l,vs,rfl,(HOq.sq (K:=K) hl).or,?_⟩
    rw [r.length]
    exact q _ _ F1 H1 m1 (.int _) kk⟩
theorem Reps.atI {vs:List V} {i:Int} {p:PV} (r:Reps F vs xs) (h:L2.atI xs i=some p):∃ u,L2.atI vs i=some u∧Rep F u p:=by
  unfold L2.atI at h ⊢
  rw [r.length]
  cases e:ixN xs.length i with
  | none=>rw [e] at h;cases h
  | some j=>
    rw [e] at h
    exact r.get h
theorem wp_ixL (h:Wq ss ta fun tp xs=>tp=false∧Wp ss tb fun y=>∃ i p,y=.int i∧L2.atI xs i=some p∧k p):Wp ss (tOp (rIxL K) ta tb) k:=⟨fun E σ F H Q S q=>
  h.go E σ F H _ S fun v tp xs F1 H1 m1 sv ⟨et,h2⟩=>h2.go E σ F1 H1 _ m1.st fun v2 p2 F2 H2 m2 r2 ⟨i,p,e,ha,kk⟩=>by
    subst e;cases r2;subst et
    obtain ⟨l,vs,rfl,hl,r⟩:=(sv.mv m2).seq m2.st
    obtain ⟨u,hu,ru⟩:=r.atI ha
    exact ⟨l,vs,i,u,rfl,rfl,SqL.of hl,hu,q _ _ F2 H2 (m1.trans m2) ru kk⟩⟩
theorem ZAW (h:Wq ss ta fun tp xs=>tp=true∧Wp ss tb fun y=>∃ i p,y=.int i∧L2.atI xs i=some p∧k p):Wp ss (tOp (rIxT K) ta tb) k:=⟨fun E σ F H Q S q=>
  h.go E σ F H _ S fun v tp xs F1 H1 m1 sv ⟨et,h2⟩=>h2.go E σ F1 H1 _ m1.st fun v2 p2 F2 H2 m2 r2 ⟨i,p,e,ha,kk⟩=>by
    subst e;cases r2;subst et
    obtain ⟨l,vs,rfl,hl,r⟩:=(sv.mv m2).seq m2.st
    obtain ⟨u,hu,ru⟩:=r.atI ha
    exact ⟨l,vs,i,u,rfl,rfl,SqT.of hl,hu,q _ _ F2 H2 (m1.trans m2) ru kk⟩⟩
theorem wp_ixQ (h:Wq ss ta fun tp xs=>Wp ss tb fun y=>∃ i p,y=.int i∧L2.atI xs i=some p∧k p):Wp ss (tOp (fun x y H Q=>rIxL K x y H Q∨rIxT K x y H Q) ta tb) k:=⟨fun E σ F H Q S q=>
  h.go E σ F H _ S fun v tp xs F1 H1 m1 sv h2=>h2.go E σ F1 H1 _ m1.st fun v2 p2 F2 H2 m2 r2 ⟨i,p,e,ha,kk⟩=>by
    subst e;cases r2
    obtain ⟨l,vs,rfl,hl,r⟩:=(sv.mv m2).seq m2.st
    obtain ⟨u,hu,ru⟩:=r.atI ha
    cases tp with
    | false=>exact .inl ⟨l,vs,i,u,rfl,rfl,SqL.of hl,hu,q _ _ F2 H2 (m1.trans m2) ru kk⟩
    | true=>exact .inr ⟨l,vs,i,u,rfl,rfl,SqT.of hl,hu,q _ _ F2 H2 (m1.trans m2) ru kk⟩⟩
theorem wp_in {neg:Bool} (h:Wp ss ta fun p=>∃ x,p=.str x∧Wq ss tb fun _ ys=>∃ ns:List Str,ys=ns.map PV.str∧k (.bl (if neg then !decide (x∈ns) else decide (x∈ns)))):Wp ss (tOp (rIn K neg) ta tb) k:=⟨fun E σ F H Q S q=>
  h.go E σ F H _ S fun v p F1 H1 m1 r1 ⟨x,e,h2⟩=>by
    subst e;cases r1
    exact h2.go E σ F1 H1 _ m1.st fun v2 tp ys F2 H2 m2 sv ⟨ns,e2,kk⟩=>by
      subst e2
      obtain ⟨l,vs,rfl,hl,r⟩:=sv.seq m2.st
      rw [r.strs] at hl
      refine ⟨l,_,rfl,(HOq.sq (K:=K) hl).or,rfl,ZBQ ns,?_⟩
      rw [ZEc]
      exact q _ _ F2 H2 (m1.trans m2) (.bl _) kk⟩
theorem ZIL {k:List PV→Prop} {r:List V→Hp→VK→Prop} (hr:r=fun xs H Q=>∃ p ys,xs=[.ref p]∧(SqL K H p ys∨SqT K H p ys)∧∀ l,H l=none→Q (.ref l) (upd H l (.lst ys))) (h:Wq ss te fun _ xs=>k xs):Wn ss (tCB r (ZA9 te ZAa)) k:=⟨fun E σ F H Q S q=>
  h.go E σ F H _ S fun v tp xs F1 H1 m1 sv kk=>by
    subst hr
    obtain ⟨l,vs,rfl,hl,r⟩:=sv.seq m1.st
    refine ⟨l,vs,rfl,(HOq.sq (K:=K) hl).or,fun a ha=>?_⟩
    have m2:=m1.st.make ha (.lst vs)
    exact q a vs xs F1 _ (m1.trans m2) (m1.st.newF ha) (m1.none ha) ZA3 r kk⟩
theorem ZEM {r:List V→Hp→VK→Prop} (hr:r=fun xs H Q=>∃ p ys,xs=[.ref p]∧((SqL K H p ys∧∀ l,H l=none→Q (.ref l) (upd H l (.tup ys)))∨(SqT K H p ys∧Q (.ref p) H))) (h:Wq ss te fun _ xs=>k (.tup xs)):Wp ss (tCB r (ZA9 te ZAa)) k:=⟨fun E σ F H Q S q=>
  h.go E σ F H _ S fun v tp xs F1 H1 m1 sv kk=>by
    subst hr
    cases tp with
    | false=>
      obtain ⟨l,vs,rfl,hl,r⟩:=sv.seq m1.st
      refine ⟨l,vs,rfl,.inl ⟨SqL.of hl,fun a ha=>?_⟩⟩
      have m2:=m1.st.alloc ha (.tup vs)
      exact q _ _ _ _ (m1.trans m2) (.tup ZA3 (r.mono m2.ff)) kk
    | true=>
      have sv':Rep F1 v (.tup xs):=sv
      cases sv' with
      | tup e r=>exact ⟨_,_,rfl,.inr ⟨SqT.of (m1.st.fh _ _ e),q _ _ F1 H1 m1 (.tup e r) kk⟩⟩⟩
theorem ZG6 {k:List PV→Prop} (h:Wq ss ta fun tp xs=>tp=false∧Wq ss tb fun tp2 ys=>tp2=false∧xs.length+ys.length≤100000∧k (xs++ys)):Wn ss (tOp rCat ta tb) k:=⟨fun E σ F H Q S q=>
  h.go E σ F H _ S fun v tp xs F1 H1 m1 sv ⟨et,h2⟩=>h2.go E σ F1 H1 _ m1.st fun v2 tp2 ys F2 H2 m2 sv2 ⟨et2,hz,kk⟩=>by
    subst et;subst et2
    obtain ⟨l,vs,rfl,hl,r⟩:=(sv.mv m2).seq m2.st
    obtain ⟨l2,vs2,rfl,hl2,r2⟩:=sv2.seq m2.st
    refine ⟨l,l2,vs,vs2,rfl,rfl,hl,hl2,ZBs (by rw [r.length,r2.length];exact hz),fun a ha=>?_⟩
    have m3:=m2.st.make ha (.lst (vs++vs2))
    exact q a _ _ F2 _ (m1.trans (m2.trans m3)) (m2.st.newF ha) ((m1.trans m2).none ha) ZA3 (r.append r2) kk⟩
def ZBO {α:Type} (xs:List α) (lo hi:Option Int):List α:=(xs.drop (HT.sIx xs.length 0 lo)).take (HT.sIx xs.length xs.length hi - HT.sIx xs.length 0 lo)
theorem Reps.cut {vs:List V} (r:Reps F vs xs) (lo hi:Option Int):Reps F (ZDD vs lo hi) (ZBO xs lo hi):=by
  unfold ZDD ZBO
  rw [r.length]
  exact (r.drop _).take _
theorem ZEw {k:List PV→Prop} {tl th:TO} (h:Wq ss te fun tp xs=>tp=false∧Wo ss tl fun lo=>Wo ss th fun hi=>k (ZBO xs lo hi)):Wn ss (tSl (rSlL K) te tl th) k:=⟨fun E σ F H Q S q=>
  h.go E σ F H _ S fun v tp xs F1 H1 m1 sv ⟨et,h2⟩=>h2.go E σ F1 H1 _ m1.st fun lo F2 H2 m2 h3=>h3.go E σ F2 H2 _ m2.st fun hi F3 H3 m3 kk=>by
    subst et
    obtain ⟨l,vs,rfl,hl,r⟩:=(sv.mv (m2.trans m3)).seq m3.st
    refine ⟨l,vs,rfl,SqL.of hl,fun a ha=>?_⟩
    have m4:=m3.st.make ha (.lst (ZDD vs lo hi))
    exact q a _ _ F3 _ (m1.trans (m2.trans (m3.trans m4))) (m3.st.newF ha) ((m1.trans (m2.trans m3)).none ha) ZA3 (r.cut lo hi) kk⟩
def seqP (tp:Bool) (xs:List PV):PV:=if tp then .tup xs else .lst xs
def rSl2 (K:PySem.W.Frag):V→Option Int→Option Int→Hp→VK→Prop:=fun x lo hi H Q=>rSlL K x lo hi H Q∨rSlA K x lo hi H Q
theorem sl_two {X:Cx}:SlR X (rSl2 X.K):=by
  intro pins s σ H x v vl vu lo hi sl Q I rx hs pl pu h
  rcases h with h | h
  · exact ZE1 pins s σ H x v vl vu lo hi sl Q I rx hs pl pu h
  · exact sl_tupA pins s σ H x v vl vu lo hi sl Q I rx hs pl pu h
theorem ZCC {tl th:TO} (h:Wq ss te fun tp xs=>Wo ss tl fun lo=>Wo ss th fun hi=>k (seqP tp (ZBO xs lo hi))):Wp ss (tSl (rSl2 K) te tl th) k:=⟨fun E σ F H Q S q=>
  h.go E σ F H _ S fun v tp xs F1 H1 m1 sv h2=>h2.go E σ F1 H1 _ m1.st fun lo F2 H2 m2 h3=>h3.go E σ F2 H2 _ m2.st fun hi F3 H3 m3 kk=>by
    have sv3:=sv.mv (m2.trans m3)
    have m13:=m1.trans (m2.trans m3)
    cases tp with
    | false=>
      obtain ⟨l,vs,rfl,hl,r⟩:=sv3.seq m3.st
      refine .inl ⟨l,vs,rfl,SqL.of hl,fun a ha=>?_⟩
      have m4:=m3.st.alloc ha (.lst (ZDD vs lo hi))
      exact q _ _ _ _ (m13.trans m4) (.lst ZA3 ((r.cut lo hi).mono m4.ff)) kk
    | true=>
      have sv':Rep F3 v (.tup xs):=sv3
      cases sv' with
      | @tup _ vs _ e r=>
        refine .inr ⟨_,vs,rfl,SqT.of (m3.st.fh _ _ e),fun hw=>?_,fun hw a ha=>?_⟩
        · have ew:ZBO xs lo hi=xs:=by
            rw [r.length] at hw
            unfold ZBO;rw [hw.1,hw.2];simp
          refine q _ _ F3 H3 m13 (.tup e r) ?_
          have kk':=kk
          rw [ew] at kk'
          exact kk'
        · have m4:=m3.st.alloc ha (.tup (ZDD vs lo hi))
          exact q _ _ _ _ (m13.trans m4) (.tup ZA3 ((r.cut lo hi).mono m4.ff)) kk⟩
theorem ZIN {k:List PV→Prop} (h:Wq ss te fun _ xs=>∃ ns:List Str,xs=ns.map PV.str∧ns.length < 64∧∀ ns':List Str,ns'.Perm ns→sortedS ns'=true→k (ns'.map PV.str)):Wn ss (tCB (rSorted K) (ZA9 te ZAa)) k:=⟨fun E σ F H Q S q=>
  h.go E σ F H _ S fun v tp xs F1 H1 m1 sv ⟨ns,e,hz,kk⟩=>by
    subst e
    obtain ⟨l,vs,rfl,hl,r⟩:=sv.seq m1.st
    rw [r.strs] at hl
    refine ⟨l,tp,ns,rfl,HOq.sq hl,hz,fun a ns' ha hp hs=>?_⟩
    have m2:=m1.st.make ha (.lst (ns'.map V.str))
    exact q a _ _ F1 _ (m1.trans m2) (m1.st.newF ha) (m1.none ha) ZA3 (ZBR ns') (kk ns' hp hs)⟩
theorem ZHm (xs ys:List Str):eqVs (xs.map V.str) (ys.map V.str)=decide (xs=ys):=by
  by_cases h:xs=ys
  · subst h;rw [ZJ7,decide_eq_true rfl]
  · rw [decide_eq_false h]
    by_cases hl:xs.length=ys.length
    · rw [ZCo (by simpa using hl)]
      cases c:(List.range (xs.map V.str).length).all fun j=>eqV ((xs.map V.str).getD j .non) ((ys.map V.str).getD j .non) with
      | false=>rfl
      | true=>
        exfalso
        apply h
        apply List.ext_getElem hl
        intro j h1 h2
        have q:=List.all_eq_true.mp c j (List.mem_range.mpr (by simpa using h1))
        have e1:(xs.map V.str)[j]?=some (.str xs[j]):=by rw [List.getElem?_map,List.getElem?_eq_getElem h1];rfl
        have e2:(ys.map V.str)[j]?=some (.str ys[j]):=by rw [List.getElem?_map,List.getElem?_eq_getElem h2];rfl
        rw [ZDF e1,ZDF e2] at q
        have q':(xs[j] == ys[j])=true:=q
        simpa using q'
    · rw [ZE7 (by simpa using hl)]
theorem wp_eqS {neg:Bool} (h:Wq ss ta fun tp xs=>∃ ns:List Str,xs=ns.map PV.str∧Wq ss tb fun tp2 ys=>tp2=tp∧∃ ms:List Str,ys=ms.map PV.str∧k (.bl (if neg then !decide (ns=ms) else decide (ns=ms)))):Wp ss (tOp (rEqS K neg) ta tb) k:=⟨fun E σ F H Q S q=>
  h.go E σ F H _ S fun v tp xs F1 H1 m1 sv ⟨ns,e1,h2⟩=>h2.go E σ F1 H1 _ m1.st fun v2 tp2 ys F2 H2 m2 sv2 ⟨et,ms,e2,kk⟩=>by
    subst e1;subst e2;subst et
    obtain ⟨l,vs,rfl,hl,r⟩:=(sv.mv m2).seq m2.st
    obtain ⟨l2,vs2,rfl,hl2,r2⟩:=sv2.seq m2.st
    rw [r.strs] at hl
    rw [r2.strs] at hl2
    refine ⟨l,l2,ns.map V.str,ms.map V.str,rfl,rfl,?_,ZBQ _,ZBQ _,?_⟩
    · cases tp2
      · exact .inl ⟨SqL.of hl,SqL.of hl2⟩
      · exact .inr ⟨SqT.of hl,SqT.of hl2⟩
    · rw [ZHm]
      cases neg
      · exact q _ _ F2 H2 (m1.trans m2) (.bl _) kk
      · exact q _ _ F2 H2 (m1.trans m2) (.bl _) kk⟩
theorem wp_all {r:List V→Hp→VK→Prop} (hr:r=fun xs H Q=>∃ (p:Addr) (bs:List Bool),xs=[.ref p]∧SqL K H p (bs.map V.bl)∧Q (.bl (bs.all id)) H) (h:Wq ss te fun tp xs=>tp=false∧∃ bs:List Bool,xs=bs.map PV.bl∧k (.bl (bs.all id))):Wp ss (tCB r (ZA9 te ZAa)) k:=⟨fun E σ F H Q S q=>
  h.go E σ F H _ S fun v tp xs F1 H1 m1 sv ⟨et,bs,e,kk⟩=>by
    subst hr;subst e;subst et
    obtain ⟨l,vs,rfl,hl,r⟩:=sv.seq m1.st
    rw [r.bls] at hl
    exact ⟨l,bs,rfl,SqL.of hl,q _ _ F1 H1 m1 (.bl _) kk⟩⟩
theorem wp_any {r:List V→Hp→VK→Prop} (hr:r=fun xs H Q=>∃ (p:Addr) (bs:List Bool),xs=[.ref p]∧SqL K H p (bs.map V.bl)∧Q (.bl (bs.any id)) H) (h:Wq ss te fun tp xs=>tp=false∧∃ bs:List Bool,xs=bs.map PV.bl∧k (.bl (bs.any id))):Wp ss (tCB r (ZA9 te ZAa)) k:=⟨fun E σ F H Q S q=>
  h.go E σ F H _ S fun v tp xs F1 H1 m1 sv ⟨et,bs,e,kk⟩=>by
    subst hr;subst e;subst et
    obtain ⟨l,vs,rfl,hl,r⟩:=sv.seq m1.st
    rw [r.bls] at hl
    exact ⟨l,bs,rfl,SqL.of hl,q _ _ F1 H1 m1 (.bl _) kk⟩⟩
def tyP:PV→String
  | .non => "NoneType"
  | .bl _ => "bool"
  | .int _ => "int"
  | .str _ => "str"
  | .lst _ => "list"
  | .tup _ => "tuple"
  | .dct _ _ => "dict"
  | _ => ""
def tyV:PV→Value
  | .obj _ _ _=>.none
  | .exc _ _ _=>.none
  | .con _ _=>.none
  | p=>.type (tyP p)
theorem wp_max {r:List V→Hp→VK→Prop} (hr:r=fun xs H Q=>∃ i j,xs=[.int i,.int j]∧Q (.int (if j > i then j else i)) H) (h:Wp ss ta fun x=>∃ i,x=.int i∧Wp ss tb fun y=>∃ j,y=.int j∧k (.int (if j > i then j else i))):Wp ss (tCB r (ZA9 ta (ZA9 tb ZAa))) k:=⟨fun E σ F H Q S q=>
  h.go E σ F H _ S fun v p F1 H1 m1 r1 ⟨i,e1,h2⟩=>by
    subst hr;subst e1;cases r1
    exact h2.go E σ F1 H1 _ m1.st fun v2 p2 F2 H2 m2 r2 ⟨j,e2,kk⟩=>by
      subst e2;cases r2
      exact ⟨i,j,rfl,q _ _ F2 H2 (m1.trans m2) (.int _) kk⟩⟩
theorem wp_min {r:List V→Hp→VK→Prop} (hr:r=fun xs H Q=>∃ i j,xs=[.int i,.int j]∧Q (.int (if j < i then j else i)) H) (h:Wp ss ta fun x=>∃ i,x=.int i∧Wp ss tb fun y=>∃ j,y=.int j∧k (.int (if j < i then j else i))):Wp ss (tCB r (ZA9 ta (ZA9 tb ZAa))) k:=⟨fun E σ F H Q S q=>
  h.go E σ F H _ S fun v p F1 H1 m1 r1 ⟨i,e1,h2⟩=>by
    subst hr;subst e1;cases r1
    exact h2.go E σ F1 H1 _ m1.st fun v2 p2 F2 H2 m2 r2 ⟨j,e2,kk⟩=>by
      subst e2;cases r2
      exact ⟨i,j,rfl,q _ _ F2 H2 (m1.trans m2) (.int _) kk⟩⟩
end
end Fz
set_option Elab.async false
set_option linter.all false
set_option maxRecDepth 100000
set_option maxHeartbeats 4000000
namespace Fz
open PySem PySem.Spec PyProof.Rows L2 Lw
structure Src (E:Ent0) (F1:Hp) (J:It) (xs:List PV):Prop where
  go:∀ (ss:List Slot) (σ:L2.St) (F H:Hp) (i:Nat),Same F1 F→Sg E ss σ F H→i < xs.length→J.go i H
  stop:∀ (ss:List Slot) (σ:L2.St) (F H:Hp),Same F1 F→Sg E ss σ F H→J.stop xs.length H
  yld:∀ (ss:List Slot) (σ:L2.St) (F H:Hp) (i:Nat) (x:V) (H':Hp),Same F1 F→Sg E ss σ F H→i < xs.length→J.yld i H x H'→∃ p F',xs[i]?=some p∧Mv E ss σ F H F' H'∧Rep F' x p
structure Wi [Xw] (ss:List Slot) (wi:TI) (k:List PV→Prop):Prop where
  go:∀ (E:Ent) (σ:L2.St) (F H:Hp) (R:It→Hp→Prop),Sg E ss σ F H→(∀ J xs F' H',Mv E ss σ F H F' H'→Src E F' J xs→k xs→R J H')→wi σ H R
structure Wg [Xw] (ss:List Slot) (g:TG) (p:PV) (k:List Slot→Prop):Prop where
  go:∀ (E:Ent) (σ:L2.St) (F H:Hp) (v:V) (Q:L2.St→Hp→Prop),Sg E ss σ F H→Rep F v p→(∀ ss' σ',k ss'→Sg E ss' σ' F H→Q σ' H)→g v σ H Q
section
variable [Xw]
variable {E:Ent0} {ss:List Slot} {σ:L2.St} {F H F' H':Hp} {K:PySem.W.Frag} {ta tb tc te:TE} {k:PV→Prop} {v:V} {tp:Bool} {xs:List PV} {nx:List Slot→Prop} {R:Ret}
theorem src_sq {l:Addr} {vs:List V} (h:∀ (ss:List Slot) (σ:L2.St) (F H:Hp),Same F' F→Sg E ss σ F H→H l=some (HOq tp vs)) (r:Reps F' vs xs):Src E F' (Its K tp l vs) xs where
  go:=fun ss σ F H i s S hi=>⟨HOq.sq (h ss σ F H s S),by rw [r.length];exact hi⟩
  stop:=fun ss σ F H s S=>⟨HOq.sq (h ss σ F H s S),by rw [r.length];exact Nat.le_refl _⟩
  yld:=fun ss σ F H i x H' s S hi y=>by
    obtain ⟨e,hx⟩:=y
    subst e
    obtain ⟨p,hp,rp⟩:=r.get' hx
    exact ⟨p,F,hp,.refl S,rp.mono s⟩
theorem wi_sq {k:List PV→Prop} (h:Wz ss te fun _ xs=>k xs):Wi ss (iSq K te) k:=⟨fun E σ F H R S q=>
  h.go E σ F H _ S fun v tp xs F1 H1 m1 f kk=>by
    cases tp with
    | true=>
      have f':Rep F1 v (.tup xs):=f
      cases f' with
      | tup e r=>exact ⟨true,_,_,rfl,SqT.of (m1.st.fh _ _ e),q _ _ F1 H1 m1 (src_sq (tp:=true) (fun ss σ F H s S=>S.fh _ _ (s _ _ e)) r) kk⟩
    | false=>
      obtain ⟨l,vs,rfl,h1,r⟩:=f
      have hl:∀ (ss:List Slot) (σ:L2.St) (F H:Hp),Same F1 F→Sg E ss σ F H→H l=some (.lst vs):=fun ss σ F H s S=>by
        rcases h1 with h1 | ⟨hA,h1⟩
        · exact S.fh _ _ (s _ _ h1)
        · exact S.keep _ _ hA h1
      exact ⟨false,l,vs,rfl,SqL.of (hl ss σ F1 H1 (Same.refl _) m1.st),q _ _ F1 H1 m1 (src_sq (tp:=false) hl r) kk⟩⟩
def ZDz (n:Nat):List PV:=(List.range n).map fun i:Nat=>PV.int (i:Int)
theorem ZCD (n:Nat):(ZDz n).length=n:=by simp [ZDz]
theorem ZFp {n i:Nat} {p:PV} (h:(ZDz n)[i]?=some p):i < n∧p=.int (i:Int):=by
  have hi:i < n:=by have:=(List.getElem?_eq_some_iff.mp h).1;rwa [ZCD] at this
  unfold ZDz at h
  rw [List.getElem?_map,List.getElem?_range hi] at h
  exact ⟨hi,(Option.some.inj h).symm⟩
theorem wi_rng {k:List PV→Prop} (h:Wp ss te fun p=>∃ j:Int,p=.int j∧j≤1000000∧-1000000≤j∧k (ZDz j.toNat)):Wi ss (iRng1 (ZA9 te ZAa)) k:=⟨fun E σ F H R S q=>
  h.go E σ F H _ S fun v p F1 H1 m1 r ⟨j,e,h1,h2,kk⟩=>by
    subst e;cases r
    refine ⟨j,rfl,by omega,by omega,q _ (ZDz j.toNat) F1 H1 m1 ⟨fun ss σ F H i s S hi=>?_,fun ss σ F H s S=>?_,fun ss σ F H i x H' s S hi y=>?_⟩ kk⟩
    · rw [ZCD] at hi;exact hi
    · show _≤_
      rw [ZCD];exact Nat.le_refl _
    · obtain ⟨e,hx⟩:=y
      subst e;subst hx
      rw [ZCD] at hi
      refine ⟨.int (i:Int),F,?_,.refl S,?_⟩
      · unfold ZDz;rw [List.getElem?_map,List.getElem?_range hi];rfl
      · rw [Int.zero_add];exact .int _⟩
theorem ZCH {j:Nat} {p:PV} {k:List Slot→Prop} (h:k (ss.set j (.is p))):Wg ss (ZBq j) p k:=⟨fun E σ F H v Q S r q=>q _ _ h (S.setIs r)⟩
theorem ZI3 {i j:Nat} {p:PV} {k:List Slot→Prop} (h:∃ a b,p=.tup [a,b]∧k ((ss.set i (.is a)).set j (.is b))):Wg ss (gTup K 2 (ZEQ (ZBq i) (ZEQ (ZBq j) gNil))) p k:=⟨fun E σ F H v Q S r q=>by
  obtain ⟨a,b,rfl,kk⟩:=h
  cases r with
  | tup e r=>
    cases r with
    | cons r1 r=>cases r with
      | cons r2 r=>cases r with
        | nil=>exact ⟨_,_,rfl,SqT.of (S.fh _ _ e),rfl,_,_,rfl,_,_,rfl,rfl,q _ _ kk ((S.setIs r1).setIs r2)⟩⟩
theorem ZGL {i j l:Nat} {p:PV} {k:List Slot→Prop} (h:∃ a b c,p=.tup [a,b,c]∧k (((ss.set i (.is a)).set j (.is b)).set l (.is c))):Wg ss (gTup K 3 (ZEQ (ZBq i) (ZEQ (ZBq j) (ZEQ (ZBq l) gNil)))) p k:=⟨fun E σ F H v Q S r q=>by
  obtain ⟨a,b,c,rfl,kk⟩:=h
  cases r with
  | tup e r=>
    cases r with
    | cons r1 r=>cases r with
      | cons r2 r=>cases r with
        | cons r3 r=>cases r with
          | nil=>exact ⟨_,_,rfl,SqT.of (S.fh _ _ e),rfl,_,_,rfl,_,_,rfl,_,_,rfl,rfl,q _ _ kk (((S.setIs r1).setIs r2).setIs r3)⟩⟩
theorem ZAb {t u:TS} (h:Ws ss t (fun ss'=>Ws ss' u nx R) R):Ws ss (tSeq t u) nx R:=⟨fun E D σ F H S hn hr=>
  h.go E { D with nx:=u D } σ F H S (fun ss' σ' F' H' w S' s=>w.go E D σ' F' H' S' (fun ss2 σ2 F2 H2 n2 S2 s2=>hn ss2 σ2 F2 H2 n2 S2 (s.trans s2)) hr) hr⟩
theorem ZCV {t:TS} (h:Ws ss t nx R):Ws ss (tCut t) nx R:=⟨fun E D σ F H S hn hr=>⟨D.nx,h.go E { D with nx:=D.nx } σ F H S hn hr,fun _ _ q=>q⟩⟩
theorem Ws.mono {t:TS} {nx':List Slot→Prop} (h:Ws ss t nx R) (i:∀ s,nx s→nx' s):Ws ss t nx' R:=⟨fun E D σ F H S hn hr=>h.go E D σ F H S (fun ss' σ' F' H' n=>hn ss' σ' F' H' (i _ n)) hr⟩
theorem ZC0 {t u:TS} (J:List Slot→Prop) (h:Ws ss t J R) (h2:∀ ss',J ss'→Ws ss' u nx R):Ws ss (tSeq t u) nx R:=ZAb (h.mono h2)
theorem ZD1 {i:Nat} (h:Wp ss te fun p=>nx (ss.set i (.is p))):Ws ss (tAsg te (ZBq i)) nx R:=⟨fun E D σ F H S hn hr=>
  h.go E σ F H _ S fun v p F1 H1 m1 r kk=>hn _ _ F1 H1 kk (m1.st.setIs r) m1.ff⟩
theorem ws_asgG {g:TG} (h:Wp ss te fun p=>Wg ss g p nx):Ws ss (tAsg te g) nx R:=⟨fun E D σ F H S hn hr=>
  h.go E σ F H _ S fun v p F1 H1 m1 r kk=>kk.go E σ F1 H1 v _ m1.st r fun ss' σ' n S'=>hn _ _ F1 H1 n S' m1.ff⟩
theorem ZE8 {i:Nat} (h:Wn ss te fun xs=>nx (ss.set i (.own xs))):Ws ss (tAsg te (ZBq i)) nx R:=⟨fun E D σ F H S hn hr=>
  h.go E σ F H _ S fun l vs xs F1 H1 m1 fl hl hl1 r kk=>hn _ _ F1 H1 kk (m1.st.setG ⟨l,vs,rfl,fl,S.new0 hl,hl1,r⟩ fun l' e j u _ hu mu=>by cases e;exact S.newAddr hu hl mu) m1.ff⟩
theorem ZAh {k:PV→Prop} (h:Wp ss te k):Ws ss (tRet te) nx (.is k):=⟨fun E D σ F H S hn hr=>
  h.go E σ F H _ S fun v p F1 H1 m1 r kk=>hr v F1 H1 m1.st.toFin ⟨p,r,kk⟩⟩
theorem ws_retN {k:List PV→Prop} (h:Wn ss te k):Ws ss (tRet te) nx (.new k):=⟨fun E D σ F H S hn hr=>
  h.go E σ F H _ S fun l vs xs F1 H1 m1 fl hl hl1 r kk=>hr _ F1 H1 m1.st.toFin ⟨l,vs,xs,rfl,fl,S.new0 hl,hl1,r,kk⟩⟩
theorem ws_retO {i:Nat} {k:List PV→Prop} (h:ss[i]?=some (.own xs)) (kk:k xs):Ws ss (tRet (ZBK i)) nx (.new k):=⟨fun E D σ F H S hn hr=>by
  obtain ⟨l,vs,e,e1,e2,e3,r⟩:=S.ok i _ h
  exact ⟨_,e,hr _ F H S.toFin ⟨l,vs,xs,rfl,e1,e2,e3,r,kk⟩⟩⟩
theorem ZC5 {c:TT} {t u:TS} (h:Wt ss c fun b=>if b=true then Ws ss t nx R else Ws ss u nx R):Ws ss (tIfS c t u) nx R:=⟨fun E D σ F H S hn hr=>
  h.go E σ F H _ S fun b F1 H1 m1 w=>by
    show if b=true then _ else _
    cases b with
    | true=>rw [if_pos rfl] at w ⊢;exact w.go E D σ F1 H1 m1.st (fun ss2 σ2 F2 H2 n S2 s2=>hn ss2 σ2 F2 H2 n S2 (m1.ff.trans s2)) hr
    | false=>rw [if_neg (by decide)] at w ⊢;exact w.go E D σ F1 H1 m1.st (fun ss2 σ2 F2 H2 n S2 s2=>hn ss2 σ2 F2 H2 n S2 (m1.ff.trans s2)) hr⟩
theorem ZAD (h:nx ss):Ws ss tNext nx R:=⟨fun E D σ F H S hn hr=>hn ss σ F H h S (Same.refl _)⟩
theorem ZE3 (h:Wp ss te fun _=>nx ss):Ws ss (ZEJ te) nx R:=⟨fun E D σ F H S hn hr=>
  h.go E σ F H _ S fun v p F1 H1 m1 r kk=>hn ss σ F1 H1 kk m1.st m1.ff⟩
theorem Sg.drop (S:Sg E ss σ F H) (i:Nat):Sg E (ss.set i .any) σ F H:=by
  have at1:∀ (j:Nat) u,(ss.set i .any)[j]?=some u→u=.any∨ss[j]?=some u:=fun j u hj=>by
    by_cases q:j=i
    · subst q
      have hlt:j < ss.length:=by have:=(List.getElem?_eq_some_iff.mp hj).1;simpa using this
      rw [List.getElem?_set_self hlt] at hj
      exact .inl (Option.some.inj hj).symm
    · rw [List.getElem?_set_ne (Ne.symm q)] at hj;exact .inr hj
  refine ⟨S.toFin,by rw [List.length_set];exact S.len,fun j u hj=>?_,fun j k u w l hjk hj hk mu mw=>?_⟩
  · rcases at1 j u hj with rfl | h
    · trivial
    · exact S.ok j u h
  · rcases at1 j u hj with rfl | h
    · cases mu
    · rcases at1 k w hk with rfl | h2
      · cases mw
      · exact S.dis j k u w l hjk h h2 mu mw
theorem ZEB {i:Nat} {v:V} (e:σ[i]?=some (some v)):σ.set i (some v)=σ:=by
  apply List.ext_getElem?
  intro j
  by_cases q:j=i
  · subst q
    rw [List.getElem?_set_self (List.getElem?_eq_some_iff.mp e).1,e]
  · rw [List.getElem?_set_ne (Ne.symm q)]
theorem Sg.poke (S:Sg E ss σ F H) {a:Addr} {o:HO} (fa:F a=none) (h0:E.H0 a=none∨a∈E.B) (hn:∀ (i:Nat) s,ss[i]?=some s→¬ ZB1 s σ[i]? a):Sg E ss σ F (upd H a o):=by
  have hb:∀ b u,b≠a→H b=some u→upd H a o b=some u:=fun b u h e=>by rw [ZA5 h];exact e
  refine ⟨⟨fun b u e=>?_,S.f0,fun b u hA e=>?_,S.fresh,fun b hA=>?_,S.potF,S.a0,S.bF,fun b hB=>?_,S.b0⟩,S.len,fun i s hi=>?_,S.dis⟩
  · exact hb b u (ZAF e fa) (S.fh b u e)
  · refine hb b u ?_ (S.keep b u hA e)
    rintro rfl
    rcases h0 with h0 | h0
    · rw [h0] at e;cases e
    · exact hA.2 h0
  · refine Pot.keep (S.pots b hA) fun u e=>hb b u ?_ e
    rintro rfl
    rcases h0 with h0 | h0
    · exact S.a0 _ hA h0
    · exact (S.b0 _ h0).2 hA
  · by_cases q:b=a
    · subst q;rw [ZA3];simp
    · rw [ZA5 q];exact S.bH b hB
  · by_cases np:s=.pot
    · subst np
      obtain ⟨l,e,e1,e2,e3⟩:=S.ok i _ hi
      exact ⟨l,e,e1,e2,Pot.keep e3 fun u h=>hb l u (by rintro rfl;exact hn i _ hi e) h⟩
    · exact Ok.go S hi (Same.refl _) (fun b u m h=>hb b u (by rintro rfl;exact hn i _ hi m) h) (fun _ _ h=>h) np
theorem Sg.put (S:Sg E ss σ F H) {i:Nat} {l:Addr} {vs':List V} {xs ys:List PV} (hi:ss[i]?=some (.own xs)) (e:σ[i]?=some (some (.ref l))) (fl:F l=none) (h0:E.H0 l=none) (r:Reps F vs' ys):Sg E (ss.set i (.own ys)) σ F (upd H l (.lst vs')):=by
  have ne1:∀ (j:Nat) s,(ss.set i .any)[j]?=some s→¬ ZB1 s σ[j]? l:=fun j s hj mj=>by
    by_cases q:j=i
    · subst q
      have hlt:j < ss.length:=(List.getElem?_eq_some_iff.mp hi).1
      rw [List.getElem?_set_self hlt] at hj
      cases hj;cases mj
    · rw [List.getElem?_set_ne (Ne.symm q)] at hj
      exact S.dis j i s _ l q hj hi mj e
  have S2:=(S.drop i).poke (o:=.lst vs') fl (.inl h0) ne1
  have S3:=S2.setG (j:=i) (s:=.own ys) (v:=.ref l) ⟨l,vs',rfl,fl,h0,ZA3,r⟩ fun l' e' j u hj hu mu=>by cases e';exact ne1 j u hu mu
  rw [ZEB e,List.set_set] at S3
  exact S3
theorem ZDi {i:Nat} (hi:ss[i]?=some (.own xs)) (h:Wp ss te fun p=>xs.length≤99999∧nx (ss.set i (.own (xs++[p])))):Ws ss (ZEJ (tBM K "list" ZGC (ZBK i) (ZA9 te ZAa))) nx R:=⟨fun E D σ F H S hn hr=>by
  obtain ⟨l,vs,e,e1,e2,e3,r⟩:=S.ok i _ hi
  refine ⟨_,e,.inl ⟨rfl,_,SqL.of e3⟩,h.go E σ F H _ S fun v p F1 H1 m1 rv ⟨hz,kk⟩=>?_⟩
  obtain ⟨l',vs',e',e1',e2',e3',r'⟩:=m1.st.ok i _ hi
  rw [e] at e'
  cases e'
  refine ⟨l,vs',v,rfl,rfl,e3',ZGE (by rw [r'.length];exact hz),?_⟩
  exact hn _ σ F1 _ kk (m1.st.put hi e e1' e2' (r'.append (.one rv))) m1.ff⟩
theorem ZFF {i:Nat} (hi:ss[i]?=some (.own xs)) (h:Wp ss ta fun a=>∃ j:Int,a=.int j∧0≤j∧j≤xs.length∧Wp ss te fun p=>xs.length≤99999∧nx (ss.set i (.own (xs.take j.toNat++p :: xs.drop j.toNat)))) :
    Ws ss (ZEJ (tBM K "list" ZGQ (ZBK i) (ZA9 ta (ZA9 te ZAa)))) nx R:=⟨fun E D σ F H S hn hr=>by
  obtain ⟨l,vs,e,e1,e2,e3,r⟩:=S.ok i _ hi
  refine ⟨_,e,.inl ⟨rfl,_,SqL.of e3⟩,h.go E σ F H _ S fun v1 p1 F1 H1 m1 rv1 ⟨j,ej,j0,j1,h2⟩=>?_⟩
  subst ej;cases rv1
  refine h2.go E σ F1 H1 _ m1.st fun v p F2 H2 m2 rv ⟨hz,kk⟩=>?_
  obtain ⟨l',vs',e',e1',e2',e3',r'⟩:=m2.st.ok i _ hi
  rw [e] at e'
  cases e'
  refine ⟨l,vs',j,v,rfl,rfl,e3',j0,by rw [r'.length];exact j1,ZGE (by rw [r'.length];exact hz),?_⟩
  exact hn _ σ F2 _ kk (m2.st.put hi e e1' e2' ((r'.take _).append (.cons rv (r'.drop _)))) (m1.ff.trans m2.ff)⟩
theorem ZHG {i:Nat} (hi:ss[i]?=some (.own xs)) (h:nx (ss.set i (.own xs.reverse))):Ws ss (ZEJ (tBM0 K "list" rReverse (ZBK i))) nx R:=⟨fun E D σ F H S hn hr=>by
  obtain ⟨l,vs,e,e1,e2,e3,r⟩:=S.ok i _ hi
  exact ⟨_,e,.inl ⟨rfl,_,SqL.of e3⟩,l,vs,rfl,rfl,e3,hn _ σ F _ h (S.put hi e e1 e2 r.reverse) (Same.refl _)⟩⟩
def layH (F H:Hp) (as:List Addr):Hp:=fun a=>if a∈as then H a else F a
theorem Sg.lay (S:Sg E ss σ F H) (as:List Addr) (h0:∀ a∈as,F a=none∧E.H0 a=none∧H a≠none) (hn:∀ a∈as,∀ (i:Nat) s,ss[i]?=some s→¬ ZB1 s σ[i]? a):Sg E ss σ (layH F H as) H∧Same F (layH F H as):=by
  have hin:∀ a,a∈as→layH F H as a=H a:=fun a h=>if_pos h
  have hout:∀ a,a∉as→layH F H as a=F a:=fun a h=>if_neg h
  have ff:Same F (layH F H as):=fun a o e=>by
    by_cases q:a∈as
    · rw [(h0 a q).1] at e;cases e
    · rw [hout a q];exact e
  have nF:∀ a,a∉as→F a=none→layH F H as a=none:=fun a q h=>by rw [hout a q];exact h
  refine ⟨⟨⟨fun a o e=>?_,S.f0.trans ff,S.keep,fun a o e=>?_,S.pots,fun a hA=>?_,S.a0,fun a hB=>?_,S.bH,S.b0⟩,S.len,fun i s hi=>?_,S.dis⟩,ff⟩
  · by_cases q:a∈as
    · rw [hin a q] at e;exact e
    · rw [hout a q] at e;exact S.fh a o e
  · by_cases q:a∈as
    · exact .inr (h0 a q).2.1
    · rw [hout a q] at e;exact S.fresh a o e
  · exact nF a (fun q=>S.a0 a hA (h0 a q).2.1) (S.potF a hA)
  · exact nF a (fun q=>(S.b0 a hB).1 (h0 a q).2.1) (S.bF a hB)
  · have no:∀ a,ZB1 s σ[i]? a→a∉as:=fun a m q=>hn a q i s hi m
    have kk:=S.ok i s hi
    cases s with
    | any=>trivial
    | is p=>obtain ⟨v,e,r⟩:=kk;exact ⟨v,e,r.mono ff⟩
    | own ys=>
      obtain ⟨l',ws,q,q1,q2,q3,r⟩:=kk
      exact ⟨l',ws,q,nF l' (no l' q) q1,q2,q3,r.mono ff⟩
    | pot=>
      obtain ⟨l',q,q1,q2,q3⟩:=kk
      exact ⟨l',q,nF l' (no l' q) q1,q2,q3⟩
    | sq tp ys=>
      cases tp with
      | true=>obtain ⟨v,e,r⟩:=kk;exact ⟨v,e,r.mono ff⟩
      | false=>obtain ⟨l',ws,q,q1,q2,r⟩:=kk;exact ⟨l',ws,q,q1,q2,r.mono ff⟩
    | raw P=>obtain ⟨v,e,r,st⟩:=kk;exact ⟨v,e,st _ _ ff r,st⟩
    | ow lt t=>
      obtain ⟨v,e,r,nd,q⟩:=kk
      exact ⟨v,e,r.mono ff fun a _ o h=>h,nd,fun a ha=>⟨nF a (no a ha) (q a ha).1,(q a ha).2⟩⟩
theorem ZCh {t:TS} (i:Nat) (hi:ss[i]?=some (.own xs)) (h:Ws (ss.set i (.is (.lst xs))) t nx R):Ws ss t nx R:=⟨fun E D σ F H S hn hr=>by
  obtain ⟨l,vs,e,e1,e2,e3,r⟩:=S.ok i _ hi
  have one:∀ a,a∈[l]→a=l:=fun a h=>by simpa using h
  obtain ⟨S1,nf⟩:=(S.drop i).lay [l] (fun a h=>by rw [one a h,e3];exact ⟨e1,e2,by simp⟩) fun a h j s hj m=>by
    rw [one a h] at m
    by_cases q:j=i
    · subst q
      rw [List.getElem?_set_self (List.getElem?_eq_some_iff.mp hi).1] at hj
      cases hj;cases m
    · rw [List.getElem?_set_ne (Ne.symm q)] at hj
      exact S.dis j i s _ l q hj hi m e
  have S2:=S1.setIs (j:=i) (v:=.ref l) (p:=.lst xs) (.lst (by unfold layH;rw [if_pos (by simp)];exact e3) (r.mono nf))
  rw [ZEB e,List.set_set] at S2
  exact h.go E D σ _ H S2 (fun ss2 σ2 F2 H2 n S2 s2=>hn ss2 σ2 F2 H2 n S2 (nf.trans s2)) hr⟩
theorem ZBp {wi:TI} {g:TG} {tb:TS} (I:List PV→Nat→List Slot→Prop) (h:Wi ss wi fun xs=>I xs 0 ss∧(∀ (i:Nat) p ss',xs[i]?=some p→I xs i ss'→Wg ss' g p fun ss2=>Ws ss2 tb (I xs (i+1)) R)∧∀ ss',I xs xs.length ss'→nx ss'):Ws ss (tFor wi g tb) nx R:=⟨fun E D σ F H S hn hr=>
  h.go E σ F H _ S fun J xs F1 H1 m1 sr ⟨i0,hs,hd⟩=>by
    refine ⟨fun i m σ' H'=>m=xs.length - i∧i≤xs.length∧∃ ss' F',I xs i ss'∧Sg E ss' σ' F' H'∧Same F1 F',⟨_,rfl,Nat.zero_le _,ss,F1,i0,m1.st,Same.refl _⟩,?_⟩
    rintro i m σ' H' ⟨rfl,hi,ss',F',hI,S',s'⟩
    by_cases hlt:i < xs.length
    · refine .inr ⟨sr.go ss' σ' F' H' i s' S' hlt,fun σ2 H2=>∃ ss2 F2,I xs (i+1) ss2∧Sg E ss2 σ2 F2 H2∧Same F1 F2,fun σ2 H2 ⟨ss2,F2,a,b,c⟩=>⟨_,by omega,rfl,hlt,ss2,F2,a,b,c⟩,fun x H3 y=>?_⟩
      obtain ⟨p,F3,hp,m3,rp⟩:=sr.yld ss' σ' F' H' i x H3 s' S' hlt y
      refine (hs i p ss' hp hI).go E σ' F3 H3 x _ m3.st rp fun ss4 σ4 w S4=>?_
      exact w.go E _ σ4 F3 H3 S4 (fun ss5 σ5 F5 H5 n5 S5 s5=>⟨ss5,F5,n5,S5,(s'.trans m3.ff).trans s5⟩) hr
    · have e:i=xs.length:=by omega
      subst e
      exact .inl ⟨sr.stop ss' σ' F' H' s' S',hn ss' σ' F' H' (hd ss' hI) S' (m1.ff.trans s')⟩⟩
end
def ZCS (js:List Nat) (ss:List Slot):List Slot:=js.map fun j=>(ss[j]?).getD .any
def noPot (js:List Nat) (ss:List Slot):Bool:=js.all fun j=>match ss[j]? with
  | some .pot=>false
  | _=>true
section
variable [Xw]
variable {E:Ent0} {ss:List Slot} {σ:L2.St} {F H F' H':Hp} {K:PySem.W.Frag} {js:List Nat}
theorem capS_at {i:Nat} {s:Slot} {j:Nat} (h:js[i]?=some j) (e:(ZCS js ss)[i]?=some s):s=(ss[j]?).getD .any:=by
  unfold ZCS at e
  rw [List.getElem?_map,h] at e
  exact (Option.some.inj e).symm
theorem Sg.caps (S:Sg E ss σ F H) (nd:js.Nodup) {vs:List V} {ps:List PV} (r:Reps F vs ps):Sg E (ZCS js ss++ps.map .is) (ZAg js σ++vs.map some) F H:=by
  have hl:(ZCS js ss).length=js.length:=by simp [ZCS]
  have hl2:(ZAg js σ).length=js.length:=by simp [ZAg]
  have at1:∀ (i:Nat) (hi:i < js.length),(ZCS js ss++ps.map .is)[i]?=some ((ss[js[i]]?).getD .any)∧(ZAg js σ++vs.map some)[i]?=some ((σ[js[i]]?).join):=fun i hi=>by
    rw [List.getElem?_append_left (by rw [hl];exact hi),List.getElem?_append_left (by rw [hl2];exact hi)]
    unfold ZCS ZAg
    rw [List.getElem?_map,List.getElem?_map,List.getElem?_eq_getElem hi]
    exact ⟨rfl,rfl⟩
  have at2:∀ (i:Nat) s,js.length≤i→(ZCS js ss++ps.map .is)[i]?=some s→∃ p v,s=.is p∧(ZAg js σ++vs.map some)[i]?=some (some v)∧Rep F v p:=fun i s hi e=>by
    rw [List.getElem?_append_right (by rw [hl];exact hi),hl,List.getElem?_map] at e
    rw [List.getElem?_append_right (by rw [hl2];exact hi),hl2,List.getElem?_map]
    cases q:ps[i - js.length]? with
    | none=>rw [q] at e;cases e
    | some p=>
      rw [q] at e
      obtain ⟨v,hv,rv⟩:=r.get q
      rw [hv]
      exact ⟨p,v,(Option.some.inj e).symm,rfl,rv⟩
  have fx:∀ (s:Slot) (m:Nat) (l:Addr),ZB1 s (some (σ[m]?).join) l→ZB1 s σ[m]? l:=fun s m l o=>by
    have fy:∀ l,some (σ[m]?).join=some (some (V.ref l))→σ[m]?=some (some (.ref l)):=fun l e=>by
      cases q:σ[m]? with
      | none=>rw [q] at e;cases e
      | some o=>rw [q] at e;cases o with
        | none=>cases e
        | some v=>simpa using e
    cases s with
    | own xs=>exact fy l o
    | pot=>exact fy l o
    | ow lt t=>exact o
    | _=>exact o
  have sm:∀ (i:Nat) s l,(ZCS js ss++ps.map .is)[i]?=some s→ZB1 s (ZAg js σ++vs.map some)[i]? l→∃ hi:i < js.length,ss[js[i]]?=some s∧ZB1 s σ[js[i]]? l:=fun i s l e m=>by
    by_cases hi:i < js.length
    · rw [(at1 i hi).2] at m
      refine ⟨hi,?_,fx s _ l m⟩
      rw [(at1 i hi).1] at e
      cases q:ss[js[i]]? with
      | none=>rw [q] at e;cases e;cases m
      | some u=>rw [q] at e;exact e
    · obtain ⟨p,v,rfl,_⟩:=at2 i s (by omega) e
      cases m
  refine ⟨S.toFin,?_,fun i s e=>?_,fun i j s u l hij hi hj ms mu=>?_⟩
  · rw [List.length_append,List.length_append,hl,hl2,List.length_map,List.length_map,r.length]
  · by_cases hi:i < js.length
    · obtain ⟨a,b⟩:=at1 i hi
      rw [a] at e
      rw [b]
      cases q:ss[js[i]]? with
      | none=>rw [q] at e;cases e;trivial
      | some u=>
        rw [q] at e
        have eu:u=s:=Option.some.inj e
        subst eu
        have kk:=S.ok _ _ q
        cases u with
        | any=>trivial
        | is p=>obtain ⟨v,e,r⟩:=kk;rw [e];exact ⟨v,rfl,r⟩
        | own xs=>obtain ⟨l,vs,e,r⟩:=kk;rw [e];exact ⟨l,vs,rfl,r⟩
        | pot=>obtain ⟨l,e,r⟩:=kk;rw [e];exact ⟨l,rfl,r⟩
        | sq tp xs=>
          cases tp with
          | true=>obtain ⟨v,e,r⟩:=kk;rw [e];exact ⟨v,rfl,r⟩
          | false=>obtain ⟨l,vs,e,r⟩:=kk;rw [e];exact ⟨l,vs,rfl,r⟩
        | raw P=>obtain ⟨v,e,r⟩:=kk;rw [e];exact ⟨v,rfl,r⟩
        | ow lt t=>obtain ⟨v,e,r⟩:=kk;rw [e];exact ⟨v,rfl,r⟩
    · obtain ⟨p,v,rfl,hv,rv⟩:=at2 i s (by omega) e
      rw [hv];exact ⟨v,rfl,rv⟩
  · obtain ⟨li,qi,oi⟩:=sm i s l hi ms
    obtain ⟨lj,qj,oj⟩:=sm j u l hj mu
    refine S.dis js[i] js[j] s u l (fun e=>hij ?_) qi qj oi oj
    exact (List.getElem_inj nd).mp e
theorem Mv.out {ps:List PV} {τ:L2.St} (S:Sg E ss σ F H) (np:noPot js ss=true) (m:Mv E (ZCS js ss++ps.map .is) τ F H F' H'):Mv E ss σ F H F' H':=by
  have nn:∀ a,ZC1 (ZCS js ss++ps.map .is) τ a:=fun a i hi _=>by
    by_cases h:i < (ZCS js ss).length
    · rw [List.getElem?_append_left h] at hi
      have hj:i < js.length:=by simpa [ZCS] using h
      have q:=capS_at (List.getElem?_eq_getElem hj) hi
      have z:=List.all_eq_true.mp np js[i] (List.getElem_mem hj)
      cases w:ss[js[i]]? with
      | none=>rw [w] at q;cases q
      | some u=>rw [w] at q z;cases q;cases z
    · rw [List.getElem?_append_right (by omega),List.getElem?_map] at hi
      cases w:ps[i - (ZCS js ss).length]? with
      | none=>rw [w] at hi;cases hi
      | some p=>rw [w] at hi;cases hi
  have hk:∀ a o,H a=some o→H' a=some o:=fun a o e=>m.hh a o (nn a) e
  exact S.step m.ff m.st.fh (fun a o _ e=>hk a o e) m.nn fun i l hi e=>Pot.keep (S.potAt hi e) fun o e=>hk l o e
theorem ZHy {wi:TI} {tt:TT} {te:TE} {k:List PV→Prop} (f:PV→Bool) (g:PV→PV)
    (h:Wi ss wi fun xs=>xs.length≤100000∧(∀ x∈xs,Wt (ZCS js ss++[.is x]) tt fun b=>b=f x)∧(∀ x∈xs,f x=true→Wp (ZCS js ss++[.is x]) te fun p=>p=g x)∧k ((xs.filter f).map g))
    (nd:js.Nodup:=by decide) (np:noPot js ss=true:=by rfl):Wn ss (ZFi wi js tt te) k:=⟨fun E σ F H Q S q=>
  h.go E σ F H _ S fun J xs F1 H1 m1 sr ⟨hz,ht,he,kk⟩ acc hacc=>by
    have npa:ZC1 ss σ acc:=m1.st.npotN hacc
    have h0a:=m1.st.new0 hacc
    have sla:∀ (i:Nat) s,ss[i]?=some s→¬ ZB1 s σ[i]? acc:=fun i s hi=>m1.st.newAddr hi hacc
    refine ⟨fun i m H2=>m=xs.length - i∧i≤xs.length∧∃ F2 vs,Mv E ss σ F1 H1 F2 H2∧F2 acc=none∧H2 acc=some (.lst vs)∧Reps F2 vs (((xs.take i).filter f).map g),⟨_,rfl,Nat.zero_le _,F1,[],m1.st.make hacc _,m1.st.newF hacc,ZA3,.nil⟩,?_⟩
    rintro i m H2 ⟨rfl,hi,F2,vs,m2,fa,ha,rv⟩
    by_cases hlt:i < xs.length
    · refine .inr ⟨sr.go ss σ F2 H2 i m2.ff m2.st hlt,fun x H3 y=>?_⟩
      obtain ⟨p,F3,hp,m3,rp⟩:=sr.yld ss σ F2 H2 i x H3 m2.ff m2.st hlt y
      have hpm:p∈xs:=List.mem_of_getElem? hp
      have htk:(xs.take (i+1))=xs.take i++[p]:=by
        have e2:xs[i]=p:=by rw [List.getElem?_eq_getElem hlt] at hp;exact Option.some.inj hp
        rw [List.take_succ_eq_append_getElem hlt,e2]
      have e1:List.filter f (xs.take (i+1))=(xs.take i).filter f++(if f p=true then [p] else []):=by
        rw [htk,List.filter_append];congr 1
        by_cases hf:f p=true <;> simp [hf]
      have notF:∀ {F4:Hp},(∀ a o,F4 a=some o→F2 a=some o∨H2 a=none)→F4 acc=none:=fun {F4} n=>by
        cases e:F4 acc with
        | none=>rfl
        | some o=>
          rcases n acc o e with w | w
          · rw [fa] at w;cases w
          · rw [ha] at w;cases w
      have S3:=m3.st.caps (js:=js) nd (.one rp)
      refine (ht p hpm).go E _ F3 H3 _ S3 fun b F4 H4 m4 hb=>?_
      have m34:=m3.trans (m4.out (ps:=[p]) m3.st np)
      show if b=true then _ else _
      rw [hb]
      by_cases hf:f p=true
      · rw [if_pos hf]
        have S4:=m34.st.caps (js:=js) nd (.one (rp.mono (m4.out (ps:=[p]) m3.st np).ff))
        refine (he p hpm hf).go E _ F4 H4 _ S4 fun w pw F5 H5 m5 rw5 ew=>?_
        have m45:=m4.out (ps:=[p]) m3.st np
        have m5':=m5.out (ps:=[p]) m34.st np
        have m25:=m34.trans m5'
        have ha5:=m25.hh acc _ npa ha
        have fa5:=notF m25.nn
        have hlen:vs.length≤99999:=by
          rw [rv.length,List.length_map]
          have:=List.length_filter_le f (xs.take i)
          rw [List.length_take] at this
          omega
        refine ⟨vs,ha5,ZGE hlen,xs.length - (i+1),by omega,rfl,hlt,F5,vs++[w],?_,fa5,ZA3,?_⟩
        · have m15:=m2.trans m25
          refine ⟨m15.st.poke fa5 (.inl h0a) sla,m15.ff,fun a o n e=>?_,m15.nn⟩
          rw [ZA5 (ZAF e hacc)];exact m15.hh a o n e
        · rw [e1,if_pos hf,List.map_append]
          rw [ew] at rw5
          exact (rv.mono m25.ff).append (.one rw5)
      · have hf':f p=false:=by simpa using hf
        rw [hf',if_neg (by decide)]
        refine ⟨xs.length - (i+1),by omega,rfl,hlt,F4,vs,m2.trans m34,notF m34.nn,m34.hh acc _ npa ha,?_⟩
        rw [e1,if_neg hf,List.append_nil]
        exact rv.mono m34.ff
    · have e:i=xs.length:=by omega
      subst e
      refine .inl ⟨sr.stop ss σ F2 H2 m2.ff m2.st,q acc vs _ F2 H2 (m1.trans m2) fa (m1.none hacc) ha ?_ kk⟩
      rw [List.take_length] at rv
      exact rv⟩
end
abbrev Pre:=List Slot→Ret→Prop
def spF (pre:Pre):Sp:=fun vs H Q _=>∃ (ss:List Slot) (R:Ret) (F:Hp) (A:List Addr),pre ss R∧Sg (E3 A F H) ss (vs.map some) F H∧∀ v F' H',Fin (E3 A F H) F' H'→R.ok (E3 A F H) F' H' v→Q v H'
section
variable [Xw]
variable {E:Ent0} {ss:List Slot} {σ:L2.St} {F H F' H':Hp} {pre:Pre} {t:TA} {k:PV→Prop}
theorem Avs.at {vs:List V} {l:List Slot} (h:Avs ss σ F H vs l):∀ {i:Nat} {s:Slot},l[i]?=some s→∃ v,vs[i]?=some v∧Av ss σ F H v s:=by
  induction h with
  | nil=>intro i s e;simp at e
  | cons a _ ih=>
    intro i s e
    cases i with
    | zero=>simp at e;subst e;exact ⟨_,rfl,a⟩
    | succ i=>exact ih (by simpa using e)
theorem Avs.len {vs:List V} {l:List Slot} (h:Avs ss σ F H vs l):l.length=vs.length:=by
  induction h with
  | nil=>rfl
  | cons a _ ih=>rw [List.length_cons,List.length_cons,ih]
theorem Av.ok {A:List Addr} {v:V} {s:Slot} (S:Sg E ss σ F H) (a:Av ss σ F H v s) (hA:∀ l,ZC1 ss σ l→l∉A):Ok (E3 A F H) F H s (some (some v))∧∀ o l,¬ ZB1 s o l:=by
  cases s with
  | is p=>exact ⟨⟨v,rfl,a⟩,fun _ _ z=>z⟩
  | sq tp xs=>
    cases tp with
    | true=>exact ⟨⟨v,rfl,a⟩,fun _ _ z=>z⟩
    | false=>obtain ⟨l,vs,rfl,n,h,r⟩:=a;exact ⟨⟨l,vs,rfl,⟨hA l n,List.not_mem_nil⟩,h,r⟩,fun _ _ z=>z⟩
  | raw P=>exact ⟨⟨v,rfl,a⟩,fun _ _ z=>z⟩
  | any=>exact a.elim
  | own xs=>exact a.elim
  | pot=>exact a.elim
  | ow lt t=>exact a.elim
theorem Sg.call0 (S:Sg E ss σ F H) {vs:List V} {l:List Slot} (a:Avs ss σ F H vs l):Sg (E3 [] F H) l (vs.map some) F H:=by
  have nn:∀ {p:Prop} (a:Addr),a∈([]:List Addr)→p:=fun a h=>absurd h List.not_mem_nil
  refine ⟨⟨S.fh,Same.refl _,fun _ _ _ e=>e,fun _ _ e=>.inl e,fun a h=>nn a h,fun a h=>nn a h,fun a h=>nn a h,fun a h=>nn a h,fun a h=>nn a h,fun a h=>nn a h⟩,by rw [List.length_map];exact a.len,fun i s hi=>?_,fun i j s u l hij hi hj ms mu=>?_⟩
  · obtain ⟨v,hv,q⟩:=a.at hi
    rw [List.getElem?_map,hv]
    exact (q.ok S fun _ _ h=>absurd h List.not_mem_nil).1
  · obtain ⟨v,hv,q⟩:=a.at hi
    exact (q.ok S (A:=[]) fun _ _ h=>absurd h List.not_mem_nil).2 _ _ ms
theorem Sg.call1 (S:Sg E ss σ F H) {i0:Nat} {p:Addr} (hi:ss[i0]?=some .pot) (e:σ[i0]?=some (some (.ref p))) {vs:List V} {l:List Slot} (a:Avs ss σ F H vs l):Sg (E3 [p] F H) (.pot :: l) ((V.ref p :: vs).map some) F H:=by
  obtain ⟨p',e',fp,_,pp⟩:=S.ok i0 _ hi
  rw [e] at e'
  cases e'
  have hA:∀ l,ZC1 ss σ l→l∉[p]:=fun l n h=>by
    have:l=p:=by simpa using h
    subst this
    exact n i0 hi e
  have one:∀ a,a∈[p]→a=p:=fun a h=>by simpa using h
  have nn:∀ {p:Prop} (a:Addr),a∈([]:List Addr)→p:=fun a h=>absurd h List.not_mem_nil
  refine ⟨⟨S.fh,Same.refl _,fun _ _ _ e=>e,fun _ _ e=>.inl e,fun a h=>(one a h)▸pp,fun a h=>(one a h)▸fp,fun a h=>?_,fun a h=>nn a h,fun a h=>nn a h,fun a h=>nn a h⟩,by rw [List.length_map,List.length_cons,List.length_cons];rw [a.len],fun i s hi=>?_,fun i j s u l' hij hi hj ms mu=>?_⟩
  · rw [one a h]
    obtain ⟨_,_,q,_⟩:=pp
    show H p≠none
    rw [q];simp
  · cases i with
    | zero=>simp at hi;subst hi;exact ⟨p,rfl,fp,.inr (by simp),pp⟩
    | succ i=>
      obtain ⟨v,hv,q⟩:=a.at (i:=i) (s:=s) (by simpa using hi)
      have:((V.ref p :: vs).map some)[i+1]?=some (some v):=by rw [List.map_cons,List.getElem?_cons_succ,List.getElem?_map,hv];rfl
      rw [this]
      exact (q.ok S hA).1
  · have z:∀ (i:Nat) s o l',(Slot.pot :: l)[i]?=some s→ZB1 s o l'→i=0:=fun i s o l' h m=>by
      cases i with
      | zero=>rfl
      | succ i=>
        obtain ⟨v,hv,q⟩:=a.at (i:=i) (s:=s) (by simpa using h)
        exact ((q.ok S hA).2 _ _ m).elim
    exact absurd ((z i s _ _ hi ms).trans (z j u _ _ hj mu).symm) hij
theorem Sg.back (S:Sg E ss σ F H) {A:List Addr} (hA:∀ a,a∈A→∃ i:Nat,ss[i]?=some .pot∧σ[i]?=some (some (.ref a))) (f:Fin (E3 A F H) F' H'):Mv E ss σ F H F' H':=by
  refine S.step f.f0 f.fh (fun a o n e=>f.keep a o ⟨fun h=>?_,List.not_mem_nil⟩ e) f.fresh fun i l hi e=>?_
  · obtain ⟨i,q1,q2⟩:=hA a h
    exact n i q1 q2
  · by_cases q:l∈A
    · exact f.pots l q
    · exact Pot.keep (S.potAt hi e) fun o e=>f.keep l o ⟨q,List.not_mem_nil⟩ e
theorem ZBX (h:Wa ss t fun l=>∃ k',pre l (.is k')∧∀ p,k' p→k p):Wp ss (ZBJ (spF pre) [] E0 t) k:=⟨fun E σ F H Q S q=>
  h.go E σ F H _ S fun vs l F1 H1 m1 a ⟨k',hp,kk⟩=>by
    rw [List.append_nil]
    refine ⟨l,.is k',F1,[],hp,m1.st.call0 a,fun v F' H' f ⟨p,r,kp⟩=>?_⟩
    exact q v p F' H' (m1.trans (m1.st.back (fun _ h=>absurd h List.not_mem_nil) f)) r (kk p kp)⟩
theorem wp_callP {i:Nat} (hi:ss[i]?=some .pot) (h:Wa ss t fun l=>∃ k',pre (.pot :: l) (.is k')∧∀ p,k' p→k p):Wp ss (ZBJ (spF pre) [] E0 (ZA9 (ZBK i) t)) k:=⟨fun E σ F H Q S q=>by
  obtain ⟨p,e,_⟩:=S.ok i _ hi
  refine ⟨_,e,h.go E σ F H _ S fun vs l F1 H1 m1 a ⟨k',hp,kk⟩=>?_⟩
  show spF pre ((V.ref p :: vs)++[]) H1 Q E0
  rw [List.append_nil]
  refine ⟨.pot :: l,.is k',F1,[p],hp,m1.st.call1 hi e a,fun v F' H' f ⟨pv,r,kp⟩=>?_⟩
  exact q v pv F' H' (m1.trans (m1.st.back (A:=[p]) (fun a h=>⟨i,hi,(show a=p from by simpa using h)▸e⟩) f)) r (kk pv kp)⟩
theorem Sg.grown (S:Sg E ss σ F H) (n:Nat):Sg E (ss++List.replicate n .any) (σ++List.replicate n none) F H:=by
  have at1:∀ (i:Nat) s,(ss++List.replicate n .any)[i]?=some s→s≠.any→ss[i]?=some s∧(σ++List.replicate n none)[i]?=σ[i]?:=fun i s e hs=>by
    by_cases h:i < ss.length
    · rw [List.getElem?_append_left h] at e
      rw [List.getElem?_append_left (by rw [← S.len];exact h)]
      exact ⟨e,rfl⟩
    · rw [List.getElem?_append_right (by omega),List.getElem?_replicate] at e
      split at e
      · exact absurd (Option.some.inj e).symm hs
      · cases e
  refine ⟨S.toFin,by simp [S.len],fun i s e=>?_,fun i j s u l hij hi hj ms mu=>?_⟩
  · cases s with
    | any=>trivial
    | _=>obtain ⟨a,b⟩:=at1 i _ e (by simp);rw [b];exact S.ok i _ a
  · have ns:s≠.any:=by rintro rfl;cases ms
    have nu:u≠.any:=by rintro rfl;cases mu
    obtain ⟨a,b⟩:=at1 i s hi ns
    obtain ⟨c,d⟩:=at1 j u hj nu
    rw [b] at ms
    rw [d] at mu
    exact S.dis i j s u l hij a c ms mu
end
section
variable {E:Ent0} {ss:List Slot} {σ:L2.St} {F H F' H':Hp} {pre:Pre} {t:TA} {k:PV→Prop}
def entN (E:Ent0):Ent:=⟨E,fun _ _ _ _ _ _ _ _ _ d=>d.elim⟩
theorem fn_run {N:List Str} {n:Nat} {vs:List V} {Q:VK} {X:XK} {t:TS} (h:spF pre vs H Q X) (hl:∀ ss R,pre ss R→ss.length=n)
    (hw:∀ ss R,pre ss R→Ws (ss++List.replicate (N.length - n) .any) t (fun _=>∃ k,R=.is k∧k .non) R):t { nx:=fun _ H'=>Q .non H',rt:=Q } (L2.start N vs) H:=by
  obtain ⟨ss,R,F,A,hp,S,q⟩:=h
  have e:vs.length=n:=by have:=S.len;rw [List.length_map] at this;rw [← this];exact hl ss R hp
  unfold L2.start
  rw [e]
  refine (hw ss R hp).go (entN (E3 A F H)) _ _ F H (S.grown _) (fun ss' σ' F' H' ⟨k,e,kn⟩ S' _=>?_) fun v F' H' f ok=>q v F' H' f ok
  subst e
  exact q .non F' H' S'.toFin ⟨.non,.non,kn⟩
theorem spF_len {n:Nat} {vs:List V} {Q:VK} {X:XK} (hl:∀ ss R,pre ss R→ss.length=n) (h:spF pre vs H Q X):vs.length=n:=by
  obtain ⟨ss,R,F,A,hp,S,q⟩:=h
  have:=S.len
  rw [List.length_map] at this
  rw [← this];exact hl ss R hp
end
end Fz
set_option Elab.async false
set_option linter.all false
set_option maxRecDepth 100000
set_option maxHeartbeats 4000000
namespace L2
open PySem PySem.Spec PyProof.Rows
section
variable {X:Cx}
def rNeN (K:PySem.W.Frag):R2:=fun x y H Q=>∃ p q xs,x=.ref p∧y=.ref q∧SqL K H p xs∧SqL K H q []∧Q (.bl (!decide (xs=[]))) H
def rEqN (K:PySem.W.Frag):R2:=fun x y H Q=>∃ p q xs,x=.ref p∧y=.ref q∧SqL K H p xs∧SqL K H q []∧Q (.bl (decide (xs=[]))) H
end
end L2
namespace Lw
open PySem PySem.Spec PyProof.Rows L2
inductive Tr (lr lb:Addr) (H:Hp):List V→List V→Addr→List Str→Prop where
  | base {l:Addr} {rs:List Str}:l≠lr→l≠lb→H l=some (.lst (rs.map V.str))→Tr lr lb H [.ref l] [] l rs
  | snoc {vs bs:List V} {l:Addr} {rs:List Str} {l':Addr} {rs':List Str} {t:Addr} {d:Deed}:Tr lr lb H vs bs l rs→l'≠lr→l'≠lb→t≠lr→t≠lb→H l'=some (.lst (rs'.map V.str))→H t=some (.tup d.vals)→
      d.Ok 40 rs'→rs'.length≤40→d.done rs'=rs→Tr lr lb H (vs++[.ref l']) (bs++[.ref t]) l' rs'
theorem Tr.mono {lr lb:Addr} {H H':Hp} (k:∀ b o,b≠lr→b≠lb→H b=some o→H' b=some o) {vs bs:List V} {l:Addr} {rs:List Str} (h:Tr lr lb H vs bs l rs):Tr lr lb H' vs bs l rs:=by
  induction h with
  | base a b c=>exact .base a b (k _ _ a b c)
  | snoc _ a b c d e f g i j ih=>exact .snoc ih a b c d (k _ _ a b e) (k _ _ c d f) g i j
theorem Tr.len {lr lb:Addr} {H:Hp} {vs bs:List V} {l:Addr} {rs:List Str} (h:Tr lr lb H vs bs l rs):vs.length=bs.length+1:=by
  induction h with
  | base a b c=>rfl
  | snoc _ a b c d e f g i j ih=>simp [ih]
end Lw
set_option Elab.async false
set_option linter.all false
set_option maxRecDepth 100000
set_option maxHeartbeats 4000000
namespace Lw
open PySem PySem.Spec PyProof.Rows L2
theorem lt_irr:∀ l:List Nat,¬ l < l
  | [],h=>by simp at h
  | a :: r,h=>by
    rw [List.cons_lt_cons_iff] at h
    rcases h with h | ⟨_,h⟩
    · omega
    · exact lt_irr r h
abbrev ltS (a b:Str):Prop:=a.cps.toList < b.cps.toList
abbrev Up (ss:List Str):Prop:=ss.Pairwise ltS
theorem up_nodup {ss:List Str} (h:Up ss):ss.Nodup:=by
  refine List.Pairwise.imp (fun {a b} (hab:ltS a b) (e:a=b)=>?_) h
  subst e
  exact lt_irr _ hab
theorem nd_len:∀ {as bs:List Str},as.Nodup→(∀ x∈as,x∈bs)→as.length≤bs.length
  | [],_,_,_=>Nat.zero_le _
  | a :: as,bs,nd,h=>by
    obtain ⟨h1,h2⟩:=List.nodup_cons.mp nd
    have ha:=h a List.mem_cons_self
    have q:=nd_len (bs:=bs.erase a) h2 fun x hx=>(List.mem_erase_of_ne (fun e:x=a=>h1 (by rw [← e];exact hx))).mpr (h x (List.mem_cons_of_mem _ hx))
    have e:=List.length_erase_of_mem ha
    have p:=List.length_pos_of_mem ha
    simp only [List.length_cons]
    omega
def rules3:List Str:=["none", "ahead", "all"]
def upB (ss:List Str):Bool:=decide (Up ss)
def inB (ns ss:List Str):Bool:=ss.all fun x=>decide (x∈ns)
def gapB (n:Nat) (g:Int):Bool:=decide (0≤g) && decide (g≤(n:Int))
def isLp (ns:List Str) (r:Str) (g:Int) (ss:List Str):Bool:=decide (r∈rules3) && (gapB ns.length g && (upB ss && inB ns ss))
def LoopAt (K:PySem.W.Frag) (H:Hp) (t:Addr) (r:Str) (g:Int) (ss:List Str):Prop:=∃ c,SqT K H t [.str r,.int g,.ref c]∧SqT K H c (ss.map V.str)
theorem LoopAt.same {K:PySem.W.Frag} {H H':Hp} {t:Addr} {r:Str} {g:Int} {ss:List Str} (s:Same H H') (h:LoopAt K H t r g ss):LoopAt K H' t r g ss:=by
  obtain ⟨c,h1,h2⟩:=h
  exact ⟨c,s.sqT h1,s.sqT h2⟩
end Lw
set_option Elab.async false
set_option linter.all false
set_option maxRecDepth 100000
set_option maxHeartbeats 4000000
namespace Lw
open PySem PySem.Spec PyProof.Rows L2
def inL (ss:List Str) (x:Str):Bool:=decide (x∈ss)
def restL (ns:List Str) (g:Nat) (ss:List Str):List Str:=(ns.drop g).filter (inL ss)++(ns.take g).filter (inL ss)
def LoopH (H:Hp) (t:Addr) (r:Str) (g:Int) (ss:List Str):Prop:=∃ c,H t=some (.tup [.str r,.int g,.ref c])∧H c=some (.tup (ss.map V.str))
theorem LoopH.same {H H':Hp} {t:Addr} {r:Str} {g:Int} {ss:List Str} (s:Same H H') (h:LoopH H t r g ss):LoopH H' t r g ss:=by
  obtain ⟨c,a,b⟩:=h
  exact ⟨c,s _ _ a,s _ _ b⟩
structure GoodL (ns:List Str) (r:Str) (g:Int) (ss:List Str):Prop where
  rule:r∈rules3
  g0:0≤g
  g1:g≤(ns.length:Int)
  up:Up ss
  sub:∀ x∈ss,x∈ns
theorem GoodL.isLp {ns:List Str} {r:Str} {g:Int} {ss:List Str} (h:GoodL ns r g ss):isLp ns r g ss=true:=by
  unfold Lw.isLp gapB upB inB
  rw [decide_eq_true h.rule,decide_eq_true h.g0,decide_eq_true h.g1,decide_eq_true h.up,Bool.true_and,Bool.true_and,Bool.true_and,Bool.true_and,List.all_eq_true]
  intro x hx
  exact decide_eq_true (h.sub x hx)
def stO (ns:List Str) (g:Nat) (ss:List Str):Option Str:=(restL ns g ss).head?
def stG (ns:List Str) (g:Nat) (ss:List Str):Nat:=match stO ns g ss with
  | none=>g
  | some x=>ns.idxOf x+1
def stS (ns:List Str) (g:Nat) (ss:List Str):List Str:=match stO ns g ss with
  | none=>ss
  | some x=>wo ss x
def optV:Option Str→V
  | none=>.non
  | some x=>.str x
def StepAt (H:Hp) (t':Addr) (ns:List Str) (r:Str) (g:Nat) (ss:List Str):Prop:=∃ td,H t'=some (.tup [optV (stO ns g ss),.ref td])∧LoopH H td r (stG ns g ss:Nat) (stS ns g ss)
theorem StepAt.same {H H':Hp} {t':Addr} {ns:List Str} {r:Str} {g:Nat} {ss:List Str} (s:Same H H') (h:StepAt H t' ns r g ss):StepAt H' t' ns r g ss:=by
  obtain ⟨td,a,b⟩:=h
  exact ⟨td,s _ _ a,b.same s⟩
structure Ent where
  a:Addr
  ns:List Str
  t:Addr
  r:Str
  g:Nat
  ss:List Str
structure Ent.Ok (H:Hp) (lr lp:Addr) (e:Ent):Prop where
  ar:e.a≠lr
  ap:e.a≠lp
  ha:H e.a=some (.lst (e.ns.map V.str))
  hl:LoopH H e.t e.r e.g e.ss
  good:GoodL e.ns e.r e.g e.ss
  len:e.ns.length≤40
theorem LoopH.mono {H H':Hp} {lr lp t:Addr} {r:Str} {g:Int} {ss:List Str} {vs ws:List V} (h:LoopH H t r g ss) (hr:H lr=some (.lst vs)) (hp:H lp=some (.lst ws)) (k:∀ b o,b≠lr→b≠lp→H b=some o→H' b=some o):LoopH H' t r g ss:=by
  obtain ⟨c,a,b⟩:=h
  have ne:∀ {x y:Addr} {us vs:List V},H x=some (.tup us)→H y=some (.lst vs)→x≠y:=fun h1 h2 e=>by subst e;rw [h1] at h2;cases h2
  exact ⟨c,k _ _ (ne a hr) (ne a hp) a,k _ _ (ne b hr) (ne b hp) b⟩
theorem Ent.Ok.mono {H H':Hp} {lr lp:Addr} {e:Ent} {vs ws:List V} (h:e.Ok H lr lp) (hr:H lr=some (.lst vs)) (hp:H lp=some (.lst ws)) (k:∀ b o,b≠lr→b≠lp→H b=some o→H' b=some o):e.Ok H' lr lp:=
  ⟨h.ar,h.ap,k _ _ h.ar h.ap h.ha,h.hl.mono hr hp k,h.good,h.len⟩
theorem Ent.Ok.same {H H':Hp} {lr lp:Addr} {e:Ent} (h:e.Ok H lr lp) (s:Same H H'):e.Ok H' lr lp:=⟨h.ar,h.ap,s _ _ h.ha,h.hl.same s,h.good,h.len⟩
end Lw
set_option Elab.async false
set_option linter.all false
set_option maxRecDepth 100000
set_option maxHeartbeats 4000000
namespace L2
open PySem PySem.Spec PyProof.Rows
section
variable {X:Cx}
end
end L2
set_option Elab.async false
set_option linter.all false
set_option maxRecDepth 100000
set_option maxHeartbeats 4000000
namespace Lw
open PySem PySem.Spec PyProof.Rows L2
theorem GoodL.len {ns:List Str} {r:Str} {g:Int} {ss:List Str} (h:GoodL ns r g ss):ss.length≤ns.length:=nd_len (up_nodup h.up) h.sub
end Lw
set_option Elab.async false
set_option linter.all false
set_option maxRecDepth 100000
set_option maxHeartbeats 4000000
namespace Lw
open PySem PySem.Spec PyProof.Rows L2
end Lw
set_option Elab.async false
set_option linter.all false
set_option maxRecDepth 100000
set_option maxHeartbeats 4000000
namespace L2
open PySem PySem.Spec PyProof.Rows
section
variable {X:Cx} {pins:List (Addr×Obj)} {σ:St} {H2:Hp} {s2:Shared} {elt iter:Expr} {x z:Str} {px pz tp pos:Pos} {tk:Nat} {scope:Scope} {caps:List Str} {js:List Nat} {te:TE} {J:It} {fp:List Addr} {it:Addr}
  {tn:Nat→Heap→Prop}
end
end L2
set_option Elab.async false
set_option linter.all false
set_option maxRecDepth 100000
set_option maxHeartbeats 4000000
namespace Fz
open PySem PySem.Spec PyProof.Rows L2 Lw
section
variable [Xw]
variable {E:Ent0} {ss:List Slot} {σ:L2.St} {F H F' H':Hp} {K:PySem.W.Frag} {js:List Nat} {ta tb te:TE} {k:PV→Prop} {nx:List Slot→Prop} {R:Ret}
theorem Sg.pstep (S:Sg E ss σ F H) {i:Nat} {p:Addr} (hi:ss[i]?=some .pot) (e:σ[i]?=some (some (.ref p))) (s:PStep p H H'):Mv E ss σ F H F H':=by
  obtain ⟨p',e',fp,_,pp⟩:=S.ok i _ hi
  rw [e] at e'
  cases e'
  refine S.step (Same.refl _) (fun a o q=>s.same a o (ZAF q fp) (S.fh a o q)) (fun a o n q=>s.same a o (fun z=>?_) q) (fun a o q=>.inl q) fun j l hj ej=>?_
  · rw [z] at n;exact n i hi e
  · by_cases z:l=p
    · rw [z];exact s.pot
    · exact Pot.keep (S.potAt hj ej) fun o q=>s.same l o z q
theorem wp_take {i:Nat} (hi:ss[i]?=some .pot) (h:Wp ss te fun x=>∃ m,x=.int m∧0 < m∧m < 10 ^ 18∧∀ r:Int,0≤r→r < m→k (.int r)):Wp ss (ZBJ ZDe [] E0 (ZA9 (ZBK i) (ZA9 te ZAa))) k:=⟨fun E σ F H Q S q=>by
  obtain ⟨p,e,_⟩:=S.ok i _ hi
  refine ⟨_,e,h.go E σ F H _ S fun v x F1 H1 m1 r ⟨m,em,m0,m1',kk⟩=>?_⟩
  subst em;cases r
  exact ⟨p,m,rfl,m1.st.potAt hi e,m0,m1',fun r H2 r0 r1 s=>q _ _ F1 H2 (m1.trans (m1.st.pstep hi e s)) (.int r) (kk r r0 r1)⟩⟩
theorem wn_rowOf {sp:Sp} {i:Nat} {k:List PV→Prop} (hsp:sp=spRow) (hi:ss[i]?=some .pot) (h:Wp ss te fun x=>∃ m,x=.int m∧1≤m∧m≤100∧∀ ns:List Str,(ns.length:Int)≤m→(∀ x∈ns,Nm x)→ns.Nodup→k (ns.map PV.str)):Wn ss (ZBJ sp [] E0 (ZA9 (ZBK i) (ZA9 te ZAa))) k:=⟨fun E σ F H Q S q=>by
  subst hsp
  obtain ⟨p,e,_⟩:=S.ok i _ hi
  refine ⟨_,e,h.go E σ F H _ S fun v x F1 H1 m1 r ⟨m,em,m0,m1',kk⟩=>?_⟩
  subst em;cases r
  refine ⟨p,m,rfl,m1.st.potAt hi e,m0,m1',fun l H2 ns hl s hl2 hz hN nd=>?_⟩
  have m2:=m1.st.pstep hi e s
  exact q l _ _ F1 H2 (m1.trans m2) (m1.st.newF hl) (m1.none hl) hl2 (ZBR ns) (kk ns hz hN nd)⟩
def ZB8 (K:PySem.W.Frag) (ns:List Int):Hp→V→Prop:=fun F v=>∃ a,v=.ref a∧SqL K F a (ns.map V.int)
theorem ZBN (K:PySem.W.Frag) (ns:List Int):∀ (v:V) (F F':Hp),Same F F'→ZB8 K ns F v→ZB8 K ns F' v:=fun v F F' s ⟨a,e,h⟩=>⟨a,e,by
  rcases h with (h | ⟨o,h⟩) | h
  · exact .inl (.inl (s _ _ h))
  · exact .inl (.inr ⟨o,s _ _ h⟩)
  · exact .inr h⟩
theorem wp_lenS {i:Nat} {ns:List Int} (hi:ss[i]?=some (.raw (ZB8 K ns))) (h:k (.int ns.length)):Wp ss (tCB (rLenS K) (ZA9 (ZBK i) ZAa)) k:=⟨fun E σ F H Q S q=>by
  obtain ⟨v,e,⟨a,ev,hq⟩,st⟩:=S.ok i _ hi
  subst ev
  obtain ⟨a',ea,hq'⟩:=ZBN K ns _ F H S.fh ⟨a,rfl,hq⟩
  cases ea
  refine ⟨_,e,a,_,rfl,.inl hq',?_⟩
  rw [List.length_map]
  exact q _ _ F H (.refl S) (.int _) h⟩
theorem ws_pot {i j:Nat} {ns:List Int} (hi:ss[i]?=some (.raw (ZB8 K ns))) (h:Wp ss te fun x=>∃ m,x=.int m∧0≤m∧m≤1000∧nx (ss.set j .pot)):Ws ss (tAsg (ZBJ (ZH4 K) [] E0 (ZA9 (ZBK i) (ZA9 te ZAa))) (ZBq j)) nx R:=⟨fun E D σ F H S hn hr=>by
  obtain ⟨v,e,⟨a,ev,hq⟩,st⟩:=S.ok i _ hi
  subst ev
  refine ⟨_,e,h.go E σ F H _ S fun v x F1 H1 m1 r ⟨m,em,m0,m1',kk⟩=>?_⟩
  subst em;cases r
  obtain ⟨v',e',hq1,_⟩:=m1.st.ok i _ hi
  rw [e] at e';cases e'
  obtain ⟨a',ea,hq'⟩:=ZBN K ns _ F1 H1 m1.st.fh hq1
  cases ea
  refine ⟨a,ns,m,rfl,hq',m0,m1',fun p H2 hp s pp=>?_⟩
  have m2:=m1.st.grow s
  exact hn _ _ F1 H2 kk (m2.st.setG ⟨p,rfl,m1.st.newF hp,.inl (m1.st.new0 hp),pp⟩ fun l e b u _ hu mu=>by cases e;exact m1.st.newAddr hu hp mu) m1.ff⟩
end
section
variable {E:Ent0} {ss:List Slot} {σ:L2.St} {F H F' H':Hp} {K:PySem.W.Frag}
theorem law_run {N:List Str} {vs:List V} {Q:VK} {X:XK} {t:TS} (h:ZH7 K vs H Q X) (hw:∀ ns:List Int,ns.length≤63→Ws (.raw (ZB8 K ns) :: List.replicate (N.length - 1) .any) t (fun _=>False) (.is fun p=>p=.bl true)):t { nx:=fun _ H'=>Q .non H',rt:=Q } (L2.start N vs) H:=by
  obtain ⟨a,ns,rfl,hS,h63,q⟩:=h
  have S:Sg (E3 [] H H) [.raw (ZB8 K ns)] [some (.ref a)] H H:=by
    have nn:∀ {p:Prop} (a:Addr),a∈([]:List Addr)→p:=fun a h=>absurd h List.not_mem_nil
    refine ⟨⟨Same.refl _,Same.refl _,fun _ _ _ e=>e,fun _ _ e=>.inl e,fun a h=>nn a h,fun a h=>nn a h,fun a h=>nn a h,fun a h=>nn a h,fun a h=>nn a h,fun a h=>nn a h⟩,rfl,fun i s hi=>?_,fun i j s u l hij hi hj ms=>?_⟩
    · cases i with
      | zero=>cases hi;exact ⟨_,rfl,⟨a,rfl,hS⟩,ZBN K ns _⟩
      | succ i=>simp at hi
    · cases i with
      | zero=>cases hi;cases ms
      | succ i=>simp at hi
  refine (hw ns h63).go (entN (E3 [] H H)) _ _ H H (S.grown _) (fun _ _ _ _ h=>h.elim) fun v F' H' f ok=>?_
  obtain ⟨p,r,rfl⟩:=ok
  cases r
  exact q H'
end
end Fz
set_option Elab.async false
set_option linter.all false
set_option maxRecDepth 100000
set_option maxHeartbeats 4000000
namespace Fz
open PySem PySem.Spec PyProof.Rows L2 Lw
section
variable [Xw]
variable {E:Ent0} {ss:List Slot} {σ:L2.St} {F H F' H':Hp} {K:PySem.W.Frag} {js:List Nat} {ta tb te:TE} {k:PV→Prop} {nx:List Slot→Prop} {R:Ret}
theorem Wi.mono {wi:TI} {k k':List PV→Prop} (h:Wi ss wi k) (i:∀ xs,k xs→k' xs):Wi ss wi k':=⟨fun E σ F H R S q=>h.go E σ F H R S fun J xs F' H' m s kk=>q J xs F' H' m s (i xs kk)⟩
theorem Wt.mono {t:TT} {k k':Bool→Prop} (h:Wt ss t k) (i:∀ b,k b→k' b):Wt ss t k':=⟨fun E σ F H Q S q=>h.go E σ F H Q S fun b F' H' m kk=>q b F' H' m (i b kk)⟩
theorem ZEm {α:Type} {wi:TI} {tt:TT} {te:TE} {k:List PV→Prop} (c:α→PV) (f:α→Bool) (g:α→PV)
    (h:Wi ss wi fun xs=>∃ ns:List α,xs=ns.map c∧ns.length≤100000∧(∀ x∈ns,Wt (ZCS js ss++[.is (c x)]) tt fun b=>b=f x)∧(∀ x∈ns,f x=true→Wp (ZCS js ss++[.is (c x)]) te fun p=>p=g x)∧k ((ns.filter f).map g))
    (inj:∀ x y,c x=c y→x=y) (nd:js.Nodup:=by decide) (np:noPot js ss=true:=by rfl):Wn ss (ZFi wi js tt te) k:=by
  by_cases hα:Nonempty α
  · obtain ⟨x0⟩:=hα
    have inv:∀ p:PV,∃ x:α,∀ y,c y=p→y=x:=fun p=>by
      by_cases q:∃ y,c y=p
      · obtain ⟨y,hy⟩:=q
        exact ⟨y,fun z hz=>inj _ _ (hz.trans hy.symm)⟩
      · exact ⟨x0,fun y hy=>absurd ⟨y,hy⟩ q⟩
    let d:PV→α:=fun p=>Classical.choose (inv p)
    have hd:∀ x,d (c x)=x:=fun x=>(Classical.choose_spec (inv (c x)) x rfl).symm
    refine ZHy (fun p=>f (d p)) (fun p=>g (d p)) (h.mono fun xs ⟨ns,e,hz,h1,h2,kk⟩=>?_) nd np
    subst e
    refine ⟨by rw [List.length_map];exact hz,fun x hx=>?_,fun x hx hf=>?_,?_⟩
    · obtain ⟨y,hy,rfl⟩:=List.mem_map.mp hx
      rw [hd];exact h1 y hy
    · obtain ⟨y,hy,rfl⟩:=List.mem_map.mp hx
      rw [hd] at hf ⊢;exact h2 y hy hf
    · have e:((ns.map c).filter fun p=>f (d p)).map (fun p=>g (d p))=(ns.filter f).map g:=by
        rw [List.filter_map,List.map_map]
        congr 1
        · funext x;show g (d (c x))=g x;rw [hd]
        · congr 1;funext x;show f (d (c x))=f x;rw [hd]
      rw [e];exact kk
  · refine ZHy (fun _=>true) (fun p=>p) (h.mono fun xs ⟨ns,e,hz,h1,h2,kk⟩=>?_) nd np
    have en:ns=[]:=by
      cases ns with
      | nil=>rfl
      | cons x r=>exact absurd ⟨x⟩ hα
    subst en;subst e
    exact ⟨by simp,fun x hx=>absurd hx (by simp),fun x hx=>absurd hx (by simp),kk⟩
theorem wp_in0 (h:Wp ss ta fun p=>∃ x,p=.str x∧Wq ss tb fun _ ys=>∃ ns:List Str,ys=ns.map PV.str∧k (.bl (decide (x∈ns)))):Wp ss (tOp (rIn K false) ta tb) k:=wp_in h
theorem wp_in1 (h:Wp ss ta fun p=>∃ x,p=.str x∧Wq ss tb fun _ ys=>∃ ns:List Str,ys=ns.map PV.str∧k (.bl (!decide (x∈ns)))):Wp ss (tOp (rIn K true) ta tb) k:=wp_in h
theorem wp_eqS0 (h:Wq ss ta fun tp xs=>∃ ns:List Str,xs=ns.map PV.str∧Wq ss tb fun tp2 ys=>tp2=tp∧∃ ms:List Str,ys=ms.map PV.str∧k (.bl (decide (ns=ms)))):Wp ss (tOp (rEqS K false) ta tb) k:=wp_eqS h
theorem wp_eqS1 (h:Wq ss ta fun tp xs=>∃ ns:List Str,xs=ns.map PV.str∧Wq ss tb fun tp2 ys=>tp2=tp∧∃ ms:List Str,ys=ms.map PV.str∧k (.bl (!decide (ns=ms)))):Wp ss (tOp (rEqS K true) ta tb) k:=wp_eqS h
theorem Wq.mono {k k':Bool→List PV→Prop} (h:Wq ss te k) (i:∀ b xs,k b xs→k' b xs):Wq ss te k':=⟨fun E σ F H Q S q=>h.go E σ F H Q S fun v tp xs F' H' m s kk=>q v tp xs F' H' m s (i tp xs kk)⟩
theorem Wo.mono {t:TO} {k k':Option Int→Prop} (h:Wo ss t k) (i:∀ o,k o→k' o):Wo ss t k':=⟨fun E σ F H Q S q=>h.go E σ F H Q S fun o F' H' m kk=>q o F' H' m (i o kk)⟩
theorem ZFj {tl th:TO} {k:Bool→List PV→Prop} (h:Wq ss te fun tp xs=>Wo ss tl fun lo=>Wo ss th fun hi=>k tp (ZBO xs lo hi)):Wz ss (tSl (rSl2 K) te tl th) k:=
  ZEZ (ZCC (h.mono fun tp xs h=>h.mono fun lo h=>h.mono fun hi h=>by
    cases tp
    · exact ⟨_,.inl ⟨rfl,h⟩⟩
    · exact ⟨_,.inr ⟨rfl,h⟩⟩))
theorem ZIz {tl th:TO} {k:Bool→List PV→Prop} (h:Wq ss te fun tp xs=>Wo ss tl fun lo=>Wo ss th fun hi=>k tp (ZBO xs lo hi)):Wq ss (tSl (rSl2 K) te tl th) k:=ZGi (ZFj h)
theorem ZC4 {α β:Type} (c:α→β) (xs:List α) (lo hi:Option Int):ZBO (xs.map c) lo hi=(ZBO xs lo hi).map c:=by
  unfold ZBO;rw [List.length_map,List.map_take,List.map_drop]
theorem map_app {α β:Type} (c:α→β) (xs ys:List α):xs.map c++ys.map c=(xs++ys).map c:=by rw [List.map_append]
theorem ZHu {α:Type} (xs:List α) (lo hi:Option Int):(ZBO xs lo hi).length≤xs.length:=by
  unfold ZBO;rw [List.length_take,List.length_drop];omega
theorem map_bl {α:Type} (g:α→Bool) (xs:List α):xs.map (fun x=>PV.bl (g x))=(xs.map g).map PV.bl:=by rw [List.map_map];rfl
def b2:PV→Bool
  | .bl b=>b
  | _=>false
end
end Fz
set_option Elab.async false
set_option linter.all false
set_option maxRecDepth 100000
set_option maxHeartbeats 4000000
namespace HT
open PySem PySem.Spec PyProof.Rows
open AutoSeq1 (wpAny_loadPart')
theorem newEnumT (tu:Addr) (vals:Array Value) (k:Nat) (dc:Option Addr) (slo:Array (Option Value)) :
    Meets (Builtin.«enumerate.__new__» ⟨[.type "enumerate", .ref tu],[]⟩) (fun _ R s=>s.heap.get? tu=some { cls:=.type "tuple", dict:=dc,data:=.seq vals k,slots:=slo }∧R (.ok (.ret (.ref (s.heap.push { cls:=.type "tuple_iterator", data:=.fields #[.ref tu,.int 0 0] }).objs.size)))
        { s with heap:=(s.heap.push { cls:=.type "tuple_iterator", data:=.fields #[.ref tu,.int 0 0] }).push { cls:=.type "enumerate", data:=.fields #[.none,.bool false,.ref s.heap.objs.size,rawInt 0,.none,.none] } }):=.of_wp fun prog w A R s h=>by
  obtain ⟨hp,g,d,tk,os⟩:=s;obtain ⟨ho,h⟩:=h;have sb:=sub_enumerate
  have hT:Heap.IsTuple (Shared.heap ⟨hp,g,d,tk,os⟩) tu vals:=⟨_,ho,rfl,k,rfl⟩
  wp_walk using wpAny_loadPart' ho
  refine wpAny_stack_any fun fr=>wpAny_pure ?_
  split
  · rename_i c _ _ _ _ _
    cases (c == Value.type "enumerate") <;> (wp_walk using wpAny_loadPart' ho,wpAny_pyIter_tuple hT;exact ⟨_,rfl,h⟩)
  · wp_walk using wpAny_loadPart' ho,wpAny_pyIter_tuple hT
    exact ⟨_,rfl,h⟩
section
variable {prog:Program} {w:World} {A:Around} {E:Value→Shared→Prop} {s:Shared}
theorem callEnumT {tu:Addr} {vals:Array Value} {Q:Value→Shared→Prop} (hT:s.heap.IsTuple tu vals)
    (q:∀ h',IsEnum h' (s.heap.objs.size+1) s.heap.objs.size 0 .none→h'.IsTupleIter s.heap.objs.size tu 0→h'.objs.size=s.heap.objs.size+2→(∀ b o,s.heap.get? b=some o→h'.get? b=some o)→Q (.ref (s.heap.objs.size+1)) { s with heap:=h' }) :
    wpAny (model prog w) A (call (.type "enumerate") [.ref tu]) Q E s:=by
  obtain ⟨⟨c,dc,dt,slo⟩,ho,hc,k,hd⟩:=hT
  replace hc:c=.type "tuple" := hc;replace hd:dt=.seq vals k:=hd;subst hc hd
  refine callType_new F.called_enumerate (by decide) (F.typeCall_enumerate_1 _) (F.newCall_enumerate_1 _) (fun ob=>F.args_object_init_2 ob _) F.entry_enumerate_new (newEnumT tu vals k dc slo) ⟨ho,?_⟩
  have z:(s.heap.push { cls:=.type "tuple_iterator", data:=.fields #[.ref tu,.int 0 0] }).objs.size=s.heap.objs.size+1:=Heap.size_push ..
  show _∧_
  rw [z]
  have he:IsEnum ((s.heap.push { cls:=.type "tuple_iterator", data:=.fields #[.ref tu,.int 0 0] }).push { cls:=.type "enumerate", data:=.fields #[.none,.bool false,.ref s.heap.objs.size,rawInt 0,.none,.none] }) (s.heap.objs.size+1) s.heap.objs.size 0 .none:=by
    have y:=Heap.get?_push_size (s.heap.push { cls:=.type "tuple_iterator", data:=.fields #[.ref tu,.int 0 0] }) (o:={ cls:=.type "enumerate", data:=.fields #[.none,.bool false,.ref s.heap.objs.size,rawInt 0,.none,.none] }) rfl
    rw [z] at y;exact y
  exact ⟨⟨_,he,rfl⟩,q _ he ⟨_,Heap.get?_push_of_some _ (Heap.get?_push_size _ rfl),rfl,rfl⟩ (by rw [Heap.size_push,z]) fun b o y=>Heap.get?_push_of_some _ (Heap.get?_push_of_some _ y)⟩
theorem ZHl {it tu:Addr} {i:Nat} {vals:Array Value} {v:Value} {Q:Value→Shared→Prop} (hi:s.heap.IsTupleIter it tu i) (ht:s.heap.IsTuple tu vals) (hv:vals[i]?=some v)
    (q:∀ h',h'.IsTupleIter it tu (i+1)→Heap.SameBut it s.heap h'→Q v { s with heap:=h' }):wpAny (model prog w) A (Builtin.SmallTypes.nextOf (.ref it)) Q E s:=by
  obtain ⟨o,ho,hc,hd⟩:=id hi;obtain ⟨o2,ho2,_,k,hd2⟩:=ht;unfold Builtin.SmallTypes.nextOf
  refine wpAny_bind (wpAny_callSpecial?_slot (name:=Str.ofString "__next__") hi.typeIs F.slot_tuple_iterator_next (wpAny_call_entry F.slot_tuple_iterator_next hi.typeIs F.entry_tuple_iterator_next ?_ (F.args_tuple_iterator_next_1 _)))
  show wpAny _ _ (field (.ref it) 0 >>= _) _ _ s;refine wpAny_bind (wpAny_field ho hd (x:=.ref tu) rfl ?_)
  show wpAny _ _ (if (Value.ref tu == Value.none)=true then _ else _) _ _ s;rw [if_neg (show ¬ ((Value.ref tu == Value.none)=true) from Bool.false_ne_true)]
  show wpAny _ _ (field (.ref it) 1 >>= _) _ _ s;refine wpAny_bind (wpAny_field ho hd (x:=.int i 0) rfl ?_)
  show wpAny _ _ (seqItems? (.ref tu) >>= _) _ _ s;refine wpAny_bind (wpAny_seqItems ho2 hd2 ?_);simp only [Int.toNat_natCast,hv]
  refine wpAny_bind (wpAny_setField ho hd (by simp) (wpAny_pure ⟨v,rfl,wpAny_pure (q _ ?_ (Heap.SameBut.update ..))⟩))
  exact ⟨_,Heap.get?_update_self _ ho (Obj.isFreed_of_fields (Obj.data_mapFields hd _)),(Obj.cls_mapFields ..).trans hc,by rw [Obj.data_mapFields hd];simp [rawInt]⟩
theorem ZFW {it tu:Addr} {i:Nat} {vals:Array Value} {Q:Value→Shared→Prop} (hh:A.handled=none) (hi:s.heap.IsTupleIter it tu i) (ht:s.heap.IsTuple tu vals) (hv:vals[i]?=none)
    (q:∀ h' e,Heap.ExtBut it s.heap h'→(∃ o,h'.get? e=some o∧o.cls=.type "StopIteration")→E (.ref e) { s with heap:=h' }):wpAny (model prog w) A (Builtin.SmallTypes.nextOf (.ref it)) Q E s:=by
  obtain ⟨o,ho,hc,hd⟩:=id hi;obtain ⟨o2,ho2,_,k,hd2⟩:=ht;unfold Builtin.SmallTypes.nextOf
  refine wpAny_bind (wpAny_callSpecial?_slot (name:=Str.ofString "__next__") hi.typeIs F.slot_tuple_iterator_next (wpAny_call_entry F.slot_tuple_iterator_next hi.typeIs F.entry_tuple_iterator_next ?_ (F.args_tuple_iterator_next_1 _)))
  show wpAny _ _ (field (.ref it) 0 >>= _) _ _ s;refine wpAny_bind (wpAny_field ho hd (x:=.ref tu) rfl ?_)
  show wpAny _ _ (if (Value.ref tu == Value.none)=true then _ else _) _ _ s;rw [if_neg (show ¬ ((Value.ref tu == Value.none)=true) from Bool.false_ne_true)]
  show wpAny _ _ (field (.ref it) 1 >>= _) _ _ s;refine wpAny_bind (wpAny_field ho hd (x:=.int i 0) rfl ?_)
  show wpAny _ _ (seqItems? (.ref tu) >>= _) _ _ s;refine wpAny_bind (wpAny_seqItems ho2 hd2 ?_);simp only [Int.toNat_natCast,hv]
  refine wpAny_bind (wpAny_rule (wpAny_bind (wpAny_setField ho hd (by simp) ?_)));show wpAny _ _ (newExc (.type "StopIteration") [] >>= _) _ _ _
  refine wpAny_bind ?_;simp only [newExc,newTuple];refine wpAny_bind (wpAny_newObj_type ?_ (by size_fits))
  refine wpAny_bind (m:=firstArgMember _ _) (wpAny_of_eq (a:=Value.none) (by first | rfl | (simp only [firstArgMember];rfl)) ?_);refine wpAny_newObj_type ?_ (by size_fits)
  simp only [raiseNew];refine wpAny_bind (wpAny_handled ?_);first | rw [show A.in1.handled=none from hh] | rw [hh]
  refine wpAny_bind (wpAny_pure (wpAny_throw ?_));exact q _ _ (((Heap.SameBut.update ..).extBut.push _).push _) ⟨_,Heap.get?_push_size _ rfl,rfl⟩
theorem enumEndT {e it tu:Addr} {vals:Array Value} {i:Nat} {j:Int} {old:Value} {Q:Option Value→Shared→Prop} (hh:A.handled=none) (he:IsEnum s.heap e it j old) (hi:s.heap.IsTupleIter it tu i) (ht:s.heap.IsTuple tu vals) (hv:vals[i]?=none)
    (q:∀ h',Heap.ExtBut it s.heap h'→Q none { s with heap:=h' }):wpAny (model prog w) A (pyNext (.ref e)) Q E s:=by
  have ty:s.TypeIs (.ref e) "enumerate" := ⟨_,he,rfl⟩
  unfold pyNext;refine wpAny_bind (wpAny_attempt (wpAny_callSpecial?_slot (name:=Str.ofString "__next__") ty F.slot_enumerate_next (wpAny_call_entry F.slot_enumerate_next ty F.entry_enumerate_next ?_ (F.args_enumerate_next_1 _))))
  show wpAny _ _ (field (.ref e) 2 >>= _) _ _ _;refine wpAny_bind (wpAny_field he rfl (x:=.ref it) rfl ?_);refine wpAny_bind (ZFW (show A.in1.handled=none from hh) hi ht hv fun h' x eb hx=>?_)
  obtain ⟨o,ho,hc⟩:=hx
  exact wpAny_bind (wpAny_isInstance (T := "StopIteration") (b:=true) ⟨o,ho,hc⟩ isSubtype_stop (wpAny_pure (q _ eb)))
end
theorem drawsT {prog:Program} {w:World} {A:Around} (hh:A.handled=none) (it tu:Addr) (hne:tu≠it) (vals:Array Value) :
    Draws prog w A it [it,tu] vals.size (fun i v=>vals[i]?=some v) (fun i h=>h.IsTupleIter it tu i∧h.IsTuple tu vals) where
  live:=fun _ _ st=>by obtain ⟨o,ho,_⟩:=st.1;exact ⟨o,ho⟩
  frame:=fun _ _ _ st hk=>by
    obtain ⟨⟨o,ho,r⟩,o2,ho2,r2⟩:=st
    exact ⟨⟨o,hk it (by simp) o ho,r⟩,o2,hk tu (by simp) o2 ho2,r2⟩
  item:=fun i s Q E hi st hQ=>ZHl st.1 st.2 (v:=vals[i]) (by simp [hi]) fun h' a b=>hQ _ h' s.toks (by simp [hi]) ⟨a,st.2.extBut b.extBut hne⟩ b
  done:=fun s Q E st hE=>ZFW hh st.1 st.2 (by simp) hE
end HT
namespace L2
open PySem PySem.Spec PyProof.Rows
section
variable {X:Cx}
def Ien2 (K:PySem.W.Frag) (tp:Bool) (a:Addr) (xs:List V):It:=
  ⟨fun i H=>SqB K tp H a xs∧i < xs.length,fun i H x H'=>∃ p y,xs[i]?=some y∧x=.ref p∧H p=none∧H'=upd H p (.tup [.int i,y]),fun i H=>SqB K tp H a xs∧xs.length≤i⟩
theorem ZHV {P:Program} {w:World} {K:PySem.W.Frag} {es:List Expr} {k1:Nat} {p1:Pos} (a e it:Addr) (xs:List V) (hei:e≠it) :
    Turn P w K (.Tuple es k1 p1) (Ien2 K true a xs) [e,it] e (fun i h=>(∃ old,IsEnum h e it i old)∧h.IsTupleIter it a i) where
  mem:=by simp
  obj:=fun i h st b hb=>by
    obtain ⟨⟨old,h1⟩,o,h2,_,d⟩:=st
    rcases List.mem_cons.mp hb with z | z
    · subst z;exact ⟨_,h1,fun v z=>by cases z⟩
    · have y:b=it:=by simpa using z
      subst y;exact ⟨o,h2,fun v z=>by rw [d] at z;cases z⟩
  keep:=fun i h h' st k=>⟨let ⟨old,h1⟩:=st.1;⟨old,k e (by simp) _ h1⟩,let ⟨o,h2,r⟩:=st.2;⟨o,k it (by simp) o h2,r⟩⟩
  item:=by
    intro X hP hw hK hc i pins s σ H E I hf st hg
    subst hP hw hK
    obtain ⟨hq,hi⟩:=hg;obtain ⟨⟨old,he⟩,hit⟩:=st
    obtain ⟨its,rv,ht,hz⟩:=I.tuple hq
    obtain ⟨u,hu,ru⟩:=rv.get (List.getElem?_eq_getElem hi)
    have hu':its.toArray[i]?=some u:=by simpa using hu
    have hla:a < s.heap.objs.size:=ht.lt
    have ha:a≠it:=by
      rintro rfl
      obtain ⟨o,q1,q2,_⟩:=hit;obtain ⟨o2,q3,q4,_⟩:=ht
      rw [q1] at q3;cases q3;rw [q2] at q4;exact absurd q4 (by decide)
    have hea:e≠a:=by
      rintro rfl
      obtain ⟨o2,q3,q4,_⟩:=ht
      have q1:=he
      unfold IsEnum at q1
      rw [q1] at q3;cases q3;exact absurd (show Value.type "enumerate" = Value.type "tuple" from q4) (by decide)
    have hlt:e < s.heap.objs.size:=Heap.lt_size he
    refine wpAny_pyNext_enum_itemD (n:=its.toArray.size) (HT.drawsT (show X.A.in1.handled=none from I.ok.hd hc) it a ha its.toArray) he ⟨hit,ht⟩ (by rw [List.size_toArray,← rv.length];exact hi) hei (by simp [hei,hea]) fun v h1 tk1 pv heo st1 ht1 hz1 hk1=>⟨_,rfl,?_⟩
    have ev:v=u:=by rw [hu'] at pv;exact (Option.some.inj pv).symm
    subst ev
    refine wpAny_letOwnedTupleGo_enum heo fun h2 he2 hs2=>?_
    have ht2:h2.get? s.heap.objs.size=some { cls:=.type "tuple", data:=.seq #[.int i tk1,v] }:=(hs2.2 _ (Nat.ne_of_gt hlt)).trans ht1
    have kp:∀ b o,b∉[e,it]→s.heap.get? b=some o→h2.get? b=some o:=fun b o hb q=>by
      have y:b≠e∧b≠it:=by simpa using hb
      exact (hs2.2 b y.1).trans (hk1 b o y.1 y.2 q)
    refine ⟨.ref s.heap.objs.size,_,I.turnLaid (t':=tk1+1) (a:=s.heap.objs.size) (o:=.tup [.int i,xs[i]]) hf kp (Nat.le_refl _) ?_,rfl,⟨_,_,List.getElem?_eq_getElem hi,rfl,I.hok.fresh (Nat.le_refl _),rfl⟩,⟨⟨_,he2⟩,?_⟩,fun b hb=>?_⟩
    · exact ⟨(by show 2≤sizeLine;decide),[.int i tk1,v],.cons ⟨_,rfl⟩ (.cons ru .nil),⟨_,ht2,rfl,_,rfl⟩,fun ob q=>by rw [ht2] at q;cases q;rfl⟩
    · obtain ⟨o,q,r⟩:=st1.1
      exact ⟨o,(hs2.2 it (Ne.symm hei)).trans q,r⟩
    · have y:b < s.heap.objs.size:=by
        rcases List.mem_cons.mp hb with z | z
        · rw [z];exact hlt
        · have z':b=it:=by simpa using z
          obtain ⟨o,q,_⟩:=hit
          rw [z'];exact Heap.lt_size q
      rw [ZA5 (Nat.ne_of_lt y)]
      exact (hf b hb).1
  done:=by
    intro X hP hw hK hc i pins s σ H E I hf st hg
    subst hP hw hK
    obtain ⟨hq,hx⟩:=hg;obtain ⟨⟨old,he⟩,hit⟩:=st
    obtain ⟨its,rv,ht,hz⟩:=I.tuple hq
    have hl:=rv.length
    exact HT.enumEndT (I.ok.hd hc) he hit ht (by simp;omega) fun h' eb=>⟨rfl,I.turnL (t':=s.toks) hf fun b o hb q=>eb b o (fun z=>hb (by simp [z])) q⟩
  self:=fun _ _ _ _ _ st h=>let ⟨⟨_,he⟩,_⟩:=st;wpAny_pyIter_enum he h
def ZHf (K:PySem.W.Frag) (t:TA):TI:=fun σ H R=>t σ H fun vs H1=>∃ a tp xs,vs=[.ref a]∧SqB K tp H1 a xs∧R (Ien2 K tp a xs) H1
theorem pi_enum2 {es:List Expr} {k1:Nat} {p1 p pos:Pos} {l:Expr} {t:TA} (hg:Gl X "enumerate") (hm:X.mg "enumerate" = none) (ha:PA X [l] t) (hs:starEach [l] X.env=[(false,eval l X.env)]:=by rfl) :
    PI X (.Tuple es k1 p1) (.Call (.Name "enumerate" p) [l] [] pos) (ZHf X.K t):=by
  intro pins s σ H R I h
  refine wpAny_Call_Name_kw (ZDa I hg hm (show bootBuiltins "enumerate" = some (.type "enumerate") by decide +kernel) ?_ (by decide) (by decide))
  refine PyProof.Rows.callWith_type1 (thn (ha pos pins s σ H _ I h) fun us s1 ⟨vs,H1,I1,r1,q1⟩=>?_) hs rfl
  obtain ⟨a,tp,xs,rfl,hq,q⟩:=q1
  obtain ⟨u,rfl,rx⟩:=ZEH r1
  cases rx
  have hne:s1.heap.objs.size+1≠s1.heap.objs.size:=Nat.succ_ne_self _
  have fp:∀ b∈[s1.heap.objs.size+1,s1.heap.objs.size],ZCZ X pins H1 b:=fun b hb=>by
    have y:s1.heap.objs.size≤b:=by
      rcases List.mem_cons.mp hb with z | z
      · rw [z];exact Nat.le_succ _
      · have z':b=s1.heap.objs.size:=by simpa using z
        rw [z'];exact Nat.le_refl _
    exact I1.fpOk y (I1.hok.fresh y)
  cases tp with
  | false=>
    obtain ⟨its,rv,p,hz⟩:=I1.list hq
    refine call_enumerate_list p.isList fun h' he hit hsz kp=>wpAny_pyIter_enum he ?_
    exact ⟨s1.heap.objs.size+1,[s1.heap.objs.size+1,s1.heap.objs.size],_,_,H1,rfl,I1.kept (t':=s1.toks) kp,ZIy a _ _ xs hne,⟨⟨_,he⟩,hit⟩,fp,q⟩
  | true=>
    obtain ⟨its,rv,ht,hz⟩:=I1.tuple hq
    refine HT.callEnumT ht fun h' he hit hsz kp=>wpAny_pyIter_enum he ?_
    exact ⟨s1.heap.objs.size+1,[s1.heap.objs.size+1,s1.heap.objs.size],_,_,H1,rfl,I1.kept (t':=s1.toks) kp,ZHV a _ _ xs hne,⟨⟨_,he⟩,hit⟩,fp,q⟩
theorem qi_enum2 {es:List Expr} {k1:Nat} {p1 p pos:Pos} {l:Expr} {t:TA} (hg:Gl X "enumerate") (hm:X.mg "enumerate" = none) (ha:QA X [l] t) (hs:starEach [l] X.env=[(false,eval l X.env)]:=by rfl) :
    QI X (.Tuple es k1 p1) (.Call (.Name "enumerate" p) [l] [] pos) (ZHf X.K t):=⟨pi_enum2 hg hm ha.h hs⟩
end
end L2
set_option Elab.async false
set_option linter.all false
set_option maxRecDepth 100000
set_option maxHeartbeats 4000000
namespace Fz
open PySem PySem.Spec PyProof.Rows L2 Lw
section
variable [Xw]
variable {E:Ent0} {ss:List Slot} {σ:L2.St} {F H F' H':Hp} {K:PySem.W.Frag} {js:List Nat} {ta tb te:TE} {k:PV→Prop} {nx:List Slot→Prop} {R:Ret} {xs ys:List PV}
theorem wp_place (h:Wq ss ta fun _ xs=>∃ ns:List Str,xs=ns.map PV.str∧Wp ss tb fun p=>∃ x,p=.str x∧x∈ns∧k (.int (ns.idxOf x:Nat))):Wp ss (ZBJ spPlace [] E0 (ZA9 ta (ZA9 tb ZAa))) k:=⟨fun E σ F H Q S q=>
  h.go E σ F H _ S fun v tp xs F1 H1 m1 sv ⟨ns,e,h2⟩=>h2.go E σ F1 H1 _ m1.st fun v2 p2 F2 H2 m2 r2 ⟨x,e2,hx,kk⟩=>by
    subst e;subst e2;cases r2
    obtain ⟨l,vs,rfl,hl,r⟩:=(sv.mv m2).seq m2.st
    rw [r.strs] at hl
    exact ⟨l,tp,ns,x,rfl,hl,hx,q _ _ F2 H2 (m1.trans m2) (.int _) kk⟩⟩
theorem ZIj (h:Wq ss ta fun tp xs=>tp=false∧∃ ns:List Str,xs=ns.map PV.str∧Wp ss tb fun p=>∃ x,p=.str x∧x∈ns∧k (.int (ns.idxOf x:Nat))):Wp ss (tBM K "list" (rIndexL K) ta (ZA9 tb ZAa)) k:=⟨fun E σ F H Q S q=>
  h.go E σ F H _ S fun v tp xs F1 H1 m1 sv ⟨et,ns,e,h2⟩=>by
    subst e;subst et
    obtain ⟨l,vs,rfl,hl,r⟩:=sv.seq m1.st
    refine ⟨.inl ⟨rfl,_,SqL.of hl⟩,h2.go E σ F1 H1 _ m1.st fun v2 p2 F2 H2 m2 r2 ⟨x,e2,hx,kk⟩=>?_⟩
    subst e2;cases r2
    obtain ⟨l',vs',e',hl',r'⟩:=(sv.mv m2).seq m2.st
    cases e'
    rw [r'.strs] at hl'
    exact ⟨l,ns,x,rfl,rfl,SqL.of hl',hx,q _ _ F2 H2 (m1.trans m2) (.int _) kk⟩⟩
def ZEe (xs:List PV):List PV:=(List.range xs.length).map fun i:Nat=>.tup [.int (i:Int),xs.getD i .non]
theorem ZCk (xs:List PV):(ZEe xs).length=xs.length:=by simp [ZEe]
theorem ZGs {xs:List PV} {i:Nat} {x:PV} (h:xs[i]?=some x):(ZEe xs)[i]?=some (.tup [.int (i:Int),x]):=by
  have hi:i < xs.length:=(List.getElem?_eq_some_iff.mp h).1
  unfold ZEe
  rw [List.getElem?_map,List.getElem?_range hi]
  show some (PV.tup [PV.int (i:Int),xs.getD i PV.non])=_
  rw [List.getD_eq_getElem?_getD,h];rfl
theorem enumP_of {xs:List PV} {i:Nat} {p:PV} (h:(ZEe xs)[i]?=some p):∃ x,xs[i]?=some x∧p=.tup [.int (i:Int),x]:=by
  have hi:i < xs.length:=by have:=(List.getElem?_eq_some_iff.mp h).1;rwa [ZCk] at this
  have e:=List.getElem?_eq_getElem hi
  refine ⟨xs[i],e,?_⟩
  rw [ZGs e] at h
  exact (Option.some.inj h).symm
theorem wi_enum {k:List PV→Prop} (h:Wz ss te fun _ xs=>k (ZEe xs)):Wi ss (ZHf K (ZA9 te ZAa)) k:=⟨fun E σ F H R S q=>
  h.go E σ F H _ S fun v tp xs F1 H1 m1 f kk=>by
    obtain ⟨l,vs,ev,hl,r⟩:∃ l vs,v=.ref l∧(∀ (ss:List Slot) (σ:L2.St) (F H:Hp),Same F1 F→Sg E ss σ F H→H l=some (HOq tp vs))∧Reps F1 vs xs:=by
      cases tp with
      | true=>
        have f':Rep F1 v (.tup xs):=f
        cases f' with
        | tup e r=>exact ⟨_,_,rfl,fun ss σ F H s S=>S.fh _ _ (s _ _ e),r⟩
      | false=>
        obtain ⟨l,vs,e,h1,r⟩:=f
        refine ⟨l,vs,e,fun ss σ F H s S=>?_,r⟩
        rcases h1 with h1 | ⟨hA,h1⟩
        · exact S.fh _ _ (s _ _ h1)
        · exact S.keep _ _ hA h1
    subst ev
    refine ⟨l,tp,vs,rfl,HOq.sq (hl ss σ F1 H1 (Same.refl _) m1.st),q _ (ZEe xs) F1 H1 m1 ⟨fun ss σ F H i s S hi=>?_,fun ss σ F H s S=>?_,fun ss σ F H i x H' s S hi y=>?_⟩ kk⟩
    · rw [ZCk] at hi;exact ⟨HOq.sq (hl ss σ F H s S),by rw [r.length];exact hi⟩
    · refine ⟨HOq.sq (hl ss σ F H s S),?_⟩
      rw [ZCk,r.length];exact Nat.le_refl _
    · obtain ⟨p,y,hy,ex,hp,eH⟩:=y
      subst ex;subst eH
      obtain ⟨z,hz,rz⟩:=r.get' hy
      have m:=S.alloc hp (.tup [.int i,y])
      exact ⟨_,_,ZGs hz,m,.tup ZA3 (.cons (.int _) (.one (rz.mono (s.trans m.ff))))⟩⟩
def pairP (a:Str×Str):PV:=.tup [.str a.1,.str a.2]
theorem wn_rev {k:List PV→Prop} (h:Wq ss te fun _ xs=>k xs.reverse):Wn ss (tRev K (ZA9 te ZAa)) k:=⟨fun E σ F H Q S q=>
  h.go E σ F H _ S fun v tp xs F1 H1 m1 sv kk=>by
    obtain ⟨l,vs,rfl,hl,r⟩:=sv.seq m1.st
    refine ⟨l,tp,vs,rfl,HOq.sq hl,fun a ha=>?_⟩
    have m2:=m1.st.make ha (.lst vs.reverse)
    exact q a _ _ F1 _ (m1.trans m2) (m1.st.newF ha) (m1.none ha) ZA3 r.reverse kk⟩
theorem wp_eqN (h:Wq ss ta fun tp xs=>tp=false∧Wq ss tb fun tp2 ys=>tp2=false∧ys=[]∧k (.bl (decide (xs.length=0)))):Wp ss (tOp (rEqN K) ta tb) k:=⟨fun E σ F H Q S q=>
  h.go E σ F H _ S fun v tp xs F1 H1 m1 sv ⟨et,h2⟩=>h2.go E σ F1 H1 _ m1.st fun v2 tp2 ys F2 H2 m2 sv2 ⟨et2,ey,kk⟩=>by
    subst et;subst et2;subst ey
    obtain ⟨l,vs,rfl,hl,r⟩:=(sv.mv m2).seq m2.st
    obtain ⟨l2,vs2,rfl,hl2,r2⟩:=sv2.seq m2.st
    cases r2
    refine ⟨l,l2,vs,rfl,rfl,SqL.of hl,SqL.of hl2,?_⟩
    have e:decide (vs=[])=decide (xs.length=0):=by
      rw [← r.length]
      cases vs <;> simp
    rw [e]
    exact q _ _ F2 H2 (m1.trans m2) (.bl _) kk⟩
theorem wp_int1 {r:List V→Hp→VK→Prop} (hr:r=fun xs H Q=>(∃ i,xs=[.int i]∧Q (.int i) H)∨∃ k,xs=[.bl k]∧Q (.int (if k then 1 else 0)) H) (h:Wp ss te fun p=>∃ b,p=.bl b∧k (.int (if b then 1 else 0))):Wp ss (tCB r (ZA9 te ZAa)) k:=⟨fun E σ F H Q S q=>
  h.go E σ F H _ S fun v p F1 H1 m1 r ⟨b,e,kk⟩=>by
    subst hr;subst e;cases r
    exact .inr ⟨b,rfl,q _ _ F1 H1 m1 (.int _) kk⟩⟩
end
theorem ZDy {c A B:Prop} [Decidable c] (h:c) (a:A):if c then A else B:=by rw [if_pos h];exact a
end Fz
set_option Elab.async false
set_option linter.all false
set_option maxRecDepth 100000
set_option maxHeartbeats 4000000
namespace L2
open PySem PySem.Spec PyProof.Rows
theorem ZIP {X:Cx} {tg:Expr} {a b:Expr} {ta:TA} {p pos:Pos} (hg:Gl X "range") (hm:X.mg "range" = none) (ha:QA X [a,b] ta) (hs:starEach [a,b] X.env=[(false,eval a X.env),(false,eval b X.env)]:=by rfl) (hs2:starEach [b] X.env=[(false,eval b X.env)]:=by rfl):QI X tg (.Call (.Name "range" p) [a,b] [] pos) (iRng2 ta):=⟨ZIU hg hm ha.h hs hs2⟩
end L2
namespace Fz
open PySem PySem.Spec PyProof.Rows L2 Lw
section
variable [Xw]
variable {E:Ent0} {ss:List Slot} {σ:L2.St} {F H F' H':Hp} {K:PySem.W.Frag} {js:List Nat} {ta tb tc te:TE} {k:PV→Prop} {nx:List Slot→Prop} {R:Ret} {xs ys:List PV}
def rng2 (i:Int) (n:Nat):List PV:=(List.range n).map fun j:Nat=>PV.int (i+(j:Int))
theorem ZCT (i:Int) (n:Nat):(rng2 i n).length=n:=by simp [rng2]
theorem rng2_at {i:Int} {n j:Nat} {p:PV} (h:(rng2 i n)[j]?=some p):j < n∧p=.int (i+(j:Int)):=by
  have hj:j < n:=by have:=(List.getElem?_eq_some_iff.mp h).1;rwa [ZCT] at this
  unfold rng2 at h
  rw [List.getElem?_map,List.getElem?_range hj] at h
  exact ⟨hj,(Option.some.inj h).symm⟩
theorem wi_rng2 {k:List PV→Prop} (h:Wp ss ta fun p=>∃ i:Int,p=.int i∧Wp ss tb fun p=>∃ j:Int,p=.int j∧(i≤1000000∧-1000000≤i∧j≤1000000∧-1000000≤j)∧k (rng2 i (j - i).toNat)):Wi ss (iRng2 (ZA9 ta (ZA9 tb ZAa))) k:=⟨fun E σ F H R S q=>
  h.go E σ F H _ S fun v p F1 H1 m1 r ⟨i,e,h2⟩=>by
    subst e;cases r
    exact h2.go E σ F1 H1 _ m1.st fun v2 p2 F2 H2 m2 r2 ⟨j,e2,hb,kk⟩=>by
      subst e2;cases r2
      refine ⟨i,j,rfl,by omega,q _ (rng2 i (j - i).toNat) F2 H2 (m1.trans m2) ⟨fun ss σ F H n s S hn=>?_,fun ss σ F H s S=>?_,fun ss σ F H n x H' s S hn y=>?_⟩ kk⟩
      · rw [ZCT] at hn;exact hn
      · show _≤_
        rw [ZCT];exact Nat.le_refl _
      · obtain ⟨e,hx⟩:=y
        subst e;subst hx
        rw [ZCT] at hn
        refine ⟨.int (i+(n:Int)),F,?_,.refl S,.int _⟩
        unfold rng2;rw [List.getElem?_map,List.getElem?_range hn];rfl⟩
theorem wp_abs {r:List V→Hp→VK→Prop} (hr:r=fun xs H Q=>∃ i,xs=[.int i]∧Q (.int (if i < 0 then -i else i)) H) (h:Wp ss te fun p=>∃ i:Int,p=.int i∧k (.int (if i < 0 then -i else i))):Wp ss (tCB r (ZA9 te ZAa)) k:=⟨fun E σ F H Q S q=>
  h.go E σ F H _ S fun v p F1 H1 m1 r ⟨i,e,kk⟩=>by
    subst hr;subst e;cases r
    exact ⟨i,rfl,q _ _ F1 H1 m1 (.int _) kk⟩⟩
def dP:Deed→PV
  | .put x i=>.tup [.str "put", .str x,.int i]
  | .take x=>.tup [.str "take", .str x]
  | .move x i=>.tup [.str "move", .str x,.int i]
  | .turn lo hi=>.tup [.str "turn", .int lo,.int hi]
theorem dP_rep {d:Deed} {t:Addr} (h:F t=some (.tup d.vals)):Rep F (.ref t) (dP d):=by
  cases d with
  | put x i=>exact .tup h (.cons (.str _) (.cons (.str _) (.one (.int _))))
  | take x=>exact .tup h (.cons (.str _) (.one (.str _)))
  | move x i=>exact .tup h (.cons (.str _) (.cons (.str _) (.one (.int _))))
  | turn lo hi=>exact .tup h (.cons (.str _) (.cons (.int _) (.one (.int _))))
theorem dP_vals {d:Deed} {v:V} (r:Rep F v (dP d)):∃ t,v=.ref t∧F t=some (.tup d.vals):=by
  cases d with
  | put x i=>cases r with | tup h r=>cases r with | cons a r=>cases r with | cons b r=>cases r with | cons c r=>cases r;cases a;cases b;cases c;exact ⟨_,rfl,h⟩
  | take x=>cases r with | tup h r=>cases r with | cons a r=>cases r with | cons b r=>cases r;cases a;cases b;exact ⟨_,rfl,h⟩
  | move x i=>cases r with | tup h r=>cases r with | cons a r=>cases r with | cons b r=>cases r with | cons c r=>cases r;cases a;cases b;cases c;exact ⟨_,rfl,h⟩
  | turn lo hi=>cases r with | tup h r=>cases r with | cons a r=>cases r with | cons b r=>cases r with | cons c r=>cases r;cases a;cases b;cases c;exact ⟨_,rfl,h⟩
theorem Sg.adopt (S:Sg E ss σ F H) (m:Mv E ss σ F H F H') {t:Addr} {o:HO} (ht:H t=none) (e:H' t=some o):Mv E ss σ F H (upd F t o) H':=by
  have fn:=S.newF ht
  refine S.step (ZAN fn o) (fun a u q=>?_) m.hh (fun a u q=>?_) fun i l hi ei=>m.st.potAt hi ei
  · by_cases z:a=t
    · subst z;rw [ZA3] at q;rw [← q];exact e
    · rw [ZA5 z] at q;exact m.st.fh a u q
  · by_cases z:a=t
    · subst z;exact .inr ht
    · rw [ZA5 z] at q;exact .inl q
theorem wp_deed {i:Nat} (hi:ss[i]?=some .pot) (h:Wq ss ta fun tp xs=>tp=false∧∃ ns:List Str,xs=ns.map PV.str∧Wp ss tb fun p=>∃ m:Nat,p=.int m∧(∀ x∈ns,Nm x)∧ns.length≤m∧1≤m∧m≤100∧∀ d:Deed,d.Ok m ns→k (dP d)) :
    Wp ss (ZBJ spDeed [] E0 (ZA9 (ZBK i) (ZA9 ta (ZA9 tb ZAa)))) k:=⟨fun E σ F H Q S q=>by
  obtain ⟨p,e,_⟩:=S.ok i _ hi
  refine ⟨_,e,h.go E σ F H _ S fun v tp xs F1 H1 m1 sv ⟨et,ns,ex,h2⟩=>h2.go E σ F1 H1 _ m1.st fun v2 p2 F2 H2 m2 r2 ⟨m,em,hN,hz,h1,h3,kk⟩=>?_⟩
  subst et;subst ex;subst em;cases r2
  obtain ⟨l,vs,ev,hn,hl,r⟩:=sv.mv m2
  subst ev
  rw [r.strs] at hl
  refine ⟨p,l,m,ns,rfl,m2.st.potAt hi e,hl,fun z=>hn i hi (z▸e),hN,hz,h1,h3,fun d t H3 ht s e3 hd=>?_⟩
  have m3:=m2.st.adopt (m2.st.pstep hi e s) ht e3
  exact q _ _ _ H3 (m1.trans (m2.trans m3)) (dP_rep ZA3) (kk d hd)⟩
theorem wn_ldone {k:List PV→Prop} (h:Wq ss ta fun tp xs=>tp=false∧∃ ns:List Str,xs=ns.map PV.str∧Wp ss tb fun p=>∃ d:Deed,p=dP d∧d.Ok 40 ns∧ns.length≤40∧ns.Nodup∧k ((d.done ns).map PV.str)) :
    Wn ss (ZBJ spLDone [] E0 (ZA9 ta (ZA9 tb ZAa))) k:=⟨fun E σ F H Q S q=>
  h.go E σ F H _ S fun v tp xs F1 H1 m1 sv ⟨et,ns,ex,h2⟩=>h2.go E σ F1 H1 _ m1.st fun v2 p2 F2 H2 m2 r2 ⟨d,em,hd,hz,nd,kk⟩=>by
    subst et;subst ex;subst em
    obtain ⟨l,vs,ev,hl,r⟩:=(sv.mv m2).seq m2.st
    subst ev
    rw [r.strs] at hl
    obtain ⟨t,et,ht⟩:=dP_vals r2
    subst et
    refine ⟨l,t,ns,d,rfl,hl,m2.st.fh _ _ ht,hd,hz,nd,fun a H3 ha s e3=>?_⟩
    have m3:=m2.st.grow s
    exact q a _ _ F2 H3 (m1.trans (m2.trans m3)) (m2.st.newF ha) ((m1.trans m2).none ha) e3 (ZBR _) kk⟩
theorem avs_is:∀ (ps:List PV) {vs:List V},Avs ss σ F H vs (ps.map Slot.is)→Reps F vs ps
  | [],_,h=>by cases h;exact .nil
  | p :: ps,_,h=>by
    rw [List.map_cons] at h
    cases h with
    | cons a t=>exact .cons a (avs_is ps t)
theorem avs_of {ss:List Slot} {σ:L2.St}:∀ {ps:List PV} {vs:List V},Reps F vs ps→Avs ss σ F H vs (ps.map Slot.is)
  | _,_,.nil=>.nil
  | _,_,.cons r t=>.cons (s:=.is _) r (avs_of t)
theorem ZFb {pre:Pre} {t:TA} {i:Nat} {ns:List Int} (hi:ss[i]?=some (.raw (ZB8 K ns))) (h:Wp ss te fun x=>∃ m,x=.int m∧0≤m∧m≤1000∧Wa ss t fun l=>∃ (ps:List PV) (k':PV→Prop),l=ps.map Slot.is∧pre (.pot :: l) (.is k')∧∀ p,k' p→k p) :
    Wp ss (ZBJ (spF pre) [] E0 (ZA9 (ZBJ (ZH4 K) [] E0 (ZA9 (ZBK i) (ZA9 te ZAa))) t)) k:=⟨fun E σ F H Q S q=>by
  obtain ⟨v,e,⟨a,ev,hq⟩,st⟩:=S.ok i _ hi
  subst ev
  refine ⟨_,e,h.go E σ F H _ S fun v x F1 H1 m1 r ⟨m,em,m0,m1',hw⟩=>?_⟩
  subst em;cases r
  obtain ⟨v',e',hq1,_⟩:=m1.st.ok i _ hi
  rw [e] at e';cases e'
  obtain ⟨a',ea,hq'⟩:=ZBN K ns _ F1 H1 m1.st.fh hq1
  cases ea
  refine ⟨a,ns,m,rfl,hq',m0,m1',fun p H2 hp s pp=>?_⟩
  have m2:=m1.st.grow s
  refine hw.go E σ F1 H2 _ m2.st fun vs l F3 H3 m3 av ⟨ps,k',el,hpre,kk⟩=>?_
  show spF pre ((V.ref p :: vs)++[]) H3 Q E0
  rw [List.append_nil]
  have m03:=m1.trans (m2.trans m3)
  have pslot:∀ (j:Nat) s,ss[j]?=some s→¬ ZB1 s σ[j]? p:=fun j s hj=>m1.st.newAddr hj hp
  have np:ZC1 ss σ p:=fun j hj=>pslot j _ hj
  have pp3:Pot H3 p:=Pot.keep pp fun o eo=>m3.hh p o np eo
  have fp3:F3 p=none:=by
    cases z:F3 p with
    | none=>rfl
    | some o=>
      rcases m3.nn p o z with w | w
      · rw [m1.st.newF hp] at w;cases w
      · obtain ⟨_,_,w2,_⟩:=pp
        rw [w] at w2;cases w2
  have S':Sg E (ss++[.pot]) (σ++[some (.ref p)]) F3 H3:=by
    have S3:=m3.st
    have at1:∀ (j:Nat) s,(ss++[Slot.pot])[j]?=some s→(ss[j]?=some s∧(σ++[some (V.ref p)])[j]?=σ[j]?)∨(s=.pot∧(σ++[some (V.ref p)])[j]?=some (some (.ref p))∧j=ss.length):=fun j s hj=>by
      by_cases hlt:j < ss.length
      · rw [List.getElem?_append_left hlt] at hj
        rw [List.getElem?_append_left (by rw [← S3.len];exact hlt)]
        exact .inl ⟨hj,rfl⟩
      · rw [List.getElem?_append_right (by omega)] at hj
        have hj0:j - ss.length=0:=by
          have:=(List.getElem?_eq_some_iff.mp hj).1
          simpa using this
        rw [hj0] at hj
        refine .inr ⟨by simpa using hj.symm,?_,by omega⟩
        rw [List.getElem?_append_right (by rw [← S3.len];omega),← S3.len,hj0];rfl
    refine ⟨S3.toFin,by simp [S3.len],fun j s hj=>?_,fun j j2 s u l hjj hj hj2 ms mu=>?_⟩
    · rcases at1 j s hj with ⟨a1,a2⟩ | ⟨rfl,a2,_⟩
      · rw [a2];exact S3.ok j s a1
      · rw [a2];exact ⟨p,rfl,fp3,.inl (m1.st.new0 hp),pp3⟩
    · rcases at1 j s hj with ⟨a1,a2⟩ | ⟨rfl,a2,a3⟩
      · rcases at1 j2 u hj2 with ⟨b1,b2⟩ | ⟨rfl,b2,_⟩
        · rw [a2] at ms;rw [b2] at mu;exact S3.dis j j2 s u l hjj a1 b1 ms mu
        · rw [a2] at ms;rw [b2] at mu;cases mu;exact pslot j s a1 ms
      · rcases at1 j2 u hj2 with ⟨b1,b2⟩ | ⟨rfl,b2,b3⟩
        · rw [a2] at ms;cases ms;rw [b2] at mu;exact pslot j2 u b1 mu
        · exact absurd (a3.trans b3.symm) hjj
  have hpi:(ss++[Slot.pot])[ss.length]?=some .pot:=by rw [List.getElem?_append_right (Nat.le_refl _)];simp
  have hpe:(σ++[some (V.ref p)])[ss.length]?=some (some (.ref p)):=by rw [m3.st.len,List.getElem?_append_right (Nat.le_refl _)];simp
  have av':Avs (ss++[Slot.pot]) (σ++[some (V.ref p)]) F3 H3 vs l:=by
    subst el
    exact avs_of (avs_is ps av)
  refine ⟨.pot :: l,.is k',F3,[p],hpre,S'.call1 hpi hpe av',fun v F' H' f ⟨pv,r,kp⟩=>?_⟩
  have hA:∀ a,a≠p→a∉[p]:=fun a h z=>h (by simpa using z)
  have hHp:H p=none:=m1.none hp
  have mv:Mv E ss σ F H F' H':=by
    refine S.step (m03.ff.trans f.f0) f.fh (fun a o n e=>f.keep a o ⟨hA a (ZAF e hHp),List.not_mem_nil⟩ (m03.hh a o n e)) (fun a o e=>?_) fun j l hj ej=>?_
    · rcases f.fresh a o e with w | w
      · exact m03.nn a o w
      · exact .inr (m03.none w)
    · exact Pot.keep (m3.st.potAt hj ej) fun o eo=>f.keep l o ⟨hA l (by rintro rfl;exact pslot j _ hj ej),List.not_mem_nil⟩ eo
  exact q v pv F' H' mv r (kk pv kp)⟩
end
end Fz
set_option Elab.async false
set_option linter.all false
set_option maxRecDepth 100000
set_option maxHeartbeats 4000000
namespace L2
open PySem PySem.Spec PyProof.Rows
section
variable {X:Cx}
end
end L2
namespace Fz
open PySem PySem.Spec PyProof.Rows L2 Lw
section
variable [Xw]
variable {E:Ent0} {ss:List Slot} {σ:L2.St} {F H F' H':Hp} {K:PySem.W.Frag} {js:List Nat} {ta tb tc te:TE} {k:PV→Prop} {nx:List Slot→Prop} {R:Ret} {xs ys:List PV} {P:Program} {w:World}
theorem wp_isB (h:Wp ss ta fun p=>∃ a,p=.bl a∧Wp ss tb fun q=>∃ b,q=.bl b∧k (.bl (a == b))):Wp ss (tOp (fun x y H Q=>∃ a b,x=.bl a∧y=.bl b∧Q (.bl (a == b)) H) ta tb) k:=⟨fun E σ F H Q S q=>
  h.go E σ F H _ S fun v p F1 H1 m1 r1 ⟨a,e1,h2⟩=>by
    subst e1;cases r1
    exact h2.go E σ F1 H1 _ m1.st fun v2 p2 F2 H2 m2 r2 ⟨b,e2,kk⟩=>by
      subst e2;cases r2
      exact ⟨a,b,rfl,rfl,q _ _ F2 H2 (m1.trans m2) (.bl _) kk⟩⟩
theorem wp_notB (h:Wp ss ta fun p=>∃ a,p=.bl a∧Wp ss tb fun q=>∃ b,q=.bl b∧k (.bl (!(a == b)))):Wp ss (tOp (fun x y H Q=>∃ a b,x=.bl a∧y=.bl b∧Q (.bl (!(a == b))) H) ta tb) k:=⟨fun E σ F H Q S q=>
  h.go E σ F H _ S fun v p F1 H1 m1 r1 ⟨a,e1,h2⟩=>by
    subst e1;cases r1
    exact h2.go E σ F1 H1 _ m1.st fun v2 p2 F2 H2 m2 r2 ⟨b,e2,kk⟩=>by
      subst e2;cases r2
      exact ⟨a,b,rfl,rfl,q _ _ F2 H2 (m1.trans m2) (.bl _) kk⟩⟩
theorem wp_neN (h:Wq ss ta fun tp xs=>tp=false∧Wq ss tb fun tp2 ys=>tp2=false∧ys=[]∧k (.bl (!decide (xs.length=0)))):Wp ss (tOp (rNeN K) ta tb) k:=⟨fun E σ F H Q S q=>
  h.go E σ F H _ S fun v tp xs F1 H1 m1 sv ⟨et,h2⟩=>h2.go E σ F1 H1 _ m1.st fun v2 tp2 ys F2 H2 m2 sv2 ⟨et2,ey,kk⟩=>by
    subst et;subst et2;subst ey
    obtain ⟨l,vs,rfl,hl,r⟩:=(sv.mv m2).seq m2.st
    obtain ⟨l2,vs2,rfl,hl2,r2⟩:=sv2.seq m2.st
    cases r2
    refine ⟨l,l2,vs,rfl,rfl,SqL.of hl,SqL.of hl2,?_⟩
    have e:decide (vs=[])=decide (xs.length=0):=by
      rw [← r.length]
      cases vs <;> simp
    rw [e]
    exact q _ _ F2 H2 (m1.trans m2) (.bl _) kk⟩
theorem ZFw {k:List PV→Prop} (h:Wq ss te fun _ xs=>∃ ns:List Str,xs=ns.map PV.str∧ns.length < 64∧∀ ts:List Str,ts.length=(dd ns).length→(∀ x,(dd ns).any (· == x)=true↔x∈ts)→sortedS ts=true→k (ts.map PV.str)) :
    Wn ss (tCB (rSortedT P w) (ZA9 (tCB (fun xs H Q=>∃ (p:Addr) (tp:Bool) (ss:List Str),xs=[.ref p]∧SqB K tp H p (ss.map V.str)∧ss.length < 4000∧∀ l,H l=none→Q (.ref l) (upd H l (SetTO P w l (fun k'=>(dd ss).any (· == k')) (dd ss).length))) (ZA9 te ZAa)) ZAa)) k:=⟨fun E σ F H Q S q=>
  h.go E σ F H _ S fun v tp xs F1 H1 m1 sv ⟨ns,e,hz,kk⟩=>by
    subst e
    obtain ⟨l,vs,rfl,hl,r⟩:=sv.seq m1.st
    rw [r.strs] at hl
    refine ⟨l,tp,ns,rfl,HOq.sq hl,by omega,fun a ha=>?_⟩
    have m2:=m1.st.make ha (SetTO P w a (fun k'=>(dd ns).any (· == k')) (dd ns).length)
    refine ⟨a,_,_,rfl,ZA3,Nat.lt_of_le_of_lt (dd_len ns) hz,fun b ts hb hl2 hm hs=>?_⟩
    have m3:=m2.st.make hb (.lst (ts.map V.str))
    exact q b _ _ F1 _ (m1.trans (m2.trans m3)) (m2.st.newF hb) ((m1.trans m2).none hb) ZA3 (ZBR ts) (kk ts hl2 hm hs)⟩
theorem ZIO (h:Wq ss te fun _ xs=>∃ ns:List Str,xs=ns.map PV.str∧ns.length < 4000∧k (.int ((dd ns).length:Nat))) :
    Wp ss (tCB (fun xs H Q=>∃ l f n,xs=[.ref l]∧H l=some (SetO P w l f n)∧Q (.int (n:Nat)) H) (ZA9 (tCB (fun xs H Q=>∃ (p:Addr) (tp:Bool) (ss:List Str),xs=[.ref p]∧SqB K tp H p (ss.map V.str)∧ss.length < 4000∧∀ l,H l=none→Q (.ref l) (upd H l (SetO P w l (fun k'=>(dd ss).any (· == k')) (dd ss).length))) (ZA9 te ZAa)) ZAa)) k:=⟨fun E σ F H Q S q=>
  h.go E σ F H _ S fun v tp xs F1 H1 m1 sv ⟨ns,e,hz,kk⟩=>by
    subst e
    obtain ⟨l,vs,rfl,hl,r⟩:=sv.seq m1.st
    rw [r.strs] at hl
    refine ⟨l,tp,ns,rfl,HOq.sq hl,hz,fun a ha=>?_⟩
    have m2:=m1.st.make ha (SetO P w a (fun k'=>(dd ns).any (· == k')) (dd ns).length)
    exact ⟨a,_,_,rfl,ZA3,q _ _ F1 _ (m1.trans m2) (.int _) kk⟩⟩
end
end Fz
set_option Elab.async false
set_option linter.all false
set_option maxRecDepth 100000
set_option maxHeartbeats 4000000
namespace L2
open PySem PySem.Spec PyProof.Rows
section
variable {X:Cx} {pins:List (Addr×Obj)} {σ:St} {H:Hp} {s:Shared}
def rNeLT (K:PySem.W.Frag):R2:=fun x y H Q=>∃ p q xs ys,x=.ref p∧y=.ref q∧SqL K H p xs∧SqL K H q ys∧xs.length=ys.length∧(∀ (j:Nat) (x y:V),xs[j]?=some x→ys[j]?=some y→EqT K H 8 x y)∧Q (.bl false) H
def tLR (t:TA):TE:=fun σ H Q=>t σ H fun vs H1=>∃ n:Nat,vs=[.int n]∧n≤1000∧∀ l,H1 l=none→Q (.ref l) (upd H1 l (.lst ((List.range n).map fun i:Nat=>V.int i)))
end
end L2
set_option Elab.async false
set_option linter.all false
set_option maxRecDepth 100000
set_option maxHeartbeats 4000000
namespace Fz
open PySem PySem.Spec PyProof.Rows L2 Lw
section
variable [Xw]
variable {K:PySem.W.Frag} {E:Ent0} {ss:List Slot} {σ:L2.St} {F H:Hp} {te ta tb:TE} {k:PV→Prop} {nx:List Slot→Prop} {R:Ret} {xs ys:List PV}
theorem wn_lr {k:List PV→Prop} (h:Wp ss te fun p=>∃ j:Int,p=.int j∧0≤j∧j≤1000∧k (ZDz j.toNat)):Wn ss (tLR (ZA9 te ZAa)) k:=⟨fun E σ F H Q S q=>
  h.go E σ F H _ S fun v p F1 H1 m1 r ⟨j,e,h0,hz,kk⟩=>by
    subst e;cases r
    generalize hn:j.toNat=n at kk
    refine ⟨n,by rw [← hn,Int.toNat_of_nonneg h0],by omega,fun a ha=>?_⟩
    have m2:=m1.st.make ha (.lst ((List.range n).map fun i:Nat=>V.int i))
    have rr:Reps F1 ((List.range n).map fun i:Nat=>V.int i) (ZDz n):=by
      have e1:ZDz n=((List.range n).map fun i:Nat=>(i:Int)).map PV.int:=by unfold ZDz;rw [List.map_map];rfl
      have e2:((List.range n).map fun i:Nat=>V.int (i:Int))=(ZDz n).map Fz.enc:=by rw [e1,enc_ints,List.map_map];rfl
      rw [e2]
      exact ZD9 (by rw [e1];exact ZJ8 _)
    exact q a _ _ F1 _ (m1.trans m2) (m1.st.newF ha) (m1.none ha) ZA3 rr kk⟩
theorem ZIm {K:PySem.W.Frag} {F H:Hp} (fh:Same F H) {v u:V} {a:Str×Str} (r1:Rep F v (pairP a)) (r2:Rep F u (pairP a)):EqT K H 8 v u:=by
  cases r1 with
  | tup h1 q1=>
    cases r2 with
    | tup h2 q2=>
      have e1:=q1.enc (ps:=[.str a.1,.str a.2]) rfl
      have e2:=q2.enc (ps:=[.str a.1,.str a.2]) rfl
      subst e1;subst e2
      refine .tup (d:=7) (SqT.of (fh _ _ h1)) (SqT.of (fh _ _ h2)) rfl fun j x y hx hy=>?_
      rw [hx] at hy;cases hy
      have hm:=List.mem_of_getElem? hx
      rcases List.mem_cons.mp hm with rfl | hm
      · exact .flat rfl rfl (by simp [Fz.enc,eqV])
      · have:=List.mem_singleton.mp hm
        subst this
        exact .flat rfl rfl (by simp [Fz.enc,eqV])
theorem wp_neLT (h:Wq ss ta fun tp xs=>tp=false∧Wq ss tb fun tp2 ys=>tp2=false∧(∃ ps:List (Str×Str),xs=ps.map pairP∧ys=ps.map pairP)∧k (.bl false)):Wp ss (tOp (rNeLT K) ta tb) k:=⟨fun E σ F H Q S q=>
  h.go E σ F H _ S fun v tp xs F1 H1 m1 sv ⟨et,h2⟩=>h2.go E σ F1 H1 _ m1.st fun v2 tp2 ys F2 H2 m2 sv2 ⟨et2,⟨ps,ex,ey⟩,kk⟩=>by
    subst et;subst et2;subst ex;subst ey
    obtain ⟨l,vs,rfl,hl,r⟩:=(sv.mv m2).seq m2.st
    obtain ⟨l2,vs2,rfl,hl2,r2⟩:=sv2.seq m2.st
    refine ⟨l,l2,vs,vs2,rfl,rfl,SqL.of hl,SqL.of hl2,by rw [r.length,r2.length],fun j x y hx hy=>?_,q _ _ F2 H2 (m1.trans m2) (.bl _) kk⟩
    obtain ⟨p,hp,rp⟩:=r.get' hx
    obtain ⟨p2,hp2,rp2⟩:=r2.get' hy
    rw [hp] at hp2;cases hp2
    rw [List.getElem?_map] at hp
    cases ha:ps[j]? with
    | none=>rw [ha] at hp;cases hp
    | some a=>
      rw [ha] at hp;cases hp
      exact ZIm m2.st.fh rp rp2⟩
end
end Fz
set_option Elab.async false
set_option linter.all false
set_option maxRecDepth 100000
set_option maxHeartbeats 4000000
namespace L2
open PySem PySem.Spec PyProof.Rows
end L2
namespace Lw
open PySem PySem.Spec PyProof.Rows L2
def Held (lh:Addr) (H:Hp) (vs:List V):Prop:=∀ v∈vs,∃ (t f d:Addr) (xs:List Str),v=.ref t∧H t=some (.tup [.ref f,.ref d])∧f≠lh∧d≠lh∧H f=some (.lst (xs.map V.str))∧H d=some (.lst (xs.map V.str))
theorem Held.mono {lh:Addr} {H H':Hp} {vs ws:List V} (h:Held lh H vs) (hl:H lh=some (.lst ws)) (k:∀ b o,b≠lh→H b=some o→H' b=some o):Held lh H' vs:=by
  intro v hv
  obtain ⟨t,f,d,xs,e,h1,h2,h3,h4,h5⟩:=h v hv
  have ht:t≠lh:=fun z=>by subst z;rw [h1] at hl;cases hl
  exact ⟨t,f,d,xs,e,k _ _ ht h1,h2,h3,k _ _ h2 h4,k _ _ h3 h5⟩
end Lw
set_option Elab.async false
set_option linter.all false
set_option maxRecDepth 100000
set_option maxHeartbeats 4000000
namespace Lw
open PySem PySem.Spec PyProof.Rows L2
end Lw
set_option linter.all false
set_option linter.all false
namespace Lw
open PySem PySem.Spec PyProof.Rows L2
end Lw
set_option Elab.async false
set_option linter.all false
set_option maxRecDepth 100000
set_option maxHeartbeats 4000000
namespace Lw
open PySem PySem.Spec PyProof.Rows L2
def LoopC (H:Hp) (t c:Addr) (r:Str) (g:Int) (ss:List Str):Prop:=H t=some (.tup [.str r,.int g,.ref c])∧H c=some (.tup (ss.map V.str))
theorem LoopC.h {H:Hp} {t c:Addr} {r:Str} {g:Int} {ss:List Str} (h:LoopC H t c r g ss):LoopH H t r g ss:=⟨c,h⟩
theorem LoopC.same {H H':Hp} {t c:Addr} {r:Str} {g:Int} {ss:List Str} (s:Same H H') (h:LoopC H t c r g ss):LoopC H' t c r g ss:=⟨s _ _ h.1,s _ _ h.2⟩
def StepC (H H':Hp) (t' t:Addr) (ns:List Str) (r:Str) (g:Nat) (ss:List Str):Prop:=
  (restL ns g ss=[]∧H' t'=some (.tup [.non,.ref t]))∨∃ x rst t2 c2,restL ns g ss=x :: rst∧H t2=none∧H c2=none∧H' t'=some (.tup [.str x,.ref t2])∧LoopC H' t2 c2 r ((ns.idxOf x:Nat)+1) (wo ss x)
def spStepC (K:PySem.W.Frag):Sp:=fun vs H Q _=>∃ (a:Addr) (tp:Bool) (ns:List Str) (t:Addr) (r:Str) (g:Nat) (ss:List Str),vs=[.ref a,.ref t]∧H a=some (HOq tp (ns.map V.str))∧LoopH H t r g ss∧ss.length < 64∧isLp ns r g ss=true∧ns.length≤1000∧
  ∀ t' H',H t'=none→Same H H'→StepC H H' t' t ns r g ss→Q (.ref t') H'
end Lw
namespace Fz
open PySem PySem.Spec PyProof.Rows L2 Lw
def ZFU (r:Str) (g:Nat) (ss:List Str):PV:=.tup [.str r,.int g,.tup (ss.map .str)]
section
variable [Xw]
variable {E:Ent0} {ss:List Slot} {σ:L2.St} {F H F1 F' H':Hp} {K:PySem.W.Frag} {js:List Nat} {ta tb tc te:TE} {nx:List Slot→Prop} {R:Ret} {k:PV→Prop}
theorem Mv.adopt (m:Mv E ss σ F H F1 H') (S:Sg E ss σ F H) {t:Addr} {o:HO} (ht:H t=Option.none) (e:H' t=some o):Mv E ss σ F H (upd F1 t o) H':=by
  have sm:Same F1 (upd F1 t o):=fun a u q=>by
    by_cases z:a=t
    · subst z
      have w:=m.st.fh _ _ q
      rw [e] at w
      rw [ZA3];exact w
    · rw [ZA5 z];exact q
  refine S.step (m.ff.trans sm) (fun a u q=>?_) m.hh (fun a u q=>?_) fun i l hi ei=>m.st.potAt hi ei
  · by_cases z:a=t
    · subst z;rw [ZA3] at q;rw [← q];exact e
    · rw [ZA5 z] at q;exact m.st.fh a u q
  · by_cases z:a=t
    · subst z;exact .inr ht
    · rw [ZA5 z] at q;exact m.nn a u q
theorem loopP_of {v:V} {r:Str} {g:Nat} {cs:List Str} (h:Rep F v (ZFU r g cs)):∃ t c,v=.ref t∧LoopC F t c r g cs:=by
  cases h with
  | tup e q=>cases q with
    | cons a q=>cases q with
      | cons b q=>cases q with
        | cons c q=>
          cases q;cases a;cases b
          cases c with
          | tup e2 q2=>rw [q2.strs] at e2;exact ⟨_,_,rfl,e,e2⟩
theorem ZFD {t c:Addr} {r:Str} {g:Nat} {cs:List Str} (h:LoopC F t c r g cs):Rep F (.ref t) (ZFU r g cs):=.tup h.1 (.cons (.str _) (.cons (.int _) (.one (.tup h.2 (ZBR cs)))))
theorem Mv.loopC (m:Mv E ss σ F H F1 H') (S:Sg E ss σ F H) {t c c0:Addr} {o:HO} {r:Str} {g:Nat} {cs:List Str} (ht:H t=Option.none) (hc:H c=Option.none∨c=c0) (h0:F c0=some o) (e:LoopC H' t c r g cs):∃ F2,Mv E ss σ F H F2 H'∧Same F1 F2∧Rep F2 (.ref t) (ZFU r g cs):=by
  have key:∃ F2,Mv E ss σ F H F2 H'∧Same F1 F2∧F2 c=some (.tup (cs.map V.str)):=by
    rcases hc with hc | rfl
    · refine ⟨_,m.adopt S hc e.2,fun a u q=>?_,ZA3⟩
      by_cases z:a=c
      · subst z
        have w:=m.st.fh _ _ q
        rw [e.2] at w
        rw [ZA3];exact w
      · rw [ZA5 z];exact q
    · refine ⟨F1,m,Same.refl _,?_⟩
      have w:=m.ff _ _ h0
      have w2:=m.st.fh _ _ w
      rw [e.2] at w2
      rw [w,← w2]
  obtain ⟨F2,m2,s2,hc2⟩:=key
  have sm:Same F2 (upd F2 t (.tup [.str r,.int g,.ref c])):=fun a u q=>by
    by_cases z:a=t
    · subst z
      have w:=m2.st.fh _ _ q
      rw [e.1] at w
      rw [ZA3];exact w
    · rw [ZA5 z];exact q
  exact ⟨_,m2.adopt S ht e.1,s2.trans sm,ZFD ⟨ZA3,sm _ _ hc2⟩⟩
def stepP (ns:List Str) (r:Str) (g:Nat) (cs:List Str):PV:=match restL ns g cs with
  | []=>.tup [.non,ZFU r g cs]
  | x :: _=>.tup [.str x,ZFU r (ns.idxOf x+1) (wo cs x)]
theorem Mv.stepC (m:Mv E ss σ F H F1 H') (S:Sg E ss σ F H) {t t' c:Addr} {ns:List Str} {r:Str} {g:Nat} {cs:List Str} (ht:H t'=Option.none) (h0:LoopC F t c r g cs) (e:StepC H H' t' t ns r g cs):∃ F2,Mv E ss σ F H F2 H'∧Rep F2 (.ref t') (stepP ns r g cs):=by
  rcases e with ⟨er,e⟩ | ⟨x,rst,t2,c2,er,h2,h3,e,lc⟩
  · refine ⟨_,m.adopt S ht e,?_⟩
    have sm:=(m.adopt S ht e).ff
    unfold stepP
    rw [er]
    exact .tup ZA3 (.cons .non (.one (ZFD (h0.same sm))))
  · have lc':LoopC H' t2 c2 r ((ns.idxOf x+1:Nat):Int) (wo cs x):=lc
    obtain ⟨F2,m2,_,r2⟩:=m.loopC S h2 (.inl h3) h0.1 lc'
    refine ⟨_,m2.adopt S ht e,?_⟩
    have sm:Same F2 (upd F2 t' (.tup [.str x,.ref t2])):=fun a u q=>by
      by_cases z:a=t'
      · subst z
        have w:=m2.st.fh _ _ q
        rw [e] at w
        rw [ZA3];exact w
      · rw [ZA5 z];exact q
    unfold stepP
    rw [er]
    exact .tup ZA3 (.cons (.str _) (.one (r2.mono sm)))
theorem wp_step (h:Wq ss ta fun tp xs=>∃ ns:List Str,xs=ns.map PV.str∧Wp ss tb fun p=>∃ (r:Str) (g:Nat) (cs:List Str),p=ZFU r g cs∧GoodL ns r g cs∧ns.length≤60∧k (stepP ns r g cs)) :
    Wp ss (ZBJ (spStepC K) [] E0 (ZA9 ta (ZA9 tb ZAa))) k:=⟨fun E σ F H Q S q=>
  h.go E σ F H _ S fun v tp xs F1 H1 m1 sv ⟨ns,ex,h2⟩=>h2.go E σ F1 H1 _ m1.st fun v2 p2 F2 H2 m2 r2 ⟨r,g,cs,ep,gd,hz,kk⟩=>by
    subst ex;subst ep
    obtain ⟨l,vs,rfl,hl,rr⟩:=(sv.mv m2).seq m2.st
    rw [rr.strs] at hl
    obtain ⟨tl,c0,rfl,lc⟩:=loopP_of r2
    have hlen:=gd.len
    refine ⟨l,tp,ns,tl,r,g,cs,rfl,hl,(lc.same m2.st.fh).h,by omega,gd.isLp,by omega,fun t' H4 ht' s4 e4=>?_⟩
    obtain ⟨F4,m4,r4⟩:=(m2.st.grow s4).stepC m2.st ht' lc e4
    exact q _ _ F4 H4 (m1.trans (m2.trans m4)) r4 kk⟩
end
end Fz
set_option Elab.async false
set_option linter.all false
set_option maxRecDepth 100000
set_option maxHeartbeats 4000000
namespace Fz
open PySem PySem.Spec PyProof.Rows L2 Lw
section
variable [Xw]
variable {E:Ent0} {ss:List Slot} {σ:L2.St} {F H F1 F' H':Hp} {K:PySem.W.Frag} {js:List Nat} {ta tb tc te ti:TE} {nx:List Slot→Prop} {R:Ret} {k:PV→Prop} {xs:List PV}
end
end Fz
set_option Elab.async false
set_option linter.all false
set_option maxRecDepth 100000
set_option maxHeartbeats 4000000
namespace Fz
open PySem PySem.Spec PyProof.Rows L2 Lw
mutual
def eqP:PV→PV→Bool
  | .lst xs,.lst ys=>ZBu xs ys
  | .tup xs,.tup ys=>ZBu xs ys
  | .tup xs,.con _ ys=>ZBu xs ys
  | .con _ xs,.tup ys=>ZBu xs ys
  | .con _ xs,.con _ ys=>ZBu xs ys
  | .non,.non=>true
  | .bl a,.bl b=>a == b
  | .bl a,.int b=>(if a then 1 else 0) == b
  | .int a,.bl b=>a == (if b then 1 else 0)
  | .int a,.int b=>a == b
  | .str a,.str b=>a == b
  | _,_=>false
def ZBu:List PV→List PV→Bool
  | [],[]=>true
  | x :: r,y :: t=>eqP x y && ZBu r t
  | _,_=>false
end
theorem ZCm (x y:PV) (r t:List PV):ZBu (x :: r) (y :: t)=(eqP x y && ZBu r t):=by rw [ZBu]
theorem ZEh:∀ (xs ys:List PV),xs.length≠ys.length→ZBu xs ys=false
  | [],[],h=>absurd rfl h
  | [],_ :: _,_=>by rw [ZBu];all_goals simp
  | _ :: _,[],_=>by rw [ZBu];all_goals simp
  | x :: r,y :: t,h=>by rw [ZCm,ZEh r t (by simpa using h),Bool.and_false]
theorem ZCv:∀ (xs ys:List PV),xs.length=ys.length→ZBu xs ys=(List.range xs.length).all fun j=>eqP (xs.getD j .non) (ys.getD j .non)
  | [],[],_=>by rw [ZBu];rfl
  | x :: r,y :: t,h=>by
    rw [ZCm,ZCv r t (by simpa using h),List.length_cons,List.range_succ_eq_map,List.all_cons,List.all_map]
    rfl
def dat (K:PySem.W.Frag):Nat→PV→Prop
  | _,.non=>True
  | _,.bl _=>True
  | _,.int _=>True
  | _,.str _=>True
  | d+1,.lst xs=>∀ x∈xs,dat K d x
  | d+1,.tup xs=>∀ x∈xs,dat K d x
  | d+1,.con a xs=>(∀ x∈xs,dat K d x)∧xs.all flat=true∧∀ H,SqT K H a (xs.map Fz.enc)
  | _,_=>False
inductive Sqs (K:PySem.W.Frag) (H:Hp):V→PV→Bool→Addr→List V→List PV→Prop where
  | lst {a:Addr} {vs:List V} {xs:List PV}:SqL K H a vs→Reps H vs xs→Sqs K H (.ref a) (.lst xs) false a vs xs
  | tup {a:Addr} {vs:List V} {xs:List PV}:SqT K H a vs→Reps H vs xs→Sqs K H (.ref a) (.tup xs) true a vs xs
  | con {a:Addr} {vs:List V} {xs:List PV}:SqT K H a vs→Reps H vs xs→Sqs K H (.ref a) (.con a xs) true a vs xs
theorem ZB3 {K:PySem.W.Frag} {H:Hp}:∀ {d:Nat} {x:V} {p:PV},dat K d p→Rep H x p→(flat p=true∧x=Fz.enc p)∨∃ d' tp a vs xs,d=d'+1∧Sqs K H x p tp a vs xs∧∀ y∈xs,dat K d' y:=by
  intro d x p h r
  cases r with
  | non=>exact .inl ⟨rfl,rfl⟩
  | bl b=>exact .inl ⟨rfl,rfl⟩
  | int b=>exact .inl ⟨rfl,rfl⟩
  | str b=>exact .inl ⟨rfl,rfl⟩
  | lst e r=>cases d with
    | zero=>exact h.elim
    | succ d=>exact .inr ⟨d,_,_,_,_,rfl,.lst (SqL.of e) r,h⟩
  | tup e r=>cases d with
    | zero=>exact h.elim
    | succ d=>exact .inr ⟨d,_,_,_,_,rfl,.tup (SqT.of e) r,h⟩
  | con=>cases d with
    | zero=>exact h.elim
    | succ d=>obtain ⟨h1,h2,h3⟩:=h;exact .inr ⟨d,_,_,_,_,rfl,.con (h3 H) (ZD9 h2),h1⟩
  | dct _ _ _=>cases d <;> exact h.elim
  | obj _ _ _ _=>cases d <;> exact h.elim
  | exc0 _=>cases d <;> exact h.elim
  | exc _ _ _ _=>cases d <;> exact h.elim
section
variable {X:Cx} {pins:List (Addr×Obj)} {σ:L2.St} {H:Hp} {s:Shared}
theorem items_eq {A:Around} {vs ws:List V} {its its2:List Value} {xs ys:List PV} (r1:Vals vs its) (r2:Vals ws its2) (q1:Reps H vs xs) (q2:Reps H ws ys)
    (h:∀ (x y:V) (p q:PV) (u v:Value),p∈xs→q∈ys→Rep H x p→Rep H y q→RelV x u→RelV y v→SeqAt.EqAt A s u v (eqP p q)) :
    ∀ j (h1:j < its.toArray.size) (h2:j < its2.toArray.size),SeqAt.EqAt A s its.toArray[j] its2.toArray[j] ((fun j=>eqP (xs.getD j .non) (ys.getD j .non)) j):=fun j h1 h2=>by
  have l1:=r1.length
  have l2:=r2.length
  have l3:=q1.length
  have l4:=q2.length
  have h1':j < its.length:=by simpa using h1
  have h2':j < its2.length:=by simpa using h2
  have a1:j < xs.length:=by omega
  have a2:j < ys.length:=by omega
  obtain ⟨x,hx,rx⟩:=q1.get (i:=j) (p:=xs[j]) (List.getElem?_eq_getElem a1)
  obtain ⟨y,hy,ry⟩:=q2.get (i:=j) (p:=ys[j]) (List.getElem?_eq_getElem a2)
  obtain ⟨u,hu,ru⟩:=r1.get hx
  obtain ⟨v,hv,rv⟩:=r2.get hy
  rw [List.getElem?_eq_getElem h1'] at hu
  rw [List.getElem?_eq_getElem h2'] at hv
  have hu':its[j]=u:=Option.some.inj hu
  have hv':its2[j]=v:=Option.some.inj hv
  have q:=h x y _ _ u v (List.getElem_mem a1) (List.getElem_mem a2) rx ry ru rv
  rw [← hu',← hv'] at q
  show SeqAt.EqAt A s _ _ (eqP (xs.getD j .non) (ys.getD j .non))
  rw [List.getD_eq_getElem?_getD,List.getElem?_eq_getElem a1,List.getD_eq_getElem?_getD,List.getElem?_eq_getElem a2]
  simpa using q
theorem ZD5 {p:PV} {x:V} {tp:Bool} {a:Addr} {vs:List V} {xs:List PV} {q:PV} (h:Sqs X.K H x p tp a vs xs) (f:flat q=true):eqP p q=false∧eqP q p=false:=by
  cases h <;> cases q <;> first | (cases f;done) | exact ⟨by rw [eqP] <;> simp,by rw [eqP] <;> simp⟩
theorem ZG8 {p q:PV} {x y:V} {a b:Addr} {tp tp2:Bool} {vs ws:List V} {xs ys:List PV} (h:Sqs X.K H x p tp a vs xs) (h2:Sqs X.K H y q tp2 b ws ys):eqP p q=(if tp=tp2 then ZBu xs ys else false):=by
  cases h <;> cases h2 <;> first | (rw [if_pos rfl,eqP];done) | (rw [if_neg (by decide),eqP] <;> simp)
theorem ZCi {p q:PV} (h:flat p=true) (h2:flat q=true):eqP p q=eqV (Fz.enc p) (Fz.enc q):=by
  cases p <;> cases q <;> first | (cases h;done) | (cases h2;done) | (rw [eqP] <;> first | rfl | simp [Fz.enc,eqV];done)
theorem rc_flat {A:Around} {p q:PV} {u v:Value} (h:flat p=true) (h2:flat q=true) (ru:RelV (Fz.enc p) u) (rv:RelV (Fz.enc q) v):SeqAt.RcAt A s u v (eqP p q)∧SeqAt.RcNeAt A s u v (!eqP p q):=by
  cases p <;> first | (cases h;done) | skip
  all_goals cases q <;> first | (cases h2;done) | skip
  all_goals simp only [Fz.enc,L2.RelV] at ru rv
  · subst ru;subst rv;rw [eqP];exact ⟨.none_none,.none_none⟩
  · subst ru;subst rv;rw [eqP] <;> first | exact ⟨.none_bool _,.none_bool _⟩ | simp
  · subst ru;obtain ⟨t,rfl⟩:=rv;rw [eqP] <;> first | exact ⟨.none_int _ _,.none_int _ _⟩ | simp
  · subst ru;obtain ⟨t,rfl⟩:=rv;rw [eqP] <;> first | exact ⟨.none_str _ _,.none_str _ _⟩ | simp
  · subst ru;subst rv;rw [eqP] <;> first | exact ⟨.bool_none _,.bool_none _⟩ | simp
  · subst ru;subst rv;rw [eqP];exact ⟨.bool_bool _ _,.bool_bool _ _⟩
  · subst ru;obtain ⟨t,rfl⟩:=rv;rw [eqP];exact ⟨.bool_int _ _ _,.bool_int _ _ _⟩
  · subst ru;obtain ⟨t,rfl⟩:=rv;rw [eqP] <;> first | exact ⟨.bool_str _ _ _,.bool_str _ _ _⟩ | simp
  · obtain ⟨t,rfl⟩:=ru;subst rv;rw [eqP] <;> first | exact ⟨.int_none _ _,.int_none _ _⟩ | simp
  · obtain ⟨t,rfl⟩:=ru;subst rv;rw [eqP];exact ⟨.int_bool _ _ _,.int_bool _ _ _⟩
  · obtain ⟨t,rfl⟩:=ru;obtain ⟨t2,rfl⟩:=rv;rw [eqP];exact ⟨.int_int _ _ _ _,.int_int _ _ _ _⟩
  · obtain ⟨t,rfl⟩:=ru;obtain ⟨t2,rfl⟩:=rv;rw [eqP] <;> first | exact ⟨.int_str _ _ _ _,.int_str _ _ _ _⟩ | simp
  · obtain ⟨t,rfl⟩:=ru;subst rv;rw [eqP] <;> first | exact ⟨.str_none _ _,.str_none _ _⟩ | simp
  · obtain ⟨t,rfl⟩:=ru;subst rv;rw [eqP] <;> first | exact ⟨.str_bool _ _ _,.str_bool _ _ _⟩ | simp
  · obtain ⟨t,rfl⟩:=ru;obtain ⟨t2,rfl⟩:=rv;rw [eqP] <;> first | exact ⟨.str_int _ _ _ _,.str_int _ _ _ _⟩ | simp
  · obtain ⟨t,rfl⟩:=ru;obtain ⟨t2,rfl⟩:=rv;rw [eqP];exact ⟨.str_str _ _ _ _,.str_str _ _ _ _⟩
def IsSq (h:Heap) (tp:Bool) (a:Addr) (its:Array Value):Prop:=if tp then IsTup h a its else h.IsList a its
theorem Sqs.isSq (I:Inv X pins σ H s) {x:V} {p:PV} {tp:Bool} {a:Addr} {vs:List V} {xs:List PV} (h:Sqs X.K H x p tp a vs xs):∃ its:List Value,x=.ref a∧Vals vs its∧IsSq s.heap tp a its.toArray∧Reps H vs xs:=by
  cases h with
  | lst h r=>obtain ⟨its,r1,p1,_⟩:=I.list h;exact ⟨its,rfl,r1,p1.isList,r⟩
  | tup h r=>obtain ⟨its,r1,p1,_⟩:=I.tuple h;exact ⟨its,rfl,r1,p1,r⟩
  | con h r=>obtain ⟨its,r1,p1,_⟩:=I.tuple h;exact ⟨its,rfl,r1,p1,r⟩
theorem ZE6 {A:Around} {tp:Bool} {a:Addr} {its:Array Value} {q:PV} {v:Value} (h:IsSq s.heap tp a its) (f:flat q=true) (rv:RelV (Fz.enc q) v) (hu:A.units < cLine) :
    (SeqAt.EqAt A s (.ref a) v false∧SeqAt.EqAt A s v (.ref a) false)∧(SeqAt.RcAt A s (.ref a) v false∧SeqAt.RcAt A s v (.ref a) false)∧(SeqAt.RcNeAt A s (.ref a) v true∧SeqAt.RcNeAt A s v (.ref a) true):=by
  cases tp with
  | false=>
    have h':s.heap.IsList a its:=h
    cases q <;> first | (cases f;done) | skip
    all_goals simp only [Fz.enc,L2.RelV] at rv
    · subst rv;exact ⟨⟨.list_none h' hu,.none_list h' hu⟩,⟨.list_none h' hu,.none_list h' hu⟩,⟨.list_none h' hu,.none_list h' hu⟩⟩
    · subst rv;exact ⟨⟨.list_bool _ h' hu,.bool_list _ h' hu⟩,⟨.list_bool _ h' hu,.bool_list _ h' hu⟩,⟨.list_bool _ h' hu,.bool_list _ h' hu⟩⟩
    · obtain ⟨t,rfl⟩:=rv;exact ⟨⟨.list_int _ _ h' hu,.int_list _ _ h' hu⟩,⟨.list_int _ _ h' hu,.int_list _ _ h' hu⟩,⟨.list_int _ _ h' hu,.int_list _ _ h' hu⟩⟩
    · obtain ⟨t,rfl⟩:=rv;exact ⟨⟨.list_str _ _ h' hu,.str_list _ _ h' hu⟩,⟨.list_str _ _ h' hu,.str_list _ _ h' hu⟩,⟨.list_str _ _ h' hu,.str_list _ _ h' hu⟩⟩
  | true=>
    have h':IsTup s.heap a its:=h
    cases q <;> first | (cases f;done) | skip
    all_goals simp only [Fz.enc,L2.RelV] at rv
    · subst rv;exact ⟨⟨.tuple_none h' hu,.none_tuple h' hu⟩,⟨.tuple_none h' hu,.none_tuple h' hu⟩,⟨.tuple_none h' hu,.none_tuple h' hu⟩⟩
    · subst rv;exact ⟨⟨.tuple_bool _ h' hu,.bool_tuple _ h' hu⟩,⟨.tuple_bool _ h' hu,.bool_tuple _ h' hu⟩,⟨.tuple_bool _ h' hu,.bool_tuple _ h' hu⟩⟩
    · obtain ⟨t,rfl⟩:=rv;exact ⟨⟨.tuple_int _ _ h' hu,.int_tuple _ _ h' hu⟩,⟨.tuple_int _ _ h' hu,.int_tuple _ _ h' hu⟩,⟨.tuple_int _ _ h' hu,.int_tuple _ _ h' hu⟩⟩
    · obtain ⟨t,rfl⟩:=rv;exact ⟨⟨.tuple_str _ _ h' hu,.str_tuple _ _ h' hu⟩,⟨.tuple_str _ _ h' hu,.str_tuple _ _ h' hu⟩,⟨.tuple_str _ _ h' hu,.str_tuple _ _ h' hu⟩⟩
theorem Sqs.inj (I:Inv X pins σ H s) {x y:V} {p q:PV} {tp tp2:Bool} {a:Addr} {vs ws:List V} {xs ys:List PV} (h:Sqs X.K H x p tp a vs xs) (h2:Sqs X.K H y q tp2 a ws ys):tp=tp2∧vs=ws:=by
  have no:∀ {vs ws:List V},SqL X.K H a vs→SqT X.K H a ws→False:=fun {vs ws} h1 h2=>by
    obtain ⟨its,_,p1,_⟩:=I.list h1
    obtain ⟨its2,_,p2,_⟩:=I.tuple h2
    obtain ⟨o,n,e,c,_⟩:=p1
    obtain ⟨o2,e2,c2,_⟩:=p2
    rw [e] at e2;cases e2;rw [c] at c2
    exact absurd c2 (by decide)
  cases h with
  | lst h r=>cases h2 with
    | lst h2 _=>exact ⟨rfl,I.list_inj h h2⟩
    | tup h2 _=>exact (no h h2).elim
    | con h2 _=>exact (no h h2).elim
  | tup h r=>cases h2 with
    | lst h2 _=>exact (no h2 h).elim
    | tup h2 _=>exact ⟨rfl,I.tuple_inj h h2⟩
    | con h2 _=>exact ⟨rfl,I.tuple_inj h h2⟩
  | con h r=>cases h2 with
    | lst h2 _=>exact (no h2 h).elim
    | tup h2 _=>exact ⟨rfl,I.tuple_inj h h2⟩
    | con h2 _=>exact ⟨rfl,I.tuple_inj h h2⟩
theorem ZGp {p:PV} (h:flat p=true):eqV (Fz.enc p) (Fz.enc p)=true:=by cases p <;> first | (cases h;done) | simp [Fz.enc,eqV]
theorem ZH8 (ih:∀ (x:V) (p q:PV),Rep H x p→Rep H x q→dat X.K d p→dat X.K d q→eqP p q=true):∀ {vs:List V} {xs ys:List PV},Reps H vs xs→Reps H vs ys→(∀ x∈xs,dat X.K d x)→(∀ y∈ys,dat X.K d y)→ZBu xs ys=true
  | _,_,_,.nil,.nil,_,_=>by rw [ZBu]
  | _,_,_,.cons r1 t1,.cons r2 t2,h1,h2=>by
    rw [ZCm,ih _ _ _ r1 r2 (h1 _ (by simp)) (h2 _ (by simp)),ZH8 ih t1 t2 (fun x hx=>h1 x (by simp [hx])) (fun x hx=>h2 x (by simp [hx]))];rfl
theorem eq_same (I:Inv X pins σ H s):∀ (d:Nat) (x:V) (p q:PV),Rep H x p→Rep H x q→dat X.K d p→dat X.K d q→eqP p q=true:=fun d=>by
  induction d with
  | zero=>
    intro x p q r1 r2 h1 h2
    rcases ZB3 h1 r1 with ⟨f1,e1⟩ | ⟨d',_,_,_,_,e,_⟩
    · rcases ZB3 h2 r2 with ⟨f2,e2⟩ | ⟨d',_,_,_,_,e,_⟩
      · rw [ZCi f1 f2,← e1,e2];exact ZGp f2
      · cases e
    · cases e
  | succ d ih=>
    intro x p q r1 r2 h1 h2
    rcases ZB3 h1 r1 with ⟨f1,e1⟩ | ⟨d1,tp,a,vs,xs,e,q1,k1⟩
    · rcases ZB3 h2 r2 with ⟨f2,e2⟩ | ⟨d2,tp2,b,ws,ys,e,q2,k2⟩
      · rw [ZCi f1 f2,← e1,e2];exact ZGp f2
      · obtain ⟨_,ex,_⟩:=q2.isSq I
        subst ex
        cases p <;> first | (cases f1;done) | (cases e1;done)
    · cases e
      rcases ZB3 h2 r2 with ⟨f2,e2⟩ | ⟨d2,tp2,b,ws,ys,e,q2,k2⟩
      · obtain ⟨_,ex,_⟩:=q1.isSq I
        subst ex
        cases q <;> first | (cases f2;done) | (cases e2;done)
      · cases e
        obtain ⟨_,ex,_,_,r3⟩:=q1.isSq I
        obtain ⟨_,ey,_,_,r4⟩:=q2.isSq I
        rw [ex] at ey;cases ey
        obtain ⟨et,ev⟩:=q1.inj I q2
        subst ev
        rw [ZG8 q1 q2,if_pos et]
        exact ZH8 ih r3 r4 k1 k2
theorem ZIY {vs ws:List V} {its its2:List Value} {xs ys:List PV} (r1:Vals vs its) (r2:Vals ws its2) (q1:Reps H vs xs) (q2:Reps H ws ys):its.toArray.size=xs.length∧its2.toArray.size=ys.length:=by
  have l1:=r1.length;have l2:=r2.length;have l3:=q1.length;have l4:=q2.length
  simp only [List.size_toArray]
  omega
theorem sq_rc {A:Around} {tp tp2:Bool} {a b:Addr} {vs ws:List V} {its its2:List Value} {xs ys:List PV} (h1:IsSq s.heap tp a its.toArray) (h2:IsSq s.heap tp2 b its2.toArray) (r1:Vals vs its) (r2:Vals ws its2) (q1:Reps H vs xs) (q2:Reps H ws ys) (hu:A.units < cLine)
    (h:∀ (x y:V) (p q:PV) (u v:Value),p∈xs→q∈ys→Rep H x p→Rep H y q→RelV x u→RelV y v→SeqAt.EqAt A.in1 s u v (eqP p q)) :
    SeqAt.RcAt A s (.ref a) (.ref b) (if tp=tp2 then ZBu xs ys else false)∧SeqAt.RcNeAt A s (.ref a) (.ref b) (!(if tp=tp2 then ZBu xs ys else false)):=by
  obtain ⟨z1,z2⟩:=ZIY r1 r2 q1 q2
  have it:=items_eq (A:=A.in1) r1 r2 q1 q2 h
  cases tp with
  | false=>cases tp2 with
    | false=>
      rw [if_pos rfl]
      have h1':s.heap.IsList a its.toArray:=h1
      have h2':s.heap.IsList b its2.toArray:=h2
      by_cases hl:xs.length=ys.length
      · rw [ZCv xs ys hl,← z1]
        exact ⟨.lists h1' h2' (by omega) hu it,.lists h1' h2' (by omega) hu it⟩
      · rw [ZEh xs ys hl]
        have hne:(its.toArray.size != its2.toArray.size)=true:=by simp only [bne_iff_ne,ne_eq];omega
        exact ⟨.lists_lengths h1' h2' hne hu,.lists_lengths h1' h2' hne hu⟩
    | true=>rw [if_neg (by decide)];exact ⟨.list_tuple h1 h2 hu,.list_tuple h1 h2 hu⟩
  | true=>cases tp2 with
    | false=>rw [if_neg (by decide)];exact ⟨.tuple_list h1 h2 hu,.tuple_list h1 h2 hu⟩
    | true=>
      rw [if_pos rfl]
      have h1':IsTup s.heap a its.toArray:=h1
      have h2':IsTup s.heap b its2.toArray:=h2
      have e:((List.range (min its.toArray.size its2.toArray.size)).all (fun j=>eqP (xs.getD j .non) (ys.getD j .non)) && its.toArray.size == its2.toArray.size)=ZBu xs ys:=by
        by_cases hl:xs.length=ys.length
        · rw [ZCv xs ys hl,z1,z2,← hl,Nat.min_self,beq_self_eq_true,Bool.and_true]
        · rw [ZEh xs ys hl,z1,z2,show (xs.length == ys.length)=false from by simpa using hl,Bool.and_false]
      have k1:=SeqAt.RcAt.tuples (A:=A) (e:=fun j=>eqP (xs.getD j .non) (ys.getD j .non)) h1' h2' hu it
      have k2:=SeqAt.RcNeAt.tuples (A:=A) (e:=fun j=>eqP (xs.getD j .non) (ys.getD j .non)) h1' h2' hu it
      rw [e] at k1 k2
      exact ⟨k1,k2⟩
theorem eq_at (I:Inv X pins σ H s):∀ (d:Nat) (x y:V) (p q:PV),Rep H x p→Rep H y q→dat X.K d p→dat X.K d q→∀ (A:Around) (u v:Value),RelV x u→RelV y v→A.units+d < cLine→SeqAt.EqAt A s u v (eqP p q):=fun d=>by
  induction d with
  | zero=>
    intro x y p q r1 r2 h1 h2 A u v ru rv hu
    rcases ZB3 h1 r1 with ⟨f1,e1⟩ | ⟨_,_,_,_,_,e,_⟩
    · rcases ZB3 h2 r2 with ⟨f2,e2⟩ | ⟨_,_,_,_,_,e,_⟩
      · subst e1;subst e2
        rw [ZCi f1 f2]
        exact ZGM ru rv (ZDA f1) (ZDA f2)
      · cases e
    · cases e
  | succ d ih=>
    intro x y p q r1 r2 h1 h2 A u v ru rv hu
    rcases ZB3 h1 r1 with ⟨f1,e1⟩ | ⟨d1,tp,a,vs,xs,e,q1,k1⟩
    · rcases ZB3 h2 r2 with ⟨f2,e2⟩ | ⟨d2,tp2,b,ws,ys,e,q2,k2⟩
      · subst e1;subst e2
        rw [ZCi f1 f2]
        exact ZGM ru rv (ZDA f1) (ZDA f2)
      · obtain ⟨its,ey,_,j,_⟩:=q2.isSq I
        subst e1;subst ey
        cases (show v=Value.ref b from rv)
        rw [(ZD5 q2 f1).2]
        exact (ZE6 j f1 ru (by omega)).1.2
    · cases e
      rcases ZB3 h2 r2 with ⟨f2,e2⟩ | ⟨d2,tp2,b,ws,ys,e,q2,k2⟩
      · obtain ⟨its,ex,_,j,_⟩:=q1.isSq I
        subst e2;subst ex
        cases (show u=Value.ref a from ru)
        rw [(ZD5 q1 f2).1]
        exact (ZE6 j f2 rv (by omega)).1.1
      · cases e
        obtain ⟨its,ex,v1,j1,w1⟩:=q1.isSq I
        obtain ⟨its2,ey,v2,j2,w2⟩:=q2.isSq I
        subst ex;subst ey
        cases (show u=Value.ref a from ru)
        cases (show v=Value.ref b from rv)
        by_cases hab:a=b
        · subst hab
          rw [eq_same I (d+1) _ p q r1 r2 h1 h2]
          exact .same _
        · rw [ZG8 q1 q2]
          refine SeqAt.EqAt.of_refs hab (sq_rc j1 j2 v1 v2 w1 w2 (by omega) fun x y p q u v hp hq r1 r2 ru rv=>?_).1
          exact ih x y p q r1 r2 (k1 p hp) (k2 q hq) A.in1 u v ru rv (by show A.units+1+d < cLine;omega)
theorem rc_at (I:Inv X pins σ H s) (d:Nat) (x y:V) (p q:PV) (r1:Rep H x p) (r2:Rep H y q) (h1:dat X.K d p) (h2:dat X.K d q) (A:Around) (u v:Value) (ru:RelV x u) (rv:RelV y v) (hu:A.units+d < cLine):SeqAt.RcAt A s u v (eqP p q)∧SeqAt.RcNeAt A s u v (!eqP p q):=by
  rcases ZB3 h1 r1 with ⟨f1,e1⟩ | ⟨d1,tp,a,vs,xs,e,q1,k1⟩
  · rcases ZB3 h2 r2 with ⟨f2,e2⟩ | ⟨d2,tp2,b,ws,ys,e,q2,k2⟩
    · subst e1;subst e2
      exact rc_flat f1 f2 ru rv
    · obtain ⟨its,ey,_,j,_⟩:=q2.isSq I
      subst e1;subst ey
      cases (show v=Value.ref b from rv)
      rw [(ZD5 q2 f1).2]
      have z:=ZE6 (A:=A) j f1 ru (by omega)
      exact ⟨z.2.1.2,z.2.2.2⟩
  · rcases ZB3 h2 r2 with ⟨f2,e2⟩ | ⟨d2,tp2,b,ws,ys,e2,q2,k2⟩
    · obtain ⟨its,ex,_,j,_⟩:=q1.isSq I
      subst e2;subst ex
      cases (show u=Value.ref a from ru)
      rw [(ZD5 q1 f2).1]
      have z:=ZE6 (A:=A) j f2 rv (by omega)
      exact ⟨z.2.1.1,z.2.2.1⟩
    · subst e;cases e2
      obtain ⟨its,ex,v1,j1,w1⟩:=q1.isSq I
      obtain ⟨its2,ey,v2,j2,w2⟩:=q2.isSq I
      subst ex;subst ey
      cases (show u=Value.ref a from ru)
      cases (show v=Value.ref b from rv)
      rw [ZG8 q1 q2]
      exact sq_rc j1 j2 v1 v2 w1 w2 (by omega) fun x y p q u v hp hq r1 r2 ru rv=>eq_at I d1 x y p q r1 r2 (k1 p hp) (k2 q hq) A.in1 u v ru rv (by show A.units+1+d1 < cLine;omega)
def rEqP (K:PySem.W.Frag) (neg:Bool):R2:=fun x y H Q=>∃ p q,Rep H x p∧Rep H y q∧dat K 40 p∧dat K 40 q∧Q (.bl (if neg then !eqP p q else eqP p q)) H
theorem op_eqP (hu:X.A.units+64 < cLine):OpR X (compareOp .Eq) (rEqP X.K false):=by
  intro pins s σ H x y v u Q I rx ry h
  obtain ⟨p,q,r1,r2,d1,d2,hQ⟩:=h
  exact (rc_at I 40 x y p q r1 r2 d1 d2 X.A _ _ rx ry (by omega)).1 _ _ _ _ ⟨.bl (eqP p q),H,I,rfl,hQ⟩
theorem op_neP (hu:X.A.units+64 < cLine):OpR X (compareOp .NotEq) (rEqP X.K true):=by
  intro pins s σ H x y v u Q I rx ry h
  obtain ⟨p,q,r1,r2,d1,d2,hQ⟩:=h
  exact (rc_at I 40 x y p q r1 r2 d1 d2 X.A _ _ rx ry (by omega)).2 _ _ _ _ ⟨.bl (!eqP p q),H,I,rfl,hQ⟩
end
section
variable [Xw]
variable {ss:List Slot} {K:PySem.W.Frag} {ta tb:TE} {k:PV→Prop}
theorem wp_eqP (h:Wp ss ta fun p=>Wp ss tb fun q=>dat K 40 p∧dat K 40 q∧k (.bl (eqP p q))):Wp ss (tOp (rEqP K false) ta tb) k:=⟨fun E σ F H Q S q=>
  h.go E σ F H _ S fun v p F1 H1 m1 r1 h2=>h2.go E σ F1 H1 _ m1.st fun v2 p2 F2 H2 m2 r2 ⟨d1,d2,kk⟩=>
    ⟨p,p2,(r1.mono m2.ff).mono m2.st.fh,r2.mono m2.st.fh,d1,d2,q _ _ F2 H2 (m1.trans m2) (.bl _) kk⟩⟩
theorem wp_neP (h:Wp ss ta fun p=>Wp ss tb fun q=>dat K 40 p∧dat K 40 q∧k (.bl (!eqP p q))):Wp ss (tOp (rEqP K true) ta tb) k:=⟨fun E σ F H Q S q=>
  h.go E σ F H _ S fun v p F1 H1 m1 r1 h2=>h2.go E σ F1 H1 _ m1.st fun v2 p2 F2 H2 m2 r2 ⟨d1,d2,kk⟩=>
    ⟨p,p2,(r1.mono m2.ff).mono m2.st.fh,r2.mono m2.st.fh,d1,d2,q _ _ F2 H2 (m1.trans m2) (.bl _) kk⟩⟩
end
end Fz
set_option Elab.async false
set_option linter.all false
set_option maxRecDepth 100000
set_option maxHeartbeats 4000000
namespace Fz
open PySem PySem.Spec PyProof.Rows L2 Lw
def OV.at:OV→List Nat→Option OV
  | t,[]=>some t
  | .nd _ _ xs,j :: p=>(xs[j]?).bind fun x=>x.at p
  | .tp xs,j :: p=>(xs[j]?).bind fun x=>x.at p
  | .fz _,_ :: _=>none
termination_by _ p=>p.length
def OV.put:OV→List Nat→OV→OV
  | _,[],n=>n
  | .nd k a xs,j :: p,n=>match xs[j]? with
    | some x=>.nd k a (xs.set j (x.put p n))
    | none=>.nd k a xs
  | .tp xs,j :: p,n=>match xs[j]? with
    | some x=>.tp (xs.set j (x.put p n))
    | none=>.tp xs
  | .fz p,_ :: _,_=>.fz p
termination_by _ p=>p.length
theorem OV.at_nil {t:OV}:t.at []=some t:=by rw [OV.at]
theorem OV.at_nd {k:NK} {a:Addr} {xs:List OV} {j:Nat} {p:List Nat}:(OV.nd k a xs).at (j :: p)=(xs[j]?).bind fun x=>x.at p:=by rw [OV.at]
theorem OV.at_tp {xs:List OV} {j:Nat} {p:List Nat}:(OV.tp xs).at (j :: p)=(xs[j]?).bind fun x=>x.at p:=by rw [OV.at]
theorem OV.put_nil {t n:OV}:t.put [] n=n:=by rw [OV.put]
theorem OV.put_nd {k:NK} {a:Addr} {xs:List OV} {j:Nat} {p:List Nat} {n x:OV} (h:xs[j]?=some x):(OV.nd k a xs).put (j :: p) n=.nd k a (xs.set j (x.put p n)):=by rw [OV.put,h]
theorem OV.put_tp {xs:List OV} {j:Nat} {p:List Nat} {n x:OV} (h:xs[j]?=some x):(OV.tp xs).put (j :: p) n=.tp (xs.set j (x.put p n)):=by rw [OV.put,h]
theorem OV.at_snoc {u w:OV}:∀ {p:List Nat} {t:OV} {j:Nat},t.at p=some u→u.at [j]=some w→t.at (p++[j])=some w
  | [],t,j,h,h2=>by rw [OV.at_nil] at h;cases h;exact h2
  | i :: p,.nd k a xs,j,h,h2=>by
    rw [OV.at_nd] at h
    rw [List.cons_append,OV.at_nd]
    cases e:xs[i]? with
    | none=>rw [e] at h;cases h
    | some x=>rw [e] at h;exact OV.at_snoc (t:=x) h h2
  | i :: p,.tp xs,j,h,h2=>by
    rw [OV.at_tp] at h
    rw [List.cons_append,OV.at_tp]
    cases e:xs[i]? with
    | none=>rw [e] at h;cases h
    | some x=>rw [e] at h;exact OV.at_snoc (t:=x) h h2
  | i :: p,.fz q,j,h,h2=>by rw [OV.at] at h;cases h
theorem ZAk:∀ {xs:List OV} {j:Nat} {x:OV},xs[j]?=some x→∃ l r,OV.addrsL xs=l++x.addrs++r∧∀ y:OV,OV.addrsL (xs.set j y)=l++y.addrs++r
  | x :: xs,0,z,h=>by
    simp at h;subst h
    exact ⟨[],OV.addrsL xs,by rw [OV.addrsL_cons];rfl,fun y=>by rw [List.set_cons_zero,OV.addrsL_cons];rfl⟩
  | x :: xs,j+1,z,h=>by
    obtain ⟨l,r,e1,e2⟩:=ZAk (xs:=xs) (j:=j) (x:=z) (by simpa using h)
    refine ⟨x.addrs++l,r,by rw [OV.addrsL_cons,e1];simp [List.append_assoc],fun y=>by rw [List.set_cons_succ,OV.addrsL_cons,e2];simp [List.append_assoc]⟩
theorem OV.split {u:OV}:∀ {p:List Nat} {t:OV},t.at p=some u→∃ l r,t.addrs=l++u.addrs++r∧∀ n:OV,(t.put p n).addrs=l++n.addrs++r
  | [],t,h=>by rw [OV.at_nil] at h;cases h;exact ⟨[],[],by simp,fun n=>by rw [OV.put_nil];simp⟩
  | j :: p,.nd k a xs,h=>by
    rw [OV.at_nd] at h
    cases e:xs[j]? with
    | none=>rw [e] at h;cases h
    | some x=>
      rw [e] at h
      obtain ⟨l,r,e1,e2⟩:=ZAk e
      obtain ⟨l2,r2,f1,f2⟩:=OV.split (t:=x) h
      refine ⟨a :: (k.more++(l++l2)),r2++r,by rw [OV.addrs_nd,e1,f1];simp [List.append_assoc],fun n=>by rw [OV.put_nd e,OV.addrs_nd,e2,f2];simp [List.append_assoc]⟩
  | j :: p,.tp xs,h=>by
    rw [OV.at_tp] at h
    cases e:xs[j]? with
    | none=>rw [e] at h;cases h
    | some x=>
      rw [e] at h
      obtain ⟨l,r,e1,e2⟩:=ZAk e
      obtain ⟨l2,r2,f1,f2⟩:=OV.split (t:=x) h
      refine ⟨l++l2,r2++r,by rw [OV.addrs_tp,e1,f1];simp [List.append_assoc],fun n=>by rw [OV.put_tp e,OV.addrs_tp,e2,f2];simp [List.append_assoc]⟩
  | j :: p,.fz q,h=>by rw [OV.at] at h;cases h
theorem Oreps.get {F H:Hp}:∀ {vs:List V} {ts:List OV} {j:Nat} {t:OV},Oreps F H vs ts→ts[j]?=some t→∃ v,vs[j]?=some v∧Orep F H v t
  | _,_,_,_,.nil,e=>by simp at e
  | _,_,0,_,.cons r _,e=>by simp at e;subst e;exact ⟨_,rfl,r⟩
  | _,_,j+1,t,.cons _ q,e=>by
    obtain ⟨u,h1,h2⟩:=Oreps.get (j:=j) (t:=t) q (by simpa using e)
    exact ⟨u,by simpa using h1,h2⟩
theorem Oreps.append {F H:Hp}:∀ {vs ws:List V} {xs ys:List OV},Oreps F H vs xs→Oreps F H ws ys→Oreps F H (vs++ws) (xs++ys)
  | _,_,_,_,.nil,s=>s
  | _,_,_,_,.cons r t,s=>.cons r (Oreps.append t s)
theorem Oreps.one {F H:Hp} {v:V} {t:OV} (r:Orep F H v t):Oreps F H [v] [t]:=.cons r .nil
theorem Oreps.fzs {F H:Hp}:∀ {vs:List V} {xs:List PV},Oreps F H vs (xs.map .fz)→Reps F vs xs
  | _,[],.nil=>.nil
  | _,_ :: _,.cons (.fz r) t=>.cons r (Oreps.fzs t)
theorem Oreps.set {F H:Hp}:∀ {vs:List V} {xs:List OV} (j:Nat) {v:V} {t:OV},Oreps F H vs xs→Orep F H v t→Oreps F H (vs.set j v) (xs.set j t)
  | _,_,_,_,_,.nil,_=>.nil
  | _,_,0,_,_,.cons _ t,r=>.cons r t
  | _,_,j+1,_,_,.cons q t,r=>.cons q (Oreps.set j t r)
theorem Oreps.swap {F H H':Hp} {y:OV}:∀ {vs:List V} {xs:List OV} {j:Nat} {x:OV} {v:V},Oreps F H vs xs→xs[j]?=some x→vs[j]?=some v→(∀ l r,OV.addrsL xs=l++x.addrs++r→(∀ z:OV,OV.addrsL (xs.set j z)=l++z.addrs++r)→∀ b∈l++r,∀ o,H b=some o→H' b=some o)→Orep F H' v y→Oreps F H' vs (xs.set j y)
  | _,x :: xs,0,z,w,.cons r t,h,hv,hk,ry=>by
    simp at h hv;subst h;subst hv
    rw [List.set_cons_zero]
    have e:∀ z:OV,OV.addrsL ((x :: xs).set 0 z)=[]++z.addrs++OV.addrsL xs:=fun z=>by rw [List.set_cons_zero,OV.addrsL_cons];rfl
    exact .cons ry (t.mono (Same.refl _) fun b hb o=>hk [] (OV.addrsL xs) (by rw [OV.addrsL_cons];rfl) e b (by simpa using hb) o)
  | _,x :: xs,j+1,z,w,.cons r t,h,hv,hk,ry=>by
    rw [List.set_cons_succ]
    have h':xs[j]?=some z:=by simpa using h
    obtain ⟨l,q,e1,e2⟩:=ZAk h'
    refine .cons (r.mono (Same.refl _) fun b hb o=>hk (x.addrs++l) q (by rw [OV.addrsL_cons,e1];simp [List.append_assoc]) (fun z=>by rw [List.set_cons_succ,OV.addrsL_cons,e2];simp [List.append_assoc]) b (by simp [hb]) o) (Oreps.swap (v:=w) t h' (by simpa using hv) (fun l' r' e1' e2' b hb o=>hk (x.addrs++l') r' (by rw [OV.addrsL_cons,e1'];simp [List.append_assoc]) (fun z=>by rw [List.set_cons_succ,OV.addrsL_cons,e2'];simp [List.append_assoc]) b (by rcases List.mem_append.mp hb with hz | hz <;> simp [hz]) o) ry)
theorem Orep.at {F H:Hp} {u:OV}:∀ {p:List Nat} {t:OV} {v:V},Orep F H v t→t.at p=some u→∃ w,Orep F H w u∧∀ (H':Hp) (n:OV),Orep F H' w n→(∀ l r,t.addrs=l++u.addrs++r→(∀ n:OV,(t.put p n).addrs=l++n.addrs++r)→∀ b∈l++r,∀ o,H b=some o→H' b=some o)→Orep F H' v (t.put p n)
  | [],t,v,h,e=>by rw [OV.at_nil] at e;cases e;exact ⟨v,h,fun H' n r _=>by rw [OV.put_nil];exact r⟩
  | j :: p,.fz q,v,h,e=>by rw [OV.at] at e;cases e
  | j :: p,.nd k a xs,_,.nd h sd ft r,e=>by
    rw [OV.at_nd] at e
    cases ex:xs[j]? with
    | none=>rw [ex] at e;cases e
    | some x=>
      rw [ex] at e
      obtain ⟨vj,hvj,rj⟩:=r.get ex
      obtain ⟨w,rw_,go⟩:=Orep.at (t:=x) rj e
      refine ⟨w,rw_,fun H' n rn hk=>?_⟩
      obtain ⟨l2,r2,f1,f2⟩:=OV.split e
      have key:∀ l r,OV.addrsL xs=l++x.addrs++r→(∀ z:OV,OV.addrsL (xs.set j z)=l++z.addrs++r)→∀ b,b∈(a :: (k.more++(l++l2)))++(r2++r)→∀ o,H b=some o→H' b=some o:=fun l r e1 e2 b hb o=>
        hk (a :: (k.more++(l++l2))) (r2++r) (by rw [OV.addrs_nd,e1,f1];simp [List.append_assoc]) (fun n=>by rw [OV.put_nd ex,OV.addrs_nd,e2,f2];simp [List.append_assoc]) b hb o
      obtain ⟨l,q,e1,e2⟩:=ZAk ex
      rw [OV.put_nd ex]
      refine .nd (key l q e1 e2 a (by simp) _ h) (NK.side_mono sd fun b hb=>key l q e1 e2 b (by simp [hb])) ft ?_
      refine r.swap ex hvj (fun l' r' e1' e2' b hb o=>key l' r' e1' e2' b (by rcases List.mem_append.mp hb with hz | hz <;> simp [hz]) o) ?_
      refine go H' n rn fun l' r' g1 g2 b hb o=>?_
      refine hk (a :: (k.more++(l++l'))) (r'++q) (by rw [OV.addrs_nd,e1,g1];simp [List.append_assoc]) (fun n=>by rw [OV.put_nd ex,OV.addrs_nd,e2,g2];simp [List.append_assoc]) b (by rcases List.mem_append.mp hb with hz | hz <;> simp [hz]) o
  | j :: p,.tp xs,_,.tp h r,e=>by
    rw [OV.at_tp] at e
    cases ex:xs[j]? with
    | none=>rw [ex] at e;cases e
    | some x=>
      rw [ex] at e
      obtain ⟨vj,hvj,rj⟩:=r.get ex
      obtain ⟨w,rw_,go⟩:=Orep.at (t:=x) rj e
      refine ⟨w,rw_,fun H' n rn hk=>?_⟩
      obtain ⟨l2,r2,f1,f2⟩:=OV.split e
      obtain ⟨l,q,e1,e2⟩:=ZAk ex
      rw [OV.put_tp ex]
      refine .tp h (r.swap ex hvj (fun l' r' e1' e2' b hb o=>?_) (go H' n rn fun l' r' g1 g2 b hb o=>?_))
      · exact hk (l'++l2) (r2++r') (by rw [OV.addrs_tp,e1',f1];simp [List.append_assoc]) (fun n=>by rw [OV.put_tp ex,OV.addrs_tp,e2',f2];simp [List.append_assoc]) b (by rcases List.mem_append.mp hb with hz | hz <;> simp [hz]) o
      · exact hk (l++l') (r'++q) (by rw [OV.addrs_tp,e1,g1];simp [List.append_assoc]) (fun n=>by rw [OV.put_tp ex,OV.addrs_tp,e2,g2];simp [List.append_assoc]) b (by rcases List.mem_append.mp hb with hz | hz <;> simp [hz]) o
end Fz
set_option Elab.async false
set_option linter.all false
set_option maxRecDepth 100000
set_option maxHeartbeats 4000000
namespace Fz
open PySem PySem.Spec PyProof.Rows L2 Lw
theorem ZHb {l u r n:List Addr} (h:(l++u++r).Nodup) (hn:n.Nodup) (hd:∀ b∈n,b∈u∨b∉l++u++r):(l++n++r).Nodup:=by
  rw [List.nodup_append] at h ⊢
  obtain ⟨h1,h2,h3⟩:=h
  rw [List.nodup_append] at h1 ⊢
  obtain ⟨a1,a2,a3⟩:=h1
  refine ⟨⟨a1,hn,fun a ha b hb e=>?_⟩,h2,fun a ha b hb e=>?_⟩
  · subst e
    rcases hd a hb with z | z
    · exact a3 a ha a z rfl
    · exact z (by simp [ha])
  · subst e
    rcases List.mem_append.mp ha with ha | ha
    · exact h3 a (by simp [ha]) a hb rfl
    · rcases hd a ha with z | z
      · exact h3 a (by simp [z]) a hb rfl
      · exact z (by simp [hb])
section
variable {E:Ent0} {ss:List Slot} {σ:L2.St} {F H F' H':Hp}
theorem Sg.mutO (S:Sg E ss σ F H) {i:Nat} {t n:OV} {p:List Nat} {k:NK} {a:Addr} {xs:List OV} {ho:HO} {lt:Bool} (hi:ss[i]?=some (.ow lt t)) (hat:t.at p=some (.nd k a xs)) (hn:Orep F (upd H a ho) (.ref a) n) (nd:n.addrs.Nodup)
    (hnew:∀ b∈n.addrs,b∈(OV.nd k a xs).addrs∨(F b=none∧E.H0 b=none∧∀ (j:Nat) s,ss[j]?=some s→¬ ZB1 s σ[j]? b)):Sg E (ss.set i (.ow lt (t.put p n))) σ F (upd H a ho):=by
  obtain ⟨v,e,r,ndt,q⟩:=S.ok i _ hi
  obtain ⟨l,rr,e1,e2⟩:=OV.split hat
  have au:a∈(OV.nd k a xs).addrs:=by rw [OV.addrs_nd];simp
  have ut:∀ b∈(OV.nd k a xs).addrs,b∈t.addrs:=fun b hb=>by rw [e1];simp [hb]
  have hdt:∀ b∈n.addrs,b∈(OV.nd k a xs).addrs∨b∉t.addrs:=fun b hb=>(hnew b hb).imp id fun z m=>z.2.2 i _ hi m
  obtain ⟨w,rw_,go⟩:=r.at hat
  have ew:w=.ref a:=by cases rw_;rfl
  subst ew
  have ne1:∀ (j:Nat) s,(ss.set i .any)[j]?=some s→∀ b,b∈t.addrs→¬ ZB1 s σ[j]? b:=fun j s hj b hb m=>by
    by_cases z:j=i
    · subst z
      rw [List.getElem?_set_self (List.getElem?_eq_some_iff.mp hi).1] at hj
      cases hj;cases m
    · rw [List.getElem?_set_ne (Ne.symm z)] at hj
      exact S.dis j i s _ b z hj hi m hb
  have S2:=(S.drop i).poke (o:=ho) (q a (ut a au)).1 ((q a (ut a au)).2.imp id fun z=>z.2) fun j s hj=>ne1 j s hj a (ut a au)
  have ndt':=ndt
  rw [e1,List.nodup_append,List.nodup_append] at ndt'
  obtain ⟨⟨_,_,d1⟩,_,d2⟩:=ndt'
  have outa:∀ b,b∈l++rr→b≠a:=fun b hb z=>by
    subst z
    rcases List.mem_append.mp hb with hb | hb
    · exact d1 b hb b au rfl
    · exact d2 b (by simp [au]) b hb rfl
  have r2:Orep F (upd H a ho) v (t.put p n):=go _ n hn fun l' r' g1 g2 b hb o hbo=>by
    rw [ZA5 ?_];exact hbo
    rintro rfl
    have ndt2:=ndt
    rw [g1,List.nodup_append,List.nodup_append] at ndt2
    obtain ⟨⟨_,_,c1⟩,_,c2⟩:=ndt2
    rcases List.mem_append.mp hb with hb | hb
    · exact c1 b hb b au rfl
    · exact c2 b (by simp [au]) b hb rfl
  have ad:∀ b∈(t.put p n).addrs,b∈t.addrs∨(F b=none∧E.H0 b=none∧∀ (j:Nat) s,ss[j]?=some s→¬ ZB1 s σ[j]? b):=fun b hb=>by
    rw [e2] at hb
    rcases List.mem_append.mp hb with hb | hb
    · rcases List.mem_append.mp hb with hb | hb
      · exact .inl (by rw [e1];simp [hb])
      · exact (hnew b hb).imp (ut b) id
    · exact .inl (by rw [e1];simp [hb])
  have S3:=S2.setG (j:=i) (s:=.ow lt (t.put p n)) (v:=v) ⟨v,rfl,r2,by rw [e2];exact ZHb (e1▸ndt) nd fun b hb=>(hdt b hb).imp id (by rw [e1];exact id),fun b hb=>(ad b hb).elim (q b) fun z=>⟨z.1,.inl z.2.1⟩⟩ fun b hb j s hj hs m=>by
    rcases ad b hb with z | z
    · exact ne1 j s hs b z m
    · rw [List.getElem?_set_ne (Ne.symm hj)] at hs
      exact z.2.2 j s hs m
  rw [ZEB e,List.set_set] at S3
  exact S3
end
structure Wl [Xw] (ss:List Slot) (i:Nat) (t:OV) (te:TE) (k:List Nat→OV→Prop):Prop where
  hi:∃ lt,ss[i]?=some (.ow lt t)
  go:∀ (E:Ent) (σ:L2.St) (F H:Hp) (Q:VK),Sg E ss σ F H→(∀ v p u F' H',Mv E ss σ F H F' H'→Orep F' H' v u→t.at p=some u→k p u→Q v H')→te σ H Q
def dropAll:List Nat→List Slot→List Slot
  | [],ss=>ss
  | i :: m,ss=>dropAll m (ss.set i .any)
structure Wx [Xw] (ss:List Slot) (te:TE) (k:List Nat→OV→Prop):Prop where
  go:∀ (E:Ent) (σ:L2.St) (F H:Hp) (Q:VK),Sg E ss σ F H→(∀ v m u F' H',Mv E ss σ F H F' H'→Orep F' H' v u→u.addrs.Nodup→(∀ a∈u.addrs,F' a=none∧E.H0 a=none∧((∃ i∈m,∃ s,s≠Slot.pot∧ss[i]?=some s∧ZB1 s σ[i]? a)∨H a=none))→k m u→Q v H')→te σ H Q
section
variable [Xw]
variable {ss:List Slot} {K:PySem.W.Frag} {ta tb tc te ti:TE} {nx:List Slot→Prop} {R:Ret} {k:PV→Prop} {xs:List PV} {i:Nat} {t:OV}
theorem OV.at_sub {u:OV} {p:List Nat} (h:t.at p=some u):∀ a∈u.addrs,a∈t.addrs:=fun a ha=>by
  obtain ⟨l,r,e,_⟩:=OV.split h
  rw [e];simp [ha]
theorem Orep.mv {E:Ent0} {σ:L2.St} {F H F' H':Hp} {v:V} {u:OV} {p:List Nat} (r:Orep F H v u) (S:Sg E ss σ F H) (hi:∃ lt,ss[i]?=some (.ow lt t)) (h:t.at p=some u) (m:Mv E ss σ F H F' H'):Orep F' H' v u:=
  r.mono m.ff fun a ha o e=>m.hh a o (S.own_npot hi.choose_spec (OV.at_sub h a ha) (by simp)) e
theorem ZBF {lt:Bool} {k:List Nat→OV→Prop} (hi:ss[i]?=some (.ow lt t)) (hk:k [] t):Wl ss i t (ZBK i) k:=⟨⟨lt,hi⟩,fun E σ F H Q S q=>by
  obtain ⟨v,e,r,_,_⟩:=S.ok i _ hi
  exact ⟨v,e,q v [] t F H (.refl S) r OV.at_nil hk⟩⟩
theorem ZDP {k:List Nat→OV→Prop} (h:Wl ss i t ta fun p u=>∃ a xs,u=.nd .lst a xs∧Wp ss tb fun q=>∃ (j:Int) (n:Nat) (w:OV),q=.int j∧ixN xs.length j=some n∧xs[n]?=some w∧k (p++[n]) w):Wl ss i t (tOp (rIxL K) ta tb) k:=⟨h.hi,fun E σ F H Q S q=>
  h.go E σ F H _ S fun v p u F1 H1 m1 r1 h1 ⟨a,xs,eu,h2⟩=>h2.go E σ F1 H1 _ m1.st fun v2 p2 F2 H2 m2 r2 ⟨j,n,w,e,hn,hw,kk⟩=>by
    subst e;cases r2
    have r3:=r1.mv m1.st h.hi h1 m2
    subst eu
    cases r3 with
    | nd ha sd ft rr=>
      obtain ⟨x,hx,rx⟩:=rr.get hw
      refine ⟨a,_,j,x,rfl,rfl,SqL.of ha,?_,q x (p++[n]) w F2 H2 (m1.trans m2) rx (OV.at_snoc h1 (by rw [OV.at_nd,hw];exact OV.at_nil)) kk⟩
      unfold L2.atI
      rw [rr.length,hn]
      exact hx⟩
theorem ZDX {k:List Nat→OV→Prop} (h:Wl ss i t ta fun p u=>∃ xs,u=.tp xs∧Wp ss tb fun q=>∃ (j:Int) (n:Nat) (w:OV),q=.int j∧ixN xs.length j=some n∧xs[n]?=some w∧k (p++[n]) w):Wl ss i t (tOp (rIxT K) ta tb) k:=⟨h.hi,fun E σ F H Q S q=>
  h.go E σ F H _ S fun v p u F1 H1 m1 r1 h1 ⟨xs,eu,h2⟩=>h2.go E σ F1 H1 _ m1.st fun v2 p2 F2 H2 m2 r2 ⟨j,n,w,e,hn,hw,kk⟩=>by
    subst e;cases r2
    have r3:=r1.mv m1.st h.hi h1 m2
    subst eu
    cases r3 with
    | tp ha rr=>
      obtain ⟨x,hx,rx⟩:=rr.get hw
      refine ⟨_,_,j,x,rfl,rfl,SqT.of (m2.st.fh _ _ ha),?_,q x (p++[n]) w F2 H2 (m1.trans m2) rx (OV.at_snoc h1 (by rw [OV.at_tp,hw];exact OV.at_nil)) kk⟩
      unfold L2.atI
      rw [rr.length,hn]
      exact hx⟩
theorem wp_l (h:Wl ss i t te fun _ u=>∃ p,u=.fz p∧k p):Wp ss te k:=⟨fun E σ F H Q S q=>
  h.go E σ F H _ S fun v p u F1 H1 m1 r1 h1 ⟨p,eu,kk⟩=>by subst eu;cases r1 with | fz r=>exact q v p F1 H1 m1 r kk⟩
theorem wq_l {k:Bool→List PV→Prop} (h:Wl ss i t te fun _ u=>∃ a ps,u=.nd .lst a (ps.map .fz)∧k false ps):Wq ss te k:=⟨fun E σ F H Q S q=>
  h.go E σ F H _ S fun v p u F1 H1 m1 r1 h1 ⟨a,ps,eu,kk⟩=>by
    subst eu
    have np:ZC1 ss σ a:=m1.st.own_npot h.hi.choose_spec (OV.at_sub h1 a (by rw [OV.addrs_nd];simp)) (by simp)
    cases r1 with
    | nd ha sd ft rr=>exact q _ false ps F1 H1 m1 ⟨a,_,rfl,np,ha,rr.fzs⟩ kk⟩
theorem ZG7 (h:Wl ss i t te fun _ u=>∃ a xs,u=.nd .lst a xs∧k (.int xs.length)):Wp ss (tCB (rLenS K) (ZA9 te ZAa)) k:=⟨fun E σ F H Q S q=>
  h.go E σ F H _ S fun v p u F1 H1 m1 r1 h1 ⟨a,xs,eu,kk⟩=>by
    subst eu
    cases r1 with
    | nd ha sd ft rr=>
      refine ⟨a,_,rfl,.inl (SqL.of ha),?_⟩
      rw [rr.length]
      exact q _ _ F1 H1 m1 (.int _) kk⟩
theorem wx_p {k:List Nat→OV→Prop} (h:Wp ss te fun p=>k [] (.fz p)):Wx ss te k:=⟨fun E σ F H Q S q=>
  h.go E σ F H _ S fun v p F1 H1 m1 r kk=>q v [] (.fz p) F1 H1 m1 (.fz r) (by rw [OV.addrs_fz];exact List.nodup_nil) (fun a ha=>by rw [OV.addrs_fz] at ha;cases ha) kk⟩
theorem ZCL {j:Nat} {s:Slot}:∀ {m:List Nat} {ss:List Slot},(dropAll m ss)[j]?=some s→s=.any∨(ss[j]?=some s∧j∉m)
  | [],ss,h=>.inr ⟨h,by simp⟩
  | i :: m,ss,h=>by
    rcases ZCL (m:=m) (ss:=ss.set i .any) h with e | ⟨e,hm⟩
    · exact .inl e
    · by_cases q:j=i
      · subst q
        have hlt:j < ss.length:=by have:=(List.getElem?_eq_some_iff.mp e).1;simpa using this
        rw [List.getElem?_set_self hlt] at e
        exact .inl (Option.some.inj e).symm
      · rw [List.getElem?_set_ne (Ne.symm q)] at e
        exact .inr ⟨e,by simp [q,hm]⟩
theorem Sg.dropAll {E:Ent0} {σ:L2.St} {F H:Hp}:∀ (m:List Nat) {ss:List Slot},Sg E ss σ F H→Sg E (Fz.dropAll m ss) σ F H
  | [],_,S=>S
  | i :: m,_,S=>Sg.dropAll m (S.drop i)
theorem Sg.setX {E:Ent0} {σ:L2.St} {F0 F H0 H:Hp} {v:V} {m:List Nat} {u:OV} {j:Nat} (S0:Sg E ss σ F0 H0) (S:Sg E ss σ F H) (r:Orep F H v u) (nd:u.addrs.Nodup) (hu:∀ a∈u.addrs,F a=none∧E.H0 a=none∧((∃ i∈m,∃ s,s≠Slot.pot∧ss[i]?=some s∧ZB1 s σ[i]? a)∨H0 a=none)) :
    Sg E ((Fz.dropAll m ss).set j (.ow false u)) (σ.set j (some v)) F H:=by
  refine (S.dropAll m).setG ⟨v,rfl,r,nd,fun a ha=>⟨(hu a ha).1,.inl (hu a ha).2.1⟩⟩ fun a ha i s hij hs o=>?_
  rcases ZCL hs with e | ⟨hs',hm⟩
  · subst e;cases o
  · rcases (hu a ha).2.2 with ⟨i2,hi2,s2,_,hs2,o2⟩ | z
    · exact S.dis i i2 s s2 a (by rintro rfl;exact hm hi2) hs' hs2 o o2
    · exact S0.own_there hs' o z
theorem Orep.rep {F H F1:Hp} (ff:Same F F1):∀ {v:V} {t:OV},Orep F H v t→(∀ a∈t.addrs,∀ o,H a=some o→F1 a=some o)→Rep F1 v t.pv:=by
  intro v t r h
  exact Orep.rec (motive_1:=fun v t _=>(∀ a∈t.addrs,∀ o,H a=some o→F1 a=some o)→Rep F1 v t.pv) (motive_2:=fun vs ts _=>(∀ a∈OV.addrsL ts,∀ o,H a=some o→F1 a=some o)→Reps F1 vs (OV.pvL ts))
    (fun {v p} r _=>by rw [OV.pv];exact r.mono ff)
    (fun {a vs xs} e _ ih h=>by rw [OV.pv];exact .tup (ff _ _ e) (ih (by rw [OV.addrs_tp] at h;exact h)))
    (fun {k a vs xs} e sd ft _ ih h=>by
      rw [OV.addrs_nd] at h
      have ih':=ih fun a ha=>h a (by simp [ha])
      have e':=h a (by simp) _ e
      cases k with
      | lst=>rw [OV.pv];exact .lst e' ih'
      | dct ks=>rw [OV.pv];exact .dct e' ft ih'
      | obj C dx ns=>rw [OV.pv];exact .obj e' (h dx (by simp [NK.more]) _ sd) ft ih')
    (fun _=>by rw [OV.pvL];exact .nil)
    (fun _ _ ih1 ih2 h=>by
      rw [OV.addrsL_cons] at h
      rw [OV.pvL]
      exact .cons (ih1 fun a ha=>h a (by simp [ha])) (ih2 fun a ha=>h a (by simp [ha])))
    r h
end
end Fz
set_option Elab.async false
set_option linter.all false
set_option maxRecDepth 100000
set_option maxHeartbeats 4000000
namespace Fz
open PySem PySem.Spec PyProof.Rows L2 Lw
section
variable [Xw]
variable {ss:List Slot} {K:PySem.W.Frag} {ta tb tc te ti:TE} {nx:List Slot→Prop} {R:Ret} {k:PV→Prop} {xs:List PV} {i:Nat} {t:OV} {lt:Bool}
theorem ZBC:∀ (us ws:List OV),OV.addrsL (us++ws)=OV.addrsL us++OV.addrsL ws
  | [],ws=>by rw [List.nil_append,OV.addrsL_nil,List.nil_append]
  | u :: us,ws=>by rw [List.cons_append,OV.addrsL_cons,OV.addrsL_cons,ZBC us ws,List.append_assoc]
theorem ZCG (u:OV):OV.addrsL [u]=u.addrs:=by rw [OV.addrsL_cons,OV.addrsL_nil,List.append_nil]
end
end Fz
set_option Elab.async false
set_option linter.all false
set_option maxRecDepth 100000
set_option maxHeartbeats 4000000
namespace Fz
open PySem PySem.Spec PyProof.Rows L2 Lw
section
variable [Xw]
variable {ss:List Slot} {K:PySem.W.Frag} {ta tb tc te ti:TE} {nx:List Slot→Prop} {R:Ret} {k:PV→Prop} {xs ps:List PV} {i j:Nat} {t:OV} {lt:Bool} {p:List Nat} {a:Addr}
end
end Fz
set_option Elab.async false
set_option linter.all false
set_option maxRecDepth 100000
set_option maxHeartbeats 4000000
namespace Fz
open PySem PySem.Spec PyProof.Rows L2 Lw
section
variable {E:Ent0} {ss:List Slot} {σ:L2.St} {F H F' H':Hp}
end
section
variable [Xw]
variable {ss:List Slot} {K:PySem.W.Frag} {ta tb tc te ti:TE} {tr:TA} {nx:List Slot→Prop} {R:Ret} {k:PV→Prop} {xs ps:List PV} {i j:Nat} {t:OV} {lt:Bool} {pre:Pre}
end
end Fz
set_option Elab.async false
set_option linter.all false
set_option maxRecDepth 100000
set_option maxHeartbeats 4000000
namespace Fz
open PySem PySem.Spec PyProof.Rows L2 Lw
section
variable [Xw]
variable {ss:List Slot} {K:PySem.W.Frag} {ta tb tc te ti:TE} {tr:TA} {nx:List Slot→Prop} {R:Ret} {k:PV→Prop} {xs ps:List PV} {i j:Nat} {t:OV} {lt:Bool} {pre:Pre}
theorem wp_of_wx (h:Wx ss te fun m u=>m=[]∧k u.pv):Wp ss te k:=⟨fun E σ F H Q S q=>
  h.go E σ F H _ S fun v m u F1 H1 m1 r nd hu ⟨em,kk⟩=>by
    subst em
    have hu':∀ a∈u.addrs,H a=none:=fun a ha=>by
      rcases (hu a ha).2.2 with ⟨i,hi,_⟩ | z
      · cases hi
      · exact z
    obtain ⟨S1,nf⟩:=m1.st.lay u.addrs (fun a ha=>⟨(hu a ha).1,(hu a ha).2.1,r.there a ha⟩) fun a ha i s hs o=>S.own_there hs o (hu' a ha)
    refine q v u.pv _ H1 ⟨S1,m1.ff.trans nf,m1.hh,fun a o e=>?_⟩ (r.rep nf fun a ha o ho=>by unfold layH;rw [if_pos ha];exact ho) kk
    unfold layH at e
    split at e
    · rename_i z
      exact .inr (hu' a z)
    · exact m1.nn a o e⟩
end
theorem ZCn:∀ {xs:List PV},(∀ x∈xs,eqP x x=true)→ZBu xs xs=true
  | [],_=>by rw [ZBu]
  | x :: r,h=>by rw [ZCm,h x (by simp),ZCn (xs:=r) fun y hy=>h y (by simp [hy])];rfl
theorem eqP_refl {K:PySem.W.Frag}:∀ (d:Nat) {p:PV},dat K d p→eqP p p=true:=by
  intro d
  induction d with
  | zero=>intro p h;cases p <;> first | exact h.elim | (rw [eqP] <;> simp)
  | succ d ih=>
    intro p h
    cases p with
    | lst xs=>rw [eqP];exact ZCn fun x hx=>ih (h x hx)
    | tup xs=>rw [eqP];exact ZCn fun x hx=>ih (h x hx)
    | con a xs=>rw [eqP];exact ZCn fun x hx=>ih (h.1 x hx)
    | _=>first | exact h.elim | (rw [eqP] <;> simp)
end Fz
set_option Elab.async false
set_option linter.all false
set_option maxRecDepth 100000
set_option maxHeartbeats 4000000
namespace L2
open PySem PySem.Spec PyProof.Rows
structure Exn (h:Heap) (ea:Addr) (C:Value) (dx tb:Option Addr):Prop where
  obj:∃ oe vs,h.get? ea=some oe∧oe.cls=C∧oe.dict=dx∧oe.data=.fields vs∧1 < vs.size∧vs[1]?=some (tb.elim Value.none Value.ref)
  ent:∀ T,tb=some T→T≠ea∧∃ oT ts,h.get? T=some oT∧oT.data=.fields ts∧3 < ts.size∧ts[3]?=some Value.none
section
variable {M:Model} {A:Around} {E:Value→Shared→Prop} {s:Shared} {base:Heap} {env:Env} {outer:List Env} {L ea:Addr} {C:Value} {dx tb:Option Addr} {Q:Unit→Shared→Prop}
theorem dict_map (o:Obj) (g:Array Value→Array Value):(o.mapFields g).dict=o.dict:=by
  obtain ⟨c,d,dt,sl⟩:=o
  cases dt <;> rfl
structure Kp (l:List Env) (ea:Addr) (tb:Option Addr) (h h':Heap):Prop where
  keep:∀ b o,h.get? b=some o→b∉frs l→b≠ea→tb≠some b→h'.get? b=some o
  slot:∀ b o,h.get? b=some o→b∈frs l→∃ sl,h'.get? b=some { o with slots:=sl }
  size:h.objs.size≤h'.objs.size
theorem ZGX (hl:s.heap.FunFrames base (env :: outer)) {b:Addr} {o:Obj} {vs:Array Value} (ho:s.heap.get? b=some o) (hd:o.data=.fields vs):b∉frs (env :: outer):=fun hm=>by
  obtain ⟨_,u,hu,hn⟩:=hl.mem hm
  rw [ho] at hu
  cases hu
  exact hn vs hd
theorem ZEt {head:Value} {more:Bool} {oe:Obj} {vs:Array Value} (hfr:A.frames=some (env :: outer)) (hl:s.heap.FunFrames base (env :: outer)) (hf:env.frame=some L)
    (he:s.heap.get? ea=some oe) (hc:oe.cls=C) (hdx:oe.dict=dx) (hd:oe.data=.fields vs) (hz:1 < vs.size)
    (h:∀ h' T,Kp (env :: outer) ea none s.heap h'→s.heap.objs.size≤T→Exn h' ea C dx (some T)→Q () { s with heap:=h' }) :
    wpAny M A (do
      let fr ← frameOf env
      let pl ← entryPlaceOf L more
      let b ← EntryCells.newEntry head fr Value.none (rawInt L) Value.none pl
      setField (.ref ea) 1 b) (fun _ s'=>wpAny M A (setFlight (.ref ea) none) Q E s') E s:=by
  have nfe:=ZGX hl he hd
  refine wpAny_bind (wpAny_frameOf_fun hfr hl hf fun g so=>?_)
  refine wpAny_bind (wpAny_entryPlaceOf fun pl ip=>?_)
  unfold EntryCells.newEntry newFields
  refine wpAny_bind (wpAny_newObj_type ?_ (ip.sizeOk5 _ _ _ _ _))
  generalize hT:([head,Value.ref L,Value.none,rawInt L,Value.none]++(if pl.isEmpty then List.replicate 6 Value.none else pl)).toArray=ts
  have tz:3 < ts.size:=by
    rw [← hT]
    simp only [List.size_toArray,List.length_append,List.length_cons,List.length_nil]
    omega
  have eg:g.get? ea=some oe:=(so.2.1 ea nfe).trans he
  have gT:(g.push { cls:=.type "traceback", dict:=none,data:=.fields ts }).get? g.objs.size=some { cls:=.type "traceback", dict:=none,data:=.fields ts }:=Heap.get?_push_size g rfl
  have ge:=Heap.get?_push_of_some (h:=g) { cls:=.type "traceback", dict:=none,data:=.fields ts } eg
  refine wpAny_setField ge hd hz ?_
  have tne:g.objs.size≠ea:=Nat.ne_of_gt (Heap.lt_size eg)
  have d3:=Obj.data_mapFields hd (·.setIfInBounds 1 (Value.ref g.objs.size))
  have e3:=Heap.get?_update_self (Obj.mapFields (·.setIfInBounds 1 (Value.ref g.objs.size))) ge (Obj.isFreed_of_fields d3)
  have T3:=(Heap.get?_update_other (g.push { cls:=.type "traceback", dict:=none,data:=.fields ts }) (Obj.mapFields (·.setIfInBounds 1 (Value.ref g.objs.size))) (Ne.symm tne)).trans gT
  unfold setFlight
  refine wpAny_bind (wpAny_field e3 d3 (x:=.ref g.objs.size) (by simp [hz]) ?_)
  rw [if_pos (show (Value.ref g.objs.size != Value.none)=true from by simp)]
  refine wpAny_setField T3 rfl tz (h _ g.objs.size ⟨fun b o hb hnf hbe _=>?_,fun b o hb hbf=>?_,?_⟩ ?_ ⟨⟨_,_,?_,?_,?_,d3,?_,?_⟩,fun T eT=>?_⟩)
  · have gb:g.get? b=some o:=(so.2.1 b hnf).trans hb
    rw [Heap.get?_update_other _ _ (Nat.ne_of_gt (Heap.lt_size gb)),Heap.get?_update_other _ _ (Ne.symm hbe)]
    exact Heap.get?_push_of_some _ gb
  · obtain ⟨sl,gb⟩:=so.2.2 b o hb
    refine ⟨sl,?_⟩
    rw [Heap.get?_update_other _ _ (Nat.ne_of_gt (Heap.lt_size gb)),Heap.get?_update_other _ _ (by rintro rfl;exact nfe hbf)]
    exact Heap.get?_push_of_some _ gb
  · rw [Heap.size_after_update,Heap.size_after_update,Heap.size_push,so.1]
    exact Nat.le_succ _
  · rw [so.1];exact Nat.le_refl _
  · rw [Heap.get?_update_other _ _ tne];exact e3
  · rw [Obj.cls_mapFields];exact hc
  · rw [dict_map];exact hdx
  · simpa using hz
  · simp [hz]
  · cases eT
    refine ⟨tne,_,_,Heap.get?_update_self _ T3 (Obj.isFreed_of_fields (Obj.data_mapFields rfl _)),Obj.data_mapFields rfl _,by simpa using tz,?_⟩
    simp [tz]
theorem ZEs (hfr:A.frames=some (env :: outer)) (hl:s.heap.FunFrames base (env :: outer)) (hf:env.frame=some L) (hx:Exn s.heap ea C dx tb)
    (h:∀ h' T,Kp (env :: outer) ea tb s.heap h'→s.heap.objs.size≤T→Exn h' ea C dx (some T)→Q () { s with heap:=h' }) :
    wpAny M A (noteFrame (.ref ea) env) (fun _ s'=>wpAny M A (setFlight (.ref ea) none) Q E s') E s:=by
  obtain ⟨oe,vs,he,hc,hd,hdat,hz,h1⟩:=hx.obj
  unfold noteFrame
  simp only [hf]
  refine wpAny_bind (wpAny_field he hdat h1 ?_)
  cases tb with
  | none=>
    rw [if_neg (by decide)]
    exact ZEt hfr hl hf he hc hd hdat hz h
  | some T=>
    obtain ⟨tne,oT,ts,hT,hTd,tz,h3⟩:=hx.ent T rfl
    show wpAny M A (do if (Value.ref T != Value.none)=true then _ else _) _ _ _
    rw [if_pos (show (Value.ref T != Value.none)=true from by simp)]
    refine wpAny_bind (wpAny_field hT hTd h3 ?_)
    rw [if_neg (show ¬ ((Value.none == rawInt L)=true) from by simp [rawInt])]
    refine wpAny_bind (wpAny_setField hT hTd tz ?_)
    have oth:∀ b,b≠T→(s.heap.update T (Obj.mapFields (·.setIfInBounds 3 Value.none))).get? b=s.heap.get? b:=fun b hb=>Heap.get?_update_other _ _ (Ne.symm hb)
    have nT:=ZGX hl hT hTd
    refine ZEt (s:={ s with heap:=s.heap.update T (Obj.mapFields (·.setIfInBounds 3 Value.none)) }) hfr (hl.of_keeps fun b o hb hn=>⟨o,(oth b (by rintro rfl;rw [hT] at hb;cases hb;exact hn ts hTd)).trans hb,rfl⟩) hf ((oth ea (Ne.symm tne)).trans he) hc hd hdat hz fun h' T' k hn x=>?_
    have hT2:=Heap.get?_update_self (Obj.mapFields (·.setIfInBounds 3 Value.none)) hT (Obj.isFreed_of_fields (Obj.data_mapFields hTd _))
    refine h h' T' ⟨fun b o hb hnf hbe hbt=>k.keep b o ((oth b (by rintro rfl;exact hbt rfl)).trans hb) hnf hbe (by simp),fun b o hb hbf=>k.slot b o ((oth b (by rintro rfl;exact nT hbf)).trans hb) hbf,?_⟩ ?_ x
    · have z:=k.size
      rw [show (s.heap.update T (Obj.mapFields (·.setIfInBounds 3 Value.none))).objs.size=s.heap.objs.size from Heap.size_after_update ..] at z
      exact z
    · have z:=hn
      rw [show (s.heap.update T (Obj.mapFields (·.setIfInBounds 3 Value.none))).objs.size=s.heap.objs.size from Heap.size_after_update ..] at z
      exact z
theorem ZGo (hfr:A.frames=some (env :: outer)) (hl:s.heap.FunFrames base (env :: outer)) (hf:env.frame=some L) (hx:Exn s.heap ea C dx tb)
    (h:∀ h' T,Kp (env :: outer) ea tb s.heap h'→s.heap.objs.size≤T→Exn h' ea C dx (some T)→Q () { s with heap:=h' }):wpAny M A (leaving env (.ref ea)) Q E s:=by
  unfold leaving
  exact wpAny_bind (ZEs hfr hl hf hx h)
end
end L2
set_option Elab.async false
set_option linter.all false
set_option maxRecDepth 100000
set_option maxHeartbeats 4000000
namespace L2
open PySem PySem.Spec PyProof.Rows
def CX1 (P:Program) (w:World):CXT:=fun outer H s E e s'=>∃ (ea C:Addr) (dx tb:Option Addr) (H':Hp),e=.ref ea∧s'.os=s.os∧AllBare s'.gens∧Un (frs outer) [] H H' s.heap s'.heap∧HOk P w H' s'.heap∧
  Exn s'.heap ea (.ref C) dx tb∧(H' ea=none∧s.heap.get? ea=none)∧(∀ T,tb=some T→H' T=none∧s.heap.get? T=none)∧E (.ref C) dx H'
def Raised (X:Cx) (E:XK) (e:Value) (s':Shared):Prop:=∃ (pins:List (Addr×Obj)) (σ:St) (H':Hp) (ea C:Addr) (dx tb:Option Addr),e=.ref ea∧Inv X pins σ H' s'∧
  Exn s'.heap ea (.ref C) dx tb∧(H' ea=none∧X.s₀.heap.get? ea=none)∧(∀ T,tb=some T→H' T=none∧X.s₀.heap.get? T=none)∧E (.ref C) dx H'
section
variable {P:Program} {w:World} {K:PySem.W.Frag} {mg:Str→Option Value} {base:Heap} {N:List Str} {qual:Str} {scope:Scope} {f:Addr} {cd:Value} {A:Around} {outer:List Env} {s:Shared} {H:Hp} {E:XK}
theorem HOk.kept2 {H':Hp} {h h':Heap} (ok:HOk P w H' h) (k:∀ b u,H' b≠none→h.get? b=some u→h'.get? b=some u):HOk P w H' h':=fun a o e=>
  (ok a o e).stay (fun b u hb hu=>k b u (by rcases hb with rfl | hb;(rw [e];simp);(rw [hb];simp)) hu) (fun _ z=>z) fun _ _ z=>z
theorem Raised.leave {e:Value} {s':Shared} (r:Raised (ZCb (CX1 P w) P w K mg base N qual scope f cd A outer s H E) E e s'):(ZCb (CX1 P w) P w K mg base N qual scope f cd A outer s H E).xe e s':=by
  obtain ⟨pins,σ,H',ea,C,dx,tb,rfl,I,x,⟨u1,u2⟩,ut,hE⟩:=r
  have fr:=I.ok.frames
  change s.heap.get? ea=none at u2
  have ut:∀ T,tb=some T→H' T=none∧s.heap.get? T=none:=ut
  refine ZGo (outer:=outer) (L:=s.heap.objs.size) fr I.stack rfl x fun h' T kp hT x'=>?_
  have nfr:∀ b o,s.heap.get? b=some o→b≠s.heap.objs.size:=fun b o hb=>Nat.ne_of_lt (Heap.lt_size hb)
  have mem:∀ b,b∈frs (envOfC qual scope s.heap.objs.size f cd :: outer)→b=s.heap.objs.size∨b∈frs outer:=fun b hb=>by
    rcases List.mem_cons.mp (I.stkSub b hb) with z | z
    · exact .inl z
    · exact .inr z
  have old:∀ b o,s'.heap.get? b=some o→H' b≠none→h'.get? b=some o:=fun b o hb hn=>kp.keep b o hb (fun z=>hn (I.stkFree b z)) (fun z=>hn (z▸u1)) fun z=>hn (ut b z).1
  refine ⟨ea,C,dx,some T,H',rfl,I.os,I.bare,⟨fun b o hb hn hf _=>?_,fun b o hb hn hf _=>?_,fun b o hb hn hx=>I.base.free b o hb hn hx,fun b o hb hx=>?_,I.base.tups,I.base.frzs,I.base.tbls⟩,I.hok.kept2 fun b u hn hb=>old b u hb hn,x',⟨u1,u2⟩,fun T' eT=>?_,hE⟩
  · refine kp.keep b o (I.base.keep b o hb hn hf (by simp [ZCb])) (fun z=>(mem b z).elim (nfr b o hb) hf) (by rintro rfl;rw [u2] at hb;cases hb) fun z=>?_
    rw [(ut b z).2] at hb;cases hb
  · obtain ⟨sl,h1⟩:=I.base.slot b o hb hn hf (by simp [ZCb])
    have hin:b∈frs (envOfC qual scope s.heap.objs.size f cd :: outer):=by
      show b∈List.filterMap _ (_ :: _)
      rw [List.filterMap_cons]
      exact List.mem_cons_of_mem _ hf
    obtain ⟨sl2,h2⟩:=kp.slot b _ h1 hin
    exact ⟨sl2,h2⟩
  · obtain ⟨o1,h1⟩:=I.base.there b o hb (by simp [ZCb])
    by_cases hf:b∈frs (envOfC qual scope s.heap.objs.size f cd :: outer)
    · obtain ⟨sl2,h2⟩:=kp.slot b _ h1 hf
      exact ⟨_,h2⟩
    · exact ⟨o1,kp.keep b o1 h1 hf (by rintro rfl;rw [u2] at hb;cases hb) fun z=>by rw [(ut b z).2] at hb;cases hb⟩
  · cases eT
    exact ⟨I.hok.fresh hT,Heap.get?_none_of_le (Nat.le_trans I.sz hT)⟩
end
section
variable {X:Cx} {P:Program} {w:World}
theorem Raised.of {pins:List (Addr×Obj)} {σ:St} {H:Hp} {s s':Shared} {E:XK} {e:Value} (I:Inv X pins σ H s) (hex:X.ex=[]) (h:CX1 X.prog X.w X.stack H s E e s'):Raised X E e s':=by
  have new0:∀ a,s.heap.get? a=none→X.s₀.heap.get? a=none:=fun a ha=>by
    cases q:X.s₀.heap.get? a with
    | none=>rfl
    | some o=>
      obtain ⟨o1,h1⟩:=I.base.there a o q (by rw [hex];simp)
      rw [ha] at h1;cases h1
  obtain ⟨ea,C,dx,tb,H',rfl,os,bare,un,hok,x,⟨u1,u2⟩,ut,hE⟩:=h
  obtain ⟨hh,g,d,t,os'⟩:=s'
  obtain rfl:os'=s.os:=os
  have I2:=I.call (h':=hh) (g':=g) (d':=d) (t':=t) (ch:=[]) un hok bare (fun b z=>absurd z (by simp))
  refine ⟨pins,σ,H',ea,C,dx,tb,rfl,I2,x,⟨u1,new0 _ u2⟩,fun T eT=>⟨(ut T eT).1,new0 _ (ut T eT).2⟩,hE⟩
end
end L2
set_option Elab.async false
set_option linter.all false
set_option maxRecDepth 100000
set_option maxHeartbeats 4000000
namespace L2
open PySem PySem.Spec PyProof.Rows
abbrev mroV:List Value:=[.type "ValueError", .type "Exception", .type "BaseException", .type "object"]
structure ExCls (h:Heap) (C:Addr) (ini:Option Value):Prop where
  obj:∃ bm N nm q bs hdct sn sub ab col dd k0 k1 k2 k3 k5 mN,h.get? C=some (excClassObj nm q C N bs bm hdct sn sub ab col dd k0 k1 k2 k3 k5 "ValueError.__new__")∧h.Ns N mN∧mN "__init__" = ini∧OwnTail h mroV bm
def ZDx (K:PySem.W.Frag) (C:Addr) (ini:Option Value):Bool:=match K.lookup C with
  | some ⟨.type "type", _,.cls cd,sl⟩=>(match cd.mro,sl.toList with
    | .ref C' :: bm,[_,_,_,_,some (.builtin n),_]=>C' == C && n == "ValueError.__new__" && !cd.hasDel && PySem.W.tailIn K mroV bm && PySem.W.nsOkIn K cd.ns && PySem.W.nsIn K cd.ns "__init__" == some ini
    | _,_=>false)
  | _=>false
theorem ZCX {K:PySem.W.Frag} {h:Heap} {C:Addr} {ini:Option Value} (X:K.In h) (q:ZDx K C ini=true):ExCls h C ini:=by
  unfold ZDx at q
  split at q
  · rename_i dd cd sl ho
    split at q
    · rename_i C' bm k0 k1 k2 k3 n k5 hm hs
      simp only [Bool.and_eq_true,beq_iff_eq,Bool.not_eq_true'] at q
      obtain ⟨⟨⟨⟨⟨rfl,rfl⟩,hdel⟩,ht⟩,hok⟩,hni⟩:=q
      obtain ⟨nm,bs,mro,ns,qn,hd,sn,sub,ab,col,del⟩:=cd
      dsimp only at hm hdel hok hni
      subst hm hdel
      obtain ⟨l⟩:=sl
      simp only at hs
      subst hs
      have G:h.Ns ns (h.nsMap ns):=.of_isNs (PySem.W.isNs_of_in X hok)
      refine ⟨bm,ns,nm,qn,bs,hd,sn,sub,ab,col,dd,k0,k1,k2,k3,k5,_,X _ _ ho,G,?_,PySem.W.tail_of_in X ht⟩
      cases ini with
      | none=>exact PySem.W.ns_none_of X G hni
      | some v=>
        obtain ⟨o,es,ep,hoo,hd2,_,hf⟩:=G
        unfold PySem.W.nsIn at hni
        split at hni
        · rename_i c d es' n' sl q2
          have z:=X _ _ q2
          rw [hoo] at z
          cases z
          cases hd2
          split at hni
          · rename_i e he
            rw [← hf]
            unfold nsFind findBy
            rw [← Array.find?_toList,he]
            simpa using hni
          · split at hni <;> cases hni
        · cases hni
    · cases q
  · cases q
theorem ObjOk.there {P:Program} {w:World} {H:Hp} {h:Heap} {a:Addr} {o:HO} (x:ObjOk P w H h a o):∃ u,h.get? a=some u:=by
  induction o with
  | lst xs=>obtain ⟨_,_,_,_,e⟩:=x;exact ⟨_,e⟩
  | tup xs=>obtain ⟨_,_,_,⟨_,e,_⟩,_⟩:=x;exact ⟨_,e⟩
  | dK kvs=>obtain ⟨_,_,_,_,_,_,_,e,_⟩:=x;exact ⟨_,e⟩
  | dT kvs=>obtain ⟨_,_,_,_,_,_,_,e,_⟩:=x;exact ⟨_,e⟩
  | set S n=>obtain ⟨_,_,_,_,e,_⟩:=x;exact ⟨_,e⟩
  | ins C dx fs=>obtain ⟨_,_,_,e,_⟩:=x;exact ⟨_,e⟩
  | own y=>exact x
  | xd fs=>obtain ⟨_,⟨_,_,_,e,_⟩,_⟩:=x;exact ⟨_,e⟩
  | met f y=>exact ⟨_,x⟩
  | rng lo hi=>obtain ⟨_,_,_,e⟩:=x;exact ⟨_,e⟩
  | frz ob u _=>exact ⟨_,x.1⟩
  | tbl ps=>exact ⟨_,x⟩
  | ext φ=>exact x.2.1
theorem HOk.there {P:Program} {w:World} {H:Hp} {h:Heap} {a:Addr} {o:HO} (x:HOk P w H h) (e:H a=some o):∃ u,h.get? a=some u:=(x a o e).there
section
variable {X:Cx} {x:Str} {C:Addr} {E':St→XK} {np cpos pos:Pos} {e0:Expr} {es:List Expr} {t:TA} {E:XK}
def ZE0 (C:Addr) (E:St→XK) (t:TA):TS:=fun _ σ H=>t σ H fun vs H1=>vs.length≤1000∧E σ (.ref C) none H1
def Goes (X:Cx) (E:St→XK):Prop:=∀ (pins:List (Addr×Obj)) (σ:St) (H':Hp) (s':Shared) (ea C:Addr) (dx tb:Option Addr),Inv X pins σ H' s'→Exn s'.heap ea (.ref C) dx tb→(H' ea=none∧X.s₀.heap.get? ea=none)→(∀ T,tb=some T→H' T=none∧X.s₀.heap.get? T=none)→
  (∀ p∈X.pn++pins,p.1≠ea∧tb≠some p.1)→E σ (.ref C) dx H'→X.xe (.ref ea) s'
theorem ZIe (hg:Gl X x) (hm:X.mg x=some (.ref C)) (q:ZDx X.K C none=true) (hc:X.calm=true) (hex:X.ex=[]) (go:Goes X E') (ha:PA X (e0 :: es) t)
    (hdb:(x == ("__debug__" : Str))=false:=by decide) (he:starEach (e0 :: es) X.env=(false,eval e0 X.env) :: starEach es X.env:=by rfl) (hpl:(backTo cpos (starEach es X.env)).any (·.1)=false:=by rfl) :
    PS X (.Raise (some (.Call (.Name x np) (e0 :: es) [] cpos)) none pos) (ZE0 C E' t):=by
  intro pins s σ H D I h
  have mk:∀ h':Heap,X.K.In h'→ExCls h' C none:=fun h' k=>ZCX k q
  obtain ⟨bm,N,nm,qn,bs,hdct,sn,sub,ab,col,dd,k0,k1,k2,k3,k5,mN,hC,hN,hni,T⟩:=(ZCX (X:=I.mod.kin) q).obj
  refine wpAny_Raise_call_subT (C:=C) (nm:=nm) (q:=qn) (N:=N) (bs:=bs) (bm:=bm) (hdct:=hdct) (sn:=sn) (sub:=sub) (ab:=ab) (col:=col) (dd:=dd) (k0:=k0) (k1:=k1) (k2:=k2) (k3:=k3) (k5:=k5)
    PySem.F.excBase_ValueError (mN:=mN) (T.hasType rfl) (I.ok.hd hc) (by rw [he];show (false || (backTo cpos (starEach es X.env)).any (·.1))=false;rw [hpl];rfl) hni (ZBx I hg hm ⟨rfl,?_⟩ hdb)
  rw [he]
  have ha':=ha cpos pins s σ H _ I h
  rw [he] at ha'
  refine Calls.evalArgs_plain (thn ha' fun us s2 ⟨vs,H2,I2,r,hz,hE⟩=>⟨rfl,?_,I2.bk _ _ hC,hN.keeps I2.bk,T.keeps I2.bk,fun h' e hm=>?_⟩)
  · rw [← r.length];exact Nat.le_trans hz (by decide +kernel)
  · obtain ⟨t',he',ht',_⟩:=hm.there
    have e2:s2.heap.get? e=none:=hm.new
    have I3:=I2.call (h':=h') (g':=s2.gens) (d':=s2.drawn) (t':=s2.toks) (ch:=[]) (Un.kept hm.keeps) (I2.hok.kept hm.keeps) I2.bare (fun b z=>absurd z (by simp))
    refine go pins σ H2 _ e C none none I3 ⟨⟨_,_,he',rfl,rfl,rfl,by simp,rfl⟩,fun T z=>by cases z⟩ ⟨?_,?_⟩ (fun T z=>by cases z) (fun p hp=>⟨fun z=>?_,by simp⟩) hE
    · cases z:H2 e with
      | none=>rfl
      | some o=>obtain ⟨u,hu⟩:=I2.hok.there z;rw [e2] at hu;cases hu
    · cases z:X.s₀.heap.get? e with
      | none=>rfl
      | some o=>obtain ⟨u,hu⟩:=I2.base.there e o z (by rw [hex];simp);rw [e2] at hu;cases hu
    · have:=(I2.pin p hp).1
      rw [z,e2] at this;cases this
end
end L2
set_option Elab.async false
set_option linter.all false
set_option maxRecDepth 100000
set_option maxHeartbeats 4000000
namespace L2
open PySem PySem.Spec PyProof.Rows
abbrev exO (C t:Addr) (dx:Option Addr):Obj:={ cls:=.ref C,dict:=dx,data:=.fields #[.ref t,.none,.none,.none,.bool false,.none] }
section
variable {M:Model} {A:Around} {E:Value→Shared→Prop} {env:Env}
variable {nm qn:Str} {C N:Addr} {bs bm:List Value} {hdct:Bool} {sn:List Str} {sub:List Value} {ab:Bool} {col:Option Bool} {dd:Option Addr} {k0 k1 k2 k3 k5:Option Value} {newId:String}
theorem ZIc {s:Shared} {y:Sem Value} {Q:Flow→Shared→Prop} (hb:bm.contains (.type "BaseException")=true) (hh:A.handled=none)
    (hy:wpAny M A y (fun v z=>∃ ea t dx,v=.ref ea∧z.heap.get? C=some (excClassObj nm qn C N bs bm hdct sn sub ab col dd k0 k1 k2 k3 k5 newId)∧z.heap.get? ea=some (exO C t dx)∧E (.ref ea) z) E s) :
    wpAny M A (raiseStmt env (some y) none) Q E s:=by
  have cb:(Value.ref C :: bm).contains (.type "BaseException")=true:=by
    rw [List.contains_cons,hb,Bool.or_true]
  unfold raiseStmt
  refine wpAny_bind (wpAny_mono hy (fun v z hz=>?_) fun _ _ q=>q)
  obtain ⟨ea,t,dx,rfl,oC,oe,hE⟩:=hz
  obtain ⟨hp,g,d,tk,os⟩:=z
  repeat (first
    | with_reducible refine wpAny_loadPart_at oe ?_
    | with_reducible refine wpAny_loadPart_at oC ?_
    | (with_reducible refine wpAny_isSubtype_exc oC ?_;rw [cb])
    | wp_step)
  exact wpAny_raiseNew_none hh hE
end
section
variable {prog:Program} {w:World} {A:Around} {E:Value→Shared→Prop} {h:Heap} {g:Array GenState} {d:Drawn} {t:Nat} {os:OsState}
variable {nm qn:Str} {C N:Addr} {bs bm bmB:List Value} {hdct:Bool} {sn:List Str} {sub:List Value} {ab:Bool} {col:Option Bool} {dd:Option Addr} {k0 k1 k2 k3 k5:Option Value} {B newId initId:String}
theorem ZGU (F:ExcBaseFacts B newId initId bmB) (T:OwnTail h bmB bm) {mN:Str→Option Value} {us:List Value} {fI:Addr} {oI:Obj} {Q:PySem.Fin→Shared→Prop}
    (oC:h.get? C=some (excClassObj nm qn C N bs bm hdct sn sub ab col dd k0 k1 k2 k3 k5 newId)) (hn:h.Ns N mN) (hi:mN "__init__" = some (.ref fI)) (hfI:h.get? fI=some oI) (hfc:oI.cls=.type "function") (hus:us.length≤sizeLine)
    (hq:∀ h' ea,h.objs.size≤ea→Heap.MadeExcOf h h' ea (.ref C) us→wpAny (model prog w) A (call (.ref fI) (.ref ea :: us)) (fun r s'=>r=.none∧Q (.done (.ret (.ref ea))) s') E ⟨h',g,d,t,os⟩) :
    wpAny (model prog w) A (Builtin.«type.__call__» ⟨.ref C :: us,[]⟩) Q E ⟨h,g,d,t,os⟩:=by
  repeat (first
    | with_reducible refine wpAny_loadPart_at oC ?_
    | with_reducible refine wpAny_madeBy_exc oC ?_
    | wp_step)
  refine codeAny_call_builtin_code (Code.quiet_builtin _ F.quiet) (wpAny_check_new_subT F T oC ?_)
  refine codeAny_exc_new_subT F T oC ?_ hus
  show wpAny _ _ _ _ _ _
  generalize ho1:({ cls:=.type "tuple", data:=.seq us.toArray }:Obj)=o1
  generalize ho2:({ cls:=.ref C,data:=.fields #[.ref h.objs.size,.none,.none,.none,.bool false,.none] }:Obj)=o2
  have up:∀ {b:Addr} {o:Obj},h.get? b=some o→((h.push o1).push o2).get? b=some o:=fun e=>Heap.get?_push_of_some _ (Heap.get?_push_of_some _ e)
  have g2:((h.push o1).push o2).get? (h.objs.size+1)=some o2:=by
    rw [← Heap.size_push h o1]
    exact Heap.get?_push_size _ (by rw [← ho2];rfl)
  have g1:((h.push o1).push o2).get? h.objs.size=some o1:=Heap.get?_push_of_some _ (Heap.get?_push_size h (by rw [← ho1];rfl))
  have n2:((h.push o1).push o2).Ns N mN:=hn.keeps fun b o e=>up e
  have oC2:=up oC
  have hfI2:=up hfI
  have T2:=T.keeps (h':=(h.push o1).push o2) fun b o e=>up e
  have cc:(Value.ref C :: bm).contains (.ref C)=true:=by simp
  have ec:o2.cls=.ref C:=by rw [← ho2]
  unfold isInstance
  subst ho2
  repeat (first
    | with_reducible refine wpAny_loadPart_at g2 ?_
    | (with_reducible refine wpAny_isSubtype_exc oC2 ?_;rw [cc])
    | wp_step)
  show wpAny _ _ (typeLookup (.ref C) _) _ _ _
  refine wpAny_typeLookup_tail oC2 n2 T2 F.mroIs F.init.lookup ?_
  rw [hi]
  refine wpAny_holding (wpAny_bind ?_)
  unfold bindSpecial
  refine wpAny_bind (wpAny_typeOf (T := "function") ⟨_,hfI2,hfc⟩ ?_)
  rw [if_pos (by decide)]
  subst ho1
  refine wpAny_pure (wpAny_bind (wpAny_mono (hq _ (h.objs.size+1) (Nat.le_succ _) ⟨fun b o hb=>up hb,Heap.get?_none_of_le (Nat.le_succ _),h.objs.size,g2,Heap.get?_none_of_le (Nat.le_refl _),g1⟩) (fun r s' hr=>?_) fun _ _ q=>q))
  obtain ⟨rfl,hQ⟩:=hr
  wp_walk
  exact hQ
theorem call_I (F:ExcBaseFacts B newId initId bmB) (T:OwnTail h bmB bm) {mN:Str→Option Value} {us:List Value} {fI:Addr} {oI:Obj} {Q:Value→Shared→Prop}
    (oC:h.get? C=some (excClassObj nm qn C N bs bm hdct sn sub ab col dd k0 k1 k2 k3 k5 newId)) (hn:h.Ns N mN) (hi:mN "__init__" = some (.ref fI)) (hfI:h.get? fI=some oI) (hfc:oI.cls=.type "function") (hus:us.length≤sizeLine)
    (hq:∀ h' ea,h.objs.size≤ea→Heap.MadeExcOf h h' ea (.ref C) us→wpAny (model prog w) (A.under (.builtin "type.__call__" ⟨.ref C :: us,[]⟩)) (call (.ref fI) (.ref ea :: us)) (fun r s'=>r=.none∧Q (.ref ea) s') E ⟨h',g,d,t,os⟩) :
    wpAny (model prog w) A (call (.ref C) us) Q E ⟨h,g,d,t,os⟩:=by
  have f1:=tc_lookup
  have f2:=tc_bind (.ref C)
  have ty:(⟨h,g,d,t,os⟩:Shared).TypeIs (.ref C) "type" := ⟨_,oC,rfl⟩
  refine wpAny_call (codeAny_of_tree ?_)
  show wpAny _ _ (callAny (.ref C) _) _ _ _
  repeat (any_goals (first
    | assumption
    | with_reducible refine wpAny_loadPart_at oC ?_
    | wp_step))
  refine ⟨rfl,?_⟩
  exact codeAny_call_builtin_at (Code.quiet_builtin _ (by decide +kernel)) entry_typeCall (wpAny_check_type_call_sub oC (ZGU F T oC hn hi hfI hfc hus hq))
end
end L2
set_option Elab.async false
set_option linter.all false
set_option maxRecDepth 100000
set_option maxHeartbeats 4000000
namespace L2
open PySem PySem.Spec PyProof.Rows
section
variable {prog:Program} {w:World} {A:Around} {E:Value→Shared→Prop} {s:Shared} {K:PySem.W.Frag} {x C t:Addr} {name:Str} {v:Value}
def ZEx:List Value→Bool
  | [.type a,.type b,.type c,.type d]=>a == "ValueError" && (b == "Exception" && (c == "BaseException" && d == "object"))
  | .ref _ :: r=>ZEx r
  | _=>false
theorem ZHB (self:Value):PySem.refuseLoop self "__setattr__" [.type "ValueError", .type "Exception", .type "BaseException", .type "object"]=pure ():=by
  first | rfl | kernel_rfl
theorem ZDl {l:List Value} (h:ZEx l=true):l=[.type "ValueError", .type "Exception", .type "BaseException", .type "object"]∨∃ c r,l=.ref c :: r∧ZEx r=true:=by
  unfold ZEx at h
  split at h
  · simp only [Bool.and_eq_true,beq_iff_eq] at h
    obtain ⟨rfl,rfl,rfl,rfl⟩:=h
    exact .inl rfl
  · exact .inr ⟨_,_,rfl,h⟩
  · cases h
theorem refuse_V (self:Value):∀ {l:List Value},ZEx l=true→PySem.refuseLoop self "__setattr__" l=pure ():=by
  intro l
  induction l with
  | nil=>intro h;cases h
  | cons x r ih=>
    intro h
    rcases ZDl h with e | ⟨c,r',e,h'⟩
    · rw [e];exact ZHB self
    · cases e
      rw [PySem.refuseLoop_ref];exact ih h'
theorem ZIw:∀ {l:List Value},ZEx l=true→l.contains (.type "object")=true:=by
  intro l
  induction l with
  | nil=>intro h;cases h
  | cons x r ih=>
    intro h
    rcases ZDl h with e | ⟨c,r',e,h'⟩
    · rw [e];decide
    · cases e
      rw [List.contains_cons,ih h',Bool.or_true]
def ZDj (K:PySem.W.Frag) (C:Addr):Bool:=(PySem.W.clsIn K C).any fun cd=>ZEx cd.mro
section
open PySem.Builtin PySem.Builtin.ObjectAttr
theorem ZJ2 {A:Around} {R:Result→Shared→Prop} {ox:Obj} {od:Option Obj} {name:Str} {tk:Tok} {v:Value} {r:Option Value} (X:K.In s.heap) (I:PySem.W.InstAt s.heap x ox C od) (hp:ZDj K C=true) (ht:PySem.W.takerIn K C name=some r)
    (h:∀ b,wpAny (model prog w) A.in1 (match r with | some a=>setByDescriptor a (.ref x) v | none=>storeInOwnDict (.ref x) (.ref C) (.str name tk) name v b)
      (fun fin s'=>match fin with | .done f=>R (.ok f) s' | .again c'=>c'.quiet=true∧codeAny (model prog w) A c' R s') (fun e s'=>R (.error e) s') s) :
    codeAny (model prog w) A (.call (.builtin "object.__setattr__") ⟨[.ref x,.str name tk,v],[]⟩) R s:=by
  have SF:=PySem.F.store_object
  obtain ⟨cd,hc,ho⟩:=PySem.W.any_some hp
  have ne:cd.mro.isEmpty=false:=by cases q:cd.mro with | nil=>rw [q] at ho;cases ho | cons _ _=>rfl
  have sub:PySem.W.Looks (model prog w) s.heap (isInstance (.ref x) (.type "object")) true:=I.type.andThen (PySem.W.looks_mroIn X (by unfold PySem.W.mroIn;rw [hc,Option.bind_some,if_neg (by rw [ne];decide),ZIw ho]))
  refine codeAny_call_builtin SF.slot.plain SF.entry (@PySem.W.check_slot (model prog w) _ _ s "object.__setattr__" "object" "__setattr__" (.ref x) [.str name tk,v] [] _ SF.kind SF.split sub (SF.args (.ref x) (.str name tk) v) ?_)
  obtain ⟨attr,ha,hr⟩:=Option.bind_eq_some_iff.mp ht
  have hm:PySem.W.Looks (model prog w) s.heap (mroOf (.ref C)) cd.mro:=(PySem.W.looks_clsIn X hc).andThen .now
  have L3:PySem.W.Looks (model prog w) s.heap (storeTaker? attr) r:=by
    cases attr with
    | none=>cases hr;exact .now
    | some a=>
      obtain ⟨b,hb,rfl⟩:=Option.map_eq_some_iff.mp hr
      refine (PySem.W.looks_takesIn X hb).andThen ?_
      cases b <;> exact .now
  rw [PySem.W.osa_eq,PySem.refuse_eq]
  refine wpAny_bind (wpAny_bind (I.type.here (wpAny_bind (hm.here ?_))))
  rw [refuse_V _ ho]
  refine wpAny_pure (wpAny_bind (I.type.here (wpAny_bind ((PySem.W.looks_findIn X ha).here (wpAny_bind (L3.here ?_))))))
  exact h _
end
theorem ns1_new (h:Heap):(h.push { cls:=.type "dict", data:=.dict #[] }).Ns1 h.objs.size (fun _=>none):=by
  refine ⟨_,#[],_,Heap.get?_push_size h rfl,rfl,?_⟩
  refine ⟨fun e he=>?_,?_,fun _=>rfl⟩
  · simp at he
  · simp [UniqKeys]
theorem set_exc {Q:Unit→Shared→Prop} (X:K.In s.heap) (ho:s.heap.get? x=some (exO C t none))
    (hs:PySem.W.findIn K (.ref C) "__setattr__" = some (some (.builtin "object.__setattr__"))) (hp:ZDj K C=true) (ht:PySem.W.takerIn K C name=some none) (hh:PySem.W.hasDictIn K C=true)
    (h:∀ h' d,s.heap.objs.size≤d→h'.get? x=some (exO C t (some d))→h'.Ns1 d (fun y=>if y=name then some v else none)→(∀ b o,b≠x→s.heap.get? b=some o→h'.get? b=some o)→s.heap.objs.size≤h'.objs.size→Q () { s with heap:=h',toks:=s.toks+2 }) :
    wpAny (model prog w) A (setAttr (.ref x) name v) Q E s:=by
  have J:PySem.W.InstAt s.heap x (exO C t none) C none:=⟨ho,rfl,rfl,trivial⟩
  refine PySem.W.set_plain X J hs (ZJ2 (s:={ s with toks:=s.toks+1 }) (r:=none) X J hp ht fun b=>?_)
  obtain ⟨cd,hc,hd'⟩:=PySem.W.any_some hh
  refine wpAny_bind (wpAny_pure (wpAny_bind (wpAny_bind (wpAny_loadPart ho (wpAny_bind (PySem.W.Looks.here (s:={ s with toks:=s.toks+1 }) (PySem.W.looks_clsIn X hc) ?_))))))
  rw [hd',if_neg (by decide)]
  show wpAny _ _ (do
    let d ← alloc { cls:=Value.type "dict", data:=Data.dict #[] }
    update x fun o=>{ o with dict:=some d }
    dictMade (Value.ref C) x d) _ _ _
  have hxs:x < s.heap.objs.size:=Heap.lt_size ho
  refine wpAny_bind (wpAny_alloc (wpAny_bind (wpAny_update (Heap.get?_push_of_some _ ho) ?_)))
  refine wpAny_bind (wpAny_pure (wpAny_pure ?_))
  generalize hg1:((s.heap.push { cls:=Value.type "dict", data:=Data.dict #[] }).update x fun o=>{ o with dict:=some s.heap.objs.size })=g
  have gx:g.get? x=some (exO C t (some s.heap.objs.size)):=by
    rw [← hg1]
    exact Heap.get?_update_self _ (Heap.get?_push_of_some _ ho) rfl
  have gb:∀ b o,b≠x→s.heap.get? b=some o→g.get? b=some o:=fun b o hb e=>by
    rw [← hg1,Heap.get?_update_other _ _ (Ne.symm hb)]
    exact Heap.get?_push_of_some _ e
  have gz:g.objs.size=s.heap.objs.size+1:=by rw [← hg1,Heap.size_after_update,Heap.size_push]
  have gd:g.Ns1 s.heap.objs.size (fun _=>none):=(ns1_new s.heap).at fun o e=>by
    rw [← hg1,Heap.get?_update_other _ _ (Nat.ne_of_lt hxs)];exact e
  refine wpAny_bind (wpAny_pure (wpAny_bind ?_))
  refine wpAny_nsSet1 (s:=⟨g,s.gens,s.drawn,s.toks+1,s.os⟩) gd fun h' hn2 hs2=>?_
  obtain ⟨oD,esD,epD,hoD,hdD,hcD⟩:=hn2.count (PySem.Within.cons (ns:=[]) name v PySem.Within.nil)
  refine wpAny_bind (wpAny_lookBehind hoD (by rw [hdD];exact pastItsLine_dict (Nat.le_trans hcD (Nat.succ_le_succ (Nat.zero_le _)))) ?_)
  exact wpAny_pure (h h' s.heap.objs.size (Nat.le_refl _) ((hs2.2 x (Nat.ne_of_lt hxs)).trans gx) hn2 (fun b o hb e=>(hs2.2 b (Nat.ne_of_lt (Heap.lt_size e))).trans (gb b o hb e)) (by rw [hs2.1,gz];exact Nat.le_succ _))
end
end L2
namespace L2
open PySem PySem.Spec PyProof.Rows
def ZCq (ea C:Addr) (dx:Option Addr):HO:=.ext fun h=>∃ t,h.get? ea=some (exO C t dx)
section
variable {X:Cx} {pins:List (Addr×Obj)} {σ:St} {H:Hp} {s:Shared}
theorem ZGF {P:Program} {w:World} {h:Heap} {ea C t:Addr} {dx:Option Addr} (e:h.get? ea=some (exO C t dx)):ObjOk P w H h ea (ZCq ea C dx):=
  ⟨⟨t,e⟩,⟨_,e⟩,fun _ _ ⟨t',e'⟩ k=>⟨t',k _ e'⟩⟩
theorem Inv.exc (I:Inv X pins σ H s) {ea C:Addr} {dx:Option Addr} (e:H ea=some (ZCq ea C dx)):∃ t,s.heap.get? ea=some (exO C t dx):=(I.hok ea _ e).1
theorem Inv.reExc {h':Heap} {t':Nat} {ea C t:Addr} {dx dx':Option Addr} (I:Inv X pins σ H s) (e:H ea=some (ZCq ea C dx)) (k:∀ b u,b≠ea→s.heap.get? b=some u→h'.get? b=some u) (he:h'.get? ea=some (exO C t dx')) :
    Inv X pins σ (upd H ea (ZCq ea C dx')) { s with heap:=h',toks:=t' }:=by
  have mu:Mut (H ea):=by rw [e];trivial
  exact I.write mu (.inl rfl) k ⟨_,he⟩ (ZGF he)
end
end L2
set_option Elab.async false
set_option linter.all false
set_option maxRecDepth 100000
set_option maxHeartbeats 4000000
namespace L2
open PySem PySem.Spec PyProof.Rows
def Say:V→Prop
  | .str x=>(reprText x).length≤100000
  | .int i=>i.natAbs.log2 < 1920
  | _=>False
section
variable {X:Cx} {e:Expr} {te:TE} {pos p1 p2 p3:Pos} {k1 k2:Nat} {c1 c2:Str}
theorem ZIo {pins:List (Addr×Obj)} {s:Shared} {σ:St} {H:Hp} {R:St→Hp→Prop} (he:PE X e te) (I:Inv X pins σ H s) (h:te σ H fun v H1=>Say v∧R σ H1) {Q:Value→Shared→Prop}
    (hQ:∀ y t s1 H1,y.length≤200000→Inv X pins σ H1 s1→R σ H1→Q (.str y t) s1):wpAny (model X.prog X.w) X.A (eval (.FormattedValue e 114 none pos) X.env) Q X.xe s:=by
  refine wpAny_FormattedValue_repr (thn (he pins s σ H _ I h) fun u s1 ⟨v,H1,I1,rv,sv,hR⟩=>?_)
  cases v with
  | str x=>
    obtain ⟨t,rfl⟩:=rv
    have sz:(reprText x).length≤sizeLine:=Nat.le_trans sv (by decide +kernel)
    refine wpAny_pyReprObj_str ?_ sz
    refine wpAny_formatField_str ?_ ?_ sz
    · exact hQ _ _ _ H1 (Nat.le_trans sv (by decide)) (I1.tok _) hR
    · exact hQ _ _ _ H1 (Nat.le_trans sv (by decide)) (I1.tok _) hR
  | int i=>
    obtain ⟨t,rfl⟩:=rv
    have l1:(Str.ofString (toString i)).length≤sizeLine:=int_text_fits sv
    have sv':i.natAbs.log2 < 1920:=sv
    have l2:(Str.ofString (toString i)).length≤200000:=by
      have h1:i.natAbs < 10 ^ 600:=by
        by_cases z:i.natAbs=0
        · rw [z];decide +kernel
        · exact Nat.lt_trans ((Nat.log2_lt z).mp sv') (by decide +kernel)
      have e:=int_text_length_le10 (k:=600) (by decide) h1
      clear h1
      rw [PySem.ofString_length];omega
    refine wpAny_pyReprObj_gives (typeIs_int _ i t) F.slot_int_repr F.entry_int_repr (F.args_int_repr_1 _) (gives_int_repr i t sv) ?_ rfl l1
    refine wpAny_formatField_str ?_ ?_ l1
    · exact hQ _ _ _ H1 l2 (I1.tok _) hR
    · exact hQ _ _ _ H1 l2 (I1.tok _) hR
  | _=>exact sv.elim
def tSay (te:TE):TE:=fun σ H Q=>te σ H fun v H1=>Say v∧∀ y,Q (.str y) H1
theorem ZGI (a b:Str):(a++b).length=a.length+b.length:=strLen_append a b
theorem ZGT (he:PE X e te) (h1:c1.length≤1000):PE X (.JoinedStr [.Constant (.str c1) k1 p1,.FormattedValue e 114 none p2] pos) (tSay te):=by
  intro pins s σ H Q I h
  have z0:(Str.empty++c1).length≤1000:=by rw [ZGI];show 0+_≤_;omega
  refine wpAny_JoinedStr (show wpAny _ _ (eval (.Constant (.str c1) k1 p1) X.env) _ _ s from fun _ _ _=>⟨c1,_,rfl,Nat.le_trans z0 (by decide +kernel),?_⟩)
  refine ZIo (R:=fun _ H1=>∀ y,Q (.str y) H1) he (I.tok _) h fun y t s1 H1 hy I1 hR=>⟨y,t,rfl,?_,?_,?_⟩
  · rw [ZGI];exact Nat.le_trans (show _≤201000 by omega) (by decide +kernel)
  · rw [ZGI];exact Nat.le_trans (show _≤201000 by omega) (by decide +kernel)
  · exact ⟨.str _,H1,I1.tok _,⟨_,rfl⟩,hR _⟩
end
end L2
set_option Elab.async false
set_option linter.all false
set_option maxRecDepth 100000
set_option maxHeartbeats 4000000
namespace L2
open PySem PySem.Spec PyProof.Rows
structure Sup (K:PySem.W.Frag) (S:Addr):Prop where
  ga:PySem.W.specialIn K (.ref S) "__getattribute__" = some (some (.builtin "type.__getattribute__"))
  rd:PySem.W.readsIn K S (.type "type")=true
  fd:PySem.W.findCls K (.ref S) (.type "type") "__init__" = some (.val (.builtin "ValueError.__init__"))
  hd:PySem.W.handedIn (.builtin "ValueError.__init__")=true
structure ExI (K:PySem.W.Frag) (C fI:Addr) (fld:Str):Prop where
  ex:ZDx K C (some (.ref fI))=true
  sa:PySem.W.findIn K (.ref C) "__setattr__" = some (some (.builtin "object.__setattr__"))
  po:ZDj K C=true
  tk:PySem.W.takerIn K C fld=some none
  hd:PySem.W.hasDictIn K C=true
  fn:PySem.W.isFn K (.ref fI)=true
  kp:PySem.W.keepIn K (.ref C)=true
theorem ZFc {x:V} {xs:List V} {us:List Value} (r:Vals (x :: xs) us):∃ u us',us=u :: us'∧RelV x u∧Vals xs us':=by
  cases r with
  | cons a b=>exact ⟨_,_,rfl,a,b⟩
theorem upd_id {H:Hp} {a:Addr} {o:HO} (h:H a=some o):upd H a o=H:=by
  funext b
  unfold upd
  split
  · rename_i e;rw [e,h]
  · rfl
section
variable {X:Cx} {S C fI:Addr} {fld:Str} {ini:Option Value}
theorem run_init {pins:List (Addr×Obj)} {σ:St} {H:Hp} {s:Shared} {ea t:Addr} {u:Value} {Q:Value→Shared→Prop} (I:Inv X pins σ H s) (hx:H ea=some (ZCq ea C none)) (q:ZDx X.K C ini=true)
    (hQ:∀ s',Inv X pins σ H s'→Q .none s'):wpAny (model X.prog X.w) X.A (call (.builtin "ValueError.__init__") [.ref ea,u]) Q X.xe s:=by
  obtain ⟨t0,ho⟩:=I.exc hx
  obtain ⟨bm,N,nm,qn,bs,hdct,sn,sub,ab,col,dd,k0,k1,k2,k3,k5,mN,hC,hN,hni,T⟩:=(ZCX I.kIn q).obj
  have F:=PySem.F.excBase_ValueError
  have hcl:H C=none:=by
    cases z:X.base.get? C with
    | some o=>exact (I.bs C o z).2
    | none=>
      obtain ⟨_,_,_,_,_,_,_,_,_,_,_,_,_,_,_,_,_,hC2,_⟩:=(ZCX I.mod.kin q).obj
      rw [z] at hC2;cases hC2
  obtain ⟨hp,g,d,tk,os⟩:=s
  refine wpAny_call (codeAny_call_builtin F.init.plain F.initEntry (wpAny_check_init_subT F T hC ho rfl ?_))
  wp_walk
  refine hQ _ ?_
  have I2:=I.reExc (h':=(hp.push { cls:=Value.type "tuple", data:=Data.seq #[u] }).update ea (Obj.mapFields fun x=>x.setIfInBounds 0 (Value.ref hp.objs.size))) (t':=tk) (t:=hp.objs.size) (dx':=none) hx (fun b u' hb e=>by
    rw [Heap.get?_update_other _ _ (Ne.symm hb)]
    exact Heap.get?_push_of_some _ e) (by
    rw [Heap.get?_update_self _ (Heap.get?_push_of_some _ ho) rfl]
    rfl)
  rw [upd_id hx] at I2
  exact I2
def ZGZ (C:Addr) (t:TA):TE:=fun σ H Q=>t σ H fun vs H1=>∃ ea v,vs=[.ref ea,v]∧H1 ea=some (ZCq ea C none)∧Q .non H1
theorem ZCu {pl:Sem Bool} {x:Str} {p apos pos:Pos} {e:Expr} {es:List Expr} {t:TA} (sp:Sup X.K S) (hg:Gl X x) (hm:X.mg x=some (.ref S)) (q:ZDx X.K C ini=true) (ha:PA X (e :: es) t)
    (hdb:(x == ("__debug__" : Str))=false:=by decide) (hst:starEach (e :: es) X.env=(false,eval e X.env) :: starEach es X.env:=by rfl) (hpl:(backTo pos (starEach es X.env)).any (·.1)=false:=by rfl)
    (ht:eval (.Call (.Attribute (.Name x p) "__init__" apos) (e :: es) [] pos) X.env=(do
      let ov ← eval (.Name x p) X.env
      standAt apos.atName
      let (f,first) ← holding [ov] (getMethod ov "__init__" pl)
      callWith pos f first (backTo pos (starEach (e :: es) X.env)) (backToKw pos (keywordEach [] X.env))):=by rfl) :
    PE X (.Call (.Attribute (.Name x p) "__init__" apos) (e :: es) [] pos) (ZGZ C t):=by
  intro pins s σ H Q I h
  refine PySem.W.methodCall_KW (pl:=pl) (ZBx I hg hm ?_ hdb) ht
  refine PySem.W.method_cls I.kIn sp.ga (PySem.W.cls_value I.kIn sp.rd sp.fd sp.hd ?_)
  have hA:=ha pos pins { s with toks:=s.toks+1 } σ H _ (I.tok _) h
  show wpAny _ _ (callWith pos (.builtin "ValueError.__init__") [] (backTo pos (starEach (e :: es) X.env)) _) _ _ _
  rw [hst] at hA ⊢
  refine Calls.callWith_builtin (by show (false || (backTo pos (starEach es X.env)).any (·.1))=false;rw [hpl] <;> rfl) (Calls.evalArgs_plain ?_)
  refine thn hA fun us s2 ⟨vs,H2,I2,r2,ea,v,ev,hx,hQ⟩=>?_
  subst ev
  obtain ⟨u1,us1,rfl,ru,r3⟩:=ZFc r2
  obtain ⟨u2,us2,rfl,ru2,r4⟩:=ZFc r3
  cases r4
  cases (show u1=Value.ref ea from ru)
  exact run_init (t:=ea) I2 hx q fun s' I'=>⟨.non,H2,I',rfl,hQ⟩
def sExc (C:Addr) (f:Str) (ta tv:TE):TS:=fun D σ H=>tv σ H fun y H1=>ta σ H1 fun x H2=>∃ ea,x=.ref ea∧H2 ea=some (ZCq ea C none)∧∀ d,H2 d=none→D.nx σ (upd (upd H2 d (.xd [(f,y)])) ea (ZCq ea C (some d)))
theorem ZDK {o value:Expr} {pos pos':Pos} {ta tv:TE} (c:ExI X.K C fI fld) (ha:PE X o ta) (hv:PE X value tv) (hs:swapsWith value (some (.Attribute o fld pos')) pos.line X.env=pure false):PS X (.Assign [.Attribute o fld pos'] value pos) (sExc C fld ta tv):=by
  intro pins s σ H D I h
  refine plainObj_wpAny_Assign_Attribute (thn (hv pins s σ H _ I h) fun u s1 ⟨y,H1,I1,ry,q⟩=>thn (ha pins s1 σ H1 _ I1 q) fun ov s2 ⟨x,H2,I2,rx,ea,ex,hx,q2⟩=>?_) hs
  subst ex
  obtain rfl:ov=Value.ref ea:=rx
  obtain ⟨t0,ho⟩:=I2.exc hx
  refine set_exc I2.kIn ho c.sa c.po c.tk c.hd fun h' d hd he hn k hz=>?_
  have hdn:H2 d=none:=I2.hok.fresh hd
  have hde:d≠ea:=by rintro rfl;rw [hx] at hdn;cases hdn
  refine ⟨σ,_,I2.un (t':=s2.toks+2) (h':=h') ⟨fun b o e n _ _=>k b o (by rintro rfl;rw [hx] at n;cases n) e,fun b o e n _ _=>⟨o.slots,k b o (by rintro rfl;rw [hx] at n;cases n) e⟩,fun b o e n _=>?_,fun b o e _=>?_,fun b xs e=>?_,fun b o' u' e=>?_,fun b ps e=>?_⟩ ?_,q2 d hdn⟩
  · rw [ZA5 (by rintro rfl;rw [hx] at n;cases n),ZA5 (by rintro rfl;exact absurd (Heap.lt_size e) (Nat.not_lt.mpr hd))];exact n
  · by_cases z:b=ea
    · subst z;exact ⟨_,he⟩
    · exact ⟨o,k b o z e⟩
  · rw [ZA5 (by rintro rfl;rw [hx] at e;cases e),ZA5 (ZAF e hdn)];exact e
  · rw [ZA5 (by rintro rfl;rw [hx] at e;cases e),ZA5 (ZAF e hdn)];exact e
  · exact ⟨#[],by rw [ZA5 (by rintro rfl;rw [hx] at e;cases e),ZA5 (ZAF e hdn),e];simp⟩
  · intro b o e
    by_cases z:b=ea
    · subst z;rw [ZA3] at e;cases e;exact ZGF he
    · rw [ZA5 z] at e
      by_cases z2:b=d
      · subst z2
        rw [ZA3] at e;cases e
        refine ⟨_,hn,fun f'=>?_⟩
        by_cases ef:f'=fld
        · subst ef
          rw [if_pos rfl,List.lookup_cons_self]
          exact ry
        · rw [if_neg ef,List.lookup_cons]
          rw [show (f' == fld)=false from by simpa using ef]
          exact trivial
      · rw [ZA5 z2] at e
        refine (I2.hok b o e).stay (fun c u' hc hu=>k c u' ?_ hu) (fun c hc=>?_) fun c xs hc=>?_
        · rcases hc with rfl | hc
          · exact z
          · rintro rfl;rw [hx] at hc;cases hc
        · rw [ZA5 (by rintro rfl;rw [hx] at hc;cases hc),ZA5 (ZAF hc hdn)];exact hc
        · rw [ZA5 (by rintro rfl;rw [hx] at hc;cases hc),ZA5 (ZAF hc hdn)];exact hc
end
end L2
set_option Elab.async false
set_option linter.all false
set_option maxRecDepth 100000
set_option maxHeartbeats 4000000
namespace L2
open PySem PySem.Spec PyProof.Rows
def ZFO (C:Addr) (fld:Str):Sp:=fun vs H Q _=>∃ (ea:Addr) (v:V),vs=[.ref ea,v]∧Say v∧H ea=some (ZCq ea C none)∧∀ d,H d=none→Q .non (upd (upd H d (.xd [(fld,v)])) ea (ZCq ea C (some d)))
def ZE9 (C:Addr) (fld:Str) (E:St→XK) (t:TA):TS:=fun _ σ H=>t σ H fun vs H1=>∃ v,vs=[v]∧Say v∧∀ d,H1 d=none→E σ (.ref C) (some d) (upd H1 d (.xd [(fld,v)]))
def unT (H:Hp) (a:Addr):Hp:=fun b=>if b=a then none else H b
theorem ZGD {H:Hp} {a b:Addr} (h:b≠a):unT H a b=H b:=if_neg h
theorem ZEP {H:Hp} {a:Addr}:unT H a a=none:=if_pos rfl
section
variable {X:Cx} {pins:List (Addr×Obj)} {σ:St} {H:Hp} {s:Shared}
theorem Inv.forget (I:Inv X pins σ H s) {a:Addr} {φ:Heap→Prop} (e:H a=some (.ext φ)) (hp:∀ p∈X.pn++pins,p.1≠a):Inv X pins σ (unT H a) s:=by
  have keep:∀ b o,b≠a→H b=o→unT H a b=o:=fun b o h q=>by rw [ZGD h];exact q
  have ofN:∀ b,H b=none→unT H a b=none:=fun b q=>by
    by_cases z:b=a
    · subst z;exact ZEP
    · rw [ZGD z];exact q
  refine ⟨I.ok,I.os,I.bare,⟨I.base.keep,I.base.slot,fun b o q n hx=>ofN b (I.base.free b o q n hx),I.base.there,fun b xs q=>?_,fun b o u q=>?_,fun b ps q=>?_⟩,I.loc,I.cell,ofN _ I.free,fun x c q=>ofN c (I.freeC x c q),fun p hp'=>?_,fun b o q=>?_,I.len⟩
  · have z:=I.base.tups b xs q
    exact keep b _ (by rintro rfl;rw [e] at z;cases z) z
  · have z:=I.base.frzs b o u q
    exact keep b _ (by rintro rfl;rw [e] at z;cases z) z
  · obtain ⟨m,z⟩:=I.base.tbls b ps q
    exact ⟨m,keep b _ (by rintro rfl;rw [e] at z;cases z) z⟩
  · obtain ⟨h1,h2,h3⟩:=I.pin p hp'
    exact ⟨h1,ofN _ h2,h3⟩
  · have hb:b≠a:=by rintro rfl;rw [ZEP] at q;cases q
    rw [ZGD hb] at q
    refine (I.hok b o q).stay (fun c u _ hu=>hu) (fun c hc=>keep c _ (by rintro rfl;rw [e] at hc;cases hc) hc) fun c xs hc=>keep c _ (by rintro rfl;rw [e] at hc;cases hc) hc
end
section
variable {X:Cx} {x:Str} {C fI:Addr} {fld par:Str} {E':St→XK} {np cpos pos:Pos} {e0:Expr} {t:TA} {kk:Nat} {fd:FuncData}
theorem ZIS (c:ExI X.K C fI fld) (hg:Gl X x) (hm:X.mg x=some (.ref C)) (Fn:FnOk X.prog X.w X.K X.mg X.base CX0 kk fI fd ["self", par] (ZFO C fld)) (hb:Binds X.K fd ["self", par] []) (hr:Room (kk+1) X.A) (hc:X.calm=true) (hex:X.ex=[]) (go:Goes X E') (ha:PA X [e0] t)
    (hdb:(x == ("__debug__" : Str))=false:=by decide) (he:starEach [e0] X.env=(false,eval e0 X.env) :: starEach [] X.env:=by rfl) (hpl:(backTo cpos (starEach [] X.env)).any (·.1)=false:=by rfl) :
    PS X (.Raise (some (.Call (.Name x np) [e0] [] cpos)) none pos) (ZE9 C fld E' t):=by
  intro pins s σ H D I h
  obtain ⟨bm,N,nm,qn,bs,hdct,sn,sub,ab,col,dd,k0,k1,k2,k3,k5,mN,hC,hN,hni,T⟩:=(ZCX I.mod.kin c.ex).obj
  rw [arm_exec_Raise]
  show wpAny _ _ (do standAt pos;raiseStmt X.env (some (do let v ← eval (.Call (.Name x np) [e0] [] cpos) X.env;standAt pos;pure v)) none) _ _ s
  refine wpAny_bind (wpAny_standAt (ZIc (C:=C) (nm:=nm) (qn:=qn) (N:=N) (bs:=bs) (bm:=bm) (hdct:=hdct) (sn:=sn) (sub:=sub) (ab:=ab) (col:=col) (dd:=dd) (k0:=k0) (k1:=k1) (k2:=k2) (k3:=k3) (k5:=k5) (newId := "ValueError.__new__") (T.hasType rfl) (I.ok.hd hc) (wpAny_bind ?_)))
  refine wpAny_Call_Name_kw (ZBx I hg hm ?_ hdb)
  refine PySem.W.callWith_K (h₀:=X.base) I.ok.mod.kin c.kp (thn (ha cpos pins s σ H _ I h) fun us s1 ⟨vs,H1,I1,r,v,ev,sv,hE⟩=>⟨I1.kIn,?_⟩) he hpl
  subst ev
  obtain ⟨u,rfl,rv⟩:=ZEH r
  obtain ⟨hp,g,d,tk,os⟩:=s1
  have hfn:∃ oI,hp.get? fI=some oI∧oI.cls=.type "function" := by
    have z:=beq_iff_eq.mp c.fn
    unfold PySem.W.typeIn at z
    obtain ⟨o,ho,hc⟩:=Option.map_eq_some_iff.mp z
    exact ⟨o,I1.kIn _ _ ho,hc⟩
  obtain ⟨oI,hoI,hoc⟩:=hfn
  refine call_I PySem.F.excBase_ValueError (T.keeps I1.bk) (I1.bk _ _ hC) (hN.keeps I1.bk) hni hoI hoc (by show 1≤sizeLine;decide +kernel) fun h' ea hea hmade=>?_
  obtain ⟨t',he',_,_⟩:=hmade.there
  have hn1:H1 ea=none:=I1.hok.fresh hea
  have I2:Inv X pins σ (upd H1 ea (ZCq ea C none)) ⟨h',g,d,tk,os⟩:=I1.laid (t':=tk) hmade.keeps hea (ZGF he')
  have q0:ZFO C fld ([.ref ea,v]++[]) (upd H1 ea (ZCq ea C none)) (fun w H3=>w=.non∧∃ d,H1 d=none∧d≠ea∧H3=upd (upd (upd H1 ea (ZCq ea C none)) d (.xd [(fld,v)])) ea (ZCq ea C (some d))) E0:=
    ⟨ea,v,rfl,sv,ZA3,fun d hd=>by
      have hde:d≠ea:=by rintro rfl;rw [ZA3] at hd;cases hd
      rw [ZA5 hde] at hd
      exact ⟨rfl,d,hd,hde,rfl⟩⟩
  refine wpAny_call (codeAny_mono (Fn.run _ X.stack _ _ ⟨[.ref ea,u],[]⟩ [.ref ea,u] [.ref ea,v] _ E0 (hr.make C [u] []) (I2.env0.make C [u] []) (hb _ [.ref ea,u] I2.kIn rfl) (.cons rfl (.cons rv .nil)) q0) fun rr s' hq=>?_)
  cases rr with
  | error e=>exact False.elim hq
  | ok fl=>
    cases fl with
    | ret ur=>
      obtain ⟨w3,H3,I3,rw3,ew,d3,hd3,hde,eH⟩:=I2.after hq
      subst ew;subst eH
      cases (show ur=Value.none from rw3)
      refine ⟨rfl,wpAny_bind (wpAny_standAt (wpAny_pure ?_))⟩
      obtain ⟨t3,o3⟩:=I3.exc (C:=C) (dx:=some d3) ZA3
      refine ⟨ea,t3,some d3,rfl,I3.bk _ _ hC,o3,?_⟩
      have pne:∀ p∈X.pn++pins,p.1≠ea:=fun p hp' z=>by
        have:=Heap.lt_size (I1.pin p hp').1
        rw [z] at this
        exact absurd this (Nat.not_lt.mpr hea)
      have I4:=I3.forget (a:=ea) ZA3 pne
      have eH4:unT (upd (upd (upd H1 ea (ZCq ea C none)) d3 (.xd [(fld,v)])) ea (ZCq ea C (some d3))) ea=upd H1 d3 (.xd [(fld,v)]):=by
        funext b
        by_cases z:b=ea
        · subst z;rw [ZEP,ZA5 (Ne.symm hde),hn1]
        · rw [ZGD z,ZA5 z]
          by_cases z2:b=d3
          · subst z2;rw [ZA3,ZA3]
          · rw [ZA5 z2,ZA5 z2,ZA5 z]
      rw [eH4] at I4
      refine go pins σ _ s' ea C (some d3) none I4 ⟨⟨_,_,o3,rfl,rfl,rfl,by simp,rfl⟩,fun T z=>by cases z⟩ ⟨by rw [ZA5 (Ne.symm hde)];exact hn1,?_⟩ (fun T z=>by cases z) (fun p hp'=>⟨pne p hp',by simp⟩) (hE d3 hd3)
      exact Heap.get?_none_of_le (Nat.le_trans I1.sz hea)
    | next=>exact False.elim hq
    | brk=>exact False.elim hq
    | cont=>exact False.elim hq
end
end L2
set_option Elab.async false
set_option linter.all false
set_option maxRecDepth 100000
set_option maxHeartbeats 4000000
namespace L2
open PySem PySem.Spec PyProof.Rows
section
variable {X:Cx} {pins:List (Addr×Obj)} {σ:St} {H:Hp} {s:Shared} {ea:Addr} {C:Value} {dx tb:Option Addr}
theorem Inv.noted (I:Inv X pins σ H s) (hst:X.stack=X.env :: X.outer) (x:Exn s.heap ea C dx tb) (u1:H ea=none) (u2:X.s₀.heap.get? ea=none) (ut:∀ T,tb=some T→H T=none∧X.s₀.heap.get? T=none)
    (hp:∀ p∈X.pn++pins,p.1≠ea∧tb≠some p.1) {h':Heap} (kp:Kp (X.env :: X.outer) ea tb s.heap h'):Inv X pins σ H { s with heap:=h' }:=by
  obtain ⟨oe,vs,he,_,_,hed,_⟩:=x.obj
  have mem:∀ b,b∈frs (X.env :: X.outer)→b=X.env.locals∨b∈X.fs:=fun b hb=>by
    rw [← hst] at hb
    exact List.mem_cons.mp (I.stkSub b hb)
  have frm:∀ b,b=X.env.locals∨b∈X.fs→b∈frs (X.env :: X.outer):=fun b hb=>by
    have hf:X.env.frame=some X.env.locals:=by
      rcases I.ok.stk with e | ⟨_,hf⟩
      · rw [e] at hst
        exact absurd (congrArg List.length hst) (by simp)
      · exact hf
    unfold frs
    rw [List.filterMap_cons,hf]
    rcases hb with rfl | hb
    · exact List.mem_cons_self
    · exact List.mem_cons_of_mem _ hb
  have plain:∀ b o,s.heap.get? b=some o→(∀ vs,o.data≠.fields vs)→∃ sl,h'.get? b=some { o with slots:=sl }:=fun b o hb hd=>by
    by_cases hf:b∈frs (X.env :: X.outer)
    · exact kp.slot b o hb hf
    · refine ⟨o.slots,kp.keep b o hb hf (by rintro rfl;rw [he] at hb;cases hb;exact hd _ hed) fun z=>?_⟩
      obtain ⟨_,oT,ts,hT,hTd,_⟩:=x.ent b z
      rw [hT] at hb;cases hb;exact hd _ hTd
  have old:∀ b o,s.heap.get? b=some o→H b≠none→h'.get? b=some o:=fun b o hb hn=>kp.keep b o hb (fun z=>hn (I.stkFree b (by rw [hst];exact z))) (fun z=>hn (z▸u1)) fun z=>hn (ut b z).1
  have low:∀ b o,X.s₀.heap.get? b=some o→b≠X.env.locals:=fun b o hb z=>absurd (Heap.lt_size hb) (Nat.not_lt.mpr (z▸I.ok.above))
  have cel:∀ c v,s.heap.IsCell c v→h'.IsCell c v:=fun c v ⟨o,ho,hd⟩=>by
    obtain ⟨sl,h1⟩:=plain c o ho (by rw [hd];intro vs z;cases z)
    exact ⟨_,h1,hd⟩
  refine ⟨I.ok,I.os,I.bare,⟨fun b o hb hn hf hx=>?_,fun b o hb hn hf hx=>?_,I.base.free,fun b o hb hx=>?_,I.base.tups,I.base.frzs,I.base.tbls⟩,?_,fun y c q=>?_,I.free,I.freeC,fun p hp'=>?_,I.hok.kept2 fun b u hn hb=>old b u hb hn,I.len⟩
  · exact kp.keep b o (I.base.keep b o hb hn hf hx) (fun z=>(mem b z).elim (low b o hb) hf) (by rintro rfl;rw [u2] at hb;cases hb) fun z=>by rw [(ut b z).2] at hb;cases hb
  · obtain ⟨sl,h1⟩:=I.base.slot b o hb hn hf hx
    obtain ⟨sl2,h2⟩:=kp.slot b _ h1 (frm b (.inr hf))
    exact ⟨sl2,h2⟩
  · obtain ⟨o1,h1⟩:=I.base.there b o hb hx
    by_cases hf:b∈frs (X.env :: X.outer)
    · obtain ⟨sl2,h2⟩:=kp.slot b _ h1 hf
      exact ⟨_,h2⟩
    · exact ⟨o1,kp.keep b o1 h1 hf (by rintro rfl;rw [u2] at hb;cases hb) fun z=>by rw [(ut b z).2] at hb;cases hb⟩
  · obtain ⟨m,⟨o,es,ep,ho,r⟩,hl⟩:=I.loc
    obtain ⟨sl,h1⟩:=kp.slot _ _ ho (frm _ (.inl rfl))
    refine ⟨m,⟨_,es,ep,h1,r⟩,fun i y v hi hv hy=>?_⟩
    obtain ⟨u,ru,lk⟩:=hl i y v hi hv hy
    refine ⟨u,ru,?_⟩
    rcases lk with lk | ⟨k,c,hc,ic⟩
    · exact .inl lk
    · exact .inr ⟨k,c,hc,cel c _ ic⟩
  · obtain ⟨v,hv⟩:=I.cell y c q
    exact ⟨v,cel c v hv⟩
  · obtain ⟨h1,h2,h3,h4,h5⟩:=I.pin p hp'
    exact ⟨kp.keep _ _ h1 (fun z=>(mem _ z).elim h3 h4) (hp p hp').1 (hp p hp').2,h2,h3,h4,h5⟩
theorem ZHQ {M:Model} {A:Around} {E:Value→Shared→Prop} {Q:Unit→Shared→Prop} {l:List Env} (x:Exn s.heap ea C dx tb) (hl:∀ b∈frs l,∃ o,s.heap.get? b=some o∧∀ vs,o.data≠.fields vs)
    (h:∀ h',Kp l ea tb s.heap h'→Exn h' ea C dx tb→Q () { s with heap:=h' }):wpAny M A (setFlight (.ref ea) none) Q E s:=by
  obtain ⟨oe,vs,he,hc,hd,hdat,hz,h1⟩:=x.obj
  unfold setFlight
  refine wpAny_bind (wpAny_field he hdat h1 ?_)
  cases tb with
  | none=>
    rw [if_neg (by decide)]
    exact wpAny_pure (h s.heap ⟨fun b o hb _ _ _=>hb,fun b o hb _=>⟨o.slots,hb⟩,Nat.le_refl _⟩ x)
  | some T=>
    obtain ⟨tne,oT,ts,hT,hTd,tz,h3⟩:=x.ent T rfl
    rw [if_pos (show ((some T).elim Value.none Value.ref != Value.none)=true from by simp)]
    have oth:∀ b,b≠T→(s.heap.update T (Obj.mapFields (·.setIfInBounds 3 Value.none))).get? b=s.heap.get? b:=fun b hb=>Heap.get?_update_other _ _ (Ne.symm hb)
    have hT2:=Heap.get?_update_self (Obj.mapFields (·.setIfInBounds 3 Value.none)) hT (Obj.isFreed_of_fields (Obj.data_mapFields hTd _))
    refine wpAny_setField hT hTd tz (h _ ⟨fun b o hb _ _ hbt=>(oth b (by rintro rfl;exact hbt rfl)).trans hb,fun b o hb hbf=>⟨o.slots,(oth b ?_).trans hb⟩,by rw [Heap.size_after_update];exact Nat.le_refl _⟩ ⟨⟨oe,vs,(oth ea (Ne.symm tne)).trans he,hc,hd,hdat,hz,h1⟩,fun T' eT=>?_⟩)
    · rintro rfl
      obtain ⟨o',ho',hn⟩:=hl b hbf
      rw [hT] at ho';cases ho'
      exact hn ts hTd
    · cases eT
      exact ⟨tne,_,_,hT2,Obj.data_mapFields hTd _,by simpa using tz,by simp [tz]⟩
end
end L2
set_option Elab.async false
set_option linter.all false
set_option maxRecDepth 100000
set_option maxHeartbeats 4000000
namespace L2
open PySem PySem.Spec PyProof.Rows
section
variable {X:Cx} {pins:List (Addr×Obj)} {σ:St} {H:Hp} {s:Shared} {ea C:Addr} {dx tb:Option Addr}
theorem Inv.unbind {j:Nat} {n:Str} {pos:Pos} {M:Model} {A:Around} {E:Value→Shared→Prop} {Q:Unit→Shared→Prop} (I:Inv X pins σ H s) (hN:X.N.Nodup) (hj:X.N[j]?=some n) (hk:X.env.scope.names.lookup n=some .local)
    (h:∀ s',Inv X pins (σ.set j none) H s'→Q () s'):wpAny M A (do bindName X.env n .none;unbindBehindTheSuite X.env n pos) Q E s:=by
  refine wpAny_bind (wpAny_bindName (ZDQ (v:=.non) I hN hj (.inl hk) rfl (fun s1 I1 _=>?_) (.inr hk)))
  unfold unbindBehindTheSuite
  refine wpAny_onRaise ?_
  obtain ⟨m,hn,hl⟩:=id I1.loc
  have hcls:(X.env.scope.kind == .class || (X.env.scope.kind == .module && X.env.locals != X.env.globals))=false:=by rw [I.ok.kind];rfl
  have hjσ:j < σ.length:=by rw [I.len];exact (List.getElem?_eq_some_iff.mp hj).1
  obtain ⟨u,ru,lk⟩:=hl j n .non hj (List.getElem?_set_self hjσ) (.inl hk)
  have hm:m n=some u:=by
    rcases lk with ⟨_,e⟩ | ⟨z,_⟩
    · exact e
    · have hk':X.env.kindOf n=some .local:=hk
      rw [hk'] at z
      rcases z with z | z <;> cases z
  refine wpAny_unbindName_local hk hn hm hcls fun h' u' hn' hs=>?_
  obtain ⟨oL,_,_,hoL,_⟩:=id hn
  have cne:=I1.cne
  have low:∀ b o,X.s₀.heap.get? b=some o→b≠X.env.locals:=fun b o hb=>Nat.ne_of_lt (Nat.lt_of_lt_of_le (Heap.lt_size hb) I.ok.above)
  refine h _ ⟨I1.ok,I1.os,I1.bare,⟨fun b o e n hb hx=>(hs.2 b (low b o e)).trans (I1.base.keep b o e n hb hx),fun b o e n hb hx=>?_,I1.base.free,fun b o e hx=>?_,I1.base.tups,I1.base.frzs,I1.base.tbls⟩,⟨_,hn',fun i y v' e1 e2 e3=>?_⟩,fun y c e=>?_,I1.free,I1.freeC,fun p hp=>?_,fun b ob e=>?_,by simpa using I.len⟩
  · obtain ⟨sl,e1⟩:=I1.base.slot b o e n hb hx
    exact ⟨sl,(hs.2 b (low b o e)).trans e1⟩
  · obtain ⟨o',e1⟩:=I1.base.there b o e hx
    exact ⟨o',(hs.2 b (low b o e)).trans e1⟩
  · have hij:i≠j:=by
      rintro rfl
      rw [List.getElem?_set_self hjσ] at e2
      cases e2
    rw [List.getElem?_set_ne (Ne.symm hij)] at e2
    obtain ⟨w,r',q⟩:=hl i y v' e1 (by rw [List.getElem?_set_ne (Ne.symm hij)];exact e2) e3
    refine ⟨w,r',?_⟩
    rcases q with ⟨k,e⟩ | ⟨k,c,e,z⟩
    · refine .inl ⟨k,?_⟩
      have:y≠n:=fun e=>hij (ZEI hN e1 (e▸hj))
      simp [this,e]
    · exact .inr ⟨k,c,e,z.sameBut hs (cne y c e)⟩
  · obtain ⟨w',z⟩:=I1.cell y c e
    exact ⟨w',z.sameBut hs (cne y c e)⟩
  · obtain ⟨e,n,ne,nf,d⟩:=I1.pin p hp
    exact ⟨(hs.2 p.1 ne).trans e,n,ne,nf,d⟩
  · refine (I1.hok b ob e).stay (fun c w' hc q=>(hs.2 c ?_).trans q) (fun _ q=>q) fun _ _ q=>q
    rintro rfl
    have fr:=I1.free
    rcases hc with rfl | hc
    · rw [fr] at e;cases e
    · rw [fr] at hc;cases hc
theorem Inv.track (I:Inv X pins σ H s) (x:Exn s.heap ea (.ref C) dx tb) (u1:H ea=none) (u2:X.s₀.heap.get? ea=none) (hp:∀ p∈X.pn++pins,p.1≠ea):Inv X pins σ (upd H ea (Fz.excO ea C dx)) s:=by
  obtain ⟨oe,vs,he,hc,hd,hdat,_⟩:=x.obj
  have lne:X.env.locals≠ea:=fun z=>by
    obtain ⟨m,⟨o,es,ep,ho,hd2,_⟩,_⟩:=I.loc
    rw [z,he] at ho;cases ho;rw [hdat] at hd2;cases hd2
  have cne:∀ y c,X.env.cells.lookup y=some c→c≠ea:=fun y c q z=>by
    obtain ⟨v,o,ho,hd2⟩:=I.cell y c q
    rw [z,he] at ho;cases ho;rw [hdat] at hd2;cases hd2
  have tr:∀ b o,H b=some o→upd H ea (Fz.excO ea C dx) b=some o:=fun b o q=>by
    rw [ZA5 (by rintro rfl;rw [u1] at q;cases q)];exact q
  refine ⟨I.ok,I.os,I.bare,⟨I.base.keep,I.base.slot,fun b o q n hx=>?_,I.base.there,fun b xs q=>tr b _ (I.base.tups b xs q),fun b o u q=>tr b _ (I.base.frzs b o u q),fun b ps q=>?_⟩,I.loc,I.cell,?_,fun y c q=>?_,fun p hp'=>?_,fun b o q=>?_,I.len⟩
  · rw [ZA5 (by rintro rfl;rw [u2] at q;cases q)];exact I.base.free b o q n hx
  · obtain ⟨m,z⟩:=I.base.tbls b ps q
    exact ⟨m,tr b _ z⟩
  · rw [ZA5 lne];exact I.free
  · rw [ZA5 (cne y c q)];exact I.freeC y c q
  · obtain ⟨h1,h2,h3⟩:=I.pin p hp'
    exact ⟨h1,by rw [ZA5 (hp p hp')];exact h2,h3⟩
  · by_cases z:b=ea
    · subst z
      rw [ZA3] at q
      cases q
      exact ⟨⟨oe,vs,he,hc,hd,hdat⟩,⟨_,he⟩,fun _ _ ⟨o',v',e',r⟩ k=>⟨o',v',k _ e',r⟩⟩
    · rw [ZA5 z] at q
      exact (I.hok b o q).stay (fun c u _ hu=>hu) (fun c hc=>tr c _ hc) fun c xs hc=>tr c _ hc
end
end L2
set_option Elab.async false
set_option linter.all false
set_option maxRecDepth 100000
set_option maxHeartbeats 4000000
namespace L2
open PySem PySem.Spec PyProof.Rows
abbrev Cx.tried (X:Cx) (pn:List (Addr×Obj)) (xe:Value→Shared→Prop):Cx:={ X with pn:=pn,xe:=xe }
abbrev Cx.suite (X:Cx) (e:Value):Cx:={ X with A:=X.A.mark (some e),calm:=false,xe:=fun _ _=>False }
section
variable {X:Cx} {pins pins2:List (Addr×Obj)} {σ:St} {H:Hp} {s:Shared} {ea C:Addr} {dx tb:Option Addr} {xe:Value→Shared→Prop} {e:Value}
theorem Cx.Ok.tried (ok:X.Ok) {pn:List (Addr×Obj)}:(X.tried pn xe).Ok:=⟨ok.mod,ok.kind,ok.glob,ok.blt,ok.above,ok.inj,ok.has,ok.cab,ok.hd,ok.frames,ok.stk,ok.exf,ok.bs,ok.bsz,ok.noex,ok.exfs,ok.funs,ok.frf⟩
theorem Cx.Ok.untried {pn:List (Addr×Obj)} (ok:(X.tried pn xe).Ok):X.Ok:=⟨ok.mod,ok.kind,ok.glob,ok.blt,ok.above,ok.inj,ok.has,ok.cab,ok.hd,ok.frames,ok.stk,ok.exf,ok.bs,ok.bsz,ok.noex,ok.exfs,ok.funs,ok.frf⟩
theorem Cx.Ok.suite (ok:X.Ok):(X.suite e).Ok:=⟨ok.mod,ok.kind,ok.glob,ok.blt,ok.above,ok.inj,ok.has,ok.cab,fun z=>(by cases z),ok.frames,ok.stk,ok.exf,ok.bs,ok.bsz,ok.noex,ok.exfs,ok.funs,ok.frf⟩
theorem Inv.tried (I:Inv X pins σ H s):Inv (X.tried (X.pn++pins) xe) [] σ H s:=⟨I.ok.tried,I.os,I.bare,I.base,I.loc,I.cell,I.free,I.freeC,fun p hp=>I.pin p (by simpa using hp),I.hok,I.len⟩
theorem Inv.untried (I:Inv (X.tried (X.pn++pins) xe) pins2 σ H s):Inv X pins σ H s:=⟨I.ok.untried,I.os,I.bare,I.base,I.loc,I.cell,I.free,I.freeC,fun p hp=>I.pin p (List.mem_append_left _ hp),I.hok,I.len⟩
theorem Inv.suite (I:Inv X pins σ H s):Inv (X.suite e) pins σ H s:=⟨I.ok.suite,I.os,I.bare,I.base,I.loc,I.cell,I.free,I.freeC,I.pin,I.hok,I.len⟩
theorem Inv.unsuite (ok:X.Ok) (I:Inv (X.suite e) pins σ H s):Inv X pins σ H s:=⟨ok,I.os,I.bare,I.base,I.loc,I.cell,I.free,I.freeC,I.pin,I.hok,I.len⟩
end
def Ends.drop (D:Ends) (j:Nat):Ends:=⟨fun σ H=>D.nx (σ.set j none) H,D.rt,fun σ H=>D.bk (σ.set j none) H,fun σ H=>D.ct (σ.set j none) H⟩
def tTry (K:PySem.W.Frag) (S:Addr) (j:Nat) (tb:(St→XK)→TS) (th:TS):TS:=fun D σ H=>∃ E1:St→XK,tb E1 D σ H∧
  ∀ σ1 C dx ea H1,E1 σ1 (.ref C) dx H1→H1 ea=none→PySem.W.exmOne K (.ref C) (.ref S)=some true∧th (D.drop j) (σ1.set j (some (.ref ea))) (upd H1 ea (Fz.excO ea C dx))
section
variable {X:Cx} {x n:Str} {S:Addr} {j:Nat} {body suite:List Stmt} {b0:Stmt} {np hpos pos:Pos} {tbd:(St→XK)→TS} {th:TS}
theorem ps_try (hst:X.stack=X.env :: X.outer) (hex:X.ex=[]) (hN:X.N.Nodup) (hj:X.N[j]?=some n) (hk:X.env.scope.names.lookup n=some .local) (hg:Gl X x) (hm:X.mg x=some (.ref S))
    (hb:∀ (pn:List (Addr×Obj)) (xe:Value→Shared→Prop) (E1:St→XK),Goes (X.tried pn xe) E1→PSs (X.tried pn xe) body (tbd E1))
    (hh:∀ e,PSs (X.suite e) (b0 :: suite) th) (hdb:(x == ("__debug__" : Str))=false:=by decide) :
    PS X (.Try body [.ExceptHandler (some (.Name x np)) (some n) (b0 :: suite) hpos] [] [] pos) (tTry X.K S j tbd th):=by
  intro pins s σ H D I h
  obtain ⟨E1,h1,h2⟩:=h
  have hf:X.env.frame=some X.env.locals:=by
    rcases I.ok.stk with e | ⟨_,hf⟩
    · rw [e] at hst
      exact absurd (congrArg List.length hst) (by simp)
    · exact hf
  refine wpAny_Try_except ?_
  refine wpAny_mono (hb (X.pn++pins) _ E1 ?_ [] s σ H D I.tried h1) (fun f s1 q=>?_) (fun e s1 q=>q)
  · intro pins2 σ1 H1 s1 ea C dx tb I1 x1 ⟨u1,u2⟩ ut hp hE
    have I1':Inv X pins σ1 H1 s1:=I1.untried
    have u2:X.s₀.heap.get? ea=none:=u2
    have ut:∀ T,tb=some T→H1 T=none∧X.s₀.heap.get? T=none:=ut
    have hp:∀ p∈X.pn++pins,p.1≠ea∧tb≠some p.1:=fun p q=>hp p (List.mem_append_left _ q)
    refine ZEs (outer:=X.outer) (L:=X.env.locals) (by rw [← hst];exact I1'.ok.frames) (base:=X.base) (by rw [← hst];exact I1'.stack) hf x1 fun h' T kp hT x'=>?_
    have I2:=I1'.noted hst x1 u1 u2 ut hp kp
    obtain ⟨ok1,ok2⟩:=h2 σ1 C dx ea H1 hE u1
    refine wpAny_handleBy_cons ?_ (fun z=>by cases z)
    refine codeAny_handlers_test ?_
    refine ZBx (X:=X.suite (.ref ea)) I2.suite hg hm ?_ hdb
    obtain ⟨oe,vs,he,hc,hd,hdat,hz,h3⟩:=x'.obj
    have LT:PySem.W.Looks (model X.prog X.w) h' (typeOf (.ref ea)) (.ref C):=by
      rw [← hc]
      exact (PySem.W.Looks.ld he).andThen .now
    refine (PySem.W.exm_one (K:=X.K) I2.kIn LT ok1).here ?_
    refine codeAny_handlers_suite_as ?_
    have fl:∀ b∈frs (X.env :: X.outer),∃ o,h'.get? b=some o∧∀ vs,o.data≠.fields vs:=fun b hb=>by
      have st:=I2.stack
      rw [hst] at st
      obtain ⟨_,o,ho,hn⟩:=st.mem hb
      exact ⟨o,ho,hn⟩
    refine ZHQ (s:={ s1 with heap:=h' }) (l:=X.env :: X.outer) x' fl fun h4 kp4 x4=>?_
    have utT:∀ T',some T=some T'→H1 T'=none∧X.s₀.heap.get? T'=none:=fun T' eT=>by
      cases eT
      exact ⟨I1'.hok.fresh hT,Heap.get?_none_of_le (Nat.le_trans I1'.sz hT)⟩
    have hpT:∀ p∈X.pn++pins,p.1≠ea∧some T≠some p.1:=fun p q=>⟨(hp p q).1,fun z=>by
      have e1:=Heap.lt_size (I1'.pin p q).1
      rw [← Option.some.inj z] at e1
      exact absurd e1 (Nat.not_lt.mpr hT)⟩
    have I4:=I2.noted hst x' u1 u2 utT hpT kp4
    have I5:=I4.track x4 u1 u2 fun p q=>(hp p q).1
    refine ZEF (X:=X.suite (.ref ea)) (v:=.ref ea) I5.suite hN hj (.inl hk) rfl (fun s6 I6=>?_) (.inr hk)
    refine wpAny_mono (hh (.ref ea) pins s6 _ _ (D.drop j) I6 ok2) (fun f s7 q=>?_) (fun _ _ z=>z.elim)
    cases f with
    | next=>
      obtain ⟨σ7,H7,I7,d⟩:=q
      exact (I7.unsuite I.ok).unbind hN hj hk fun s' I9=>⟨_,_,I9,d⟩
    | brk=>
      obtain ⟨σ7,H7,I7,d⟩:=q
      exact (I7.unsuite I.ok).unbind hN hj hk fun s' I9=>⟨_,_,I9,d⟩
    | cont=>
      obtain ⟨σ7,H7,I7,d⟩:=q
      exact (I7.unsuite I.ok).unbind hN hj hk fun s' I9=>⟨_,_,I9,d⟩
    | ret u=>
      obtain ⟨v,σ7,H7,I7,r,d⟩:=q
      exact (I7.unsuite I.ok).unbind hN hj hk fun s' I9=>⟨v,_,_,I9,r,d⟩
  · cases f with
    | next=>
      obtain ⟨σ7,H7,I7,d⟩:=q
      exact wpAny_execs_nil ⟨_,_,I7.untried,d⟩
    | brk=>
      obtain ⟨σ7,H7,I7,d⟩:=q
      exact ⟨_,_,I7.untried,d⟩
    | cont=>
      obtain ⟨σ7,H7,I7,d⟩:=q
      exact ⟨_,_,I7.untried,d⟩
    | ret u=>
      obtain ⟨v,σ7,H7,I7,r,d⟩:=q
      exact ⟨v,_,_,I7.untried,r,d⟩
end
end L2
set_option Elab.async false
set_option linter.all false
set_option maxRecDepth 100000
set_option maxHeartbeats 4000000
namespace L2
open PySem PySem.Spec PyProof.Rows
def ZHT (sp:Sp) (E:St→XK) (t:TA):TE:=fun σ H Q=>t σ H fun vs H1=>sp vs H1 Q (E σ)
def HasX (P:Program) (w:World) (K:PySem.W.Frag) (mg:Str→Option Value) (base:Heap) (x:Str) (k:Nat) (ps:List Str) (sp:Sp):Prop:=
  ∃ f fd,FnOk P w K mg base (CX1 P w) k f fd ps sp∧Binds K fd ps []∧PySem.W.keepIn K (.ref f)=true∧mg x=some (.ref f)
section
variable {P:Program} {w:World} {K:PySem.W.Frag} {mg:Str→Option Value} {base:Heap} {x qual:Str} {k:Nat} {ps:List Str} {sp:Sp} {st:Stmt} {f:Addr} {fd:FuncData}
theorem HasX.mk (F:Fun K x qual st f fd) (b:Binds K fd ps []) (m:mg x=some (.ref f)) (h:FnOk P w K mg base (CX1 P w) k f fd ps sp):HasX P w K mg base x k ps sp:=⟨f,fd,h,b,F.kp,m⟩
end
section
variable {X:Cx} {x:Str} {j k:Nat} {ps:List Str} {sp:Sp} {p pos:Pos} {e:Expr} {es:List Expr} {t:TA} {E:St→XK}
theorem Goes.call (go:Goes X E) (hex:X.ex=[]) {pins:List (Addr×Obj)} {σ:St} {H:Hp} {s s':Shared} {e:Value} (I:Inv X pins σ H s) (h:CX1 X.prog X.w X.stack H s (E σ) e s'):X.xe e s':=by
  have new0:∀ a,s.heap.get? a=none→X.s₀.heap.get? a=none:=fun a ha=>by
    cases q:X.s₀.heap.get? a with
    | none=>rfl
    | some o=>
      obtain ⟨o1,h1⟩:=I.base.there a o q (by rw [hex];simp)
      rw [ha] at h1;cases h1
  obtain ⟨ea,C,dx,tb,H',rfl,os,bare,un,hok,x,⟨u1,u2⟩,ut,hE⟩:=h
  obtain ⟨hh,g,d,t,os'⟩:=s'
  obtain rfl:os'=s.os:=os
  have I2:=I.call (h':=hh) (g':=g) (d':=d) (t':=t) (ch:=[]) un hok bare (fun b z=>absurd z (by simp))
  refine go pins σ H' _ ea C dx tb I2 x ⟨u1,new0 _ u2⟩ (fun T eT=>⟨(ut T eT).1,new0 _ (ut T eT).2⟩) (fun p hp=>⟨fun z=>?_,fun z=>?_⟩) hE
  · have:=(I.pin p hp).1
    rw [z,u2] at this;cases this
  · have:=(I.pin p hp).1
    rw [(ut _ z).2] at this;cases this
theorem pe_fnX (h:HasX X.prog X.w X.K X.mg X.base x k ps sp) (hr:Room j X.A) (hk:k≤j) (go:Goes X E) (hex:X.ex=[]) (ha:PA X (e :: es) t) (hg:Gl X x:=by rfl) (hdb:(x == ("__debug__" : Str))=false:=by decide)
    (he:starEach (e :: es) X.env=(false,eval e X.env) :: starEach es X.env:=by rfl) (hpl:(backTo pos (starEach es X.env)).any (·.1)=false:=by rfl) :
    PE X (.Call (.Name x p) (e :: es) [] pos) (ZHT sp E t):=by
  obtain ⟨f,fd,F,b,kp,m⟩:=h
  have F:=F.mono hk
  intro pins s σ H Q I h
  refine wpAny_Call_Name_kw (ZBx I hg m ?_ hdb)
  refine PySem.W.callWith_K (h₀:=X.base) I.ok.mod.kin kp (thn (ha pos pins s σ H _ I h) fun us s1 ⟨vs,H1,I1,r,q⟩=>⟨I1.kIn,?_⟩) he hpl
  have hl:us.length=ps.length:=by rw [← r.length];exact F.len _ _ _ _ q
  refine wpAny_call (codeAny_mono (F.run X.A X.stack s1 H1 ⟨us,[]⟩ us vs Q (E σ) hr I1.env0 (by have z:=b s1 us I1.kIn (by rw [List.append_nil];exact hl);rw [List.append_nil] at z;exact z) r q) fun r s' hq=>?_)
  cases r with
  | error e=>exact go.call hex I1 hq
  | ok fl=>
    cases fl with
    | ret u=>exact I1.after hq
    | next=>exact False.elim hq
    | brk=>exact False.elim hq
    | cont=>exact False.elim hq
end
section
variable {P:Program} {w:World} {K:PySem.W.Frag} {mg:Str→Option Value} {base:Heap} {N:List Str} {qual:Str} {scope:Scope} {f:Addr} {cd:Value} {A:Around} {outer:List Env} {s:Shared} {H:Hp} {E:XK}
theorem ZBM:Goes (ZCb (CX1 P w) P w K mg base N qual scope f cd A outer s H E) (fun _=>E):=fun pins σ H' s' ea C dx tb I x u ut _ hE=>
  Raised.leave ⟨pins,σ,H',ea,C,dx,tb,rfl,I,x,u,ut,hE⟩
theorem ZE5:PassesOwn (model P w) (ZCb (CX1 P w) P w K mg base N qual scope f cd A outer s H E).A (ZCb (CX1 P w) P w K mg base N qual scope f cd A outer s H E).env (ZCb (CX1 P w) P w K mg base N qual scope f cd A outer s H E).xe:=PassesOwn.leaving
end
theorem Fun.okx {P:Program} {w:World} {K:PySem.W.Frag} {mg:Str→Option Value} {base:Heap} {x qual:Str} {st:Stmt} {f:Addr} {fd:FuncData} {N ps:List Str} {k:Nat} {sp:Sp} (F:Fun K x qual st f fd) (S:FnScope N ps (ZA4 st)) (len:∀ vs H Q E,sp vs H Q E→vs.length=ps.length)
    (hbody:∀ (cdv:Value) (A:Around) (outer:List Env) (s:Shared) (H:Hp) (vs:List V) (Q:VK) (E:XK),Room k (A.deeper (envOfC qual (ZA4 st) s.heap.objs.size f cdv))→sp vs H Q E→
      ∃ t,QSs (ZCb (CX1 P w) P w K mg base N qual (ZA4 st) f cdv A outer s H E) (ZAI st) t∧t { nx:=fun _ H'=>Q .non H',rt:=Q } (start N vs) H):FnOk P w K mg base (CX1 P w) (k+1) f fd ps sp:=by
  obtain ⟨oc,od,kV,doc,pm,an,cdv,ct,osl,rfl,lk,hcd⟩:=F.ex
  refine fn_of lk hcd S len fun A outer s H vs Q E hr hsp=>?_
  obtain ⟨t,h,q⟩:=hbody cdv A outer s H vs Q E hr hsp
  exact ⟨t,h.h,q⟩
section
variable {X:Cx} {x n:Str} {S C fI:Addr} {i j k kk:Nat} {ps:List Str} {sp:Sp} {p np cpos hpos pos:Pos} {e e0:Expr} {es:List Expr} {t:TA} {E:St→XK} {body suite:List Stmt} {b0:Stmt} {tbd:(St→XK)→TS} {th:TS} {fd:FuncData} {fld par:Str}
theorem ZHM (h:HasX X.prog X.w X.K X.mg X.base x k ps sp) (hr:Room j X.A) (hk:k≤j) (go:Goes X E) (hex:X.ex=[]) (ha:QA X (e :: es) t) (hg:Gl X x:=by rfl) (hdb:(x == ("__debug__" : Str))=false:=by decide)
    (he:starEach (e :: es) X.env=(false,eval e X.env) :: starEach es X.env:=by rfl) (hpl:(backTo pos (starEach es X.env)).any (·.1)=false:=by rfl):QE X (.Call (.Name x p) (e :: es) [] pos) (ZHT sp E t):=⟨pe_fnX h hr hk go hex ha.h hg hdb he hpl⟩
theorem ZF9 (hg:Gl X x) (hm:X.mg x=some (.ref C)) (q:ZDx X.K C none=true) (hc:X.calm=true) (hex:X.ex=[]) (go:Goes X E) (ha:QA X (e0 :: es) t)
    (hdb:(x == ("__debug__" : Str))=false:=by decide) (he:starEach (e0 :: es) X.env=(false,eval e0 X.env) :: starEach es X.env:=by rfl) (hpl:(backTo cpos (starEach es X.env)).any (·.1)=false:=by rfl) :
    QS X (.Raise (some (.Call (.Name x np) (e0 :: es) [] cpos)) none pos) (ZE0 C E t):=⟨ZIe hg hm q hc hex go ha.h hdb he hpl⟩
theorem ZIf (c:ExI X.K C fI fld) (hg:Gl X x) (hm:X.mg x=some (.ref C)) (Fn:FnOk X.prog X.w X.K X.mg X.base CX0 kk fI fd ["self", par] (ZFO C fld)) (hb:Binds X.K fd ["self", par] []) (hr:Room (kk+1) X.A) (hc:X.calm=true) (hex:X.ex=[]) (go:Goes X E) (ha:QA X [e0] t)
    (hdb:(x == ("__debug__" : Str))=false:=by decide) (he:starEach [e0] X.env=(false,eval e0 X.env) :: starEach [] X.env:=by rfl) (hpl:(backTo cpos (starEach [] X.env)).any (·.1)=false:=by rfl) :
    QS X (.Raise (some (.Call (.Name x np) [e0] [] cpos)) none pos) (ZE9 C fld E t):=⟨ZIS c hg hm Fn hb hr hc hex go ha.h hdb he hpl⟩
theorem qs_try (hst:X.stack=X.env :: X.outer) (hex:X.ex=[]) (hN:X.N.Nodup) (hj:X.N[j]?=some n) (hk:X.env.scope.names.lookup n=some .local) (hg:Gl X x) (hm:X.mg x=some (.ref S))
    (hb:∀ (pn:List (Addr×Obj)) (xe:Value→Shared→Prop) (E1:St→XK),Goes (X.tried pn xe) E1→QSs (X.tried pn xe) body (tbd E1))
    (hh:∀ e,QSs (X.suite e) (b0 :: suite) th) (hdb:(x == ("__debug__" : Str))=false:=by decide) :
    QS X (.Try body [.ExceptHandler (some (.Name x np)) (some n) (b0 :: suite) hpos] [] [] pos) (tTry X.K S j tbd th):=⟨ps_try hst hex hN hj hk hg hm (fun pn xe E1 g=>(hb pn xe E1 g).h) (fun e=>(hh e).h) hdb⟩
end
end L2
set_option Elab.async false
set_option linter.all false
set_option maxRecDepth 100000
set_option maxHeartbeats 4000000
namespace L2
open PySem PySem.Spec PyProof.Rows
section
variable {prog:Program} {w:World} {A:Around} {E:Value→Shared→Prop} {s:Shared} {K:PySem.W.Frag} {x C:Addr} {ox:Obj} {od:Option Obj} {name:Str} {fill expr:Bool} {tk:Tok}
structure ExGet (K:PySem.W.Frag) (C:Addr):Prop where
  ga:PySem.W.findIn K (.ref C) "__getattribute__" = some (some (.builtin "BaseException.__getattribute__"))
  gt:PySem.W.findIn K (.ref C) "__getattr__" = some none
  mb:PySem.W.mroIn K C (.type "BaseException")=some true
theorem bind_ga (o:Value):bindSpecial (.builtin "BaseException.__getattribute__") o=pure (.builtin "BaseException.__getattribute__", [o]):=by
  first | rfl | kernel_rfl
theorem exc_by {Q:Value→Shared→Prop} (X:K.In s.heap) (I:PySem.W.InstAt s.heap x ox C od) (g:ExGet K C)
    (h:wpAny (model prog w) A.in1 (Builtin.«object.__getattribute__» ⟨[.ref x,.str name tk],[]⟩) (fun fin s'=>match fin with | .done (.ret v)=>wpAny (model prog w) A (handedOut v) Q E s' | _=>False) (fun _ _=>False) s) :
    wpAny (model prog w) A (getAttrBy (.ref x) (.str name tk) fill expr) Q E s:=by
  obtain ⟨hh,gg,d,t,os⟩:=s
  have L0:=I.type (M:=model prog w)
  have L1:=PySem.W.looks_findIn (M:=model prog w) X g.ga
  have L2:=PySem.W.looks_findIn (M:=model prog w) X g.gt
  have L3:=PySem.W.looks_mroIn (M:=model prog w) X g.mb
  unfold getAttrBy
  refine wpAny_holding (wpAny_bind (L0.at (wpAny_bind (L1.at ?_))))
  have hx2:(Value.builtin "BaseException.__getattribute__" == Value.builtin "object.__getattribute__")=false:=by decide +kernel
  dsimp only
  rw [if_neg (by rw [hx2,Bool.and_false];decide)]
  unfold getAttrByItsOwn hookBefore
  rw [if_pos (show onTheHeap (Value.ref C)=true from rfl)]
  refine wpAny_bind (L2.at (wpAny_bind (wpAny_attempt (wpAny_holding ?_))))
  unfold callGetattribute
  rw [if_neg (show ¬ (expr && onTheHeap (Value.builtin "BaseException.__getattribute__"))=true by cases expr <;> decide)]
  unfold boundAndCalled
  rw [bind_ga]
  refine wpAny_bind (wpAny_pure ?_)
  show wpAny _ _ (call (.builtin "BaseException.__getattribute__") [.ref x,.str name tk]) _ _ _
  refine wpAny_call (codeAny_call_builtin PySem.F.excAttr_ValueError.ga.plain PySem.F.entry_bexc_ga ?_)
  have hk:builtinKind "BaseException.__getattribute__" = some .slot:=by decide +kernel
  have hsplit:splitId "BaseException.__getattribute__" = some ("BaseException", "__getattribute__"):=by decide +kernel
  have ha:=PySem.F.args_bexc_ga (.ref x) (.str name tk)
  simp only [checkBuiltinCall,hk,hsplit]
  unfold isInstance
  refine wpAny_bind (wpAny_bind (L0.at (L3.at ?_)))
  rw [if_neg (by decide)]
  refine wpAny_of_eq ha ?_
  refine wpAny_mono h (fun fin s' z=>?_) fun _ _ z=>z.elim
  rcases fin with (_ | _ | _ | _) | _ <;> first | exact z | exact z.elim
theorem ZJ4 {v:Value} {Q:Value→Shared→Prop} (X:K.In s.heap) (I:PySem.W.InstAt s.heap x ox C od) (g:ExGet K C) (hf:PySem.W.findObj K C od name=some (.value v)) (hh:PySem.W.handedIn v=true) (h:Q v { s with toks:=s.toks+1 }) :
    wpAny (model prog w) A (getAttr (.ref x) name expr) Q E s:=by
  unfold getAttr
  refine wpAny_bind (wpAny_mkText (exc_by (s:={ s with toks:=s.toks+1 }) X I g ?_))
  obtain ⟨hp,gg,d,t,os⟩:=s
  have L0:=I.type (M:=model prog w)
  have L1:=PySem.W.looks_find (M:=model prog w) X I hf
  refine wpAny_bind (wpAny_pure (wpAny_bind (wpAny_pure (wpAny_bind (L0.at (wpAny_bind (L1.at ?_)))))))
  refine wpAny_pure ?_
  show wpAny _ _ (handedOut v) _ _ _
  rw [PySem.W.handedOut_of hh];exact wpAny_pure h
theorem ZIh {Q:Option Value→Shared→Prop} (X:K.In s.heap) (I:PySem.W.InstAt s.heap x ox C od) (g:ExGet K C) (hf:PySem.W.findObj K C od "__class__" = some (.bind (.builtin "getset_descriptor.__get__") (.builtin "object.__class__"))) (hm:PySem.W.mroIn K C (.type "object")=some true)
    (h:Q (some (.ref C)) { s with toks:=s.toks+1 }):wpAny (model prog w) A (getAttr? (.ref x) "__class__") Q E s:=by
  unfold getAttr? getAttrBy?
  refine wpAny_bind (wpAny_mkText (wpAny_bind (wpAny_attempt ?_)))
  refine exc_by (s:={ s with toks:=s.toks+1 }) X I g ?_
  obtain ⟨hp,gg,d,t,os⟩:=s
  have L0:=I.type (M:=model prog w)
  have L1:=PySem.W.looks_find (M:=model prog w) X I hf
  refine wpAny_bind (wpAny_pure (wpAny_bind (wpAny_pure (wpAny_bind (L0.at (wpAny_bind (L1.at ?_)))))))
  show wpAny _ _ (holding [Value.builtin "object.__class__"] (call (.builtin "getset_descriptor.__get__") [.builtin "object.__class__", .ref x,.ref C]) >>= ret) _ _ _
  refine wpAny_bind (wpAny_holding (wpAny_call (PySem.W.class_get (s:=⟨hp,gg,d,t+1,os⟩) (ox:=ox) (od:=od) X I hm ?_)))
  refine wpAny_pure ?_
  show wpAny _ _ (handedOut (.ref C)) _ _ _
  rw [PySem.W.handedOut_of rfl]
  exact wpAny_pure (wpAny_pure h)
end
end L2
set_option Elab.async false
set_option linter.all false
set_option maxRecDepth 100000
set_option maxHeartbeats 4000000
namespace L2
open PySem PySem.Spec PyProof.Rows
structure ExT (K:PySem.W.Frag) (C:Addr):Prop extends ExGet K C where
  cl:(PySem.W.clsIn K C).isSome=true
  gc:PySem.W.findIn K (.ref C) "__class__" = some (some (.builtin "object.__class__"))
  gn:PySem.W.specialIn K (.builtin "object.__class__") "__get__" = some (some (.builtin "getset_descriptor.__get__"))
  tk:PySem.W.takesIn K (.builtin "object.__class__")=some true
  mo:PySem.W.mroIn K C (.type "object")=some true
theorem ZGn {K:PySem.W.Frag} {C:Addr} {name:Str} {od:Option Obj} {a g:Value} (hc:(PySem.W.clsIn K C).isSome=true) (ha:PySem.W.findIn K (.ref C) name=some (some a)) (hg:PySem.W.specialIn K a "__get__" = some (some g)) (ht:PySem.W.takesIn K a=some true):PySem.W.findObj K C od name=some (.bind g a):=by
  obtain ⟨cd,hc⟩:=Option.isSome_iff_exists.mp hc
  unfold PySem.W.findObj
  rw [hc,Option.bind_some,ha,Option.bind_some]
  simp [hg,ht]
theorem kitx_exc {K:PySem.W.Frag} {x C:Addr} (g:ExT K C):PySem.W.KitX K (.ref x) (.ref C) (fun h=>∃ ox od,PySem.W.InstAt h x ox C od) where
  ty:=fun _ _ _ ⟨_,_,I⟩=>I.type
  it:=fun _ _ X _=>by
    obtain ⟨cdD,hcD⟩:=Option.isSome_iff_exists.mp g.cl
    unfold PySem.W.clsIn at hcD
    split at hcD
    · rename_i c' d' cd' sl' ho
      intro A' Q' E' s' k q
      unfold isType loadHead
      exact wpAny_bind (wpAny_loadPart (k _ _ (X _ _ ho)) (wpAny_pure q))
    · cases hcD
  ne:=fun h tp dd its n sl X htp=>by
    obtain ⟨cdD,hcD⟩:=Option.isSome_iff_exists.mp g.cl
    refine Bool.eq_false_iff.mpr fun q=>?_
    have e:C=tp:=Value.ref.inj (beq_iff_eq.mp q)
    subst e
    unfold PySem.W.clsIn at hcD
    split at hcD
    · rename_i c' d' cd' sl' ho
      have z:=(X _ _ ho).symm.trans htp
      cases z
    · cases hcD
  ca:=fun X ⟨_,_,I⟩ k=>ZIh X I g.toExGet (ZGn g.cl g.gc g.gn g.tk) g.mo k
theorem exc_inst {h:Heap} {a C:Addr} {dx:Option Addr} (e:∃ ob vs,h.get? a=some ob∧ob.cls=.ref C∧ob.dict=dx∧ob.data=.fields vs) (hd:∀ d,dx=some d→∃ o,h.get? d=some o):∃ ox od,PySem.W.InstAt h a ox C od:=by
  obtain ⟨ob,vs,h1,h2,h3,h4⟩:=e
  cases dx with
  | none=>exact ⟨ob,none,h1,h2,by unfold PySem.W.notCls;rw [h4],by rw [h3];trivial⟩
  | some d=>
    obtain ⟨o,ho⟩:=hd d rfl
    exact ⟨ob,some o,h1,h2,by unfold PySem.W.notCls;rw [h4],by rw [h3];exact ho⟩
def clsV:V→Value→Prop
  | .ty n,c=>c=.type n
  | .ref S,c=>c=.ref S
  | _,_=>False
def TyE (K:PySem.W.Frag) (H:Hp) (x:V) (t:Value):Prop:=TyOf K H x t∨∃ a C dx,x=.ref a∧t=.ref C∧H a=some (Fz.excO a C dx)∧ExT K C∧∀ d,dx=some d→∃ fs,H d=some (.xd fs)
def rIsiE (K:PySem.W.Frag):List V→Hp→VK→Prop:=fun xs H Q=>∃ (x cv:V) (c t:Value) (b:Bool),xs=[x,cv]∧clsV cv c∧TyE K H x t∧PySem.W.kitOne K t c=some b∧Q (.bl b) H
section
variable {X:Cx}
theorem ZAM:ZC7 X (.builtin "isinstance") (rIsiE X.K):=by
  intro pins s σ H xs us Q I r h
  obtain ⟨x,cv,c,t,b,rfl,hc,ty,e,q⟩:=h
  obtain ⟨u,c',rfl,rx,ry⟩:=vals2 r
  have ec:c'=c:=by
    cases cv with
    | ty n=>cases ry;exact hc.symm
    | ref S=>cases ry;exact hc.symm
    | _=>exact hc.elim
  subst ec
  have fin:∀ tk,EP X pins σ Q (.bool b) { s with toks:=tk }:=fun tk=>⟨.bl b,H,I.tok tk,rfl,q⟩
  rcases ty with ty | ⟨a,C,dx,rfl,rfl,ha,g,hd⟩
  · exact ZIx I rx ty e fin
  · cases rx
    have ok:=(I.hok a _ ha).1
    exact PySem.W.kia_one (kitx_exc g) I.kIn (exc_inst ok fun d ed=>by obtain ⟨fs,hf⟩:=hd d ed;exact I.hok.there hf) e (fun z=>nomatch z) fin
end
end L2
set_option Elab.async false
set_option linter.all false
set_option maxRecDepth 100000
set_option maxHeartbeats 4000000
namespace L2
open PySem PySem.Spec PyProof.Rows
def tFldE (K:PySem.W.Frag) (ta:TE) (f:Str):TE:=fun σ H Q=>ta σ H fun x H1=>∃ a C dx fs v,x=.ref a∧H1 a=some (Fz.excO a C (some dx))∧H1 dx=some (.xd fs)∧ExGet K C∧PySem.W.hasDictIn K C=true∧NoAttr K C f∧fs.lookup f=some v∧Q v H1
section
variable {X:Cx} {e:Expr} {ta:TE} {f:Str} {pos:Pos}
theorem pe_fldE (he:PE X e ta) (hb:attributeBase e f X.env (eval e X.env)=eval e X.env):PE X (.Attribute e f pos) (tFldE X.K ta f):=by
  intro pins s σ H Q I h
  refine ZI7 hb (thn (he pins s σ H _ I h) fun u s1 ⟨x,H1,I1,rx,a,C,dx,fs,v,ex,ea,ed,g,hd,n,l,q⟩=>?_)
  subst ex
  obtain rfl:u=Value.ref a:=rx
  obtain ⟨ob,vs,h1,h2,h3,h4⟩:=(I1.hok a _ ea).1
  obtain ⟨mA,ns,r⟩:=I1.hok dx _ ed
  obtain ⟨od,hod,lk⟩:=ZFG ns
  obtain ⟨u,hu,ru⟩:=RelO.some_of (v:=v) (o:=mA f) (by rw [← l];exact r f)
  have J:PySem.W.InstAt s1.heap a ob C (some od):=⟨h1,h2,by unfold PySem.W.notCls;rw [h4],by rw [h3];exact hod⟩
  exact ZJ4 I1.kIn J g (PySem.W.findObj_own hd n rfl (by rw [lk f,hu])) (ZFJ ru) ⟨v,H1,I1.tok _,ru,q⟩
theorem ZI2 (he:QE X e ta) (hb:attributeBase e f X.env (eval e X.env)=eval e X.env:=by rfl):QE X (.Attribute e f pos) (tFldE X.K ta f):=⟨pe_fldE he.h hb⟩
end
end L2
set_option Elab.async false
set_option linter.all false
set_option maxRecDepth 100000
set_option maxHeartbeats 4000000
namespace L2
open PySem PySem.Spec PyProof.Rows
section
variable {prog:Program} {w:World} {A:Around} {E:Value→Shared→Prop} {s:Shared}
end
section
variable {X:Cx}
end
end L2
set_option Elab.async false
set_option linter.all false
set_option maxRecDepth 100000
set_option maxHeartbeats 4000000
namespace L2
open PySem PySem.Spec PyProof.Rows
section
variable {X:Cx}
end
end L2
namespace Fz
open PySem PySem.Spec PyProof.Rows L2 Lw
structure Con (K:PySem.W.Frag) (a:Addr) (xs:List PV):Prop where
  flt:xs.all flat=true
  sq:∀ H,SqT K H a (xs.map Fz.enc)
  ob:∃ o:Obj,K.lookup a=some o∧o.cls=.type "tuple"
theorem Con.of {K:PySem.W.Frag} {a:Addr} {xs:List PV} {vs:List V} (h:∀ H,SqT K H a vs) (e:xs.map Fz.enc=vs) (f:xs.all flat=true):Con K a xs:=by
  subst e
  refine ⟨f,h,?_⟩
  rcases h (fun _=>none) with h | ⟨o,its,n,h1,h2,_⟩
  · rcases h with h | ⟨_,h⟩
    · cases h
    · cases h
  · exact ⟨o,h1,h2⟩
section
variable [Xw]
variable {E:Ent0} {ss:List Slot} {σ:L2.St} {F H F' H':Hp} {K:PySem.W.Frag} {ta tb tc te:TE} {k:PV→Prop} {v:V} {tp:Bool} {xs:List PV} {nx:List Slot→Prop} {R:Ret}
end
end Fz
set_option Elab.async false
set_option linter.all false
set_option maxRecDepth 100000
set_option maxHeartbeats 4000000
namespace Fz
open PySem PySem.Spec PyProof.Rows L2 Lw
end Fz
set_option Elab.async false
set_option linter.all false
set_option maxRecDepth 100000
set_option maxHeartbeats 4000000
namespace Fz
open PySem PySem.Spec PyProof.Rows L2 Lw
end Fz
set_option Elab.async false
set_option linter.all false
set_option maxRecDepth 100000
set_option maxHeartbeats 4000000
namespace Fz
open PySem PySem.Spec PyProof.Rows L2 Lw
section
variable [Xw]
variable {E:Ent0} {ss:List Slot} {σ:L2.St} {F H F' H':Hp} {K:PySem.W.Frag} {ta tb tc te:TE} {k:PV→Prop} {v:V} {tp:Bool} {xs:List PV} {nx:List Slot→Prop} {R:Ret}
end
def rv (n:Nat):Nat→Nat
  | 0=>0
  | i+1=>2 * rv n i+n / 2 ^ i % 2
end Fz
set_option Elab.async false
set_option linter.all false
set_option maxRecDepth 100000
set_option maxHeartbeats 4000000
namespace Fz
open PySem PySem.Spec PyProof.Rows L2 Lw
end Fz
set_option Elab.async false
set_option linter.all false
set_option maxRecDepth 100000
set_option maxHeartbeats 4000000
namespace Fz
open PySem PySem.Spec PyProof.Rows L2 Lw
section
variable [Xw]
variable {E:Ent0} {ss:List Slot} {σ:L2.St} {F H F1 F' H':Hp} {K:PySem.W.Frag} {js:List Nat} {ta tb tc te ti:TE} {nx:List Slot→Prop} {R:Ret} {k:PV→Prop} {xs:List PV}
theorem wn_rowNP {sp:Sp} {i:Nat} {ns:List Int} {k:List PV→Prop} (hsp:sp=spRow) (hi:ss[i]?=some (.raw (ZB8 K ns))) (h:Wp ss te fun x=>∃ m,x=.int m∧0≤m∧m≤1000∧Wp ss tb fun y=>∃ m2,y=.int m2∧1≤m2∧m2≤100∧∀ rs:List Str,(rs.length:Int)≤m2→(∀ x∈rs,Nm x)→rs.Nodup→k (rs.map PV.str)) :
    Wn ss (ZBJ sp [] E0 (ZA9 (ZBJ (ZH4 K) [] E0 (ZA9 (ZBK i) (ZA9 te ZAa))) (ZA9 tb ZAa))) k:=⟨fun E σ F H Q S q=>by
  subst hsp
  obtain ⟨v,e,⟨a,ev,hq⟩,st⟩:=S.ok i _ hi
  subst ev
  refine ⟨_,e,h.go E σ F H _ S fun v x F1 H1 m1 r ⟨m,em,m0,m1',hw⟩=>?_⟩
  subst em;cases r
  obtain ⟨v',e',hq1,_⟩:=m1.st.ok i _ hi
  rw [e] at e';cases e'
  obtain ⟨a',ea,hq'⟩:=ZBN K ns _ F1 H1 m1.st.fh hq1
  cases ea
  refine ⟨a,ns,m,rfl,hq',m0,m1',fun p H2 hp s pp=>?_⟩
  have m2:=m1.st.grow s
  refine hw.go E σ F1 H2 _ m2.st fun v2 y F3 H3 m3 r3 ⟨mm,emm,mm0,mm1,kk⟩=>?_
  subst emm;cases r3
  have pslot:∀ (j:Nat) s,ss[j]?=some s→¬ ZB1 s σ[j]? p:=fun j s hj=>m1.st.newAddr hj hp
  have np:ZC1 ss σ p:=fun j hj=>pslot j _ hj
  have pp3:Pot H3 p:=Pot.keep pp fun o eo=>m3.hh p o np eo
  have fp3:F3 p=Option.none:=by
    cases z:F3 p with
    | none=>rfl
    | some o=>
      obtain ⟨_,_,w,_⟩:=pp
      rcases m3.nn p o z with z | z
      · rw [m1.st.newF hp] at z;cases z
      · rw [w] at z;cases z
  refine ⟨p,mm,rfl,pp3,mm0,mm1,fun l H4 rs hl s4 hl2 hz hN nd=>?_⟩
  have m13:=m1.trans (m2.trans m3)
  have m14:Mv E ss σ F H F3 H4:=by
    refine S.step m13.ff (fun b o z=>s4.same b o (ZAF z fp3) (m13.st.fh b o z)) (fun b o n z=>s4.same b o (fun w=>?_) (m13.hh b o n z)) m13.nn fun j l' hj ej=>?_
    · subst w;rw [m1.none hp] at z;cases z
    · exact Pot.keep (m13.st.potAt hj ej) fun o z=>s4.same l' o (fun w=>pslot j _ hj (w▸ej)) z
  exact q l _ _ F3 H4 m14 (m13.st.newF hl) (m13.none hl) hl2 (ZBR rs) (kk rs hz hN nd)⟩
theorem ZIK {i:Nat} (hi:ss[i]?=some .pot) (h:Wq ss ta fun tp xs=>tp=false∧∃ ns:List Str,xs=ns.map PV.str∧(∀ x∈ns,Nm x)∧ns.length≤1000∧∀ x:Str,Nm x→x∉ns→k (.str x)) :
    Wp ss (ZBJ (ZHO K) [] E0 (ZA9 (ZBK i) (ZA9 ta ZAa))) k:=⟨fun E σ F H Q S q=>by
  obtain ⟨p,e,_⟩:=S.ok i _ hi
  refine ⟨_,e,h.go E σ F H _ S fun v tp xs F1 H1 m1 sv ⟨et,ns,ex,hN,hz,kk⟩=>?_⟩
  subst et;subst ex
  obtain ⟨l,vs,ev,hn,hl,r⟩:=sv
  subst ev
  rw [r.strs] at hl
  exact ⟨p,l,ns,rfl,m1.st.potAt hi e,SqL.of hl,fun z=>hn i hi (z▸e),hN,hz,fun x H3 hx hx2 s=>q _ _ F1 H3 (m1.trans (m1.st.pstep hi e s)) (.str x) (kk x hx hx2)⟩⟩
end
end Fz
set_option Elab.async false
set_option linter.all false
set_option maxRecDepth 100000
set_option maxHeartbeats 4000000
namespace L2
open PySem PySem.Spec PyProof.Rows
section
variable {X:Cx}
def jw (sep:Str) (ys:List Str):Nat:=(ys.map (·.length)).sum+ys.length * sep.length
def rJoin (K:PySem.W.Frag):V→List V→Hp→VK→Prop:=fun x xs H Q=>∃ (sep:Str) (p:Addr) (tp:Bool) (ys:List Str),x=.str sep∧xs=[.ref p]∧SqB K tp H p (ys.map V.str)∧jw sep ys≤16777216∧Q (.str (Txt.join sep ys)) H
def rStr:List V→Hp→VK→Prop:=fun xs H Q=>(∃ i,xs=[.int i]∧i.natAbs < 2 ^ 1000∧Q (.str (toString i)) H)∨∃ x,xs=[.str x]∧Q (.str x) H
end
end L2
namespace Fz
open PySem PySem.Spec PyProof.Rows L2 Lw
def strP:PV→Str
  | .int i=>toString i
  | .str x=>x
  | _ => ""
def okStr:PV→Prop
  | .int i=>i.natAbs < 2 ^ 1000
  | .str _=>True
  | _=>False
section
variable [Xw]
variable {E:Ent0} {ss:List Slot} {σ:L2.St} {F H F' H':Hp} {K:PySem.W.Frag} {ta tb tc te:TE} {k:PV→Prop} {v:V} {tp:Bool} {xs:List PV} {nx:List Slot→Prop} {R:Ret}
theorem wp_strQ (h:Wp ss te fun p=>okStr p∧k (.str (strP p))):Wp ss (tCB rStr (ZA9 te ZAa)) k:=⟨fun E σ F H Q S q=>
  h.go E σ F H _ S fun v p F1 H1 m1 r ⟨ok,kk⟩=>by
    cases r with
    | int i=>exact .inl ⟨i,rfl,ok,q _ _ F1 H1 m1 (.str _) kk⟩
    | str x=>exact .inr ⟨x,rfl,q _ _ F1 H1 m1 (.str _) kk⟩
    | _=>exact ok.elim⟩
theorem wp_join (h:Wp ss ta fun p=>∃ sep,p=.str sep∧Wq ss tb fun _ ys=>∃ zs:List Str,ys=zs.map PV.str∧jw sep zs≤16777216∧k (.str (Txt.join sep zs))):Wp ss (tBM K "str" (rJoin K) ta (ZA9 tb ZAa)) k:=⟨fun E σ F H Q S q=>
  h.go E σ F H _ S fun v p F1 H1 m1 r1 ⟨sep,e,h2⟩=>by
    subst e;cases r1
    refine ⟨rfl,h2.go E σ F1 H1 _ m1.st fun v2 tp ys F2 H2 m2 sv ⟨zs,e2,hz,kk⟩=>?_⟩
    subst e2
    obtain ⟨l,vs,rfl,hl,r⟩:=sv.seq m2.st
    rw [r.strs] at hl
    exact ⟨sep,l,tp,zs,rfl,rfl,HOq.sq hl,hz,q _ _ F2 H2 (m1.trans m2) (.str _) kk⟩⟩
end
end Fz
namespace Fz
open PySem PySem.Spec PyProof.Rows L2 Lw
end Fz
set_option Elab.async false
set_option linter.all false
set_option maxRecDepth 100000
set_option maxHeartbeats 4000000
namespace Fz
open PySem PySem.Spec PyProof.Rows L2 Lw
abbrev ZDv:=List Slot→Ret→(Ex→Prop)→Prop
def spX (pre:ZDv):Sp:=fun vs H Q X=>∃ (ss:List Slot) (R:Ret) (D:Ex→Prop) (F:Hp) (A:List Addr),pre ss R D∧Sg (E3 A F H) ss (vs.map some) F H∧(∀ v F' H',Fin (E3 A F H) F' H'→R.ok (E3 A F H) F' H' v→Q v H')∧
  ∀ (x:Ex) (C:Value) (dx:Option Addr) F' H',Fin (E3 A F H) F' H'→D x→x.at F' C dx→X C dx H'
@[reducible] def xwOf (X:XK) (D:Ex→Prop):Xw:=⟨fun _=>X,fun _=>True,D⟩
@[reducible] def xwT (E:Ent0) (J:List Slot→Prop) (D:Ex→Prop):Xw:=⟨fun σ C dx H=>∃ ss F x,J ss∧Sg E ss σ F H∧D x∧x.at F C dx,J,D⟩
def sayP:PV→Prop
  | .str x=>(reprText x).length≤100000
  | .int i=>i.natAbs.log2 < 1920
  | _=>False
section
variable [Xw]
variable {E:Ent0} {ss:List Slot} {σ:L2.St} {F H F' H':Hp} {pre:ZDv} {t:TA} {te:TE} {k:PV→Prop} {nx:List Slot→Prop} {R:Ret} {K:PySem.W.Frag} {C S:Addr} {fld:Str}
theorem ZEk (h:Wa ss t fun l=>∃ k' D,pre l (.is k') D∧Xw.J ss∧(∀ x,D x→Xw.D x)∧∀ p,k' p→k p):Wp ss (ZHT (spX pre) Xw.e t) k:=⟨fun E σ F H Q S q=>
  h.go E σ F H _ S fun vs l F1 H1 m1 a ⟨k',D,hp,hJ,hD,kk⟩=>by
    refine ⟨l,.is k',D,F1,[],hp,m1.st.call0 a,fun v F' H' f ⟨p,r,kp⟩=>?_,fun x C dx F' H' f d hat=>?_⟩
    · exact q v p F' H' (m1.trans (m1.st.back (fun _ h=>absurd h List.not_mem_nil) f)) r (kk p kp)
    · exact E.hx ss σ F' H' x C dx hJ (m1.st.back (fun _ h=>absurd h List.not_mem_nil) f).st (hD x d) hat⟩
theorem ZFm (h:We ss t fun ps=>ps.length≤1000∧Xw.J ss∧Xw.D ⟨C,[],[]⟩):Ws ss (ZE0 C Xw.e t) nx R:=⟨fun E D σ F H S hn hr=>
  h.go E σ F H _ S fun vs ps F1 H1 m1 rs ⟨hl,hJ,hD⟩=>⟨by rw [rs.length];exact hl,E.hx ss σ F1 H1 ⟨C,[],[]⟩ (.ref C) none hJ m1.st hD ⟨rfl,.inl ⟨rfl,rfl,rfl⟩⟩⟩⟩
theorem ZCl (h:Wp ss te fun p=>sayP p∧Xw.J ss∧Xw.D ⟨C,[fld],[p]⟩):Ws ss (ZE9 C fld Xw.e (ZA9 te ZAa)) nx R:=⟨fun E D σ F H S hn hr=>
  h.go E σ F H _ S fun v p F1 H1 m1 r ⟨sp,hJ,hD⟩=>by
    refine ⟨v,rfl,?_,fun d hd=>?_⟩
    · cases r <;> first | exact sp | exact sp.elim
    · have m2:=m1.st.alloc hd (.xd [(fld,v)])
      exact E.hx ss σ _ _ ⟨C,[fld],[p]⟩ (.ref C) (some d) hJ m2.st hD ⟨rfl,.inr ⟨d,[v],rfl,ZA3,rfl,.cons (r.mono m2.ff) .nil⟩⟩⟩
end
section
variable {pre:ZDv} {H:Hp}
theorem fn_runX {N:List Str} {n:Nat} {vs:List V} {Q:VK} {X:XK} {t:TS} (h:spX pre vs H Q X) (hl:∀ ss R D,pre ss R D→ss.length=n)
    (hw:∀ ss R D,pre ss R D→let _i:Xw:=xwOf X D;Ws (ss++List.replicate (N.length - n) .any) t (fun _=>∃ k,R=.is k∧k .non) R):t { nx:=fun _ H'=>Q .non H',rt:=Q } (L2.start N vs) H:=by
  obtain ⟨ss,R,D,F,A,hp,S,q,qx⟩:=h
  have e:vs.length=n:=by have:=S.len;rw [List.length_map] at this;rw [← this];exact hl ss R D hp
  unfold L2.start
  rw [e]
  letI:Xw:=xwOf X D
  refine (hw ss R D hp).go ⟨E3 A F H,fun ss' σ' F' H' x C dx _ S' d hat=>qx x C dx F' H' S'.toFin d hat⟩ _ _ F H (S.grown _) (fun ss' σ' F' H' ⟨k,e,kn⟩ S' _=>?_) fun v F' H' f ok=>q v F' H' f ok
  subst e
  exact q .non F' H' S'.toFin ⟨.non,.non,kn⟩
theorem spX_len {n:Nat} {vs:List V} {Q:VK} {X:XK} (hl:∀ ss R D,pre ss R D→ss.length=n) (h:spX pre vs H Q X):vs.length=n:=by
  obtain ⟨ss,R,D,F,A,hp,S,q⟩:=h
  have:=S.len
  rw [List.length_map] at this
  rw [← this];exact hl ss R D hp
end
end Fz
set_option Elab.async false
set_option linter.all false
set_option maxRecDepth 100000
set_option maxHeartbeats 4000000
namespace Fz
open PySem PySem.Spec PyProof.Rows L2 Lw
section
variable {E:Ent0} {ss:List Slot} {σ:L2.St} {F H F' H':Hp}
abbrev Ent0.at (E:Ent0) (F:Hp):Ent0:=⟨E.A,F,E.H0,E.B⟩
theorem Fin.un (S:Fin E F H) (f:Fin (E.at F) F' H'):Fin E F' H':=⟨f.fh,S.f0.trans f.f0,f.keep,fun a o e=>(f.fresh a o e).elim (fun e=>S.fresh a o e) .inr,f.pots,f.potF,f.a0,f.bF,f.bH,f.b0⟩
theorem Ok.un {G:Hp} {s:Slot} {o:Option (Option V)}:Ok (E.at G) F H s o↔Ok E F H s o:=by
  cases s with
  | sq tp xs=>cases tp <;> exact Iff.rfl
  | _=>exact Iff.rfl
theorem Sg.un {ss':List Slot} {σ':L2.St} (S:Sg E ss σ F H) (S':Sg (E.at F) ss' σ' F' H'):Sg E ss' σ' F' H':=⟨S.toFin.un S'.toFin,S'.len,fun i s hi=>Ok.un.mp (S'.ok i s hi),S'.dis⟩
theorem Sg.atF (S:Sg E ss σ F H):Sg (E.at F) ss σ F H:=⟨⟨S.fh,Same.refl _,S.keep,fun _ _ e=>.inl e,S.pots,S.potF,S.a0,S.bF,S.bH,S.b0⟩,S.len,fun i s hi=>Ok.un.mpr (S.ok i s hi),S.dis⟩
theorem Ret.un {R:Ret} {G:Hp} {v:V} (h:R.ok (E.at G) F H v):R.ok E F H v:=by
  cases R <;> exact h
theorem Sg.setAny (S:Sg E ss σ F H) (j:Nat):Sg E (ss.set j .any) (σ.set j none) F H:=by
  have at_:∀ (i:Nat) (s:Slot),(ss.set j .any)[i]?=some s→s=.any∨(i≠j∧ss[i]?=some s):=fun i s hi=>by
    by_cases q:i=j
    · subst q
      by_cases hlt:i < ss.length
      · rw [List.getElem?_set_self hlt] at hi;cases hi;exact .inl rfl
      · rw [List.getElem?_eq_none (by rw [List.length_set];omega)] at hi;cases hi
    · rw [List.getElem?_set_ne (Ne.symm q)] at hi
      exact .inr ⟨q,hi⟩
  refine ⟨S.toFin,by rw [List.length_set,List.length_set];exact S.len,fun i s hi=>?_,fun i k u w l hik hi hk mu mw=>?_⟩
  · rcases at_ i s hi with rfl | ⟨q,hi⟩
    · trivial
    · rw [List.getElem?_set_ne (Ne.symm q)];exact S.ok i s hi
  · rcases at_ i u hi with rfl | ⟨q,hi⟩
    · exact mu
    · rcases at_ k w hk with rfl | ⟨q2,hk⟩
      · exact mw
      · rw [List.getElem?_set_ne (Ne.symm q)] at mu
        rw [List.getElem?_set_ne (Ne.symm q2)] at mw
        exact S.dis i k u w l hik hi hk mu mw
end
section
variable [Xw]
variable {ss:List Slot} {nx:List Slot→Prop} {R:Ret} {K:PySem.W.Frag} {S:Addr} {j:Nat} {tb:(L2.St→XK)→TS} {th:TS}
theorem ws_try (J:List Slot→Prop) (Dx:Ex→Prop) (hb:∀ E:Ent0,@Ws (xwT E J Dx) ss (tb (xwT E J Dx).e) nx R)
    (hh:∀ ss1 x,J ss1→Dx x→PySem.W.exmOne K (.ref x.C) (.ref S)=some true∧Ws (ss1.set j (.is (.exc x.C x.ns x.xs))) th (fun ss2=>nx (ss2.set j .any)) R):Ws ss (tTry K S j tb th) nx R:=⟨fun E D σ F H S0 hn hr=>by
  refine ⟨(xwT (E.toEnt0.at F) J Dx).e,@Ws.go (xwT (E.toEnt0.at F) J Dx) _ _ _ _ (hb (E.toEnt0.at F)) (@Ent.mk (xwT (E.toEnt0.at F) J Dx) (E.toEnt0.at F) fun ss σ F H x C dx hJ S d hat=>⟨ss,F,x,hJ,S,d,hat⟩) D σ F H S0.atF (fun ss' σ' F' H' n S' ff=>hn ss' σ' F' H' n (S0.un S') ff) (fun v F' H' f ok=>hr v F' H' (S0.toFin.un f) (Ret.un ok)),fun σ1 C dx ea H1 he hea=>?_⟩
  obtain ⟨ss1,F1,x,hJ,S1,hD,eC,hat⟩:=he
  obtain ⟨hx1,hw⟩:=hh ss1 x hJ hD
  cases eC
  have S1':=S0.un S1
  have m:=S1'.alloc hea (excO ea x.C dx)
  have r:Rep (upd F1 ea (excO ea x.C dx)) (.ref ea) (.exc x.C x.ns x.xs):=by
    rcases hat with ⟨e1,e2,e3⟩ | ⟨a,vs,e1,e2,e3,e4⟩
    · subst e3;rw [e1,e2];exact .exc0 ZA3
    · subst e1
      exact .exc ZA3 (m.ff _ _ e2) e3 (e4.mono m.ff)
  exact ⟨hx1,hw.go E (D.drop j) _ _ _ (m.st.setIs r) (fun ss2 σ2 F3 H3 n2 S2 ff=>hn _ _ F3 H3 n2 (S2.setAny j) (S1.f0.trans (m.ff.trans ff))) fun v F' H' f ok=>hr v F' H' f ok⟩⟩
end
end Fz
set_option Elab.async false
set_option linter.all false
set_option maxRecDepth 100000
set_option maxHeartbeats 4000000
namespace Fz
open PySem PySem.Spec PyProof.Rows L2 Lw
def tyX (K:PySem.W.Frag) (p:PV) (t:Value):Prop:=match p with
  | .exc C _ _=>t=.ref C∧ExT K C
  | p=>t=tyV p
section
variable [Xw]
variable {E:Ent0} {ss:List Slot} {σ:L2.St} {F H F' H':Hp} {K:PySem.W.Frag} {te:TE} {k:PV→Prop} {v:V} {fld:Str}
theorem Rep.tyE {p:PV} {t c:Value} {b:Bool} (s:Same F H) (r:Rep F v p) (h:tyX K p t) (hb:PySem.W.kitOne K t c=some b) (hc:∀ C ns xs,p≠.obj C ns xs) (hn:∀ a xs,p≠.con a xs):TyE K H v t:=by
  cases r with
  | non=>cases (show t=.type "NoneType" from h);exact .inl .non
  | bl b=>cases (show t=.type "bool" from h);exact .inl (.bl b)
  | int i=>cases (show t=.type "int" from h);exact .inl (.int i)
  | str x=>cases (show t=.type "str" from h);exact .inl (.str x)
  | lst e _=>cases (show t=.type "list" from h);exact .inl (.lst (s _ _ e))
  | tup e _=>cases (show t=.type "tuple" from h);exact .inl (.tup (s _ _ e))
  | dct e _ _=>cases (show t=.type "dict" from h);exact .inl (.dK (s _ _ e))
  | obj _ _ _ _=>exact absurd rfl (hc _ _ _)
  | con=>exact absurd rfl (hn _ _)
  | exc0 e=>
    obtain ⟨rfl,g⟩:=h
    exact .inr ⟨_,_,none,rfl,rfl,s _ _ e,g,fun d z=>by cases z⟩
  | exc e e2 _ _=>
    obtain ⟨rfl,g⟩:=h
    exact .inr ⟨_,_,_,rfl,rfl,s _ _ e,g,fun d z=>by cases z;exact ⟨_,s _ _ e2⟩⟩
theorem ZAi {cv:V} (h:Wp ss te fun p=>((∀ C ns xs,p≠.obj C ns xs)∧∀ a xs,p≠.con a xs)∧∃ t c b,clsV cv c∧tyX K p t∧PySem.W.kitOne K t c=some b∧k (.bl b)):Wp ss (tCB (rIsiE K) (ZA9 te (ZA9 (tC cv) ZAa))) k:=⟨fun E σ F H Q S q=>
  h.go E σ F H _ S fun v p F1 H1 m1 r ⟨⟨h1,h2⟩,t,c,b,hc,ht,hb,kk⟩=>⟨v,cv,c,t,b,rfl,hc,r.tyE m1.st.fh ht hb h1 h2,hb,q _ _ F1 H1 m1 (.bl _) kk⟩⟩
theorem ZGP (h:Wp ss te fun p=>∃ C x,p=.exc C [fld] [x]∧ExGet K C∧PySem.W.hasDictIn K C=true∧NoAttr K C fld∧k x):Wp ss (tFldE K te fld) k:=⟨fun E σ F H Q S q=>
  h.go E σ F H _ S fun v p F1 H1 m1 r ⟨C,x,e,g,hd,n,kk⟩=>by
    subst e
    cases r with
    | @exc a _ dx _ vs _ e1 e2 e3 e4=>
      match vs,e4 with
      | [u],.cons r1 .nil=>exact ⟨a,C,dx,_,u,rfl,m1.st.fh _ _ e1,m1.st.fh _ _ e2,g,hd,n,by simp [List.zip,List.lookup],q _ _ F1 H1 m1 r1 kk⟩⟩
end
end Fz
set_option Elab.async false
set_option linter.all false
set_option maxRecDepth 100000
set_option maxHeartbeats 4000000
namespace L2
open PySem PySem.Spec PyProof.Rows
def ZHP (s:Stmt):Stmt:=match s with
  | .ClassDef _ _ _ (d :: _) ..=>d
  | s=>s
def ZDo (P:Program) (w:World) (K:PySem.W.Frag) (mg:Str→Option Value) (base:Heap) (C:Addr) (fld:Str):Prop:=
  ∃ (fI:Addr) (fd:FuncData) (par:Str),ExI K C fI fld∧FnOk P w K mg base CX0 1 fI fd ["self", par] (ZFO C fld)∧Binds K fd ["self", par] []
theorem ZDI {C:Addr} {fld:Str} {a b:Str}:∀ vs H Q E,ZFO C fld vs H Q E→vs.length=[a,b].length:=fun vs H Q E h=>by obtain ⟨ea,v,rfl,_⟩:=h;rfl
theorem ZEv {C:Addr} {fld:Str} {vs:List V} {H:Hp} {Q:VK} {E:XK} {N:List Str} (hN:N.length=2) (h:ZFO C fld vs H Q E) :
    tSeq (ZEJ (ZGZ C (ZA9 (ZBK 0) (ZA9 (tSay (ZBK 1)) ZAa)))) (tSeq (sExc C fld (ZBK 0) (ZBK 1)) tNext) { nx:=fun _ H'=>Q .non H',rt:=Q } (start N vs) H:=by
  obtain ⟨ea,v,rfl,sv,hx,q⟩:=h
  have e0:(start N [V.ref ea,v])=[some (.ref ea),some v]:=by
    unfold start
    simp [hN]
  rw [e0]
  refine ⟨_,rfl,_,rfl,sv,fun y=>⟨ea,_,rfl,hx,?_⟩⟩
  refine ⟨_,rfl,_,rfl,ea,rfl,hx,fun d hd=>q d hd⟩
section
variable {X:Cx} {x:Str} {C:Addr} {fld:Str} {E:St→XK} {np cpos pos:Pos} {e0:Expr} {t:TA} {j:Nat}
theorem ZCj (c:ZDo X.prog X.w X.K X.mg X.base C fld) (hg:Gl X x) (hm:X.mg x=some (.ref C)) (hr:Room j X.A) (hj:2≤j) (hc:X.calm=true) (hex:X.ex=[]) (go:Goes X E) (ha:QA X [e0] t)
    (hdb:(x == ("__debug__" : Str))=false:=by decide) (he:starEach [e0] X.env=(false,eval e0 X.env) :: starEach [] X.env:=by rfl) (hpl:(backTo cpos (starEach [] X.env)).any (·.1)=false:=by rfl) :
    QS X (.Raise (some (.Call (.Name x np) [e0] [] cpos)) none pos) (ZE9 C fld E t):=by
  obtain ⟨fI,fd,par,ci,Fn,hb⟩:=c
  exact ZIf ci hg hm Fn hb (hr.mono hj) hc hex go ha hdb he hpl
end
end L2
set_option Elab.async false
set_option linter.all false
set_option maxRecDepth 100000
set_option maxHeartbeats 4000000
namespace Fz
open PySem PySem.Spec PyProof.Rows L2 Lw
theorem ZHx {α:Type} (f:α→PV) (L:List α) (i:Nat) (e:α):(L.map f).set i (f e)=(L.set i e).map f:=by rw [List.map_set]
theorem maxminB {b c n:Int} (hb:1≤b) (hc:b≤c) (hn:0≤n):∃ m:Nat,(if (if c < n then c else n) > b then (if c < n then c else n) else b)=(m:Int)∧(m:Int)≤c:=by
  have h:∀ z:Int,1≤z→z≤c→∃ m:Nat,z=(m:Int)∧(m:Int)≤c:=fun z h0 h1=>⟨z.toNat,by omega,by omega⟩
  apply h
  · split
    · omega
    · omega
  · split
    · split <;> omega
    · omega
end Fz
set_option Elab.async false
set_option linter.all false
set_option maxRecDepth 100000
set_option maxHeartbeats 4000000
namespace Fz
open PySem PySem.Spec PyProof.Rows L2 Lw
def extK (K:PySem.W.Frag) (C:Addr):Bool:=PySem.W.findIn K (.ref C) "__getattribute__" == some (some (.builtin "BaseException.__getattribute__")) && (PySem.W.findIn K (.ref C) "__getattr__" == some none && (PySem.W.mroIn K C (.type "BaseException") == some true && ((PySem.W.clsIn K C).isSome && (PySem.W.findIn K (.ref C) "__class__" == some (some (.builtin "object.__class__")) && (PySem.W.specialIn K (.builtin "object.__class__") "__get__" == some (some (.builtin "getset_descriptor.__get__")) && (PySem.W.takesIn K (.builtin "object.__class__") == some true && PySem.W.mroIn K C (.type "object") == some true))))))
theorem extK_of {K:PySem.W.Frag} {C:Addr} (h:extK K C=true):ExT K C:=by
  unfold extK at h
  simp only [Bool.and_eq_true,beq_iff_eq] at h
  obtain ⟨h1,h2,h3,h4,h5,h6,h7,h8⟩:=h
  exact ⟨⟨h1,h2,h3⟩,h4,h5,h6,h7,h8⟩
def ZBS (K:PySem.W.Frag) (cs:List Addr) (S C:Addr) (i:Nat):Bool:=extK K C && (PySem.W.kitOne K (.ref C) (.ref S) == some true && (PySem.W.kitOne K (.ref C) (.type "ValueError") == some true && (List.range cs.length).all fun j=>PySem.W.kitOne K (.ref C) (.ref (cs.getD j 0)) == some (decide (j=i))))
structure Alone (K:PySem.W.Frag) (cs:List Addr) (S C:Addr) (i:Nat):Prop where
  ex:ExT K C
  st:PySem.W.kitOne K (.ref C) (.ref S)=some true
  ve:PySem.W.kitOne K (.ref C) (.type "ValueError")=some true
  at_:∀ j,j < cs.length→PySem.W.kitOne K (.ref C) (.ref (cs.getD j 0))=some (decide (j=i))
theorem ZBm {K:PySem.W.Frag} {cs:List Addr} {S C:Addr} {i:Nat} (h:ZBS K cs S C i=true):Alone K cs S C i:=by
  unfold ZBS at h
  simp only [Bool.and_eq_true,beq_iff_eq,List.all_eq_true] at h
  obtain ⟨h1,h2,h3,h4⟩:=h
  exact ⟨extK_of h1,h2,h3,fun j hj=>h4 j (List.mem_range.mpr hj)⟩
theorem flat_bls (bs:List Bool):(bs.map V.bl).all ZAz=true:=by
  rw [List.all_eq_true];intro x hx
  obtain ⟨y,_,rfl⟩:=List.mem_map.mp hx;rfl
section
variable [Xw]
variable {ss:List Slot} {K:PySem.W.Frag} {ta:TE} {k:PV→Prop} {a:Addr} {ns:List Str}
theorem wp_inC {neg:Bool} (c:Con K a (ns.map .str)) (h:Wp ss ta fun p=>∃ x,p=.str x∧k (.bl (if neg then !decide (x∈ns) else decide (x∈ns)))):Wp ss (tOp (rIn K neg) ta (tC (.ref a))) k:=⟨fun E σ F H Q S q=>
  h.go E σ F H _ S fun v p F1 H1 m1 r1 ⟨x,e,kk⟩=>by
    subst e;cases r1
    have sq:=c.sq H1
    rw [ZEo] at sq
    refine ⟨a,ns.map V.str,rfl,.inr sq,rfl,ZBQ ns,?_⟩
    rw [ZEc]
    exact q _ _ F1 H1 m1 (.bl _) kk⟩
theorem ZIT {tb:TE} (h:Wq ss ta fun tp xs=>tp=false∧∃ bs:List Bool,xs=bs.map PV.bl∧Wp ss tb fun q=>∃ b,q=.bl b∧k (.int (ZEY (.bl b) (bs.map V.bl)))):Wp ss (tBM K "list" (ZHL K) ta (ZA9 tb ZAa)) k:=⟨fun E σ F H Q S q=>
  h.go E σ F H _ S fun v tp xs F1 H1 m1 sv ⟨et,bs,e,h2⟩=>by
    subst et;subst e
    obtain ⟨l,vs,rfl,hl,r⟩:=sv.seq m1.st
    refine ⟨.inl ⟨rfl,_,SqL.of hl⟩,h2.go E σ F1 H1 _ m1.st fun v2 p2 F2 H2 m2 r2 ⟨b,e2,kk⟩=>?_⟩
    subst e2;cases r2
    obtain ⟨l',vs',e',hl',r'⟩:=(sv.mv m2).seq m2.st
    cases e'
    rw [r'.bls] at hl'
    exact ⟨l,_,_,rfl,rfl,SqL.of hl',rfl,flat_bls bs,q _ _ F2 H2 (m1.trans m2) (.int _) kk⟩⟩
end
def ZEU (K:PySem.W.Frag) (cs:List Addr) (S:Addr):Pre:=fun l R=>∃ (C:Addr) (ms:List Str) (xs:List PV) (i:Nat),l=[.is (.exc C ms xs),.is (.int i)]∧Alone K cs S C i∧i < cs.length∧cs.length=16∧R=.is fun p=>p=.bl true
theorem cnt16 {i:Nat} (h:i < 16):ZEY (.bl true) (List.map V.bl [decide (0=i),decide (1=i),decide (2=i),decide (3=i),decide (4=i),decide (5=i),decide (6=i),decide (7=i),decide (8=i),decide (9=i),decide (10=i),decide (11=i),decide (12=i),decide (13=i),decide (14=i),decide (15=i)])=1:=by
  have c:i=0∨i=1∨i=2∨i=3∨i=4∨i=5∨i=6∨i=7∨i=8∨i=9∨i=10∨i=11∨i=12∨i=13∨i=14∨i=15:=by omega
  rcases c with rfl | rfl | rfl | rfl | rfl | rfl | rfl | rfl | rfl | rfl | rfl | rfl | rfl | rfl | rfl | rfl <;> rfl
theorem at16 {i:Nat} (h:i < 16):L2.atI [PV.bl (decide (0=i)),PV.bl (decide (1=i)),PV.bl (decide (2=i)),PV.bl (decide (3=i)),PV.bl (decide (4=i)),PV.bl (decide (5=i)),PV.bl (decide (6=i)),PV.bl (decide (7=i)),PV.bl (decide (8=i)),PV.bl (decide (9=i)),PV.bl (decide (10=i)),PV.bl (decide (11=i)),PV.bl (decide (12=i)),PV.bl (decide (13=i)),PV.bl (decide (14=i)),PV.bl (decide (15=i))] (i:Int)=some (.bl true):=by
  have c:i=0∨i=1∨i=2∨i=3∨i=4∨i=5∨i=6∨i=7∨i=8∨i=9∨i=10∨i=11∨i=12∨i=13∨i=14∨i=15:=by omega
  rcases c with rfl | rfl | rfl | rfl | rfl | rfl | rfl | rfl | rfl | rfl | rfl | rfl | rfl | rfl | rfl | rfl <;> rfl
theorem ZIM {x:Str} (h:x.length≤100) (hx:∀ c∈x.cps.toList,c < 16 ^ 8):(reprText x).length≤100000:=by
  have:=PySem.StrLaws.reprText_len x hx
  omega
end Fz
set_option Elab.async false
set_option linter.all false
set_option maxRecDepth 100000
set_option maxHeartbeats 4000000
namespace Fz
open PySem PySem.Spec PyProof.Rows L2 Lw
def okA (ns cs:List Str) (a:Str×Str):Bool:=decide (a.1∈cs) && (decide (a.2∉cs) && decide (ns.idxOf a.1≤ns.idxOf a.2))
end Fz
set_option Elab.async false
set_option linter.all false
set_option maxRecDepth 100000
set_option maxHeartbeats 4000000
namespace Fz
open PySem PySem.Spec PyProof.Rows L2 Lw
def isNon:PV→Bool
  | .non=>true
  | _=>false
theorem Rep.isNon {F:Hp} {v:V} {p:PV} (r:Rep F v p):decide (v=.non)=isNon p:=by
  cases r <;> rfl
section
variable [Xw]
variable {ss:List Slot} {ta tb:TE} {k:PV→Prop}
theorem ZI9 (h:Wp ss ta fun p=>Wp ss tb fun q=>q=.non∧k (.bl (isNon p))):Wp ss (tOp (fun x y H Q=>y=.non∧Q (.bl (decide (x=.non))) H) ta tb) k:=⟨fun E σ F H Q S q=>
  h.go E σ F H _ S fun v p F1 H1 m1 r1 h2=>h2.go E σ F1 H1 _ m1.st fun v2 p2 F2 H2 m2 r2 ⟨e,kk⟩=>by
    subst e;cases r2
    refine ⟨rfl,?_⟩
    rw [r1.isNon]
    exact q _ _ F2 H2 (m1.trans m2) (.bl _) kk⟩
theorem ZEX (h:Wp ss ta fun p=>Wp ss tb fun q=>q=.non∧k (.bl (!isNon p))):Wp ss (tOp (fun x y H Q=>y=.non∧Q (.bl (!decide (x=.non))) H) ta tb) k:=⟨fun E σ F H Q S q=>
  h.go E σ F H _ S fun v p F1 H1 m1 r1 h2=>h2.go E σ F1 H1 _ m1.st fun v2 p2 F2 H2 m2 r2 ⟨e,kk⟩=>by
    subst e;cases r2
    refine ⟨rfl,?_⟩
    rw [r1.isNon]
    exact q _ _ F2 H2 (m1.trans m2) (.bl _) kk⟩
end
end Fz
set_option Elab.async false
set_option linter.all false
set_option maxRecDepth 100000
set_option maxHeartbeats 4000000
namespace Fz
open PySem PySem.Spec PyProof.Rows L2 Lw
section
variable [Xw]
variable {ss:List Slot} {K:PySem.W.Frag} {ta tb te t u:TE} {k:PV→Prop} {pre:ZDv} {tA:TA}
theorem ZIZ (h:Wp ss te fun p=>∃ x,p=.str x∧x.length≤1000∧k (.bl (ZBt x))):Wp ss (ZBJ ZET [] E0 (ZA9 te ZAa)) k:=⟨fun E σ F H Q S q=>
  h.go E σ F H _ S fun v p F1 H1 m1 r ⟨x,e,hx,kk⟩=>by
    subst e;cases r
    exact ⟨x,rfl,hx,fun H3 s=>q _ _ F1 H3 (m1.trans (m1.st.grow s)) (.bl _) kk⟩⟩
theorem wp_addS (h:Wp ss ta fun p=>∃ x,p=.str x∧Wp ss tb fun q=>∃ y,q=.str y∧x.length+y.length≤100000∧k (.str (x++y))):Wp ss (tOp (fun x y H Q=>∃ i j,x=.str i∧y=.str j∧i.length+j.length≤sizeLine∧Q (.str (i++j)) H) ta tb) k:=⟨fun E σ F H Q S q=>
  h.go E σ F H _ S fun v p F1 H1 m1 r1 ⟨x,e,h2⟩=>h2.go E σ F1 H1 _ m1.st fun v2 p2 F2 H2 m2 r2 ⟨y,e2,hz,kk⟩=>by
    subst e;subst e2;cases r1;cases r2
    exact ⟨x,y,rfl,rfl,Nat.le_trans hz (by decide +kernel),q _ _ F2 H2 (m1.trans m2) (.str _) kk⟩⟩
end
end Fz
set_option Elab.async false
set_option linter.all false
set_option maxRecDepth 100000
set_option maxHeartbeats 4000000
namespace Fz
open PySem PySem.Spec PyProof.Rows L2 Lw
def inR (i:Int) (lo hi:Int):Prop:=lo≤i∧i≤hi
instance {i lo hi:Int}:Decidable (inR i lo hi):=by unfold inR;infer_instance
def ZAx (x:Str):Prop:=(reprText x).length≤100000∧x.length≤1000
theorem inAbc_of {c:Nat} (h:ZFB c=true):97≤c∧c≤122:=by
  refine Decidable.byContradiction fun hn=>?_
  have e:∀ i,i < 26→abc.cps.extract i (i+1)=#[97+i]:=by decide +kernel
  have no:∀ i,i+(Str.length ⟨#[c]⟩)≤abc.length→Builtin.Str.subAt abc ⟨#[c]⟩ i=false:=fun i hi=>by
    have hi':i+1≤26:=hi
    show (abc.cps.extract i (i+1) == #[c])=false
    rw [e i (by omega)]
    cases hc:(#[97+i] == #[c]) with
    | false=>rfl
    | true=>
      have q:=eq_of_beq hc
      simp at q
      exact absurd ⟨by omega,by omega⟩ hn
  unfold ZFB at h
  rw [PySem.W.occ_nil_of_no _ _ 1 no] at h
  exact absurd h (by decide)
theorem ZIH {x:Str} (h:ZBt x=true):Nm x:=by
  unfold ZBt at h
  simp only [Bool.and_eq_true,decide_eq_true_eq,List.all_eq_true] at h
  obtain ⟨h1,h2,h3⟩:=h
  exact ⟨by omega,by omega,fun c hc=>inAbc_of (h3 c hc)⟩
theorem ZAq {x:Str} (h:x.length≤100) (hx:∀ c∈x.cps.toList,c < 16 ^ 8):ZAx x:=⟨ZIM h hx,by omega⟩
theorem say_app {x y:Str} (h:x.length+y.length≤100) (hx:∀ c∈x.cps.toList,c < 16 ^ 8) (hy:∀ c∈y.cps.toList,c < 16 ^ 8):ZAx (x++y):=by
  refine ZAq (by rw [ZCy];exact h) fun c hc=>?_
  rw [ZCt] at hc
  exact (List.mem_append.mp hc).elim (hx c) (hy c)
theorem nm_cps {x:Str} (h:Nm x):∀ c∈x.cps.toList,c < 16 ^ 8:=fun c hc=>Nat.lt_of_le_of_lt (h.2.2 c hc).2 (by decide)
end Fz
set_option Elab.async false
set_option linter.all false
set_option maxRecDepth 100000
set_option maxHeartbeats 4000000
namespace Fz
open PySem PySem.Spec PyProof.Rows L2 Lw
section
variable [Xw]
variable {ss:List Slot} {te:TE}
theorem wn_names {i:Nat} {k:List PV→Prop} (hi:ss[i]?=some .pot) (h:Wp ss te fun x=>∃ m,x=.int m∧0≤m∧m≤100∧∀ ns:List Str,(ns.length:Int)=m→(∀ x∈ns,Nm x)→ns.Nodup→k (ns.map PV.str)):Wn ss (ZBJ ZGR [] E0 (ZA9 (ZBK i) (ZA9 te ZAa))) k:=⟨fun E σ F H Q S q=>by
  obtain ⟨p,e,_⟩:=S.ok i _ hi
  refine ⟨_,e,h.go E σ F H _ S fun v x F1 H1 m1 r ⟨m,em,m0,m1',kk⟩=>?_⟩
  subst em;cases r
  refine ⟨p,m,rfl,m1.st.potAt hi e,m0,m1',fun l H2 ns hl s hl2 hz hN nd=>?_⟩
  have m2:=m1.st.pstep hi e s
  exact q l _ _ F1 H2 (m1.trans m2) (m1.st.newF hl) (m1.none hl) hl2 (ZBR ns) (kk ns hz hN nd)⟩
end
end Fz
set_option Elab.async false
set_option linter.all false
set_option maxRecDepth 100000
set_option maxHeartbeats 4000000
namespace L2
open PySem PySem.Spec PyProof.Rows
section
variable {κ:Type} [DecidableEq κ]
def valV (kvs:List (κ×V)) (k:κ):Option V:=(kvs.find? fun kv=>decide (kv.1=k)).map (·.2)
def ZDY (kvs:List (κ×V)) (k:κ) (v:V):List (κ×V):=
  if (kvs.any fun kv=>decide (kv.1=k))=true then kvs.map (fun kv=>if kv.1=k then (kv.1,v) else kv) else kvs++[(k,v)]
theorem ZGh {p:κ×V} {r:List (κ×V)} {k:κ} (e:p.1=k):valV (p :: r) k=some p.2:=by simp [valV,List.find?_cons,e]
theorem ZH0 {p:κ×V} {r:List (κ×V)} {k:κ} (e:¬ p.1=k):valV (p :: r) k=valV r k:=by simp [valV,List.find?_cons,e]
theorem ZGr (k:κ):∀ kvs:List (κ×V),(kvs.any fun kv=>decide (kv.1=k))=(valV kvs k).isSome
  | []=>rfl
  | p :: r=>by
    rw [List.any_cons]
    by_cases e:p.1=k
    · simp only [ZGh e,decide_eq_true e,Bool.true_or,Option.isSome_some]
    · rw [ZH0 e,decide_eq_false e,Bool.false_or];exact ZGr k r
theorem ZDq (kvs:List (κ×V)) (k:κ) (v:V):(ZDY kvs k v).length≤kvs.length+1:=by
  unfold ZDY
  split
  · rw [List.length_map];omega
  · rw [List.length_append,List.length_cons,List.length_nil];omega
theorem RelO.isSome_eq {o:Option V} {u:Option Value} (r:RelO o u):o.isSome=u.isSome:=by
  cases o with
  | none=>cases u with
    | none=>rfl
    | some _=>exact (show False from r).elim
  | some _=>cases u with
    | none=>exact (show False from r).elim
    | some _=>rfl
theorem KV.any {kvs:List (κ×V)} {vs:List (κ×Value)} (r:KV kvs vs) (k:κ):(kvs.any fun kv=>decide (kv.1=k))=vs.any fun kv=>decide (kv.1=k):=by
  unfold KV at r
  induction r with
  | nil=>rfl
  | cons h t ih=>rw [List.any_cons,List.any_cons,ih,h.1]
theorem KV.repl {kvs:List (κ×V)} {vs:List (κ×Value)} (r:KV kvs vs) (k:κ) {y:V} {u:Value} (ry:RelV y u) :
    KV (kvs.map fun kv=>if kv.1=k then (kv.1,y) else kv) (vs.map fun kv=>if kv.1=k then (kv.1,u) else kv):=by
  unfold KV at r ⊢
  induction r with
  | nil=>exact .nil
  | @cons p q ps qs h t ih=>
    rw [List.map_cons,List.map_cons]
    refine .cons ?_ ih
    obtain ⟨h1,h2⟩:=h
    by_cases e:p.1=k
    · rw [if_pos e,if_pos (h1.symm.trans e)];exact ⟨h1,ry⟩
    · rw [if_neg e,if_neg (fun z=>e (h1.trans z))];exact ⟨h1,h2⟩
theorem KV.put {kvs:List (κ×V)} {vs:List (κ×Value)} (r:KV kvs vs) (k:κ) {y:V} {u:Value} (ry:RelV y u):KV (ZDY kvs k y) (stored vs k u):=by
  unfold ZDY stored
  rw [r.any k]
  by_cases e:(vs.any fun kv=>decide (kv.1=k))=true
  · rw [if_pos e,if_pos e];exact r.repl k ry
  · rw [if_neg e,if_neg e];exact Paired.snoc r ⟨rfl,ry⟩
theorem KV.length {kvs:List (κ×V)} {vs:List (κ×Value)} (r:KV kvs vs):kvs.length=vs.length:=Paired.length r
end
theorem kV_is {P:Program} {w:World} {k:Key} {u:Value} (r:RelV (kV k) u):(ZB2 P w).is k u=true:=by
  cases k with
  | inl i=>obtain ⟨t,e⟩:=(show ∃ t,u=Value.int i t from r);subst e;exact ZGw P w i t
  | inr x=>obtain ⟨t,e⟩:=(show ∃ t,u=Value.str x t from r);subst e;exact ZGf P w x t
theorem ZFH {P:Program} {w:World}:∀ {ks:List Key} {us:List Value},Vals (ks.map kV) us→ItemsAre (ZB2 P w) ks us
  | [],_,r=>by rw [List.map_nil] at r;cases r;exact .nil
  | k :: ks,_,r=>by
    rw [List.map_cons] at r
    cases r with
    | cons h t=>exact .cons (kV_is h) (ZFH t)
abbrev KT (H:Hp):List (List Key×V)→List (List Key×Addr×Value)→Prop:=Paired fun p q=>p.1=q.1∧H q.2.1=some (.tup (p.1.map kV))∧RelV p.2 q.2.2
theorem KT.val {H:Hp} {kvs:List (List Key×V)} {xs:List (List Key×Addr×Value)} (r:KT H kvs xs) (k:List Key):RelO (valV kvs k) ((atKey xs k).map (·.2)):=by
  induction r with
  | nil=>exact True.intro
  | @cons p q ps qs h t ih=>
    obtain ⟨h1,_,h2⟩:=h
    by_cases e:p.1=k
    · have e':q.1=k:=h1.symm.trans e
      have b:atKey (q :: qs) k=some q.2:=by simp [atKey,List.find?_cons,e']
      rw [ZGh e,b];exact h2
    · have e':¬ q.1=k:=fun z=>e (h1.trans z)
      have b:atKey (q :: qs) k=atKey qs k:=by simp [atKey,List.find?_cons,e']
      rw [ZH0 e,b];exact ih
theorem KT.repl {H:Hp} {kvs:List (List Key×V)} {xs:List (List Key×Addr×Value)} (r:KT H kvs xs) (k:List Key) {y:V} {u:Value} (ry:RelV y u) :
    KT H (kvs.map fun kv=>if kv.1=k then (kv.1,y) else kv) (xs.map (putAt k u)):=by
  induction r with
  | nil=>exact .nil
  | @cons p q ps qs h t ih=>
    rw [List.map_cons,List.map_cons]
    refine .cons ?_ ih
    obtain ⟨h1,h2,h3⟩:=h
    unfold putAt
    by_cases e:p.1=k
    · rw [if_pos e,if_pos (h1.symm.trans e)];exact ⟨h1,h2,ry⟩
    · rw [if_neg e,if_neg (fun z=>e (h1.trans z))];exact ⟨h1,h2,h3⟩
theorem KT.put {H:Hp} {kvs:List (List Key×V)} {xs:List (List Key×Addr×Value)} (r:KT H kvs xs) (k:List Key) {b:Addr} {y:V} {u:Value} (hb:H b=some (.tup (k.map kV))) (ry:RelV y u) :
    KT H (ZDY kvs k y) (storedH xs k b u):=by
  have e:(kvs.any fun kv=>decide (kv.1=k))=(atKey xs k).isSome:=by
    rw [ZGr,(r.val k).isSome_eq,Option.isSome_map]
  unfold ZDY storedH
  rw [e]
  by_cases q:(atKey xs k).isSome=true
  · rw [if_pos q,if_pos q];exact r.repl k ry
  · rw [if_neg q,if_neg q];exact Paired.snoc r ⟨rfl,hb,ry⟩
theorem KT.keeps {H H':Hp} {kvs:List (List Key×V)} {xs:List (List Key×Addr×Value)} (r:KT H kvs xs) (ht:∀ b ys,H b=some (.tup ys)→H' b=some (.tup ys)):KT H' kvs xs:=
  Paired.mapP r fun _ _ z=>⟨z.1,ht _ _ z.2.1,z.2.2⟩
section
variable {P:Program} {w:World} {H:Hp} {h:Heap} {a:Addr}
theorem rd_of {u:HO} (ok:HOk P w H h) (e:Rd H a u):ObjOk P w H h a u:=e.ok ok
theorem dk_rd {kvs:List (Key×V)} (ok:HOk P w H h) (e:Rd H a (.dK kvs)):kvs.length≤sizeLine∧(a == sysModules)=false∧∃ vs,KV kvs vs∧h.DictOf (ZB2 P w) a vs:=
  show ObjOk P w H h a (.dK kvs) from rd_of ok e
theorem dk_of {kvs:List (Key×V)} (ok:HOk P w H h) (e:H a=some (.dK kvs)):kvs.length≤sizeLine∧(a == sysModules)=false∧∃ vs,KV kvs vs∧h.DictOf (ZB2 P w) a vs:=dk_rd ok (.inl e)
theorem key_of {ks:List Key} (ok:HOk P w H h) (e:H a=some (.tup (ks.map kV))):(tupleKind (ZB2 P w)).is h ks a:=by
  obtain ⟨_,its,r,⟨o,h1,h2,n,h3⟩,_⟩:=(show ObjOk P w H h a (.tup (ks.map kV)) from ok a _ e)
  exact ⟨o,its.toArray,n,h1,h2,h3,by simpa using ZFH r⟩
theorem dt_rd {kvs:List (List Key×V)} (ok:HOk P w H h) (e:Rd H a (.dT kvs)):kvs.length≤sizeLine∧(a == sysModules)=false∧
    ∃ xs,KT H kvs xs∧h.DictOfH (tupleKind (ZB2 P w)) a xs:=by
  obtain ⟨z,y,xs,r,o,es,ep,h1,h2,h3,h4,h5⟩:=(show ObjOk P w H h a (.dT kvs) from rd_of ok e)
  refine ⟨z,y,xs,r,o,es,ep,h1,h2,h3,h4,fun x hx=>?_,h5⟩
  have all:∀ {l:List (List Key×V)} {m:List (List Key×Addr×Value)},KT H l m→∀ x∈m,(tupleKind (ZB2 P w)).is h x.1 x.2.1:=by
    intro l m q
    induction q with
    | nil=>intro x hx;exact nomatch hx
    | @cons p q ps qs hq t ih=>
      intro x hx
      rcases List.mem_cons.mp hx with e | hx
      · subst e
        exact key_of ok (by rw [← hq.1];exact hq.2.1)
      · exact ih x hx
  exact all r x hx
theorem dt_of {kvs:List (List Key×V)} (ok:HOk P w H h) (e:H a=some (.dT kvs)):kvs.length≤sizeLine∧(a == sysModules)=false∧
    ∃ xs,KT H kvs xs∧h.DictOfH (tupleKind (ZB2 P w)) a xs:=dt_rd ok (.inl e)
end
def DPut (H:Hp) (a:Addr) (y v:V) (H':Hp):Prop:=
  (∃ kvs k,H a=some (.dK kvs)∧y=kV k∧kvs.length < sizeLine∧H'=upd H a (.dK (ZDY kvs k v)))∨
  ∃ kvs k b,H a=some (.dT kvs)∧y=.ref b∧H b=some (.tup (k.map kV))∧kvs.length < sizeLine∧H'=upd H a (.dT (ZDY kvs k v))
theorem DPut.k {H:Hp} {a:Addr} {kvs:List (Key×V)} {k:Key} {v:V} (e:H a=some (.dK kvs)) (hl:kvs.length < sizeLine):DPut H a (kV k) v (upd H a (.dK (ZDY kvs k v))):=.inl ⟨kvs,k,e,rfl,hl,rfl⟩
section
variable {X:Cx} {pins:List (Addr×Obj)} {σ:St} {H:Hp} {s:Shared} {a:Addr} {y v:V} {u r:Value} {o:Option V} {A:Around} {E:Value→Shared→Prop}
theorem Inv.big (I:Inv X pins σ H s):sysModules < s.heap.objs.size:=by
  have h:mainGlobals < s.heap.objs.size:=(I.mod.glob.keeps I.bk).lt
  exact Nat.lt_trans (by decide) h
theorem ZIA {h':Heap} {t':Nat} {ob:HO} (I:Inv X pins σ H s) (mu:Mut (H a)) (hs:Heap.SameBut a s.heap h') (he:∃ q,h'.get? a=some q) (new:ObjOk X.prog X.w (upd H a ob) h' a ob) :
    Inv X pins σ (upd H a ob) { s with heap:=h',toks:=t' }:=
  I.write (x:=a) (e:=a) mu (.inl rfl) (fun b q hb z=>(hs.2 b hb).trans z) he new
theorem dk_new {P:Program} {w:World} {H':Hp} {h':Heap} {kvs:List (Key×V)} {vs:List (Key×Value)} (z:kvs.length≤sizeLine) (hd:(a == sysModules)=false) (rel:KV kvs vs) (dd:h'.DictOf (ZB2 P w) a vs) :
    ObjOk P w H' h' a (.dK kvs):=⟨z,hd,vs,rel,dd⟩
theorem ZIl {H':Hp} {Q:Unit→Shared→Prop} (hu:A.units+1 < cLine) (I:Inv X pins σ H s) (g:DPut H a y v H') (ry:RelV y u) (rv:RelV v r) (h:∀ s',Inv X pins σ H' s'→Q () s') :
    wpAny (model X.prog X.w) A (setItem (.ref a) u r) Q E s:=by
  rcases g with ⟨kvs,k,e,ey,l,eH⟩ | ⟨kvs,k,b,e,ey,eb,l,eH⟩
  · subst ey eH
    obtain ⟨z,hd,vs,rel,dd⟩:=dk_of I.hok e
    have hz:vs.length≤sizeLine:=by rw [← rel.length];exact z
    have hl:(ZDY kvs k v).length≤sizeLine:=by have:=ZDq kvs k v;omega
    refine wpAny_setItem_pairs (hsz:=hz) (kV_is ry) dd fun h' dd' hs=>h _ ?_
    have he:∃ q,h'.get? a=some q:=let ⟨q,_,_,hq,_⟩:=dd';⟨q,hq⟩
    exact ZIA I (by rw [e];exact True.intro) hs he (dk_new hl hd (rel.put k rv) dd')
  · subst ey eH
    cases (show u=Value.ref b from ry)
    obtain ⟨z,hd,xs,rel,dd⟩:=dt_of I.hok e
    have hz:xs.length≤sizeLine:=by rw [← Paired.length rel];exact z
    have hl:(ZDY kvs k v).length≤sizeLine:=by have:=ZDq kvs k v;omega
    refine wpAny_setItem_heap (hsz:=hz) (tupleKind_room_in1 hu) (key_of I.hok eb) dd fun h' dd' hs=>h _ ?_
    obtain ⟨q,es,ep,hq,h2,h3,h4,_,h5⟩:=dd'
    refine ZIA I (by rw [e];exact True.intro) hs ⟨q,hq⟩ ⟨hl,hd,_,(rel.put k eb rv).keeps fun c ys ec=>?_,q,es,ep,hq,h2,h3,h4,h5⟩
    rw [ZA5 (ne_of ec e (fun z=>nomatch z))]
    exact ec
end
section
variable {X:Cx} {pins:List (Addr×Obj)} {σ:St} {H:Hp} {s:Shared} {a:Addr} {kvs:List (Key×V)} {k:Key} {u:Value} {A:Around} {E:Value→Shared→Prop}
end
def sDPut (td ty tv:TE):TS:=fun D σ H=>tv σ H fun v H1=>td σ H1 fun x H2=>ty σ H2 fun y H3=>∃ a H4,x=.ref a∧DPut H3 a y v H4∧D.nx σ H4
section
variable {X:Cx} {o i e value:Expr} {pos pos' tpos:Pos} {td ty tv:TE}
theorem ps_dput (hu:X.A.units+1 < cLine) (ho:PE X o td) (hi:PE X i ty) (hv:PE X value tv) (hs:swapsWith value (some (.Subscript o i pos')) pos.line X.env=pure false) :
    PS X (.Assign [.Subscript o i pos'] value pos) (sDPut td ty tv):=by
  intro pins s σ H D I h
  refine wpAny_Assign_Subscript (thn (hv pins s σ H _ I h) fun r s1 ⟨v,H1,I1,rv,q1⟩=>thn (ho pins s1 σ H1 _ I1 q1) fun u s2 ⟨x,H2,I2,rx,q2⟩=>thn (hi pins s2 σ H2 _ I2 q2) fun iv s3 ⟨y,H3,I3,ry,a,H4,ex,g,q3⟩=>?_) hs
  subst ex
  obtain rfl:u=Value.ref a:=rx
  exact ZIl hu I3 g ry rv fun s4 I4=>⟨σ,H4,I4,q3⟩
end
theorem dk_empty {P:Program} {w:World} {H:Hp} (h:Heap) (hb:sysModules < h.objs.size):ObjOk P w H (h.push { cls:=.type "dict", data:=.dict #[] }) h.objs.size (.dK []):=
  ⟨Nat.zero_le _,beq_eq_false_iff_ne.mpr (Ne.symm (Nat.ne_of_lt hb)),[],.nil,Heap.DictOf.new h⟩
def ZHo:TE:=fun _ H Q=>∀ p,H p=none→Q (.ref p) (upd H p (.dK []))
section
variable {X:Cx} {pos:Pos}
theorem pe_dnewK:PE X (.Dict [] [] pos) ZHo:=fun pins s σ H Q I h=>
  wpAny_Dict_empty ⟨.ref s.heap.objs.size,_,I.laid (a:=s.heap.objs.size) (o:=.dK []) (t':=s.toks) (fun _ _ q=>Heap.get?_push_of_some _ q) (Nat.le_refl _) (dk_empty s.heap I.big),rfl,h _ (I.hok.fresh (Nat.le_refl _))⟩
end
structure M1 (X:Cx) (o:Expr) (m:Str) (apos:Pos) (e:Expr) (cpos:Pos):Prop where
  base:attributeBase o m X.env (eval o X.env)=eval o X.env
  few:((backTo cpos (starEach [e] X.env)).all (fun x=>!x.1) && (backToKw cpos (keywordEach [] X.env)).all (fun x=>x.1.isSome)
    && decide (([e]:List Expr).length+([]:List Keyword).length+(if ([]:List Keyword).isEmpty then 0 else 1) < 30))=true
  line:(apos.endLine == cpos.line)=true
  trees:backTo cpos (starEach [e] X.env)=[(false,eval e X.env)]
structure M2 (X:Cx) (o:Expr) (m:Str) (apos:Pos) (e f:Expr) (cpos:Pos):Prop where
  base:attributeBase o m X.env (eval o X.env)=eval o X.env
  few:((backTo cpos (starEach [e,f] X.env)).all (fun x=>!x.1) && (backToKw cpos (keywordEach [] X.env)).all (fun x=>x.1.isSome)
    && decide (([e,f]:List Expr).length+([]:List Keyword).length+(if ([]:List Keyword).isEmpty then 0 else 1) < 30))=true
  line:(apos.endLine == cpos.line)=true
  trees:backTo cpos (starEach [e,f] X.env)=[(false,eval e X.env),(false,eval f X.env)]
section
variable {X:Cx} {pins:List (Addr×Obj)} {σ:St} {H:Hp} {s:Shared} {a:Addr} {y d:V} {u r:Value} {o:Option V} {A:Around} {E:Value→Shared→Prop}
end
section
variable {X:Cx} {o e f:Expr} {apos cpos:Pos} {td ty tx:TE}
end
section
variable {X:Cx} {pins:List (Addr×Obj)} {σ:St} {H:Hp} {s:Shared} {a:Addr} {kvs:List (Key×V)} {A:Around} {E:Value→Shared→Prop}
end
section
variable {X:Cx} {pins:List (Addr×Obj)} {σ:St} {H:Hp} {s:Shared} {a:Addr} {y:V} {u:Value} {A:Around} {E:Value→Shared→Prop}
end
end L2
set_option Elab.async false
set_option linter.all false
set_option maxRecDepth 100000
set_option maxHeartbeats 4000000
namespace L2
open PySem PySem.Spec PyProof.Rows
section
variable {X:Cx}
end
end L2
set_option Elab.async false
set_option linter.all false
set_option maxRecDepth 100000
set_option maxHeartbeats 4000000
namespace L2
open PySem PySem.Spec PyProof.Rows
section
variable {X:Cx}
end
end L2
set_option Elab.async false
set_option linter.all false
set_option maxRecDepth 100000
set_option maxHeartbeats 4000000
namespace Fz
open PySem PySem.Spec PyProof.Rows L2 Lw
section
variable [Xw]
variable {ss:List Slot} {K:PySem.W.Frag} {ta tb:TE}
end
end Fz
set_option Elab.async false
set_option linter.all false
set_option maxRecDepth 100000
set_option maxHeartbeats 4000000
namespace Fz
open PySem PySem.Spec PyProof.Rows L2 Lw
inductive Iss (F:Hp):List V→List Slot→Prop where
  | nil:Iss F [] []
  | cons {v:V} {p:PV} {vs:List V} {l:List Slot}:Rep F v p→Iss F vs l→Iss F (v :: vs) (.is p :: l)
inductive Lent (σ:L2.St) (F:Hp) (i:Nat) (t:OV):List V→List Slot→Prop where
  | here {v:V} {vs:List V} {l:List Slot}:σ[i]?=some (some v)→Iss F vs l→Lent σ F i t (v :: vs) (.ow true t :: l)
  | there {v:V} {p:PV} {vs:List V} {l:List Slot}:Rep F v p→Lent σ F i t vs l→Lent σ F i t (v :: vs) (.is p :: l)
theorem Iss.mono {F F':Hp} (s:Same F F'):∀ {vs:List V} {l:List Slot},Iss F vs l→Iss F' vs l
  | _,_,.nil=>.nil
  | _,_,.cons r t=>.cons (r.mono s) (t.mono s)
theorem Lent.mono {σ:L2.St} {i:Nat} {t:OV} {F F':Hp} (s:Same F F'):∀ {vs:List V} {l:List Slot},Lent σ F i t vs l→Lent σ F' i t vs l
  | _,_,.here e r=>.here e (r.mono s)
  | _,_,.there r h=>.there (r.mono s) (h.mono s)
theorem Iss.len {F:Hp}:∀ {vs:List V} {l:List Slot},Iss F vs l→l.length=vs.length
  | _,_,.nil=>rfl
  | _,_,.cons _ t=>by rw [List.length_cons,List.length_cons,t.len]
theorem Lent.len {σ:L2.St} {i:Nat} {t:OV} {F:Hp}:∀ {vs:List V} {l:List Slot},Lent σ F i t vs l→l.length=vs.length
  | _,_,.here _ r=>by rw [List.length_cons,List.length_cons,r.len]
  | _,_,.there _ h=>by rw [List.length_cons,List.length_cons,h.len]
structure MvM (E:Ent0) (ss:List Slot) (σ:L2.St) (i:Nat) (lt:Bool) (t t':OV) (F H F' H':Hp):Prop where
  st:Sg E (ss.set i (.ow lt t')) σ F' H'
  ff:Same F F'
  hh:∀ a o,ZC1 ss σ a→a∉t.addrs→H a=some o→H' a=some o
  nn:∀ a o,F' a=some o→F a=some o∨H a=none
section
variable {E:Ent0} {ss:List Slot} {σ:L2.St} {F H F' H':Hp}
theorem MvM.of {i:Nat} {lt:Bool} {t:OV} (hi:ss[i]?=some (.ow lt t)) (m:Mv E ss σ F H F' H'):MvM E ss σ i lt t t F H F' H':=⟨by
  rw [show ss.set i (.ow lt t)=ss from by
    apply List.ext_getElem?
    intro n
    by_cases q:i=n
    · subst q;rw [List.getElem?_set_self (List.getElem?_eq_some_iff.mp hi).1,hi]
    · rw [List.getElem?_set_ne q]]
  exact m.st,m.ff,fun a o n _ e=>m.hh a o n e,m.nn⟩
theorem Sg.backM {i:Nat} {lt:Bool} {nk nk':NK} {a0:Addr} {us us':List OV} (S:Sg E ss σ F H) (hi:ss[i]?=some (.ow lt (.nd nk a0 us))) (f:Fin ⟨[],F,H,(OV.nd nk a0 us).addrs⟩ F' H') (r:Orep F' H' (.ref a0) (.nd nk' a0 us')) (nd:(OV.nd nk' a0 us').addrs.Nodup) (q:∀ a∈(OV.nd nk' a0 us').addrs,F' a=none∧(H a=none∨a∈(OV.nd nk a0 us).addrs)) :
    MvM E ss σ i lt (.nd nk a0 us) (.nd nk' a0 us') F H F' H':=by
  obtain ⟨v0,e0,r0,nd0,q0⟩:=S.ok i _ hi
  have ev:v0=.ref a0:=by cases r0;rfl
  subst ev
  have hlt:i < ss.length:=(List.getElem?_eq_some_iff.mp hi).1
  have kp:∀ a o,a∉(OV.nd nk a0 us).addrs→H a=some o→H' a=some o:=fun a o n e=>f.keep a o ⟨List.not_mem_nil,n⟩ e
  have newF:∀ a,H a≠none→F a=none→F' a=none:=fun a h1 h2=>by
    cases e:F' a with
    | none=>rfl
    | some o=>
      rcases f.fresh a o e with z | z
      · rw [show F a=some o from z] at h2;cases h2
      · exact absurd z h1
  have notB:∀ a,a∈E.A→a∉(OV.nd nk a0 us).addrs:=fun a hA hm=>by
    rcases (q0 a hm).2 with z | ⟨_,z⟩
    · exact S.a0 a hA z
    · exact (S.b0 a z).2 hA
  have other:∀ (j:Nat) s,j≠i→ss[j]?=some s→∀ a,ZB1 s σ[j]? a→a∉(OV.nd nk a0 us).addrs:=fun j s hj hs a ho hm=>S.dis j i s _ a hj hs hi ho hm
  refine ⟨⟨⟨f.fh,S.f0.trans f.f0,fun a o hA e=>?_,fun a o e=>?_,fun a hA=>?_,fun a hA=>?_,S.a0,fun a hB=>?_,fun a hB=>?_,S.b0⟩,by rw [List.length_set];exact S.len,fun j s hj=>?_,fun j k s u b hjk hj hk ms mu=>?_⟩,f.f0,fun a o _ n e=>kp a o n e,fun a o e=>f.fresh a o e⟩
  · refine kp a o (fun hm=>?_) (S.keep a o hA e)
    rcases (q0 a hm).2 with z | ⟨_,z⟩
    · rw [e] at z;cases z
    · exact hA.2 z
  · rcases f.fresh a o e with z | z
    · exact S.fresh a o z
    · exact .inr (S.new0 z)
  · exact Pot.keep (S.pots a hA) fun o e=>kp a o (notB a hA) e
  · obtain ⟨_,_,e1,_⟩:=S.pots a hA
    exact newF a (by rw [e1];simp) (S.potF a hA)
  · exact newF a (S.bH a hB) (S.bF a hB)
  · by_cases hm:a∈(OV.nd nk a0 us).addrs
    · exact f.bH a hm
    · intro z
      cases e:H a with
      | none=>exact S.bH a hB e
      | some o=>rw [kp a o hm e] at z;cases z
  · by_cases c:j=i
    · subst c
      rw [List.getElem?_set_self hlt] at hj
      cases hj
      refine ⟨.ref a0,e0,r,nd,fun a ha=>⟨(q a ha).1,?_⟩⟩
      rcases (q a ha).2 with z | z
      · exact .inl (S.new0 z)
      · exact (q0 a z).2
    · rw [List.getElem?_set_ne (Ne.symm c)] at hj
      by_cases np:s=.pot
      · subst np
        obtain ⟨l,e,fl,hl,pt⟩:=S.ok j _ hj
        obtain ⟨_,_,e1,_⟩:=id pt
        exact ⟨l,e,newF l (by rw [e1];simp) fl,hl,Pot.keep pt fun o z=>kp l o (other j _ c hj l e) z⟩
      · exact Ok.go S hj f.f0 (fun a o ho e=>kp a o (other j s c hj a ho) e) newF np
  · have at_:∀ (n:Nat) s,(ss.set i (.ow lt (.nd nk' a0 us')))[n]?=some s→(n=i∧s=.ow lt (.nd nk' a0 us'))∨(n≠i∧ss[n]?=some s):=fun n s hn=>by
      by_cases c:n=i
      · subst c;rw [List.getElem?_set_self hlt] at hn;exact .inl ⟨rfl,(Option.some.inj hn).symm⟩
      · rw [List.getElem?_set_ne (Ne.symm c)] at hn;exact .inr ⟨c,hn⟩
    have cross:∀ (n:Nat) s,n≠i→ss[n]?=some s→ZB1 s σ[n]? b→b∉(OV.nd nk' a0 us').addrs:=fun n s hn hs ho hm=>by
      rcases (q b hm).2 with z | z
      · exact S.own_there hs ho z
      · exact other n s hn hs b ho z
    rcases at_ j s hj with ⟨e1,rfl⟩ | ⟨n1,h1⟩
    · rcases at_ k u hk with ⟨e2,rfl⟩ | ⟨n2,h2⟩
      · exact hjk (e1.trans e2.symm)
      · exact cross k u n2 h2 mu ms
    · rcases at_ k u hk with ⟨e2,rfl⟩ | ⟨n2,h2⟩
      · exact cross j s n1 h1 ms mu
      · exact S.dis j k s u b hjk h1 h2 ms mu
end
section
variable [Xw]
variable {ss:List Slot} {te:TE} {ta:TA} {i:Nat} {lt:Bool} {t:OV} {nx:List Slot→Prop} {R:Ret}
end
section
variable {pre:Pre} {H:Hp}
end
end Fz
set_option Elab.async false
set_option linter.all false
set_option maxRecDepth 100000
set_option maxHeartbeats 4000000
namespace Fz
open PySem PySem.Spec PyProof.Rows L2 Lw
section
variable {E:Ent0} {ss:List Slot} {σ:L2.St} {F H F' H':Hp} {j:Nat} {u:OV}
end
section
variable [Xw]
variable {ss:List Slot} {te:TE} {i j:Nat} {lt:Bool} {t u:OV}
end
end Fz
set_option Elab.async false
set_option linter.all false
set_option maxRecDepth 100000
set_option maxHeartbeats 4000000
namespace L2
open PySem PySem.Spec PyProof.Rows
section
variable {X:Cx} {o i value:Expr} {td ty tv:TE} {pos pos':Pos}
theorem ZIC (hu:X.A.units+1 < cLine) (ho:QE X o td) (hi:QE X i ty) (hv:QE X value tv) (hs:swapsWith value (some (.Subscript o i pos')) pos.line X.env=pure false:=by rfl) :
    QS X (.Assign [.Subscript o i pos'] value pos) (sDPut td ty tv):=⟨ps_dput hu ho.h hi.h hv.h hs⟩
theorem ZH6:QE X (.Dict [] [] pos) ZHo:=⟨pe_dnewK⟩
end
end L2
namespace Fz
open PySem PySem.Spec PyProof.Rows L2 Lw
def keyP:Key→PV
  | .inl i=>.int i
  | .inr x=>.str x
def hasK (ks:List Key) (k:Key):Bool:=ks.any fun k'=>decide (k'=k)
def ZEg (ks:List Key) (k:Key):List Key:=if hasK ks k=true then ks else ks++[k]
theorem keyP_v {F:Hp} {v:V} {k:Key} (r:Rep F v (keyP k)):v=kV k:=by
  cases k with
  | inl i=>cases r;rfl
  | inr x=>cases r;rfl
section
variable [Xw]
variable {ss:List Slot} {td ty tv:TE} {k:PV→Prop} {nx:List Slot→Prop} {R:Ret} {i:Nat} {lt:Bool}
theorem ZI5 {k:List Nat→OV→Prop} (h:∀ a,k [] (.nd (.dct []) a (([]:List PV).map .fz))):Wx ss ZHo k:=⟨fun E σ F H Q S q p hp=>by
  have m:=S.make hp (.dK [])
  refine q _ [] (.nd (.dct []) p (([]:List PV).map .fz)) F _ m (.nd (k:=.dct []) (vs:=[]) ZA3 trivial rfl .nil) (by rw [OV.addrs_nd];simp [NK.more,OV.addrsL_nil]) (fun a ha=>?_) (h p)
  rw [OV.addrs_nd] at ha
  have e:a=p:=by simpa [NK.more,OV.addrsL_nil] using ha
  subst e
  exact ⟨S.newF hp,S.new0 hp,.inr hp⟩⟩
theorem ZHz:∀ {ks:List Key} {vs:List V} {key:Key},ks.length=vs.length→(ks.zip vs).any (fun kv=>decide (kv.1=key))=hasK ks key
  | [],vs,key,h=>rfl
  | k' :: ks,w :: vs,key,h=>by
    rw [List.zip_cons_cons,List.any_cons,ZHz (by simpa using h)]
    rfl
  | _ :: _,[],_,h=>by simp at h
def ZCa:List Key→List V→Key→V→List V
  | k' :: ks,x :: xs,k,p=>(if k'=k then p else x) :: ZCa ks xs k p
  | _,xs,_,_=>xs
theorem ZHv:∀ {ks:List Key} {vs:List V} {key:Key} {v:V},(ks.zip vs).map (fun kv=>if kv.1=key then (kv.1,v) else kv)=ks.zip (ZCa ks vs key v)
  | [],vs,key,v=>by simp
  | k' :: ks,w :: vs,key,v=>by
    rw [List.zip_cons_cons,List.map_cons,ZHv,ZCa,List.zip_cons_cons]
    by_cases c:k'=key
    · rw [if_pos c,if_pos c]
    · rw [if_neg c,if_neg c]
  | _ :: _,[],_,_=>by simp [ZCa]
end
end Fz
set_option Elab.async false
set_option linter.all false
set_option maxRecDepth 100000
set_option maxHeartbeats 4000000
namespace Fz
open PySem PySem.Spec PyProof.Rows L2 Lw
def ZCY:List Key→Key→Option Nat
  | [],_=>none
  | k' :: ks,k=>if k'=k then some 0 else (ZCY ks k).map (· + 1)
theorem ZFM:∀ {ks:List Key} {key:Key} {n:Nat},ZCY ks key=some n→ks[n]?=some key
  | [],_,_,h=>by cases h
  | k' :: ks,key,n,h=>by
    rw [ZCY] at h
    by_cases c:k'=key
    · rw [if_pos c] at h;cases h;subst c;rfl
    · rw [if_neg c] at h
      cases e:ZCY ks key with
      | none=>rw [e] at h;cases h
      | some m=>rw [e] at h;cases h;exact ZFM (ks:=ks) e
theorem ZDh:∀ {ks:List Key} {key:Key},(ZCY ks key).isSome=hasK ks key
  | [],_=>rfl
  | k' :: ks,key=>by
    rw [ZCY]
    unfold hasK
    rw [List.any_cons]
    by_cases c:k'=key
    · rw [if_pos c,decide_eq_true c];rfl
    · rw [if_neg c,decide_eq_false c,Bool.false_or,Option.isSome_map,ZDh];rfl
theorem ZGy:∀ {ks:List Key} {vs:List V} {key:Key} {n:Nat} {v:V},ks.Nodup→ZCY ks key=some n→ZCa ks vs key v=vs.set n v
  | [],_,_,_,_,_,h=>by cases h
  | k' :: ks,[],key,n,v,_,h=>by rw [ZCa];simp;simp
  | k' :: ks,w :: vs,key,n,v,nd,h=>by
    rw [ZCY] at h
    obtain ⟨n1,n2⟩:=List.nodup_cons.mp nd
    rw [ZCa]
    by_cases c:k'=key
    · rw [if_pos c] at h;cases h
      rw [if_pos c,List.set_cons_zero]
      congr 1
      subst c
      have aux:∀ {ks:List Key} {vs:List V},k'∉ks→ZCa ks vs k' v=vs:=by
        intro ks
        induction ks with
        | nil=>intro vs _;rw [ZCa];simp
        | cons k2 ks ih=>
          intro vs hn
          cases vs with
          | nil=>rw [ZCa];simp
          | cons u vs=>
            rw [ZCa,if_neg (fun z=>hn (by rw [z];simp)),ih (fun z=>hn (by simp [z]))]
      exact aux n1
    · rw [if_neg c] at h
      cases e:ZCY ks key with
      | none=>rw [e] at h;cases h
      | some m=>
        rw [e] at h;cases h
        rw [if_neg c,List.set_cons_succ,ZGy n2 e]
section
variable [Xw]
variable {ss:List Slot} {ta td ty tv:TE} {k:PV→Prop} {nx:List Slot→Prop} {R:Ret} {i:Nat} {t:OV}
theorem ZBg {ks:List Key} {a:Addr} {us:List OV}:(OV.nd (.dct ks) a us).addrs=a :: OV.addrsL us:=by rw [OV.addrs_nd];rfl
theorem ZDC {lt:Bool}:∀ (m:List Nat) (ss:List Slot),ss[i]?=some (.ow lt t)→i∉m→(Fz.dropAll m ss)[i]?=some (.ow lt t):=by
  intro m
  induction m with
  | nil=>intro ss h _;exact h
  | cons j m ih=>
    intro ss h hm
    refine ih _ ?_ fun z=>hm (by simp [z])
    rw [List.getElem?_set_ne (by rintro rfl;exact hm (by simp))];exact h
theorem Sg.redict {lt:Bool} {E:Ent0} {σ:L2.St} {F0 F H0 H:Hp} {p:List Nat} {a:Addr} {ks ks':List Key} {us us':List OV} {vs':List V} {m:List Nat} {u:OV} (S0:Sg E ss σ F0 H0) (S:Sg E ss σ F H) (hi:ss[i]?=some (.ow lt t)) (hat:t.at p=some (.nd (.dct ks) a us))
    (hu:∀ a∈u.addrs,F a=none∧E.H0 a=none∧((∃ i∈m,∃ s,s≠Slot.pot∧ss[i]?=some s∧ZB1 s σ[i]? a)∨H0 a=none)) (him:i∉m)
    (hr:Oreps F H vs' us') (hl:ks'.length=vs'.length) (hnd:(OV.addrsL us').Nodup) (hsub:∀ b∈OV.addrsL us',b∈OV.addrsL us∨b∈u.addrs):Sg E ((Fz.dropAll m ss).set i (.ow lt (t.put p (.nd (.dct ks') a us')))) σ F (upd H a (.dK (ks'.zip vs'))):=by
  have hi':=ZDC m ss hi him
  obtain ⟨v,e,r,nd,q⟩:=S.ok i _ hi
  have ut:∀ b,b∈a :: OV.addrsL us→b∈t.addrs:=fun b hb=>OV.at_sub hat b (by rw [ZBg];exact hb)
  have own0:∀ b∈u.addrs,b∉t.addrs:=fun b hb z=>by
    rcases (hu b hb).2.2 with ⟨j,hj,s,_,hs,o⟩ | w
    · exact S.dis j i s _ b (by rintro rfl;exact him hj) hs hi o z
    · exact S0.own_there hi z w
  have ndn:(OV.nd (.dct ks) a us).addrs.Nodup:=by
    obtain ⟨l,rr,e1,_⟩:=OV.split hat
    rw [e1,List.nodup_append,List.nodup_append] at nd
    exact nd.1.2.1
  rw [ZBg] at ndn
  have na:∀ b∈OV.addrsL us',b≠a:=fun b hb z=>by
    subst z
    rcases hsub b hb with w | w
    · exact (List.nodup_cons.mp ndn).1 w
    · exact own0 b w (ut b (by simp))
  refine (S.dropAll m).mutO hi' hat (.nd (k:=.dct ks') ZA3 trivial hl (hr.mono (Same.refl _) fun b hb o ho=>by rw [ZA5 (na b hb)];exact ho)) (by rw [ZBg];exact List.nodup_cons.mpr ⟨fun z=>na a z rfl,hnd⟩) fun b hb=>?_
  rw [ZBg] at hb ⊢
  rcases List.mem_cons.mp hb with w | w
  · exact .inl (by simp [w])
  · rcases hsub b w with z | z
    · exact .inl (by simp [z])
    · refine .inr ⟨(hu b z).1,(hu b z).2.1,fun j s hs o=>?_⟩
      rcases ZCL hs with y | ⟨hs',hm⟩
      · subst y;cases o
      · rcases (hu b z).2.2 with ⟨i2,hi2,s2,_,hs2,o2⟩ | y
        · exact S.dis j i2 s s2 b (by rintro rfl;exact hm hi2) hs' hs2 o o2
        · exact S0.own_there hs' o y
def ZDk (ks:List Key) (us:List OV) (key:Key) (w:OV):List OV:=match ZCY ks key with
  | some n=>us.set n w
  | none=>us++[w]
theorem ZGj (h:Wx ss tv fun m w=>Wl ss i t td fun p u=>∃ lt a ks us,ss[i]?=some (.ow lt t)∧u=.nd (.dct ks) a us∧us.length≤99999∧ks.Nodup∧i∉m∧Wp ss ty fun q=>∃ key,q=keyP key∧nx ((Fz.dropAll m ss).set i (.ow lt (t.put p (.nd (.dct (ZEg ks key)) a (ZDk ks us key w)))))):Ws ss (sDPut td ty tv) nx R:=⟨fun E D σ F H S hn hr=>
  h.go E σ F H _ S fun v m w F1 H1 m1 r1 nd1 a1 h2=>h2.go E σ F1 H1 _ m1.st fun v2 p u F2 H2 m2 r2 hat ⟨lt,a,ks,us,hi,eu,hz,hk,him,h3⟩=>h3.go E σ F2 H2 _ m2.st fun v3 q F3 H3 m3 r3 ⟨key,eq,kk⟩=>by
    subst eu;subst eq
    have ev:v2=.ref a:=by cases r2;rfl
    subst ev
    have m23:=m2.trans m3
    have np:∀ b∈w.addrs,ZC1 ss σ b:=fun b hb k hk ek=>by
      rcases (a1 b hb).2.2 with ⟨j,hj,s,hs,hss,o⟩ | z
      · exact S.dis j k s _ b (fun e=>by subst e;rw [hss] at hk;exact hs (Option.some.inj hk)) hss hk o ek
      · exact S.own_there hk ek z
    have r1':Orep F3 H3 v w:=r1.mono m23.ff fun b hb o e=>m23.hh b o (np b hb) e
    have a1':∀ b∈w.addrs,F3 b=none∧E.H0 b=none∧((∃ i∈m,∃ s,s≠Slot.pot∧ss[i]?=some s∧ZB1 s σ[i]? b)∨H b=none):=fun b hb=>by
      refine ⟨?_,(a1 b hb).2⟩
      cases e:F3 b with
      | none=>rfl
      | some o=>
        rcases m23.nn b o e with z | z
        · rw [(a1 b hb).1] at z;cases z
        · exact absurd z (r1.there b hb)
    have r4:=r2.mv m2.st ⟨lt,hi⟩ hat m3
    cases r4 with
    | @nd _ _ vs _ ha sd ft rr=>
      have ft':ks.length=vs.length:=ft
      have vl:=rr.length
      have hzz:(ks.zip vs).length≤99999:=by rw [List.length_zip];omega
      refine ⟨a,_,rfl,by rw [keyP_v r3];exact DPut.k ha (ZGE hzz),?_⟩
      obtain ⟨v0,e0,r0,nd0,q0⟩:=m3.st.ok i _ hi
      have ndn:(OV.nd (.dct ks) a us).addrs.Nodup:=by
        obtain ⟨l,rr,e1,_⟩:=OV.split hat
        rw [e1,List.nodup_append,List.nodup_append] at nd0
        exact nd0.1.2.1
      rw [ZBg] at ndn
      have apart:∀ b∈w.addrs,b∉OV.addrsL us:=fun b hb z=>by
        have bt:b∈t.addrs:=OV.at_sub hat b (by rw [ZBg];simp [z])
        rcases (a1 b hb).2.2 with ⟨j,hj,s,_,hs,o⟩ | y
        · exact S.dis j i s _ b (by rintro rfl;exact him hj) hs hi o bt
        · exact S.own_there hi bt y
      obtain ⟨vs',ep,ft2,rr2,nd2,sb⟩:∃ vs':List V,ZDY (ks.zip vs) key v=(ZEg ks key).zip vs'∧(ZEg ks key).length=vs'.length∧Oreps F3 H3 vs' (ZDk ks us key w)∧(OV.addrsL (ZDk ks us key w)).Nodup∧∀ b∈OV.addrsL (ZDk ks us key w),b∈OV.addrsL us∨b∈w.addrs:=by
        unfold ZDY ZEg ZDk
        rw [ZHz ft']
        cases e:ZCY ks key with
        | some n=>
          have c:hasK ks key=true:=by rw [← ZDh,e];rfl
          have hnl:n < us.length:=by
            have:=(List.getElem?_eq_some_iff.mp (ZFM e)).1
            omega
          obtain ⟨l,r,e1,e2⟩:=ZAk (List.getElem?_eq_getElem hnl)
          rw [if_pos c,if_pos c,ZHv,ZGy hk e]
          refine ⟨vs.set n v,rfl,by rw [List.length_set];exact ft',rr.set n r1',?_,fun b hb=>?_⟩
          · show (OV.addrsL (us.set n w)).Nodup
            rw [e2]
            have n1:=(List.nodup_cons.mp ndn).2
            rw [e1] at n1
            exact ZHb n1 nd1 fun b hb=>.inr (by rw [← e1];exact apart b hb)
          · have hb':b∈OV.addrsL (us.set n w):=hb
            rw [e2] at hb'
            rcases List.mem_append.mp hb' with z | z
            · rcases List.mem_append.mp z with z | z
              · exact .inl (by rw [e1];simp [z])
              · exact .inr z
            · exact .inl (by rw [e1];simp [z])
        | none=>
          have c:¬ hasK ks key=true:=by rw [← ZDh,e];decide
          rw [if_neg c,if_neg c]
          refine ⟨vs++[v],by rw [List.zip_append ft'];rfl,by rw [List.length_append,List.length_append,ft'];rfl,rr.append (.one r1'),?_,fun b hb=>?_⟩
          · show (OV.addrsL (us++[w])).Nodup
            rw [ZBC,ZCG,List.nodup_append]
            exact ⟨(List.nodup_cons.mp ndn).2,nd1,fun x hx y hy e=>apart y hy (e▸hx)⟩
          · have hb':b∈OV.addrsL (us++[w]):=hb
            rw [ZBC,ZCG] at hb'
            exact List.mem_append.mp hb'
      rw [ep]
      exact hn _ σ F3 _ kk (Sg.redict (u:=w) S m3.st hi hat a1' him rr2 ft2 nd2 sb) (m1.ff.trans m23.ff)⟩
end
end Fz
set_option Elab.async false
set_option linter.all false
set_option maxRecDepth 100000
set_option maxHeartbeats 4000000
namespace Fz
open PySem PySem.Spec PyProof.Rows L2 Lw
def ZBr:List Str→Str→Option Nat
  | [],_=>none
  | g :: ns,f=>if g=f then some 0 else (ZBr ns f).map (· + 1)
def ZH3 (ns:List Str) (f:Str):List Str:=match ZBr ns f with
  | some _=>ns
  | none=>ns++[f]
def ZH1 (ns:List Str) (us:List OV) (f:Str) (w:OV):List OV:=match ZBr ns f with
  | some n=>us.set n w
  | none=>us++[w]
def ZFC (ns:List Str) (vs:List V) (f:Str) (w:V):List V:=match ZBr ns f with
  | some n=>vs.set n w
  | none=>vs++[w]
theorem ZGv:∀ {ns:List Str} {f:Str} {n:Nat},ZBr ns f=some n→n < ns.length
  | [],_,_,h=>by cases h
  | g :: ns,f,n,h=>by
    rw [ZBr] at h
    by_cases c:g=f
    · rw [if_pos c] at h;cases h;exact Nat.succ_pos _
    · rw [if_neg c] at h
      cases e:ZBr ns f with
      | none=>rw [e] at h;cases h
      | some m=>rw [e] at h;cases h;exact Nat.succ_lt_succ (ZGv e)
theorem ZGV:∀ {ns:List Str} {vs:List V} {f:Str} {n:Nat} {v:V},ZBr ns f=some n→vs[n]?=some v→(ns.zip vs).lookup f=some v
  | [],_,_,_,_,h,_=>by cases h
  | g :: ns,[],f,n,v,h,hv=>by simp at hv
  | g :: ns,w :: vs,f,n,v,h,hv=>by
    rw [ZBr] at h
    rw [List.zip_cons_cons]
    by_cases c:g=f
    · rw [if_pos c] at h;cases h
      simp at hv
      subst c
      rw [List.lookup_cons_self,hv]
    · rw [if_neg c] at h
      cases e:ZBr ns f with
      | none=>rw [e] at h;cases h
      | some m=>
        rw [e] at h;cases h
        rw [List.lookup_cons]
        have:(f == g)=false:=by simpa using fun z=>c z.symm
        rw [this]
        exact ZGV e (by simpa using hv)
theorem put_fs:∀ {ns:List Str} {vs:List V} {f:Str} {v:V},ns.length=vs.length→ZC9 f v (ns.zip vs)=(ZH3 ns f).zip (ZFC ns vs f v)∧(ZH3 ns f).length=(ZFC ns vs f v).length
  | [],[],f,v,_=>by simp [ZC9,ZH3,ZFC,ZBr]
  | [],_ :: _,_,_,h=>by simp at h
  | _ :: _,[],_,_,h=>by simp at h
  | g :: ns,w :: vs,f,v,h=>by
    obtain ⟨i1,i2⟩:=put_fs (ns:=ns) (vs:=vs) (f:=f) (v:=v) (by simpa using h)
    rw [List.zip_cons_cons]
    rw [show ZC9 f v ((g,w) :: ns.zip vs)=(if g=f then (g,v) :: ns.zip vs else (g,w) :: ZC9 f v (ns.zip vs)) from rfl]
    unfold ZH3 ZFC at i1 i2 ⊢
    rw [ZBr]
    by_cases c:g=f
    · rw [if_pos c,if_pos c]
      exact ⟨by simp,by simpa using h⟩
    · rw [if_neg c,if_neg c,i1]
      cases e:ZBr ns f with
      | none=>rw [e] at i2;exact ⟨by simp,by simpa using i2⟩
      | some m=>rw [e] at i2;exact ⟨by simp,by simpa using i2⟩
section
variable [Xw]
variable {ss:List Slot} {ta tv:TE} {k:PV→Prop} {nx:List Slot→Prop} {R:Ret} {i:Nat} {t:OV} {K:PySem.W.Frag} {f:Str}
theorem wl_fld {k:List Nat→OV→Prop} (h:Wl ss i t ta fun p u=>∃ C dx ns a us n w,u=.nd (.obj C dx ns) a us∧Cls K C∧NoAttr K C f∧ZBr ns f=some n∧us[n]?=some w∧k (p++[n]) w):Wl ss i t (tFld K ta f) k:=⟨h.hi,fun E σ F H Q S q=>
  h.go E σ F H _ S fun v p u F1 H1 m1 r1 h1 ⟨C,dx,ns,a,us,n,w,eu,hc,hn,hx,hw,kk⟩=>by
    subst eu
    cases r1 with
    | @nd _ _ vs _ ha sd ft rr=>
      obtain ⟨x,hx',rx⟩:=rr.get hw
      exact ⟨a,C,dx,ns.zip vs,x,rfl,ha,hc,hn,ZGV hx hx',q x (p++[n]) w F1 H1 m1 rx (OV.at_snoc h1 (by rw [OV.at_nd,hw];exact OV.at_nil)) kk⟩⟩
theorem ZBV {C dx:Addr} {ns:List Str} {a:Addr} {us:List OV}:(OV.nd (.obj C dx ns) a us).addrs=a :: dx :: OV.addrsL us:=by rw [OV.addrs_nd];rfl
theorem Sg.reobj {lt:Bool} {E:Ent0} {σ:L2.St} {F0 F H0 H:Hp} {p:List Nat} {a C dx:Addr} {ns ns':List Str} {us us':List OV} {vs':List V} {m:List Nat} {u:OV} (S0:Sg E ss σ F0 H0) (S:Sg E ss σ F H) (hi:ss[i]?=some (.ow lt t)) (hat:t.at p=some (.nd (.obj C dx ns) a us)) (hdx:H dx=some (.own a))
    (hu:∀ a∈u.addrs,F a=none∧E.H0 a=none∧((∃ i∈m,∃ s,s≠Slot.pot∧ss[i]?=some s∧ZB1 s σ[i]? a)∨H0 a=none)) (him:i∉m)
    (hr:Oreps F H vs' us') (hl:ns'.length=vs'.length) (hnd:(OV.addrsL us').Nodup) (hsub:∀ b∈OV.addrsL us',b∈OV.addrsL us∨b∈u.addrs):Sg E ((Fz.dropAll m ss).set i (.ow lt (t.put p (.nd (.obj C dx ns') a us')))) σ F (upd H a (.ins C dx (ns'.zip vs'))):=by
  have hi':=ZDC m ss hi him
  obtain ⟨v,e,r,nd,q⟩:=S.ok i _ hi
  have ut:∀ b,b∈a :: dx :: OV.addrsL us→b∈t.addrs:=fun b hb=>OV.at_sub hat b (by rw [ZBV];exact hb)
  have own0:∀ b∈u.addrs,b∉t.addrs:=fun b hb z=>by
    rcases (hu b hb).2.2 with ⟨j,hj,s,_,hs,o⟩ | w
    · exact S.dis j i s _ b (by rintro rfl;exact him hj) hs hi o z
    · exact S0.own_there hi z w
  have ndn:(OV.nd (.obj C dx ns) a us).addrs.Nodup:=by
    obtain ⟨l,rr,e1,_⟩:=OV.split hat
    rw [e1,List.nodup_append,List.nodup_append] at nd
    exact nd.1.2.1
  rw [ZBV] at ndn
  obtain ⟨n1,n2⟩:=List.nodup_cons.mp ndn
  obtain ⟨n3,n4⟩:=List.nodup_cons.mp n2
  have na:∀ b∈OV.addrsL us',b≠a:=fun b hb z=>by
    subst z
    rcases hsub b hb with w | w
    · exact n1 (by simp [w])
    · exact own0 b w (ut b (by simp))
  have nx':∀ b∈OV.addrsL us',b≠dx:=fun b hb z=>by
    subst z
    rcases hsub b hb with w | w
    · exact n3 w
    · exact own0 b w (ut b (by simp))
  have dxa:dx≠a:=fun z=>n1 (by simp [z])
  refine (S.dropAll m).mutO hi' hat (.nd (k:=.obj C dx ns') ZA3 (show upd H a _ dx=some (.own a) by rw [ZA5 dxa];exact hdx) hl (hr.mono (Same.refl _) fun b hb o ho=>by rw [ZA5 (na b hb)];exact ho)) (by
    rw [ZBV]
    exact List.nodup_cons.mpr ⟨fun z=>by
      rcases List.mem_cons.mp z with z | z
      · exact dxa z.symm
      · exact na a z rfl,List.nodup_cons.mpr ⟨fun z=>nx' dx z rfl,hnd⟩⟩) fun b hb=>?_
  rw [ZBV] at hb ⊢
  rcases List.mem_cons.mp hb with w | w
  · exact .inl (by simp [w])
  · rcases List.mem_cons.mp w with w | w
    · exact .inl (by simp [w])
    · rcases hsub b w with z | z
      · exact .inl (by simp [z])
      · refine .inr ⟨(hu b z).1,(hu b z).2.1,fun j s hs o=>?_⟩
        rcases ZCL hs with y | ⟨hs',hm⟩
        · subst y;cases o
        · rcases (hu b z).2.2 with ⟨i2,hi2,s2,_,hs2,o2⟩ | y
          · exact S.dis j i2 s s2 b (by rintro rfl;exact hm hi2) hs' hs2 o o2
          · exact S0.own_there hs' o y
theorem keepX {E:Ent0} {σ:L2.St} {F H F1 H1 F3 H3:Hp} {m:List Nat} {w:OV} {v:V} (S:Sg E ss σ F H) (m23:Mv E ss σ F1 H1 F3 H3) (r1:Orep F1 H1 v w) (a1:∀ a∈w.addrs,F1 a=none∧E.H0 a=none∧((∃ i∈m,∃ s,s≠Slot.pot∧ss[i]?=some s∧ZB1 s σ[i]? a)∨H a=none)) :
    Orep F3 H3 v w∧∀ b∈w.addrs,F3 b=none∧E.H0 b=none∧((∃ i∈m,∃ s,s≠Slot.pot∧ss[i]?=some s∧ZB1 s σ[i]? b)∨H b=none):=by
  have np:∀ b∈w.addrs,ZC1 ss σ b:=fun b hb k hk ek=>by
    rcases (a1 b hb).2.2 with ⟨j,hj,s,hs,hss,o⟩ | z
    · exact S.dis j k s _ b (fun e=>by subst e;rw [hss] at hk;exact hs (Option.some.inj hk)) hss hk o ek
    · exact S.own_there hk ek z
  refine ⟨r1.mono m23.ff fun b hb o e=>m23.hh b o (np b hb) e,fun b hb=>⟨?_,(a1 b hb).2⟩⟩
  cases e:F3 b with
  | none=>rfl
  | some o=>
    rcases m23.nn b o e with z | z
    · rw [(a1 b hb).1] at z;cases z
    · exact absurd z (r1.there b hb)
theorem ZIJ (h:Wx ss tv fun m w=>Wl ss i t ta fun p u=>∃ lt C dx ns a us,ss[i]?=some (.ow lt t)∧u=.nd (.obj C dx ns) a us∧Cls K C∧NoAttr K C f∧ns.length < 1000∧i∉m∧nx ((Fz.dropAll m ss).set i (.ow lt (t.put p (.nd (.obj C dx (ZH3 ns f)) a (ZH1 ns us f w)))))):Ws ss (sFld K ta tv f) nx R:=⟨fun E D σ F H S hn hr=>
  h.go E σ F H _ S fun v m w F1 H1 m1 r1 nd1 a1 h2=>h2.go E σ F1 H1 _ m1.st fun v2 p u F2 H2 m2 r2 hat ⟨lt,C,dx,ns,a,us,hi,eu,hc,hna,hz,him,kk⟩=>by
    subst eu
    have ev:v2=.ref a:=by cases r2;rfl
    subst ev
    obtain ⟨r1',a1'⟩:=keepX S m2 r1 a1
    cases r2 with
    | @nd _ _ vs _ ha sd ft rr=>
      have ft':ns.length=vs.length:=ft
      have vl:=rr.length
      obtain ⟨ep,ft2⟩:=put_fs (f:=f) (v:=v) ft'
      refine ⟨a,C,dx,ns.zip vs,rfl,ha,hc,hna,by rw [List.length_zip];omega,?_⟩
      obtain ⟨v0,e0,r0,nd0,q0⟩:=m2.st.ok i _ hi
      have ndn:(OV.nd (.obj C dx ns) a us).addrs.Nodup:=by
        obtain ⟨l,rr,e1,_⟩:=OV.split hat
        rw [e1,List.nodup_append,List.nodup_append] at nd0
        exact nd0.1.2.1
      rw [ZBV] at ndn
      have ndu:=(List.nodup_cons.mp (List.nodup_cons.mp ndn).2).2
      have apart:∀ b∈w.addrs,b∉OV.addrsL us:=fun b hb z=>by
        have bt:b∈t.addrs:=OV.at_sub hat b (by rw [ZBV];simp [z])
        rcases (a1 b hb).2.2 with ⟨j,hj,s,_,hs,o⟩ | y
        · exact S.dis j i s _ b (by rintro rfl;exact him hj) hs hi o bt
        · exact S.own_there hi bt y
      obtain ⟨rr2,nd2,sb⟩:Oreps F2 H2 (ZFC ns vs f v) (ZH1 ns us f w)∧(OV.addrsL (ZH1 ns us f w)).Nodup∧∀ b∈OV.addrsL (ZH1 ns us f w),b∈OV.addrsL us∨b∈w.addrs:=by
        unfold ZFC ZH1
        cases e:ZBr ns f with
        | some n=>
          have hnl:n < us.length:=by have:=ZGv e;omega
          obtain ⟨l,r,e1,e2⟩:=ZAk (List.getElem?_eq_getElem hnl)
          refine ⟨rr.set n r1',?_,fun b hb=>?_⟩
          · show (OV.addrsL (us.set n w)).Nodup
            rw [e2]
            rw [e1] at ndu
            exact ZHb ndu nd1 fun b hb=>.inr (by rw [← e1];exact apart b hb)
          · have hb':b∈OV.addrsL (us.set n w):=hb
            rw [e2] at hb'
            rcases List.mem_append.mp hb' with z | z
            · rcases List.mem_append.mp z with z | z
              · exact .inl (by rw [e1];simp [z])
              · exact .inr z
            · exact .inl (by rw [e1];simp [z])
        | none=>
          refine ⟨rr.append (.one r1'),?_,fun b hb=>?_⟩
          · show (OV.addrsL (us++[w])).Nodup
            rw [ZBC,ZCG,List.nodup_append]
            exact ⟨ndu,nd1,fun x hx y hy e=>apart y hy (e▸hx)⟩
          · have hb':b∈OV.addrsL (us++[w]):=hb
            rw [ZBC,ZCG] at hb'
            exact List.mem_append.mp hb'
      rw [ep]
      exact hn _ σ F2 _ kk (Sg.reobj (u:=w) S m2.st hi hat sd a1' him rr2 ft2 nd2 sb) (m1.ff.trans m2.ff)⟩
end
end Fz
set_option Elab.async false
set_option linter.all false
set_option maxRecDepth 100000
set_option maxHeartbeats 4000000
namespace Fz
open PySem PySem.Spec PyProof.Rows L2 Lw
section
variable [Xw]
variable {ss:List Slot} {te tv:TE} {ta:TA} {i:Nat} {lt:Bool} {t:OV} {nx:List Slot→Prop} {R:Ret} {K:PySem.W.Frag} {f:Str}
end
end Fz
set_option Elab.async false
set_option linter.all false
set_option maxRecDepth 100000
set_option maxHeartbeats 4000000
namespace L2
open PySem PySem.Spec PyProof.Rows
section
variable {X:Cx} {o e value:Expr} {f:Str} {pos pos' tpos:Pos} {ta tv:TE}
theorem qe_fld (he:QE X e ta) (hb:attributeBase e f X.env (eval e X.env)=eval e X.env:=by rfl):QE X (.Attribute e f pos) (tFld X.K ta f):=⟨pe_fld he.h hb⟩
theorem qs_fld (ha:QE X o ta) (hv:QE X value tv) (hs:swapsWith value (some (.Attribute o f pos')) pos.line X.env=pure false:=by rfl):QS X (.Assign [.Attribute o f pos'] value pos) (sFld X.K ta tv f):=⟨ps_fld ha.h hv.h hs⟩
end
end L2
namespace Fz
open PySem PySem.Spec PyProof.Rows L2 Lw
section
variable [Xw]
variable {ss:List Slot} {ta tv:TE} {nx:List Slot→Prop} {R:Ret} {i:Nat} {t:OV} {K:PySem.W.Frag} {f:Str}
end
end Fz
set_option Elab.async false
set_option linter.all false
set_option maxRecDepth 100000
set_option maxHeartbeats 4000000
namespace L2
open PySem PySem.Spec PyProof.Rows
section
variable {X:Cx} {o e:Expr} {td ty:TE} {apos cpos:Pos}
end
end L2
namespace Fz
open PySem PySem.Spec PyProof.Rows L2 Lw
section
variable [Xw]
variable {ss:List Slot} {td ty:TE} {nx:List Slot→Prop} {R:Ret} {i:Nat} {t:OV}
end
end Fz
set_option Elab.async false
set_option linter.all false
set_option maxRecDepth 100000
set_option maxHeartbeats 4000000
namespace L2
open PySem PySem.Spec PyProof.Rows
section
variable {X:Cx} {o e:Expr} {es:List Expr} {m x:Str} {C:Addr} {k j:Nat} {ps:List Str} {sp:Sp} {ta:TE} {t:TA} {apos pos p:Pos}
end
end L2
set_option Elab.async false
set_option linter.all false
set_option maxRecDepth 100000
set_option maxHeartbeats 4000000
namespace L2
open PySem PySem.Spec PyProof.Rows
end L2
set_option Elab.async false
set_option linter.all false
set_option maxRecDepth 100000
set_option maxHeartbeats 4000000
namespace L2
open PySem PySem.Spec PyProof.Rows
section
variable {prog:Program} {w:World} {A:Around} {E:Value→Shared→Prop} {s:Shared}
end
end L2
set_option Elab.async false
set_option linter.all false
set_option maxRecDepth 100000
set_option maxHeartbeats 4000000
namespace L2
open PySem PySem.Spec PyProof.Rows
section
variable {prog:Program} {w:World} {A:Around} {E:Value→Shared→Prop} {s:Shared}
end
section
variable {prog:Program} {w:World} {A:Around}
end
theorem IntsAre.len:∀ {vs:List Value} {ss:List Int},IntsAre vs ss→vs.length=ss.length
  | _,_,.nil=>rfl
  | _,_,.cons _ _ h=>by rw [List.length_cons,List.length_cons,IntsAre.len h]
section
variable {prog:Program} {w:World} {A:Around} {E:Value→Shared→Prop} {s:Shared}
end
end L2
set_option Elab.async false
set_option linter.all false
set_option maxRecDepth 100000
set_option maxHeartbeats 200000
namespace L2
open PySem PySem.Spec PyProof.Rows
section
variable {prog:Program} {w:World} {A:Around} {E:Value→Shared→Prop} {s:Shared}
end
end L2
set_option Elab.async false
set_option linter.all false
set_option maxRecDepth 100000
set_option maxHeartbeats 4000000
namespace L2
open PySem PySem.Spec PyProof.Rows
section
variable {prog:Program} {w:World} {A:Around} {R:Result→Shared→Prop} {I:Addr} {fp wr:List Addr} {G:Array GenState→Array GenState→Prop} {n:Nat} {P:Nat→Value→Prop} {St:Nat→Shared→Prop} {ss:List Int}
end
section
variable {prog:Program} {w:World} {A:Around} {E:Value→Shared→Prop} {s:Shared} {ss:List Int}
end
section
variable {X:Cx}
end
end L2
set_option Elab.async false
set_option linter.all false
set_option maxRecDepth 100000
set_option maxHeartbeats 4000000
namespace L2
open PySem PySem.Spec PyProof.Rows
section
variable {X:Cx}
end
end L2
set_option Elab.async false
set_option linter.all false
set_option maxRecDepth 100000
set_option maxHeartbeats 4000000
namespace L2
end L2
namespace Fz
open PySem PySem.Spec PyProof.Rows L2 Lw
section
variable [Xw]
variable {E:Ent0} {ss:List Slot} {σ:L2.St} {F H F' H':Hp} {K:PySem.W.Frag} {js:List Nat} {ta tb tc te:TE} {nx:List Slot→Prop} {R:Ret} {xs ys:List PV} {P:Program} {w:World}
end
end Fz
namespace Fz
open PySem PySem.Spec PyProof.Rows L2 Lw
section
variable [Xw]
variable {E:Ent0} {ss:List Slot} {σ:L2.St} {F H F' H':Hp} {K:PySem.W.Frag} {ta tb tc te:TE} {k:PV→Prop} {xs:List PV} {nx:List Slot→Prop} {R:Ret}
end
end Fz
set_option Elab.async false
set_option linter.all false
set_option maxRecDepth 100000
set_option maxHeartbeats 4000000
namespace L2
open PySem PySem.Spec PyProof.Rows
section
variable {X:Cx} {x:Str} {S:Addr} {body suite:List Stmt} {b0:Stmt} {np hpos pos:Pos} {tbd:(St→XK)→TS} {th:TS}
end
end L2
set_option Elab.async false
set_option linter.all false
set_option maxRecDepth 100000
set_option maxHeartbeats 4000000
namespace Fz
open PySem PySem.Spec PyProof.Rows L2 Lw
section
variable [Xw]
variable {ss:List Slot} {nx:List Slot→Prop} {R:Ret} {K:PySem.W.Frag} {S:Addr} {tb:(L2.St→XK)→TS} {th:TS} {ta te ti:TE} {xs:List PV} {F:Hp}
theorem Reps.rep {vs:List V} (h:Reps F vs xs):∀ n:Nat,Reps F (List.replicate n vs).flatten (List.replicate n xs).flatten
  | 0=>.nil
  | n+1=>by rw [List.replicate_succ,List.replicate_succ,List.flatten_cons,List.flatten_cons];exact h.append (Reps.rep h n)
end
end Fz
set_option Elab.async false
set_option linter.all false
set_option maxRecDepth 100000
set_option maxHeartbeats 4000000
namespace L2
open PySem PySem.Spec PyProof.Rows
section
variable {X:Cx}
end
end L2
set_option Elab.async false
set_option linter.all false
set_option maxRecDepth 100000
set_option maxHeartbeats 4000000
namespace Fz
open PySem PySem.Spec PyProof.Rows L2 Lw
section
variable [Xw]
variable {E:Ent0} {ss:List Slot} {σ:L2.St} {F H F' H':Hp} {K:PySem.W.Frag} {ta tb tc te:TE} {k:PV→Prop} {xs:List PV} {nx:List Slot→Prop} {R:Ret}
end
end Fz
set_option Elab.async false
set_option linter.all false
set_option maxRecDepth 100000
set_option maxHeartbeats 4000000
namespace Fz
open PySem PySem.Spec PyProof.Rows L2 Lw
section
variable [Xw]
variable {ss:List Slot} {pre:ZDv} {t:TA}
end
end Fz
set_option Elab.async false
set_option linter.all false
set_option maxRecDepth 100000
set_option maxHeartbeats 4000000
namespace Fz
open PySem PySem.Spec PyProof.Rows L2 Lw
section
variable {X:Cx}
end
section
variable [Xw]
variable {ss:List Slot} {K:PySem.W.Frag} {ta tb:TE} {k:PV→Prop}
end
end Fz
set_option Elab.async false
set_option linter.all false
set_option maxRecDepth 100000
set_option maxHeartbeats 4000000
namespace L2
open PySem PySem.Spec PyProof.Rows Lw
section
variable {X:Cx}
end
end L2
namespace Fz
open PySem PySem.Spec PyProof.Rows L2 Lw
section
variable [Xw]
variable {E:Ent0} {ss:List Slot} {σ:L2.St} {F H F' H':Hp} {K:PySem.W.Frag} {ta tb tc te:TE} {k:PV→Prop} {v:V} {tp:Bool} {xs:List PV} {nx:List Slot→Prop} {R:Ret}
end
end Fz
set_option Elab.async false
set_option linter.all false
set_option maxRecDepth 100000
set_option maxHeartbeats 4000000
namespace Fz
open PySem PySem.Spec PyProof.Rows L2 Lw
section
variable [Xw]
variable {E:Ent0} {ss:List Slot} {σ:L2.St} {F H F' H':Hp} {K:PySem.W.Frag} {js:List Nat} {ta tb te:TE} {nx:List Slot→Prop} {R:Ret}
end
end Fz
set_option Elab.async false
set_option linter.all false
set_option maxRecDepth 100000
set_option maxHeartbeats 4000000
namespace Fz
open PySem PySem.Spec PyProof.Rows L2 Lw
section
variable [Xw]
variable {E:Ent0} {ss:List Slot} {σ:L2.St} {F H F' H':Hp} {K:PySem.W.Frag} {js:List Nat} {i:Nat} {t:OV} {ta tb te:TE} {nx:List Slot→Prop} {R:Ret}
end
end Fz
set_option Elab.async false
set_option linter.all false
set_option maxRecDepth 100000
set_option maxHeartbeats 4000000
namespace L2
open PySem PySem.Spec PyProof.Rows
def clsNth (s:Stmt) (n:Nat):Stmt:=match s with
  | .ClassDef _ _ _ b ..=>b.getD n (.Pass ⟨0,0,0,0⟩)
  | s=>s
def tMakeX (C:Addr) (sp:Sp) (E:St→XK) (t:TA):TE:=fun σ H Q=>t σ H fun vs H1=>∀ x dx,H1 x=none→H1 dx=none→dx≠x→
  sp (.ref x :: vs) (upd (upd H1 dx (.own x)) x (.ins C dx [])) (fun v H2=>v=.non∧Q (.ref x) H2) (E σ)
def HasIX (P:Program) (w:World) (K:PySem.W.Frag) (mg:Str→Option Value) (base:Heap) (C:Addr) (k:Nat) (ps:List Str) (sp:Sp):Prop:=
  ∃ f fd,FnOk P w K mg base (CX1 P w) k f fd ps sp∧Binds K fd ps []∧Mk K C f
section
variable {X:Cx} {o e:Expr} {es:List Expr} {m x:Str} {C:Addr} {k j:Nat} {ps:List Str} {sp:Sp} {ta:TE} {t:TA} {apos pos p:Pos} {E:St→XK}
theorem ZIa {pins:List (Addr×Obj)} {σ:St} {H:Hp} {s:Shared} {Q:VK} {us:List Value} {vs:List V} {f:Addr} {fd:FuncData} (M:Mk X.K C f) (F:FnOk X.prog X.w X.K X.mg X.base (CX1 X.prog X.w) k f fd ps sp) (hr:Room (k+1) X.A) (hb:Binds X.K fd ps []) (go:Goes X E) (hex:X.ex=[])
    (I:Inv X pins σ H s) (r:Vals vs us)
    (h:∀ x dx,H x=none→H dx=none→dx≠x→sp (.ref x :: vs) (upd (upd H dx (.own x)) x (.ins C dx [])) (fun v H2=>v=.non∧Q (.ref x) H2) (E σ)) :
    wpAny (model X.prog X.w) X.A (call (.ref C) us) (EP X pins σ Q) X.xe s:=by
  have hq:=h (s.heap.objs.size+1) s.heap.objs.size (I.hok.fresh (Nat.le_succ _)) (I.hok.fresh (Nat.le_refl _)) (Nat.ne_of_lt (Nat.lt_succ_self _))
  have I2:=Inv.made (C:=C) I
  have r2:Vals (V.ref (s.heap.objs.size+1) :: vs) (Value.ref (s.heap.objs.size+1) :: us):=.cons rfl r
  have hl:(Value.ref (s.heap.objs.size+1) :: us++[]).length=ps.length:=by
    have e:=r2.length
    rw [F.len _ _ _ _ hq] at e
    rw [List.append_nil]
    exact e.symm
  refine wpAny_call (make_map (f:=f) I.kIn M.makes M.init (beq_iff_eq.mp M.fn) (codeAny_mono (F.run _ X.stack _ _ ⟨Value.ref (s.heap.objs.size+1) :: us,[]⟩ (Value.ref (s.heap.objs.size+1) :: us) _ _ (E σ) (hr.make C us [])
    (I2.env0.make C us []) (by have z:=hb _ (Value.ref (s.heap.objs.size+1) :: us) I2.kIn hl;rw [List.append_nil] at z;exact z) r2 hq) fun r s' hq'=>?_))
  cases r with
  | error e=>exact go.call hex I2 hq'
  | ok fl=>
    cases fl with
    | ret u=>
      obtain ⟨v,H',I3,rv,ev,q3⟩:=I2.after hq'
      subst ev
      exact ⟨rv,⟨V.ref (s.heap.objs.size+1),H',I3,rfl,q3⟩⟩
    | next=>exact False.elim hq'
    | brk=>exact False.elim hq'
    | cont=>exact False.elim hq'
theorem qe_makeX (h:HasIX X.prog X.w X.K X.mg X.base C k ps sp) (hr:Room (j+1) X.A) (hk:k≤j) (go:Goes X E) (hex:X.ex=[]) (hm:X.mg x=some (.ref C)) (ha:QA X (e :: es) t) (hg:Gl X x:=by rfl) (hdb:(x == ("__debug__" : Str))=false:=by decide)
    (he:starEach (e :: es) X.env=(false,eval e X.env) :: starEach es X.env:=by rfl) (hpl:(backTo pos (starEach es X.env)).any (·.1)=false:=by rfl):QE X (.Call (.Name x p) (e :: es) [] pos) (tMakeX C sp E t):=by
  obtain ⟨f,fd,F,b,M⟩:=h
  refine ⟨fun pins s σ H Q I h=>?_⟩
  refine wpAny_Call_Name_kw (ZBx I hg hm ?_ hdb)
  refine PySem.W.callWith_K (h₀:=X.base) I.ok.mod.kin M.kp (thn (ha.h pos pins s σ H _ I h) fun us s1 ⟨vs,H1,I1,r,q⟩=>⟨I1.kIn,?_⟩) he hpl
  exact ZIa M (F.mono hk) hr b go hex I1 r q
end
end L2
namespace Fz
open PySem PySem.Spec PyProof.Rows L2 Lw
def spMX (pre:ZDv):Sp:=fun vs H Q X=>∃ (ss:List Slot) (R:Ret) (D:Ex→Prop) (F:Hp) (A B:List Addr) (nk:NK) (a0:Addr) (us:List OV),pre ss R D∧ss[0]?=some (.ow true (.nd nk a0 us))∧Sg ⟨A,F,H,B⟩ ss (vs.map some) F H∧(∀ v F' H',Fin ⟨A,F,H,B⟩ F' H'→R.ok ⟨A,F,H,B⟩ F' H' v→Q v H')∧
  ∀ (x:Ex) (C:Value) (dx:Option Addr) F' H',Fin ⟨A,F,H,B⟩ F' H'→Orep F' H' (.ref a0) (.nd nk a0 us)→(OV.nd nk a0 us).addrs.Nodup→(∀ a∈(OV.nd nk a0 us).addrs,F' a=none∧(H a=none∨a∈B))→D x→x.at F' C dx→X C dx H'
@[reducible] def xwM (X:XK) (t:OV) (D:Ex→Prop):Xw:=⟨fun _=>X,fun ss=>ss[0]?=some (.ow true t),D⟩
section
variable {pre:ZDv} {H:Hp}
theorem spMX_len {n:Nat} {vs:List V} {Q:VK} {X:XK} (hl:∀ ss R D,pre ss R D→ss.length=n) (h:spMX pre vs H Q X):vs.length=n:=by
  obtain ⟨ss,R,D,F,A,B,_,_,_,hp,_,S,q⟩:=h
  have:=S.len
  rw [List.length_map] at this
  rw [← this];exact hl ss R D hp
def endM (R:Ret) (ss':List Slot):Prop:=∃ (k:PV→OV→Prop) (nk:NK) (a:Addr) (us:List OV),R=.mt k∧ss'[0]?=some (.ow true (.nd nk a us))∧k .non (.nd nk a us)
theorem endM.ok {E:Ent0} {R:Ret} {ss':List Slot} {σ:L2.St} {F H:Hp} (h:endM R ss') (S:Sg E ss' σ F H):R.ok E F H .non:=by
  obtain ⟨k,nk,a,us,rfl,h0,hk⟩:=h
  obtain ⟨v0,e0,r0,nd0,q0⟩:=S.ok 0 _ h0
  have ev:v0=.ref a:=by cases r0;rfl
  subst ev
  exact ⟨.non,.nd nk a us,.non,r0,nd0,fun b hb=>⟨(q0 b hb).1,(q0 b hb).2.imp id fun z=>z.2⟩,hk⟩
theorem fn_runMX {N:List Str} {n:Nat} {vs:List V} {Q:VK} {X:XK} {t:TS} (h:spMX pre vs H Q X) (hl:∀ ss R D,pre ss R D→ss.length=n)
    (hw:∀ ss R D,pre ss R D→∀ nk a0 us,ss[0]?=some (.ow true (.nd nk a0 us))→let _i:Xw:=xwM X (.nd nk a0 us) D;Ws (ss++List.replicate (N.length - n) .any) t (endM R) R):t { nx:=fun _ H'=>Q .non H',rt:=Q } (L2.start N vs) H:=by
  obtain ⟨ss,R,D,F,A,B,nk,a0,us,hp,h0,S,q,qx⟩:=h
  have e:vs.length=n:=by have:=S.len;rw [List.length_map] at this;rw [← this];exact hl ss R D hp
  unfold L2.start
  rw [e]
  letI:Xw:=xwM X (.nd nk a0 us) D
  refine (hw ss R D hp nk a0 us h0).go ⟨⟨A,F,H,B⟩,fun ss' σ' F' H' x C dx hJ S' d hat=>?_⟩ _ _ F H (S.grown _) (fun ss' σ' F' H' hn S' _=>q .non F' H' S'.toFin (hn.ok S')) fun v F' H' f ok=>q v F' H' f ok
  obtain ⟨v0,e0,r0,nd0,q0⟩:=S'.ok 0 _ hJ
  have ev:v0=.ref a0:=by cases r0;rfl
  subst ev
  exact qx x C dx F' H' S'.toFin r0 nd0 (fun b hb=>⟨(q0 b hb).1,(q0 b hb).2.imp id fun z=>z.2⟩) d hat
end
section
variable [Xw]
variable {ss:List Slot} {te tv:TE} {ta:TA} {i:Nat} {lt:Bool} {t:OV} {nx:List Slot→Prop} {R:Ret} {K:PySem.W.Frag} {f:Str}
theorem Sg.callN {E:Ent0} {ss:List Slot} {σ:L2.St} {F H H2:Hp} (S:Sg E ss σ F H) {vs:List V} {l:List Slot} (al:Avs ss σ F H vs l) {v0:V} {t:OV} (fh:Same F H2) (r0:Orep F H2 v0 t) (nd:t.addrs.Nodup) (hn:∀ a∈t.addrs,H a=none) (up:∀ a o,H a=some o→H2 a=some o) :
    Sg ⟨[],F,H2,t.addrs⟩ (.ow true t :: l) ((v0 :: vs).map some) F H2:=by
  have S0:=S.call0 al
  have no:∀ n s a,l[n]?=some s→¬ ZB1 s (vs.map some)[n]? a:=fun n s a hs ho=>by
    obtain ⟨v,hv,q⟩:=al.at hs
    exact (q.ok S (A:=[]) fun _ _ h=>absurd h List.not_mem_nil).2 _ _ ho
  have nF:∀ a∈t.addrs,F a=none:=fun a ha=>by
    cases e:F a with
    | none=>rfl
    | some o=>have:=S.fh a o e;rw [hn a ha] at this;cases this
  have nn:∀ {p:Prop} (a:Addr),a∈([]:List Addr)→p:=fun a h=>absurd h List.not_mem_nil
  refine ⟨⟨fh,Same.refl _,fun _ _ _ e=>e,fun _ _ e=>.inl e,fun a h=>nn a h,fun a h=>nn a h,fun a h=>nn a h,fun a h=>nF a h,fun a h=>r0.there a h,fun a h=>⟨r0.there a h,List.not_mem_nil⟩⟩,by have:=S0.len;simp only [List.length_cons,List.map_cons];rw [this],fun n s hs=>?_,fun n j s u b hnj hs hj ms mu=>?_⟩
  · cases n with
    | zero=>
      have:s=.ow true t:=by simpa using hs.symm
      subst this
      exact ⟨v0,rfl,r0,nd,fun a ha=>⟨nF a ha,.inr ⟨rfl,ha⟩⟩⟩
    | succ n=>
      have hs':l[n]?=some s:=by simpa using hs
      have ok:=S0.ok n s hs'
      show Ok _ _ _ s ((v0 :: vs).map some)[n+1]?
      rw [List.map_cons,List.getElem?_cons_succ]
      cases s with
      | any=>trivial
      | is p=>exact ok
      | own xs=>obtain ⟨b,_,e,_⟩:=ok;exact absurd e (no n _ b hs')
      | pot=>obtain ⟨b,e,_⟩:=ok;exact absurd e (no n _ b hs')
      | sq tp xs=>
        cases tp with
        | true=>exact ok
        | false=>
          obtain ⟨b,ws,e,_,hb,r⟩:=ok
          exact ⟨b,ws,e,⟨List.not_mem_nil,fun z=>by have:=hn b z;rw [show H b=some _ from hb] at this;cases this⟩,up b _ hb,r⟩
      | raw P=>exact ok
      | ow lt u=>
        obtain ⟨v,e,r,ndu,_⟩:=ok
        have em:∀ a,a∉u.addrs:=fun a ha=>no n _ a hs' ha
        exact ⟨v,e,r.mono (Same.refl _) fun a ha=>absurd ha (em a),ndu,fun a ha=>absurd ha (em a)⟩
  · cases n with
    | zero=>
      cases j with
      | zero=>exact hnj rfl
      | succ j=>
        refine no j u b (by simpa using hj) ?_
        rw [List.map_cons,List.getElem?_cons_succ] at mu;exact mu
    | succ n=>
      refine no n s b (by simpa using hs) ?_
      rw [List.map_cons,List.getElem?_cons_succ] at ms;exact ms
theorem wx_makeX {pre:ZDv} {C:Addr} {k:List Nat→OV→Prop} (h:Wa ss ta fun l=>∀ x dx:Addr,∃ k' D,pre (.ow true (.nd (.obj C dx []) x []) :: l) (.mt k') D∧Xw.J ss∧(∀ e,D e→Xw.D e)∧∀ p t',k' p t'→p=.non∧∃ ns' us',t'=.nd (.obj C dx ns') x us'∧k [] t'):Wx ss (tMakeX C (spMX pre) Xw.e ta) k:=⟨fun E σ F H Q S q=>
  h.go E σ F H _ S fun vs l F1 H1 m1 al hpre x dx hx hdx hne=>by
    have M1:=m1.st.make hdx (.own x)
    have hx2:upd H1 dx (.own x) x=none:=by rw [ZA5 (Ne.symm hne)];exact hx
    have M2:=M1.st.make hx2 (.ins C dx [])
    have m2:=M1.trans M2
    have up:∀ a o,H1 a=some o→upd (upd H1 dx (.own x)) x (.ins C dx []) a=some o:=fun a o e=>by
      rw [ZA5 (ZAF e hx),ZA5 (ZAF e hdx)];exact e
    have dn:∀ a,upd (upd H1 dx (.own x)) x (.ins C dx []) a=none→H1 a=none:=fun a e=>by
      cases z:H1 a with
      | none=>rfl
      | some o=>rw [up a o z] at e;cases e
    have a0:(OV.nd (.obj C dx []) x []).addrs=[x,dx]:=by rw [ZBV,OV.addrsL_nil]
    have r0:Orep F1 (upd (upd H1 dx (.own x)) x (.ins C dx [])) (.ref x) (.nd (.obj C dx []) x []):=.nd (k:=.obj C dx []) (vs:=[]) ZA3 (show upd _ x _ dx=some (.own x) by rw [ZA5 hne];exact ZA3) rfl .nil
    have f0:∀ a∈(OV.nd (.obj C dx []) x []).addrs,H1 a=none:=fun a ha=>by
      rw [a0] at ha
      simp only [List.mem_cons,List.not_mem_nil,or_false] at ha
      rcases ha with rfl | rfl
      · exact hx
      · exact hdx
    have nd0:(OV.nd (.obj C dx []) x []).addrs.Nodup:=by
      rw [a0]
      simp [Ne.symm hne]
    have Sx:=Sg.setX (j:=ss.length) (m:=[]) (v:=.ref x) (u:=.nd (.obj C dx []) x []) (m1.st.grown 1) (m2.st.grown 1) r0 nd0 fun a ha=>⟨m1.st.newF (f0 a ha),m1.st.new0 (f0 a ha),.inr (f0 a ha)⟩
    have hl:=m1.st.len
    have hi:((ss++List.replicate 1 Slot.any).set ss.length (.ow false (.nd (.obj C dx []) x [])))[ss.length]?=some (.ow false (.nd (.obj C dx []) x [])):=List.getElem?_set_self (by simp)
    have e0:((σ++List.replicate 1 none).set ss.length (some (V.ref x)))[ss.length]?=some (some (.ref x)):=List.getElem?_set_self (by simp;omega)
    obtain ⟨k',D,hp,hJ,hD,kk⟩:=hpre x dx
    have at':∀ n,n < ss.length→((ss++List.replicate 1 Slot.any).set ss.length (.ow false (.nd (.obj C dx []) x [])))[n]?=ss[n]?:=fun n hn=>by rw [List.getElem?_set_ne (by omega),List.getElem?_append_left hn]
    have st':∀ n,n < ss.length→((σ++List.replicate 1 none).set ss.length (some (V.ref x)))[n]?=σ[n]?:=fun n hn=>by rw [List.getElem?_set_ne (by omega),List.getElem?_append_left (by omega)]
    have np:∀ a,H1 a≠none→ZC1 ss σ a→ZC1 ((ss++List.replicate 1 Slot.any).set ss.length (.ow false (.nd (.obj C dx []) x []))) ((σ++List.replicate 1 none).set ss.length (some (V.ref x))) a:=fun a _ hn n hk=>by
      by_cases c:n < ss.length
      · rw [at' n c] at hk
        rw [st' n c]
        exact hn n hk
      · by_cases c2:n=ss.length
        · subst c2;rw [hi] at hk;cases hk
        · rw [List.getElem?_eq_none (by simp;omega)] at hk;cases hk
    have back:∀ F' H' nk' us',Fin ⟨[],F1,upd (upd H1 dx (.own x)) x (.ins C dx []),(OV.nd (.obj C dx []) x []).addrs⟩ F' H'→Orep F' H' (.ref x) (.nd nk' x us')→(OV.nd nk' x us').addrs.Nodup→(∀ a∈(OV.nd nk' x us').addrs,F' a=none∧(upd (upd H1 dx (.own x)) x (.ins C dx []) a=none∨a∈(OV.nd (.obj C dx []) x []).addrs))→Mv E ss σ F1 H1 F' H':=fun F' H' nk' us' f ro nd qa=>by
      have B:=Sx.backM hi f ro nd qa
      refine m1.st.step B.ff B.st.fh (fun a o hn e=>B.hh a o (np a (by rw [e];simp) hn) (fun z=>by rw [f0 a z] at e;cases e) (up a o e)) (fun a o e=>(B.nn a o e).imp id (dn a)) fun n l' hn en=>?_
      have c:n < ss.length:=(List.getElem?_eq_some_iff.mp hn).1
      refine B.st.potAt (i:=n) ?_ (by rw [st' n c];exact en)
      rw [List.getElem?_set_ne (by omega)]
      exact (at' n c).trans hn
    refine ⟨.ow true (.nd (.obj C dx []) x []) :: l,.mt k',D,F1,[],(OV.nd (.obj C dx []) x []).addrs,.obj C dx [],x,[],hp,rfl,Sg.callN m1.st al M2.st.fh r0 nd0 f0 up,fun v F' H' f ⟨p,t',r,ro,nd,qa,kp⟩=>?_,fun x0 C0 dx0 F' H' f ro nd qa d hat=>?_⟩
    · obtain ⟨rfl,ns',us',rfl,k2⟩:=kk p t' kp
      cases r
      refine ⟨rfl,q (.ref x) [] _ F' H' (m1.trans (back F' H' _ _ f ro nd qa)) ro nd (fun a ha=>?_) k2⟩
      have h1:H1 a=none:=(qa a ha).2.elim (dn a) (f0 a)
      exact ⟨(qa a ha).1,m1.st.new0 h1,.inr (m1.none h1)⟩
    · exact E.hx ss σ F' H' x0 C0 dx0 hJ (back F' H' _ _ f ro nd qa).st (hD x0 d) hat⟩
end
end Fz
set_option Elab.async false
set_option linter.all false
set_option maxRecDepth 100000
set_option maxHeartbeats 4000000
namespace L2
open PySem PySem.Spec PyProof.Rows
section
variable {prog:Program} {w:World} {A:Around} {E:Value→Shared→Prop} {s:Shared}
end
end L2
set_option Elab.async false
set_option linter.all false
set_option maxRecDepth 100000
set_option maxHeartbeats 4000000
namespace L2
open PySem PySem.Spec PyProof.Rows
section
variable {X:Cx}
end
end L2
set_option Elab.async false
set_option linter.all false
set_option maxRecDepth 100000
set_option maxHeartbeats 4000000
namespace Fz
open PySem PySem.Spec PyProof.Rows L2 Lw
section
variable [Xw]
variable {E:Ent0} {ss:List Slot} {σ:L2.St} {F H F' H':Hp} {K:PySem.W.Frag} {i:Nat} {t:OV} {ta tb te:TE} {nx:List Slot→Prop} {R:Ret}
end
end Fz
set_option Elab.async false
set_option linter.all false
set_option maxRecDepth 100000
set_option maxHeartbeats 4000000
namespace Fz
open PySem PySem.Spec PyProof.Rows L2 Lw
theorem nm_say {x:Str} (h:Nm x):ZAx x:=ZAq (by have:=h.2.1;omega) (nm_cps h)
theorem ZHC {n:Int} (h:n≤1000):n < 10 ^ 18:=Int.lt_of_le_of_lt h (by decide)
theorem cut_to {ns:List Str} {k:Nat} (h:k≤ns.length):ZBO ns none (some (k:Int))=ns.take k:=by
  unfold ZBO
  rw [show HT.sIx ns.length 0 none=0 from rfl,List.drop_zero,Nat.sub_zero]
  congr 1
  simp only [HT.sIx]
  split <;> omega
end Fz
set_option Elab.async false
set_option linter.all false
set_option maxRecDepth 100000
set_option maxHeartbeats 4000000
namespace L2
open PySem PySem.Spec PyProof.Rows
section
variable {X:Cx}
theorem ZFQ:OpR X (compareOp .LtE) (fun x y H Q=>∃ i j,x=.str i∧y=.str j∧Q (.bl (!decide (j.cps.toList < i.cps.toList))) H):=by
  intro pins s σ H x y v u Q I rx ry h
  obtain ⟨i,j,rfl,rfl,q⟩:=h
  obtain ⟨t,rfl⟩:=rx
  obtain ⟨t',rfl⟩:=ry
  exact PySem.P.le_str (ZAK I q rfl)
end
theorem ZDd:fillsNumberSlot (.type "tuple") "mul" = pure false:=
  PySem.fillsNumberSlot_seq (id := "tuple.__mul__") (r:=some (.builtin "tuple.__rmul__")) F.slot_tuple_mul.lookup (by decide +kernel) F.slot_tuple_rmul.lookup (by decide +kernel)
theorem ZFn:seqRepeat? (.type "tuple")=pure (some (.builtin "tuple.__mul__")):=by
  unfold seqRepeat?
  rw [PySem.seqSlot_of (T := "tuple") (name := "__mul__") (id := "tuple.__mul__") F.slot_tuple_mul.lookup (by decide +kernel),PySem.seqSlot_of (T := "tuple") (name := "__rmul__") (id := "tuple.__rmul__") F.slot_tuple_rmul.lookup (by decide +kernel)]
  rfl
theorem ZEG (a:Int) (t:Tok) (l:Addr) (items:Array Value) (n:Nat) (dd:Option Addr) (sl:Array (Option Value)) :
    Meets (Builtin.«int.__rmul__» ⟨[.int a t,.ref l],[]⟩) (fun _ R s=>s.heap.get? l=some { cls:=.type "tuple", dict:=dd,data:=.seq items n,slots:=sl }∧R (.ok (.ret Value.notImplemented)) s):=
  .of_wp fun prog w A R s h=>by obtain ⟨hp,g,d,tk,os⟩:=s;obtain ⟨hl,h⟩:=h;wp_walk;exact ⟨_,rfl,h⟩
theorem ZHW (l:Addr) (items:Array Value) (n:Nat) (dd:Option Addr) (sl:Array (Option Value)) (k:Int) (t:Tok) (h1:k=1) :
    Meets (Builtin.«tuple.__mul__» ⟨[.ref l,.int k t],[]⟩) (fun _ R s=>s.heap.get? l=some { cls:=.type "tuple", dict:=dd,data:=.seq items n,slots:=sl }∧R (.ok (.ret (.ref l))) s):=
  .of_wp fun prog w A R s h=>by obtain ⟨hp,g,d,tk,os⟩:=s;obtain ⟨hl,h⟩:=h;subst h1;wp_walk;exact ⟨_,rfl,h⟩
theorem ZHg (l:Addr) (items:Array Value) (n:Nat) (dd:Option Addr) (sl:Array (Option Value)) (k:Int) (t:Tok) (c1:¬ (decide (k < -2 ^ 63) || decide (k≥2 ^ 63))=true) (c2:¬ (items.isEmpty || k == 1)=true) (c3:(decide (k≤0) || items.isEmpty)=true) :
    Meets (Builtin.«tuple.__mul__» ⟨[.ref l,.int k t],[]⟩) (fun _ R s=>s.heap.get? l=some { cls:=.type "tuple", dict:=dd,data:=.seq items n,slots:=sl }∧R (.ok (.ret (.ref s.heap.objs.size))) { s with heap:=s.heap.push { cls:=.type "tuple", data:=.seq #[] } }):=
  .of_wp fun prog w A R s h=>by obtain ⟨hp,g,d,tk,os⟩:=s;obtain ⟨hl,h⟩:=h;wp_walk;refine wpAny_ite_false (decide_eq_false c1) ?_;wp_walk;exact ⟨_,rfl,h⟩
theorem ZHU (l:Addr) (items:Array Value) (n:Nat) (dd:Option Addr) (sl:Array (Option Value)) (k:Int) (t:Tok) (c1:¬ (decide (k < -2 ^ 63) || decide (k≥2 ^ 63))=true) (c2:¬ (items.isEmpty || k == 1)=true) (c3:¬ (decide (k≤0) || items.isEmpty)=true)
    (c4:¬ (items.size:Int) * k > (2 ^ 63 - 1) / 8) (c5:¬ Builtin.Tuple.tupleTooMany ((items.size:Int) * k)=true) (c6:¬ (List.foldl (fun x1 x2=>x1++x2) #[] (List.replicate k.toNat items)).size > sizeLine) :
    Meets (Builtin.«tuple.__mul__» ⟨[.ref l,.int k t],[]⟩) (fun _ R s=>s.heap.get? l=some { cls:=.type "tuple", dict:=dd,data:=.seq items n,slots:=sl }∧R (.ok (.ret (.ref s.heap.objs.size))) { s with heap:=s.heap.push { cls:=.type "tuple", data:=.seq (List.foldl (fun x1 x2=>x1++x2) #[] (List.replicate k.toNat items)) } }):=
  .of_wp fun prog w A R s h=>by obtain ⟨hp,g,d,tk,os⟩:=s;obtain ⟨hl,h⟩:=h;wp_walk;refine wpAny_ite_false (decide_eq_false c1) ?_;wp_walk;refine wpAny_ite_false (decide_eq_false c4) ?_;wp_walk;exact ⟨_,rfl,h⟩
section
variable {X:Cx}
def rRepT (K:PySem.W.Frag):V→V→Hp→VK→Prop:=fun x y H Q=>∃ (p:Addr) (k:Int) (xs:List V),x=.ref p∧y=.int k∧SqT K H p xs∧xs≠[]∧-1000≤k∧k≤1000∧xs.length≤1000∧(k=1→Q (.ref p) H)∧(k≠1→∀ q,H q=none→Q (.ref q) (upd H q (.tup (List.replicate k.toNat xs).flatten)))
theorem op_repT:OpR X (binaryOp .Mult) (rRepT X.K):=by
  intro pins s σ H x y v u Q I rx ry h
  obtain ⟨p,k,xs,rfl,rfl,hp,hne,k0,k1,hz,q1,q2⟩:=h
  cases rx
  obtain ⟨t,rfl⟩:=ry
  obtain ⟨its,r,pl,_⟩:=I.tuple hp
  obtain ⟨⟨cls,dd,data,sl⟩,ho,hc,n,hd⟩:=id pl
  simp only at hc hd
  subst hc hd
  have hl:=r.length
  have hits:its≠[]:=fun z=>hne (r.nil_iff.mp z)
  have he:its.toArray.isEmpty=false:=by cases its with | nil=>exact absurd rfl hits | cons a b=>rfl
  have big:(2:Int) ^ 63 > 1000000:=by decide
  have c1:¬ (decide (k < -2 ^ 63) || decide (k≥2 ^ 63))=true:=by
    rw [Bool.or_eq_true,decide_eq_true_iff,decide_eq_true_iff];omega
  have road:wpAny (model X.prog X.w) X.A (call (.builtin "tuple.__mul__") [.ref p,.int k t]) (EP X pins σ Q) X.xe s→wpAny (model X.prog X.w) X.A (binaryOp .Mult (.ref p) (.int k t)) (EP X pins σ Q) X.xe s:=fun hm=>
    wpAny_binaryOp_repeat_ref (T := "tuple") (U := "int") (by decide) ⟨_,ho,rfl⟩ (fun s'=>typeIs_int s' k t) ZDd F.fills_int_mul F.slot_int_rmul ZFn F.slot_int_index.lookup
      (call_meets F.slot_int_rmul (typeIs_int s k t) F.entry_int_rmul (F.args_int_rmul_2 _ _) (ZEG k t p its.toArray n dd sl) ⟨ho,rfl,⟨_,ho,rfl⟩,hm⟩)
  refine road ?_
  by_cases e1:k=1
  · exact call_meets F.slot_tuple_mul ⟨_,ho,rfl⟩ F.entry_tuple_mul (F.args_tuple_mul_2 _ _) (ZHW p its.toArray n dd sl k t e1) ⟨ho,.ref p,H,I,rfl,q1 e1⟩
  have c2:¬ (its.toArray.isEmpty || k == 1)=true:=by rw [he,Bool.false_or];simpa using e1
  have fin:∀ ys:List Value,Vals (List.replicate k.toNat xs).flatten ys→(List.replicate k.toNat xs).flatten.length≤sizeLine→EP X pins σ Q (.ref s.heap.objs.size) { s with heap:=s.heap.push { cls:=.type "tuple", data:=.seq ys.toArray } }:=fun ys rr hzz=>
    ⟨.ref s.heap.objs.size,_,I.laid (t':=s.toks) (o:=.tup (List.replicate k.toNat xs).flatten) (fun b ob q=>Heap.get?_push_of_some _ q) (Nat.le_refl _) ⟨hzz,_,rr,⟨IsTup.new _ _,fun ob' e'=>by rw [Heap.get?_push_size _ rfl] at e';cases e';rfl⟩⟩,rfl,q2 e1 _ (I.hok.fresh (Nat.le_refl _))⟩
  by_cases e0:k≤0
  · have z:k.toNat=0:=by omega
    refine call_meets F.slot_tuple_mul ⟨_,ho,rfl⟩ F.entry_tuple_mul (F.args_tuple_mul_2 _ _) (ZHg p its.toArray n dd sl k t c1 c2 (by rw [decide_eq_true e0];rfl)) ⟨ho,?_⟩
    exact fin [] (by rw [z];exact .nil) (by rw [z];exact Nat.zero_le _)
  · have hm:(List.replicate k.toNat xs).flatten.length≤1000000:=by
      rw [len_rep]
      exact Nat.le_trans (Nat.mul_le_mul (show k.toNat≤1000 by omega) hz) (by decide)
    have f0:List.foldl (fun x1 x2=>x1++x2) #[] (List.replicate k.toNat its.toArray)=(List.replicate k.toNat its).flatten.toArray:=by
      have:=ZFe its k.toNat []
      rw [List.nil_append] at this
      exact this
    have hmul:(its.toArray.size:Int) * k≤1000000:=by
      have h1:(its.toArray.size:Int)≤1000:=by rw [List.size_toArray,← hl];omega
      have h2:=Int.mul_le_mul h1 k1 (by omega) (by decide)
      exact Int.le_trans h2 (by decide)
    have rr:Vals (List.replicate k.toNat xs).flatten (List.replicate k.toNat its).flatten:=r.rep k.toNat
    refine call_meets F.slot_tuple_mul ⟨_,ho,rfl⟩ F.entry_tuple_mul (F.args_tuple_mul_2 _ _) (ZHU p its.toArray n dd sl k t c1 c2 (by rw [he,Bool.or_false,decide_eq_true_iff];exact e0) (Int.not_lt.mpr (Int.le_trans hmul (by decide))) ?_ ?_) ⟨ho,?_⟩
    · intro h
      have h1:(its.toArray.size:Int) * k > (sizeLine:Int):=of_decide_eq_true h
      have h2:(1000000:Int)≤(sizeLine:Int):=by decide
      exact absurd (Int.lt_of_le_of_lt h2 h1) (Int.not_lt.mpr hmul)
    · rw [f0,List.size_toArray,← rr.length]
      exact Nat.not_lt.mpr (Nat.le_trans hm (by decide))
    · rw [f0]
      exact fin _ rr (Nat.le_trans hm (by decide))
def rCatC (K:PySem.W.Frag):R2:=fun x y H Q=>∃ a b xs ys,x=.ref a∧y=.ref b∧SqT K H a xs∧SqT K H b ys∧xs.length+ys.length≤sizeLine∧(xs=[]→Q (.ref b) H)∧(xs≠[]→ys=[]→Q (.ref a) H)∧(xs≠[]→ys≠[]→∀ p,H p=none→Q (.ref p) (upd H p (.tup (xs++ys))))
theorem ZFr:OpR X (binaryOp .Add) (rCatC X.K):=by
  intro pins s σ H x y v u Q I rx ry h
  obtain ⟨a,b,xs,ys,rfl,rfl,ha,hb,hz,q0,q1,q2⟩:=h
  by_cases hx:xs=[]
  · have q:=q0 hx
    subst hx
    cases rx;cases ry
    obtain ⟨its,r1,p1,_⟩:=I.tuple ha
    obtain ⟨its2,r2,p2,_⟩:=I.tuple hb
    obtain ⟨⟨cls,dd,data,sl⟩,ho,hc,n,hd⟩:=id p1
    obtain ⟨⟨cls2,dd2,data2,sl2⟩,ho2,hc2,n2,hd2⟩:=id p2
    simp only at hc hd hc2 hd2
    subst hc hd hc2 hd2
    have e:its=[]:=r1.nil_iff.mpr rfl
    exact concat_meets ⟨_,ho,rfl⟩ ⟨_,ho2,rfl⟩ noFill_tuple_add seq_tuple_add PySem.F.slot_tuple_add PySem.F.entry_tuple_add (PySem.F.args_tuple_add_2 _ _)
      (tuple_addW0 a b its.toArray its2.toArray n n2 dd dd2 sl sl2 (by simp [e])) ⟨ho,ho2,⟨.ref b,H,I,rfl,q⟩⟩
  · exact op_catT pins s σ H _ _ _ _ Q I rx ry ⟨a,b,xs,ys,rfl,rfl,ha,hb,hx,hz,fun e=>q1 hx e,fun e p hp=>q2 hx e p hp⟩
end
end L2
set_option Elab.async false
set_option linter.all false
set_option maxRecDepth 100000
set_option maxHeartbeats 4000000
namespace Fz
open PySem PySem.Spec PyProof.Rows L2 Lw
def sgP (z:Str):List PV:=z.cps.toList.map fun c=>PV.str ⟨#[c]⟩
theorem Reps.append' {F:Hp}:∀ {vs ws:List V} {xs ys:List PV},Reps F vs xs→Reps F ws ys→Reps F (vs++ws) (xs++ys)
  | _,_,_,_,.nil,h=>h
  | _,_,_,_,.cons r t,h=>.cons r (Reps.append' t h)
theorem Reps.rep2 {F:Hp} {vs:List V} {xs:List PV} (r:Reps F vs xs):∀ n:Nat,Reps F (List.replicate n vs).flatten (List.replicate n xs).flatten
  | 0=>.nil
  | n+1=>by rw [List.replicate_succ,List.replicate_succ,List.flatten_cons,List.flatten_cons];exact Reps.append' r (r.rep2 n)
section
variable [Xw]
variable {E:Ent0} {ss:List Slot} {σ:L2.St} {F H F' H':Hp} {K:PySem.W.Frag} {i:Nat} {t:OV} {ta tb tc te:TE} {nx:List Slot→Prop} {R:Ret}
theorem wi_str {k:List PV→Prop} (h:Wp ss te fun p=>∃ z,p=.str z∧k (sgP z)):Wi ss (iStr te) k:=⟨fun E σ F H R S q=>
  h.go E σ F H _ S fun v p F1 H1 m1 r ⟨z,e,kk⟩=>by
    subst e;cases r
    have hl:(sgP z).length=z.cps.size:=by unfold sgP;rw [List.length_map,Array.length_toList]
    refine ⟨z,rfl,q _ (sgP z) F1 H1 m1 ⟨fun ss σ F H i s S hi=>?_,fun ss σ F H s S=>?_,fun ss σ F H i x H' s S hi y=>?_⟩ kk⟩
    · rw [hl] at hi;exact hi
    · exact hl
    · obtain ⟨e,c,hc,ex⟩:=y
      subst e;subst ex
      refine ⟨.str ⟨#[c]⟩,F,?_,.refl S,.str _⟩
      unfold sgP
      rw [List.getElem?_map,Array.getElem?_toList,hc];rfl⟩
theorem wp_repT {k:PV→Prop} (h:Wp ss ta fun p=>∃ xs,p=.tup xs∧xs≠[]∧xs.length≤1000∧Wp ss tb fun q=>∃ m:Int,q=.int m∧-1000≤m∧m≤1000∧k (.tup (List.replicate m.toNat xs).flatten)):Wp ss (tOp (rRepT K) ta tb) k:=⟨fun E σ F H Q S q=>
  h.go E σ F H _ S fun v p F1 H1 m1 r1 ⟨xs,e,hx,hz,h2⟩=>h2.go E σ F1 H1 _ m1.st fun v2 p2 F2 H2 m2 r2 ⟨m,e2,h0,h1,kk⟩=>by
    subst e;subst e2
    cases r2
    cases r1 with
    | @tup a vs _ f1 s1=>
      have g1:=m2.ff _ _ f1
      have t1:=s1.mono m2.ff
      have l1:=t1.length
      refine ⟨a,m,vs,rfl,rfl,SqT.of (m2.st.fh _ _ g1),fun z=>hx ?_,h0,h1,by omega,fun z=>?_,fun z b hb=>?_⟩
      · rw [z] at l1;exact List.length_eq_zero_iff.mp l1.symm
      · subst z
        have e:(List.replicate (1:Int).toNat xs).flatten=xs:=by simp
        rw [e] at kk
        exact q (.ref a) _ F2 H2 (m1.trans m2) (.tup g1 t1) kk
      · have m3:=m2.st.alloc hb (.tup (List.replicate m.toNat vs).flatten)
        exact q (.ref b) _ _ _ (m1.trans (m2.trans m3)) (.tup ZA3 ((t1.rep2 m.toNat).mono m3.ff)) kk⟩
theorem ZG5 {k:PV→Prop} (h:Wp ss ta fun p=>∃ xs,p=.tup xs∧Wp ss tb fun q=>∃ ys,q=.tup ys∧xs.length+ys.length≤100000∧k (.tup (xs++ys))):Wp ss (tOp (rCatC K) ta tb) k:=⟨fun E σ F H Q S q=>
  h.go E σ F H _ S fun v p F1 H1 m1 r1 ⟨xs,e,h2⟩=>h2.go E σ F1 H1 _ m1.st fun v2 p2 F2 H2 m2 r2 ⟨ys,e2,hz,kk⟩=>by
    subst e;subst e2
    cases r1 with
    | @tup a vs _ f1 s1=>
      cases r2 with
      | @tup b ws _ f2 s2=>
        have g1:=m2.ff _ _ f1
        have t1:=s1.mono m2.ff
        have l1:=t1.length
        have l2:=s2.length
        refine ⟨a,b,vs,ws,rfl,rfl,SqT.of (m2.st.fh _ _ g1),SqT.of (m2.st.fh _ _ f2),ZBs (by omega),fun z=>?_,fun _ z=>?_,fun _ _ c hc=>?_⟩
        · have e:xs=[]:=by rw [z] at l1;exact List.length_eq_zero_iff.mp l1.symm
          rw [e,List.nil_append] at kk
          exact q (.ref b) _ F2 H2 (m1.trans m2) (.tup f2 s2) kk
        · have e:ys=[]:=by rw [z] at l2;exact List.length_eq_zero_iff.mp l2.symm
          rw [e,List.append_nil] at kk
          exact q (.ref a) _ F2 H2 (m1.trans m2) (.tup g1 t1) kk
        · have m3:=m2.st.alloc hc (.tup (vs++ws))
          exact q (.ref c) _ _ _ (m1.trans (m2.trans m3)) (.tup ZA3 ((Reps.append' t1 s2).mono m3.ff)) kk⟩
theorem ZJ3 {k:PV→Prop} (h:Wp ss te fun p=>∃ z:Str,p=.str z∧z.length≤100000∧k (.int z.length)):Wp ss (tCB (fun xs H Q=>∃ z:Str,xs=[V.str z]∧z.length≤sizeLine∧Q (V.int (z.length:Int)) H) (ZA9 te ZAa)) k:=⟨fun E σ F H Q S q=>
  h.go E σ F H _ S fun v p F1 H1 m1 r ⟨z,e,hz,kk⟩=>by
    subst e;cases r
    exact ⟨z,rfl,ZBs hz,q _ _ F1 H1 m1 (.int _) kk⟩⟩
theorem wp_ixS {k:PV→Prop} (h:Wp ss ta fun p=>∃ z:Str,p=.str z∧z.length≤100000∧Wp ss tb fun q=>∃ (i:Int) (c:Nat),q=.int i∧L2.atI z.cps.toList i=some c∧k (.str ⟨#[c]⟩)):Wp ss (tOp rIxS ta tb) k:=⟨fun E σ F H Q S q=>
  h.go E σ F H _ S fun v p F1 H1 m1 r1 ⟨z,e,hz,h2⟩=>h2.go E σ F1 H1 _ m1.st fun v2 p2 F2 H2 m2 r2 ⟨i,c,e2,hc,kk⟩=>by
    subst e;subst e2;cases r1;cases r2
    exact ⟨z,i,c,rfl,rfl,ZBs hz,hc,q _ _ F2 H2 (m1.trans m2) (.str _) kk⟩⟩
def leS (x y:Str):Bool:=!decide (y.cps.toList < x.cps.toList)
theorem ZJ5 {k:PV→Prop} (h:Wp ss ta fun x=>∃ i,x=.str i∧Wp ss tb fun y=>∃ j,y=.str j∧if leS i j=true then Wp ss tc (fun z=>∃ l,z=.str l∧k (.bl (leS j l))) else k (.bl false)) :
    Wp ss (ZDW (fun x y H Q=>∃ i j,x=V.str i∧y=V.str j∧Q (V.bl (!decide (j.cps.toList < i.cps.toList))) H) (fun x y H Q=>∃ i j,x=V.str i∧y=V.str j∧Q (V.bl (!decide (j.cps.toList < i.cps.toList))) H) ta tb tc) k:=⟨fun E σ F H Q S q=>
  h.go E σ F H _ S fun v p F1 H1 m1 r1 ⟨i,e1,h2⟩=>by
    subst e1;cases r1
    exact h2.go E σ F1 H1 _ m1.st fun v2 p2 F2 H2 m2 r2 ⟨j,e2,h3⟩=>by
      subst e2;cases r2
      refine ⟨i,j,rfl,rfl,leS i j,rfl,?_⟩
      cases c:leS i j with
      | true=>
        rw [c,if_pos rfl] at h3
        show if true=true then _ else _
        rw [if_pos rfl]
        exact h3.go E σ F2 H2 _ m2.st fun v3 p3 F3 H3 m3 r3 ⟨l,e3,kk⟩=>by
          subst e3;cases r3
          exact ⟨j,l,rfl,rfl,q _ _ F3 H3 (m1.trans (m2.trans m3)) (.bl _) kk⟩
      | false=>
        rw [c,if_neg (by decide)] at h3
        show if false=true then _ else _
        rw [if_neg (by decide)]
        exact q _ _ F2 H2 (m1.trans m2) (.bl _) h3⟩
end
end Fz
set_option Elab.async false
set_option linter.all false
set_option maxRecDepth 100000
set_option maxHeartbeats 4000000
namespace Fz
open PySem PySem.Spec PyProof.Rows L2 Lw
structure Kd where
  w:Str
  ps:List (Str×Str)
  g:Bool
def ZBB (p:Str×Str):PV:=.tup [.str p.1,.str p.2]
def Kd.P (k:Kd):PV:=.tup [.str k.w,.tup (k.ps.map ZBB),.bl k.g]
def KdOk (n:Nat) (k:Kd):Prop:=ZAx k.w∧k.ps.length≤6+n∧∀ p∈k.ps,ZAx p.1∧ZAx p.2
def KsOk (n:Nat) (ks:List Kd):Prop:=ks.length≤9∧∀ k∈ks,KdOk n k
def WH:List Str:=["next", "last", "back", "first"]
def ZCz (seen:List Str):List Kd→Option (Int×Str)
  | []=>none
  | k :: r=>if ZBt k.w=false then some (0,k.w) else if k.w∈seen then some (1,k.w) else if 6 < k.ps.length then some (10, "") else ZCz (seen++[k.w]) r
def ZD2 (ws:List Str):List (Str×Str)→Option (Int×Str)
  | []=>none
  | p :: r=>if p.1∉WH then some (7,p.1) else if p.2∉ws then some (0,p.2) else ZD2 ws r
def ZDM (ws:List Str):List Kd→Option (Int×Str)
  | []=>none
  | k :: r=>match ZD2 ws k.ps with
    | some d=>some d
    | none=>ZDM ws r
def ZC2 (ks:List Kd):Option (Int×Str):=if ks.length=0∨8 < ks.length then some (10, "") else match ZCz [] ks with
  | some d=>some d
  | none=>ZDM (ks.map Kd.w) ks
def exK (NN TH NW TM:Addr) (d:Int×Str):Ex:=if d.1=0 then ⟨NN,["name"],[.str d.2]⟩ else if d.1=1 then ⟨TH,["name"],[.str d.2]⟩ else if d.1=7 then ⟨NW,["where"],[.str d.2]⟩ else ⟨TM,[],[]⟩
def duR (NN TH NW TM:Addr) (o:Option (Int×Str)) (e:Ex):Prop:=∃ d,o=some d∧e=exK NN TH NW TM d
def ZEp:Pre:=fun l R=>l=[.pot]∧R=.is fun p=>∃ ks:List Kd,p=.lst (ks.map Kd.P)∧KsOk 0 ks
def ZG1:Pre:=fun l R=>∃ (n:Nat) (x:Str) (ps:List (Str×Str)) (y:Nat),l=[.pot,.is (.str x),.is (.tup (ps.map ZBB)),.is (.int y)]∧n≤4∧3≤y∧y≤5∧ZAx x∧ps.length≤6+n∧(∀ p∈ps,ZAx p.1∧ZAx p.2)∧R=.is fun p=>∃ qs:List (Str×Str),p=.tup (qs.map ZBB)∧qs.length≤6+(n+1)∧∀ p∈qs,ZAx p.1∧ZAx p.2
def ZCW:Pre:=fun l R=>∃ (n:Nat) (ks:List Kd),l=[.pot,.is (.lst (ks.map Kd.P))]∧n≤4∧KsOk n ks∧R=.is fun p=>∃ ks':List Kd,p=.lst (ks'.map Kd.P)∧KsOk (n+1) ks'
def dueV:Option (Int×Str)→PV
  | none=>.non
  | some d=>.tup [.int d.1,.str d.2]
def ZER:Pre:=fun l R=>∃ ks:List Kd,l=[.is (.lst (ks.map Kd.P))]∧KsOk 6 ks∧R=.is fun p=>p=dueV (ZC2 ks)
def ZEd (NN:Addr):ZDv:=fun l R D=>∃ (ws:List Str) (x:Str),l=[.is (.lst (ws.map .str)),.is (.str x)]∧ws.length≤1000∧ZAx x∧R=.is (fun p=>p=.non∧x∈ws)∧D=fun e=>x∉ws∧e=⟨NN,["name"],[.str x]⟩
def ZEO (NN TH NW TM:Addr):ZDv:=fun l R D=>∃ (ws:List Str) (ps:List (Str×Str)),l=[.is (.lst (ws.map .str)),.is (.tup (ps.map ZBB))]∧ws.length≤1000∧(∀ p∈ps,ZAx p.1∧ZAx p.2)∧R=.is (fun p=>p=.non∧ZD2 ws ps=none)∧D=duR NN TH NW TM (ZD2 ws ps)
def ZDU (NN TH NW TM:Addr):ZDv:=fun l R D=>∃ ks:List Kd,l=[.sq false (ks.map Kd.P)]∧KsOk 6 ks∧R=.is (fun p=>p=.non∧ZC2 ks=none)∧D=duR NN TH NW TM (ZC2 ks)
def ZFx (C NN TH NW TM:Addr):ZDv:=fun l R D=>∃ (dx a:Addr) (ks:List Kd),l=[.ow true (.nd (.obj C dx []) a []),.sq false (ks.map Kd.P)]∧KsOk 6 ks∧R=.mt (fun p t'=>p=.non∧(∃ ns us,t'=.nd (.obj C dx ns) a us)∧ZC2 ks=none)∧D=duR NN TH NW TM (ZC2 ks)
def ZDT (NN TH NW TM:Addr):Pre:=fun l R=>∃ ks:List Kd,l=[.sq false (ks.map Kd.P)]∧KsOk 6 ks∧R=.is fun p=>(p=.non∧ZC2 ks=none)∨∃ d,ZC2 ks=some d∧p=.exc (exK NN TH NW TM d).C (exK NN TH NW TM d).ns (exK NN TH NW TM d).xs
theorem ZEK {ks:List Kd} (h:¬ (ks.length=0∨8 < ks.length)):(∀ d,ZCz [] ks=some d→ZC2 ks=some d)∧(ZCz [] ks=none→ZC2 ks=ZDM (ks.map Kd.w) ks):=by
  unfold ZC2
  rw [if_neg h]
  constructor
  · intro d e;rw [e]
  · intro e;rw [e]
theorem ZFI (ks:List Key) (us:List OV) (key:Key) (w:OV):(ZDk ks us key w).length≤us.length+1:=by
  unfold ZDk
  split
  · rw [List.length_set];omega
  · rw [List.length_append,List.length_singleton];omega
theorem ZDn {ks:List Key} (h:ks.Nodup) (key:Key):(ZEg ks key).Nodup:=by
  unfold ZEg
  by_cases c:hasK ks key=true
  · rw [if_pos c];exact h
  · rw [if_neg c]
    refine ZEi h fun m=>c ?_
    unfold hasK
    exact List.any_eq_true.mpr ⟨key,m,decide_eq_true rfl⟩
theorem ZEC {α:Type} {xs:List α} {k:Nat} {x:α} (h:xs[k]?=some x):xs.take (k+1)=xs.take k++[x]:=by
  obtain ⟨hk,e⟩:=List.getElem?_eq_some_iff.mp h
  rw [List.take_succ_eq_append_getElem hk,e]
theorem at7I {t:Int} (h0:0≤t) (h:t < 7):∃ z:Nat,L2.atI [PV.int 0,.int 1,.int 1,.int 2,.int 2,.int 3,.int 6] t=some (.int (z:Int))∧z≤6:=by
  rcases (show t=0∨t=1∨t=2∨t=3∨t=4∨t=5∨t=6 by omega) with rfl | rfl | rfl | rfl | rfl | rfl | rfl
  · exact ⟨0,rfl,by decide⟩
  · exact ⟨1,rfl,by decide⟩
  · exact ⟨1,rfl,by decide⟩
  · exact ⟨2,rfl,by decide⟩
  · exact ⟨2,rfl,by decide⟩
  · exact ⟨3,rfl,by decide⟩
  · exact ⟨6,rfl,by decide⟩
theorem at4S {t:Int} (h0:0≤t) (h:t < 4):∃ x:Str,L2.atI [PV.str "next", .str "last", .str "back", .str "first"] t=some (.str x)∧ZAx x:=by
  rcases (show t=0∨t=1∨t=2∨t=3 by omega) with rfl | rfl | rfl | rfl
  all_goals exact ⟨_,rfl,ZAq (by decide) (by decide)⟩
theorem at3S {a b c:Str} (ha:ZAx a) (hb:ZAx b) (hc:ZAx c) {t:Int} (h0:0≤t) (h:t < 3):∃ x:Str,L2.atI [PV.str a,.str b,.str c] t=some (.str x)∧ZAx x:=by
  rcases (show t=0∨t=1∨t=2 by omega) with rfl | rfl | rfl
  · exact ⟨a,rfl,ha⟩
  · exact ⟨b,rfl,hb⟩
  · exact ⟨c,rfl,hc⟩
theorem at2S {a b:Str} (ha:ZAx a) (hb:ZAx b) {t:Int} (h0:0≤t) (h:t < 2):∃ x:Str,L2.atI [PV.str a,.str b] t=some (.str x)∧ZAx x:=by
  rcases (show t=0∨t=1 by omega) with rfl | rfl
  · exact ⟨a,rfl,ha⟩
  · exact ⟨b,rfl,hb⟩
theorem at4W {t:Int} (h0:0≤t) (h:t < 4):∃ x:Str,L2.atI [PV.str "", .str "Next", .str "behind", .str "nexts"] t=some (.str x)∧ZAx x:=by
  rcases (show t=0∨t=1∨t=2∨t=3 by omega) with rfl | rfl | rfl | rfl
  all_goals exact ⟨_,rfl,ZAq (by decide) (by decide)⟩
theorem at5S {t:Int} (h0:0≤t) (h:t < 5):∃ x:Str,L2.atI [PV.str "", .str "abcdefghi", .str "Dog", .str "d g", .str "a1"] t=some (.str x)∧ZAx x:=by
  rcases (show t=0∨t=1∨t=2∨t=3∨t=4 by omega) with rfl | rfl | rfl | rfl | rfl
  all_goals exact ⟨_,rfl,ZAq (by decide) (by decide)⟩
theorem rep1 {α:Type} (x:α):∀ m:Nat,(List.replicate m [x]).flatten=List.replicate m x
  | 0=>rfl
  | m+1=>by rw [List.replicate_succ,List.flatten_cons,rep1 x m,List.replicate_succ];rfl
theorem cut6 {α:Type} (xs:List α):(ZBO xs none (some 6)).length≤6:=by
  unfold ZBO
  rw [List.length_take]
  have:HT.sIx xs.length xs.length (some 6)≤6:=by
    have:=HT.sIx_nat xs.length xs.length 6
    rw [show (some 6:Option Int)=some ((6:Nat):Int) from rfl,this]
    omega
  omega
theorem of_alike {a b:Int} (c:ZBo (.int a) (.int b)=true):a=b:=by
  simpa [ZBo] using c
theorem ZFy {K:PySem.W.Frag} (ks:List Kd):dat K 40 (.lst (ks.map Kd.P)):=fun x hx=>by
  obtain ⟨k,_,rfl⟩:=List.mem_map.mp hx
  intro y hy
  simp only [List.mem_cons,List.not_mem_nil,or_false] at hy
  rcases hy with rfl | rfl | rfl
  · trivial
  · intro z hz
    obtain ⟨p,_,rfl⟩:=List.mem_map.mp hz
    intro u hu
    simp only [List.mem_cons,List.not_mem_nil,or_false] at hu
    rcases hu with rfl | rfl <;> trivial
  · trivial
theorem leS_a (c:Nat):leS "a" ⟨#[c]⟩=decide (97≤c):=by
  unfold leS
  have h:(([c]:List Nat) < [97])↔c < 97:=by
    constructor
    · intro h;cases h with
      | rel h=>exact h
      | cons h=>cases h
    · exact fun h=>.rel h
  have e:(#[c]:Array Nat).toList=[c]:=rfl
  show (!decide (([c]:List Nat) < [97]))=_
  by_cases z:c < 97
  · rw [decide_eq_true (h.mpr z),decide_eq_false (by omega)];rfl
  · rw [decide_eq_false (fun q=>z (h.mp q)),decide_eq_true (by omega)];rfl
theorem leS_z (c:Nat):leS ⟨#[c]⟩ "z" = decide (c≤122):=by
  unfold leS
  have h:(([122]:List Nat) < [c])↔122 < c:=by
    constructor
    · intro h;cases h with
      | rel h=>exact h
      | cons h=>cases h
    · exact fun h=>.rel h
  show (!decide (([122]:List Nat) < [c]))=_
  by_cases z:122 < c
  · rw [decide_eq_true (h.mpr z),decide_eq_false (by omega)];rfl
  · rw [decide_eq_false (fun q=>z (h.mp q)),decide_eq_true (by omega)];rfl
def badC (c:Nat):Bool:=!(decide (97≤c) && decide (c≤122))
theorem ZHr {x:Str} (h1:1≤x.length) (h8:x.length≤8):(x.cps.toList.filter badC=[])↔ZBt x=true:=by
  constructor
  · intro h
    refine nm_isNm ⟨h1,h8,fun c hc=>?_⟩
    have:badC c=false:=by
      cases e:badC c with
      | false=>rfl
      | true=>have:=List.mem_filter.mpr ⟨hc,e⟩;rw [h] at this;cases this
    unfold badC at this
    have t:(decide (97≤c) && decide (c≤122))=true:=by
      cases e:(decide (97≤c) && decide (c≤122)) with
      | true=>rfl
      | false=>rw [e] at this;cases this
    rw [Bool.and_eq_true,decide_eq_true_iff,decide_eq_true_iff] at t
    exact t
  · intro h
    have n:=ZIH h
    refine List.filter_eq_nil_iff.mpr fun c hc=>?_
    have:=n.2.2 c hc
    unfold badC
    rw [decide_eq_true this.1,decide_eq_true this.2]
    decide
theorem chr_inj (a b:Nat) (h:PV.str ⟨#[a]⟩=PV.str ⟨#[b]⟩):a=b:=by
  injection h with h
  injection h with h
  have:=congrArg Array.toList h
  injection this
def zK (j:Nat):Kd:=⟨("zq" : Str)++⟨#[97+j]⟩,[],true⟩
theorem zK_ok {j:Nat} (h:j≤8) (n:Nat):KdOk n (zK j):=by
  refine ⟨?_,Nat.zero_le _,fun p hp=>absurd hp List.not_mem_nil⟩
  exact say_app (by show 2+1≤100;decide) (by decide) fun c hc=>by
    have:c=97+j:=by simpa using hc
    rw [this]
    exact Nat.lt_of_le_of_lt (show 97+j≤105 by omega) (by decide)
theorem at9 {j:Nat} (h:j≤8):L2.atI ("abcdefghi" : Str).cps.toList (j:Int)=some (97+j):=by
  rcases (show j=0∨j=1∨j=2∨j=3∨j=4∨j=5∨j=6∨j=7∨j=8 by omega) with rfl | rfl | rfl | rfl | rfl | rfl | rfl | rfl | rfl <;> decide
theorem ZGe {α:Type} (xs:List α) (k:Nat):(ZBO xs none (some (k:Int))).length≤k:=by
  unfold ZBO
  rw [HT.sIx_nat,List.length_take]
  omega
theorem ZGt {α:Type} (xs:List α) (k:Nat):(ZBO xs (some ((k:Int)+1)) none).length≤xs.length - (k+1):=by
  unfold ZBO
  rw [show (some ((k:Int)+1):Option Int)=some ((k+1:Nat):Int) from by rw [Int.natCast_add];rfl,HT.sIx_nat,List.length_take,List.length_drop]
  omega
theorem ZFX {x:Str} (h:¬ (1≤x.length∧x.length≤8)):ZBt x=false:=by
  cases e:ZBt x with
  | false=>rfl
  | true=>have:=ZIH e;exact absurd ⟨this.1,this.2.1⟩ h
def DOk (d:Int×Str):Prop:=d.1=0∨d.1=1∨d.1=7∨(d.1=10∧d.2 = "")
def ZED (NN TH NW TM:Addr):Pre:=fun l R=>∃ d:Int×Str,l=[.is (.exc (exK NN TH NW TM d).C (exK NN TH NW TM d).ns (exK NN TH NW TM d).xs),.is (.int d.1)]∧DOk d∧R=.is fun p=>p=.str d.2
theorem ZIG:∀ {ks:List Kd} {seen:List Str} {d:Int×Str},ZCz seen ks=some d→DOk d
  | [],_,_,h=>by cases h
  | k :: r,seen,d,h=>by
    rw [ZCz] at h
    split at h
    · cases h;exact .inl rfl
    · split at h
      · cases h;exact .inr (.inl rfl)
      · split at h
        · cases h;exact .inr (.inr (.inr ⟨rfl,rfl⟩))
        · exact ZIG h
theorem ZI0 {ws:List Str}:∀ {ps:List (Str×Str)} {d:Int×Str},ZD2 ws ps=some d→DOk d
  | [],_,h=>by cases h
  | p :: r,d,h=>by
    rw [ZD2] at h
    split at h
    · cases h;exact .inr (.inr (.inl rfl))
    · split at h
      · cases h;exact .inl rfl
      · exact ZI0 h
theorem ZHs {ws:List Str}:∀ {ks:List Kd} {d:Int×Str},ZDM ws ks=some d→DOk d
  | [],_,h=>by cases h
  | k :: r,d,h=>by
    rw [ZDM] at h
    cases e:ZD2 ws k.ps with
    | some d'=>rw [e] at h;cases h;exact ZI0 e
    | none=>rw [e] at h;exact ZHs h
theorem dueK_ok {ks:List Kd} {d:Int×Str} (h:ZC2 ks=some d):DOk d:=by
  by_cases c:ks.length=0∨8 < ks.length
  · unfold ZC2 at h
    rw [if_pos c] at h
    cases h;exact .inr (.inr (.inr ⟨rfl,rfl⟩))
  · have dq:=ZEK c
    cases e:ZCz [] ks with
    | some d'=>
      rw [dq.1 _ e] at h;cases h
      exact ZIG e
    | none=>
      rw [dq.2 e] at h
      exact ZHs h
theorem ZCg {α:Type} {xs:List α} {k:Nat} {x:α} (h:xs[k]?=some x):xs.drop k=x :: xs.drop (k+1):=by
  obtain ⟨hk,e⟩:=List.getElem?_eq_some_iff.mp h
  rw [List.drop_eq_getElem_cons hk,e]
theorem ZDb {p:Prop} [Decidable p] (c:¬ (!decide p)=true):p:=by
  by_cases h:p
  · exact h
  · rw [decide_eq_false h] at c;exact absurd rfl c
theorem ZFY {a b:Int} (c:(!decide (a≤b))=true):b < a:=by
  by_cases h:a≤b
  · rw [decide_eq_true h] at c;cases c
  · omega
theorem ZFa {a b:Int} (c:¬ (!decide (a≤b))=true):a≤b:=ZDb c
theorem ZES {a b:Int} (c:¬ decide (a≤b)=true):b < a:=by
  by_cases h:a≤b
  · exact absurd (decide_eq_true h) c
  · omega
theorem ZGm:∀ {ps qs:List (Str×Str)},ps.map ZBB=qs.map ZBB→ps=qs
  | [],[],_=>rfl
  | [],_ :: _,h=>by simp at h
  | _ :: _,[],h=>by simp at h
  | p :: ps,q :: qs,h=>by
    rw [List.map_cons,List.map_cons] at h
    injection h with h1 h2
    have e1:p.1=q.1∧p.2=q.2:=by
      unfold ZBB at h1
      injection h1 with h1
      injection h1 with a b
      injection a with a
      injection b with b _
      injection b with b
      exact ⟨a,b⟩
    rw [ZGm h2,Prod.ext e1.1 e1.2]
theorem Kd.inj (x y:Kd) (h:x.P=y.P):x=y:=by
  obtain ⟨w,ps,g⟩:=x
  obtain ⟨w',ps',g'⟩:=y
  unfold Kd.P at h
  injection h with h
  injection h with a b
  injection a with a
  injection b with b c
  injection b with b
  injection c with c _
  injection c with c
  have b':=ZGm b
  simp only at a b' c
  subst a b' c
  rfl
end Fz
set_option Elab.async false
set_option linter.all false
set_option maxRecDepth 100000
set_option maxHeartbeats 8000000
set_option exponentiation.threshold 5000
namespace Pf
open PySem PySem.Spec PyProof.Rows L2 Lw
abbrev St:=L2.St
def top (i:Nat):Stmt:=PySem.Challenge.pw_stirround_k72_errands_refused.main.body.getD i (.Pass ⟨0,0,0,0⟩)
abbrev ZBI:Stmt:=top 32
abbrev ZAr:Stmt:=top 33
abbrev ZBG:Stmt:=top 34
abbrev ZB9:Stmt:=top 35
abbrev ZBA:Stmt:=top 37
abbrev ZBE:Stmt:=top 40
abbrev ZBW:Stmt:=top 31
abbrev ZAf:Stmt:=top 38
abbrev ZAl:Stmt:=top 39
abbrev ZB7:Stmt:=top 29
abbrev ZB5:Stmt:=top 28
abbrev ZBP:Stmt:=top 21
abbrev ZAn:Stmt:=top 27
abbrev ZAU:Stmt:=clsNth (top 26) 0
abbrev ZBH:Stmt:=top 41
abbrev ZB4:Stmt:=top 36
abbrev ZB6:Stmt:=top 42
abbrev ZDB:Stmt:=top 43
variable {P:Program} {w:World} {K:PySem.W.Frag} {mg:Str→Option Value} {base:Heap} {f:Addr} {fd:FuncData}
abbrev ZBT:Stmt:=ZHP (top 2)
theorem ZHK:FnScope ["self", "name"] ["self", "name"] (ZA4 ZBT):=⟨rfl,rfl,rfl,by decide +kernel,rfl,by decide +kernel,by decide +kernel⟩
theorem ZHJ {C S:Addr} (F:Fun K "__init__" "NoName.__init__" ZBT f fd) (bd:Binds K fd ["self", "name"] []) (c:ExI K C f "name") (sup:Sup K S) (m_S:mg "StirError" = some (.ref S)):ZDo P w K mg base C "name" := by
  refine ⟨f,fd, "name", c,F.ok (k:=0) ZHK ZDI (fun cdv A outer s H vs Q E hr h=>?_),bd⟩
  refine ⟨_,?_,ZEv (N:=["self", "name"]) rfl h⟩
  exact ZBk (ZE4 (ZCu (S:=S) sup (by rfl) m_S c.ex (ZCI (pv 0) (ZCI (ZGT (pv 1) (by decide)) ZFz)))) (ZBk (ZDK c (pv 0) (pv 1) rfl) ZEA)
abbrev ZBD:Stmt:=ZHP (top 9)
theorem ZH5:FnScope ["self", "where"] ["self", "where"] (ZA4 ZBD):=⟨rfl,rfl,rfl,by decide +kernel,rfl,by decide +kernel,by decide +kernel⟩
theorem ZGb {C S:Addr} (F:Fun K "__init__" "NoWhere.__init__" ZBD f fd) (bd:Binds K fd ["self", "where"] []) (c:ExI K C f "where") (sup:Sup K S) (m_S:mg "StirError" = some (.ref S)):ZDo P w K mg base C "where" := by
  refine ⟨f,fd, "where", c,F.ok (k:=0) ZH5 ZDI (fun cdv A outer s H vs Q E hr h=>?_),bd⟩
  refine ⟨_,?_,ZEv (N:=["self", "where"]) rfl h⟩
  exact ZBk (ZE4 (ZCu (S:=S) sup (by rfl) m_S c.ex (ZCI (pv 0) (ZCI (ZGT (pv 1) (by decide)) ZFz)))) (ZBk (ZDK c (pv 0) (pv 1) rfl) ZEA)
abbrev ZBj:Stmt:=ZHP (top 3)
theorem ZIp:FnScope ["self", "name"] ["self", "name"] (ZA4 ZBj):=⟨rfl,rfl,rfl,by decide +kernel,rfl,by decide +kernel,by decide +kernel⟩
theorem ZIR {C S:Addr} (F:Fun K "__init__" "There.__init__" ZBj f fd) (bd:Binds K fd ["self", "name"] []) (c:ExI K C f "name") (sup:Sup K S) (m_S:mg "StirError" = some (.ref S)):ZDo P w K mg base C "name" := by
  refine ⟨f,fd, "name", c,F.ok (k:=0) ZIp ZDI (fun cdv A outer s H vs Q E hr h=>?_),bd⟩
  refine ⟨_,?_,ZEv (N:=["self", "name"]) rfl h⟩
  exact ZBk (ZE4 (ZCu (S:=S) sup (by rfl) m_S c.ex (ZCI (pv 0) (ZCI (ZGT (pv 1) (by decide)) ZFz)))) (ZBk (ZDK c (pv 0) (pv 1) rfl) ZEA)
open Fz
local macro_rules | `(tactic| walk_at "wp")=>`(tactic| first
  | (refine' wp_strQ ?_)
  | (with_reducible refine' wp_join ?_)
  | ((with_reducible refine' ZIK ?wk ?_);(case wk=>rfl))
  | ((with_reducible refine' wp_l (ZDX (ZBF ?wk ?_)));(case wk=>rfl))
  | ((with_reducible refine' wp_l (ZDP (ZBF ?wk ?_)));(case wk=>rfl))
  | ((with_reducible refine' wp_l (ZDX (ZDX (ZBF ?wk ?_))));(case wk=>rfl))
  | ((with_reducible refine' wp_l (ZDP (ZDP (ZBF ?wk ?_))));(case wk=>rfl))
  | ((with_reducible refine' wp_l (ZDP (ZDX (ZBF ?wk ?_))));(case wk=>rfl))
  | ((with_reducible refine' ZG7 (ZBF ?wk ?_));(case wk=>rfl))
  | ((with_reducible refine' ZG7 (ZDP (ZBF ?wk ?_)));(case wk=>rfl))
  | ((with_reducible refine' ZG7 (ZDX (ZBF ?wk ?_)));(case wk=>rfl))
  | ((with_reducible refine' ZIK ?wk ?_);(case wk=>rfl))
  | ((with_reducible refine' ZA6 ?wk ?_);(case wk=>rfl))
  | (with_reducible refine' ZAO ?_)
  | (with_reducible refine' ZDc ?_)
  | (with_reducible refine' wp_bl ?_)
  | (with_reducible refine' ZCx ?_)
  | (with_reducible refine' wp_rI ?_)
  | (with_reducible refine' wp_rI0 ?_)
  | (with_reducible refine' wp_rB0 ?_)
  | (with_reducible refine' wp_eq ?_)
  | (with_reducible refine' ZGk ?_)
  | (with_reducible refine' wp_and ?_)
  | (with_reducible refine' wp_or ?_)
  | (with_reducible refine' wp_not ?_)
  | (with_reducible refine' ZHE ?_)
  | (with_reducible refine' wp_neg ?_)
  | ((with_reducible refine' wp_lenS ?wk ?_);(case wk=>rfl))
  | (with_reducible refine' wp_len ?_)
  | (with_reducible refine' wp_ixL ?_)
  | (with_reducible refine' ZAW ?_)
  | (with_reducible refine' wp_ixQ ?_)
  | (with_reducible refine' wp_in0 ?_)
  | (with_reducible refine' wp_in1 ?_)
  | (with_reducible refine' ZCN ?_)
  | (with_reducible refine' ZCC ?_)
  | (with_reducible refine' wp_eqS0 ?_)
  | (with_reducible refine' wp_eqS1 ?_)
  | (with_reducible refine' wp_eqP ?_)
  | (with_reducible refine' wp_neP ?_)
  | ((with_reducible refine' wp_take ?wk ?_);(case wk=>rfl))
  | (with_reducible refine' wp_place ?_)
  | (with_reducible refine' wp_isB ?_)
  | (with_reducible refine' wp_notB ?_)
  | (refine' ZIO ?_)
  | (with_reducible refine' ZIj ?_)
  | (with_reducible refine' wp_eqN ?_)
  | (with_reducible refine' wp_neN ?_)
  | (with_reducible refine' wp_neLT ?_)
  | (refine' wp_max ?wk ?_;(case wk=>rfl))
  | (refine' wp_int1 ?wk ?_;(case wk=>rfl))
  | (refine' wp_abs ?wk ?_;(case wk=>rfl))
  | ((with_reducible refine' wp_deed ?wk ?_);(case wk=>rfl))
  | (refine' wp_min ?wk ?_;(case wk=>rfl))
  | (refine' wp_all ?wk ?_;(case wk=>rfl))
  | (refine' wp_any ?wk ?_;(case wk=>rfl))
  | (refine' ZEM ?wk ?_;(case wk=>rfl)))
local macro_rules | `(tactic| walk_at "wn")=>`(tactic| first
  | (refine' wn_rowNP ?wj ?wk ?_;(case wj=>rfl);(case wk=>rfl))
  | (with_reducible refine' ZHN ?_)
  | (with_reducible refine' ZG6 ?_)
  | (with_reducible refine' ZEw ?_)
  | (with_reducible refine' ZIN ?_)
  | (refine' ZFw ?_)
  | (with_reducible refine' wn_rev ?_)
  | (with_reducible refine' wn_lr ?_)
  | (with_reducible refine' wn_ldone ?_)
  | (refine' ZIL ?wk ?_;(case wk=>rfl))
  | (refine' wn_rowOf ?wj ?wk ?_;(case wj=>rfl);(case wk=>rfl)))
local macro_rules | `(tactic| walk_at "wq")=>`(tactic| first
  | ((with_reducible refine' wq_l (ZBF ?wk ?_));(case wk=>rfl))
  | ((with_reducible refine' wq_l (ZDX (ZBF ?wk ?_)));(case wk=>rfl))
  | ((with_reducible refine' wq_l (ZDP (ZBF ?wk ?_)));(case wk=>rfl))
  | ((with_reducible refine' ZGO ?wk ?_);(case wk=>rfl))
  | ((with_reducible refine' wq_sq ?wk ?_);(case wk=>rfl))
  | ((with_reducible refine' ZEW ?wk ?_);(case wk=>rfl))
  | ((with_reducible refine' ZAS ?wk ?_);(case wk=>rfl))
  | (with_reducible refine' ZIz ?_)
  | (refine ZAt (ZAv ?_);walk_at "wn")
  | (refine ZAt ?_;walk_at "wp"))
local macro_rules | `(tactic| walk_at "wz")=>`(tactic| first
  | ((with_reducible refine' wz_sq ?wk ?_);(case wk=>rfl))
  | (with_reducible refine' ZFj ?_)
  | (refine ZEZ (ZAv ?_);walk_at "wn")
  | (refine ZEZ ?_;walk_at "wp"))
local macro_rules | `(tactic| walk_at "wt")=>`(tactic| first
  | (with_reducible refine' ZAu ?_)
  | (with_reducible refine' wt_b ?_)
  | (with_reducible refine' ZGB ?_)
  | (with_reducible refine' ZCP ?_)
  | (with_reducible refine' ZHa ?_)
  | (with_reducible refine' ZEq ?_))
local macro_rules | `(tactic| walk_at "we")=>`(tactic| first
  | (with_reducible refine' we_cons ?_)
  | (with_reducible refine' we_nil ?_)
  | (with_reducible refine' wo_none ?_)
  | (with_reducible refine' wo_some ?_)
  | (with_reducible refine' wi_rng ?_)
  | (with_reducible refine' wi_rng2 ?_)
  | (with_reducible refine' wi_enum ?_)
  | (with_reducible refine' wi_sq ?_))
local macro_rules | `(tactic| walk_at "w")=>`(tactic| first
  | ((with_reducible show ∃ _,_=OV.tp _∧_);refine ⟨_,rfl,?_⟩)
  | ((with_reducible show ∃ _,_=OV.fz _∧_);refine ⟨_,rfl,?_⟩)
  | ((with_reducible show ∃ _ _,_=OV.nd NK.lst _ (List.map OV.fz _)∧_);refine ⟨_,_,rfl,?_⟩)
  | ((with_reducible show ∃ _ _,_=OV.nd NK.lst _ _∧_);refine ⟨_,_,rfl,?_⟩)
  | ((with_reducible show ∃ _ _ _,_=PV.int _∧_∧_∧_);refine ⟨_,_,_,rfl,rfl,rfl,?_⟩)
  | ((with_reducible show Wp _ _ _);first | walk_at "wp" | (refine ZAv ?_;walk_at "wn"))
  | ((with_reducible show Wn _ _ _);walk_at "wn")
  | ((with_reducible show Wq _ _ _);walk_at "wq")
  | ((with_reducible show Wz _ _ _);walk_at "wz")
  | ((with_reducible show Wt _ _ _);walk_at "wt")
  | ((with_reducible show We _ _ _);walk_at "we")
  | ((with_reducible show Wo _ _ _);walk_at "we")
  | ((with_reducible show Wi _ _ _);walk_at "we")
  | ((with_reducible show Ws _ _ _ _);first
    | (with_reducible refine' ZAb ?_)
    | (with_reducible refine' ZCV ?_)
    | (with_reducible refine' ZC5 ?_)
    | (with_reducible refine' ZAD ?_)
    | ((with_reducible refine' ZDi ?wk ?_);(case wk=>rfl))
    | ((with_reducible refine' ZFF ?wk ?_);(case wk=>rfl))
    | ((with_reducible refine' ZHG ?wk ?_);(case wk=>rfl))
    | ((with_reducible refine' ws_pot ?wk ?_);(case wk=>rfl))
    | ((with_reducible refine' ZE8 ?_);walk_at "wn")
    | ((with_reducible refine' ZD1 ?_);walk_at "wp")
    | ((with_reducible refine' ws_retO ?wk ?_);(case wk=>rfl))
    | ((with_reducible refine' ws_retN ?_);walk_at "wn")
    | ((with_reducible refine' ZAh ?_);walk_at "wp"))
  | ((with_reducible show ∃ _,_=PV.int _∧_);refine ⟨_,rfl,?_⟩)
  | ((with_reducible show ∃ _,_=PV.str _∧_);refine ⟨_,rfl,?_⟩)
  | ((with_reducible show ∃ _,_=PV.bl _∧_);refine ⟨_,rfl,?_⟩)
  | ((with_reducible show _=false∧_);refine ⟨rfl,?_⟩)
  | ((with_reducible show _=true∧_);refine ⟨rfl,?_⟩)
  | ((with_reducible show (_:Bool)=_∧_);refine ⟨rfl,?_⟩)
  | ((with_reducible show ∃ _ _,_=PV.int _∧L2.atI _ _=some _∧_);refine ⟨_,_,rfl,rfl,?_⟩)
  | ((with_reducible show ∃ _,(_=PV.lst _∧_)∨(_=PV.tup _∧_));first | refine ⟨_,.inl ⟨rfl,?_⟩⟩ | refine ⟨_,.inr ⟨rfl,?_⟩⟩)
  | ((with_reducible show ∃ _,_=List.map _ _∧_);first | refine ⟨_,rfl,?_⟩ | refine ⟨[],rfl,?_⟩ | refine ⟨_,ZC4 _ _ _ _,?_⟩ | refine ⟨_,map_app _ _ _,?_⟩ | refine ⟨_,map_bl _ _,?_⟩))
local macro_rules | `(tactic| walk_at "ww")=>`(tactic| repeat walk_at "w")
theorem sc__law_take:FnScope ["pot", "many", "found"] ["pot", "many"] (ZA4 ZBI):=⟨rfl,rfl,rfl,by decide +kernel,rfl,by decide +kernel,by decide +kernel⟩
theorem ZG0 (F:Fun K "_law_take" "_law_take" ZBI f fd) (bd:Binds K fd ["pot", "many"] []) (m:mg "_law_take" = some (.ref f))  :
    Has P w K mg base "_law_take" 1 ["pot", "many"] (ZDe):=by
  refine Has.mk F bd m (F.okq (k:=0) sc__law_take (fun vs H Q E h=>?_) (fun cdv A outer s H vs Q E hr h=>?_))
  · obtain ⟨p,m,rfl,⟨a,b,hp,a0,a1,b0,b1⟩,m0,m1,q⟩:=h;rfl
  obtain ⟨p,m,rfl,⟨a,b,hp,a0,a1,b0,b1⟩,m0,m1,q⟩:=h
  refine ⟨_,(ZA8 rfl (ZAX (ZAB ZGq (ZAQ ZAy (qv 0) ZA2 (fun _ _=>rfl)) ZA2 (ZAJ _)) (ZA8 rfl (ZAE (i:=2) sc__law_take.nd rfl (Or.inl rfl) (ZAH ZCO (ZAQ ZAy (qv 0) ZA2 (fun _ _=>rfl)) (qv 1)))
      (ZA8 rfl (ZHH (ZAH ZEL (ZAQ ZAy (qv 0) ZA2 (fun _ _=>rfl)) (qv 1)) (qg_sub (qv 0) ZA2 ZGY))
      (ZAA rfl (ZAP (qv 2))))) ZAG)
      (ZA8 rfl (ZHH (ZAH ZCO (ZAH ZBU (ZAH ZCM (ZAQ ZAy (qv 0) ZA2 (fun _ _=>rfl)) ZA2) ZA2) ZA2) (qg_sub (qv 0) ZA2 ZGY))
      (ZAA rfl (ZAP (ZAH ZCO (ZAH ZEL (ZAH ZCO (ZAH ZCM (ZAQ ZAy (qv 0) ZA2 (fun _ _=>rfl)) (ZAQ ZAy (qv 0) ZA2 (fun _ _=>rfl))) ZA2) ZA2) (qv 1)))))),?_⟩
  refine ⟨_,rfl,p,_,_,_,rfl,rfl,SqL.of hp,rfl,_,_,rfl,rfl,_,rfl,?_⟩
  refine ZAm (fun c=>?_) (fun c=>?_)
  · have c':0 < a:=of_decide_eq_true c
    refine ⟨_,rfl,p,_,_,_,rfl,rfl,SqL.of hp,rfl,_,rfl,_,_,rfl,rfl,m0,?_⟩
    refine ⟨_,rfl,p,_,_,_,rfl,rfl,SqL.of hp,rfl,_,rfl,_,_,rfl,rfl,⟨m0,ZBh (by omega) (by omega)⟩,?_⟩
    refine ⟨_,rfl,p,_,_,_,rfl,rfl,hp,rfl,?_⟩
    refine ⟨_,rfl,?_⟩
    refine q _ _ (Int.emod_nonneg _ (by omega)) (Int.emod_lt_of_pos _ m0) ⟨⟨a / m,b,ZA3,Int.ediv_nonneg a0 (by omega),Int.lt_of_le_of_lt (Int.ediv_le_self _ a0) a1,b0,b1⟩,SameX.upd⟩
  · refine ⟨_,rfl,p,_,_,_,rfl,rfl,SqL.of hp,rfl,_,_,rfl,rfl,⟨ZBh (by omega) (by omega),by decide +kernel⟩,_,_,rfl,rfl,_,_,rfl,rfl,(by show (0:Int) < 2147483647;decide),?_⟩
    refine ⟨_,rfl,p,_,_,_,rfl,rfl,hp,rfl,?_⟩
    have hb0:0≤(b * 69621+12345) % 2147483647:=Int.emod_nonneg _ (by decide)
    have hb1:(b * 69621+12345) % 2147483647 < 2147483647:=Int.emod_lt_of_pos _ (by decide)
    generalize hb:(b * 69621+12345) % 2147483647=b' at hb0 hb1
    have hp':(upd H p (.lst [.int a,.int ((b * 69621+12345) % 2147483647)])) p=some (.lst [.int a,.int b']):=by rw [ZA3,hb]
    refine ⟨_,rfl,p,_,_,_,rfl,rfl,SqL.of hp',rfl,_,rfl,p,_,_,_,rfl,rfl,SqL.of hp',rfl,_,_,rfl,rfl,⟨ZBh (by omega) (by omega),ZBh (by omega) (by omega)⟩,_,_,rfl,rfl,(by show (0:Int) < 2147483629;decide),?_⟩
    refine ⟨_,_,rfl,rfl,⟨(by show (0:Int) < 64;decide),by decide +kernel⟩,_,rfl,_,_,rfl,rfl,m0,?_⟩
    exact q _ _ (Int.emod_nonneg _ (by omega)) (Int.emod_lt_of_pos _ m0) ⟨⟨a,b',hp',a0,a1,hb0,hb1⟩,SameX.upd⟩
theorem sc__law_letters:FnScope ["number", "word"] ["number"] (ZA4 ZAr):=⟨rfl,rfl,rfl,by decide +kernel,rfl,by decide +kernel,by decide +kernel⟩
theorem ZDw (F:Fun K "_law_letters" "_law_letters" ZAr f fd) (bd:Binds K fd ["number"] []) (m:mg "_law_letters" = some (.ref f))  :
    Has P w K mg base "_law_letters" 1 ["number"] (ZFZ):=by
  refine Has.mk F bd m (F.okq (k:=0) sc__law_letters (fun vs H Q E h=>?_) (fun cdv A outer s H vs Q E hr h=>?_))
  · obtain ⟨r,rfl,r0,r1,q⟩:=h;rfl
  obtain ⟨r,rfl,r0,r1,q⟩:=h
  refine ⟨_,(ZA8 rfl (ZAE (i:=1) sc__law_letters.nd rfl (Or.inl rfl) ZAC)
      (ZA8 rfl (ZAp (ZGu PassesOwn.never (ZFR (ZAB ZBd (qv 1) ZAC (ZAJ _)) (ZDS (ZAB ZGq (qv 0) ZA2 (ZAJ _)))).pt (ZA8 rfl (ZAE (i:=1) sc__law_letters.nd rfl (Or.inl rfl) (ZAH ZD0 (qv 1) (ZAQ ix_str ZAC (ZAH ZCO (qv 0) ZA2) (fun _ _=>rfl))))
      (ZAA rfl (ZAE (i:=0) sc__law_letters.nd rfl (Or.inl rfl) (ZAH ZEL (qv 0) ZA2))))))
      (ZAA rfl (ZAP (qv 1))))),?_⟩
  obtain ⟨n,rfl⟩:=Int.eq_ofNat_of_zero_le r0
  have hn:n < 26 ^ 8:=by omega
  rw [Int.toNat_natCast] at q
  refine ⟨fun σ' H'=>∃ v,σ'=[some v,some (.str (ZBv (MA.lets n)))]∧H=H',?_,?_⟩
  · refine ⟨fun m σ' H'=>∃ (k:Nat) (pre:List Nat),σ'=[some (.int k),some (.str (ZBv pre))]∧H=H'∧((pre=[]∧k=n∧m=n+2)∨(pre≠[]∧m=k+1∧(0 < k→pre++MA.lets k=MA.lets n)∧(k=0→pre=MA.lets n))),⟨n+2,n,[],rfl,rfl,.inl ⟨rfl,rfl,rfl⟩⟩,?_⟩
    rintro m σ' H' ⟨k,pre,rfl,rfl,hI⟩
    refine ⟨_,rfl,rfl,_,rfl,?_⟩
    refine ZAm (fun c=>iteT ?_) (fun c=>⟨_,rfl,_,_,rfl,rfl,_,rfl,?_⟩)
    · have hp:pre=[]:=strL_empty.mp (of_decide_eq_true c)
      obtain ⟨_,hk,hm⟩ | ⟨h,_⟩:=hI
      · have he:pre++MA.lets k=MA.lets n:=by rw [hp,hk];rfl
        have hlen:pre.length+1≤8:=by
          have h1:=congrArg List.length he
          rw [List.length_append] at h1
          have h2:=MA.lets_len 7 n hn
          have h3:=MA.lets_pos k
          omega
        refine ⟨fun σ' H'=>σ'=[some (.int ((k:Int) / 26)),some (.str (ZBv pre++⟨#[97+((k:Int) % 26).toNat]⟩))]∧H=H',?_,?_⟩
        · rintro σ' H' ⟨rfl,rfl⟩
          have nx:=ZFL he
          have e1:((k:Int) % 26).toNat=k % 26:=by omega
          have e2:(k:Int) / 26=((k / 26:Nat):Int):=by omega
          exact ⟨k / 26+1,by omega,k / 26,pre++[97+k % 26],by rw [e1,e2,ZFA],rfl,.inr ⟨by simp,rfl,nx.1,nx.2⟩⟩
        · refine ⟨_,rfl,_,rfl,_,_,rfl,rfl,(by show (0:Int) < 26;decide),_,_,_,rfl,rfl,(by decide +kernel),abc_at (Int.emod_nonneg _ (by decide)) (Int.emod_lt_of_pos _ (by decide)),_,_,rfl,rfl,?_,?_⟩
          · rw [ZDG];exact ZBs (show pre.length+1≤_ by omega)
          · exact ⟨_,rfl,_,_,rfl,rfl,⟨(by show (0:Int) < 26;decide),by decide +kernel⟩,rfl,rfl⟩
      · exact absurd hp h
    · have hp:pre≠[]:=fun h=>c (decide_eq_true (strL_empty.mpr h))
      obtain ⟨h,_⟩ | ⟨_,hm,h1,h2⟩:=hI
      · exact absurd h hp
      refine ZAm (fun c2=>?_) (fun c2=>?_)
      · have hk:0 < k:=by have:(0:Int) < k:=of_decide_eq_true c2;omega
        have he:=h1 hk
        have hlen:pre.length+1≤8:=by
          have h1:=congrArg List.length he
          rw [List.length_append] at h1
          have h2:=MA.lets_len 7 n hn
          have h3:=MA.lets_pos k
          omega
        refine ⟨fun σ' H'=>σ'=[some (.int ((k:Int) / 26)),some (.str (ZBv pre++⟨#[97+((k:Int) % 26).toNat]⟩))]∧H=H',?_,?_⟩
        · rintro σ' H' ⟨rfl,rfl⟩
          have nx:=ZFL he
          have e1:((k:Int) % 26).toNat=k % 26:=by omega
          have e2:(k:Int) / 26=((k / 26:Nat):Int):=by omega
          exact ⟨k / 26+1,by omega,k / 26,pre++[97+k % 26],by rw [e1,e2,ZFA],rfl,.inr ⟨by simp,rfl,nx.1,nx.2⟩⟩
        · refine ⟨_,rfl,_,rfl,_,_,rfl,rfl,(by show (0:Int) < 26;decide),_,_,_,rfl,rfl,(by decide +kernel),abc_at (Int.emod_nonneg _ (by decide)) (Int.emod_lt_of_pos _ (by decide)),_,_,rfl,rfl,?_,?_⟩
          · rw [ZDG];exact ZBs (show pre.length+1≤_ by omega)
          · exact ⟨_,rfl,_,_,rfl,rfl,⟨(by show (0:Int) < 26;decide),by decide +kernel⟩,rfl,rfl⟩
      · have hk:k=0:=by
          have:¬ (0:Int) < k:=fun z=>c2 (decide_eq_true z)
          omega
        exact ⟨_,by rw [h2 hk],rfl⟩
  · rintro σ' H' ⟨v,rfl,rfl⟩
    exact ⟨_,rfl,q⟩
theorem sc__law_name:FnScope ["pot", "names", "some", "way", "name", "number"] ["pot", "names"] (ZA4 ZBG):=⟨rfl,rfl,rfl,by decide +kernel,rfl,by decide +kernel,by decide +kernel⟩
theorem ZGG (F:Fun K "_law_name" "_law_name" ZBG f fd) (bd:Binds K fd ["pot", "names"] []) (m:mg "_law_name" = some (.ref f)) (h__law_letters:Has P w K mg base "_law_letters" 1 ["number"] (ZFZ)) (h__law_take:Has P w K mg base "_law_take" 1 ["pot", "many"] (ZDe)) (b_len:mg "len" = none) :
    Has P w K mg base "_law_name" 2 ["pot", "names"] (ZHO K):=by
  refine Has.mk F bd m (F.okq (k:=1) sc__law_name (fun vs H Q E h=>?_) (fun cdv A outer s H vs Q E hr h=>?_))
  · obtain ⟨p,q,ns,rfl,hp,hS,hne,hN,hL,K1⟩:=h;rfl
  obtain ⟨p,q,ns,rfl,hp,hS,hne,hN,hL,K1⟩:=h
  refine ⟨_,(ZA8 rfl (ZAE (i:=2) sc__law_name.nd rfl (Or.inl rfl) (ZAd (ZA0 ZAC (ZA0 ZAC (ZA0 ZAC (ZA0 ZAC (ZA0 ZAC (ZA0 ZAC (ZA0 ZAC (ZA0 ZAC (ZA0 ZAC (ZA0 ZAC (ZA0 ZAC (ZA0 ZAC (ZA0 ZAC ZA1)))))))))))))))
      (ZA8 rfl (ZAE (i:=3) sc__law_name.nd rfl (Or.inl rfl) (ZAR h__law_take hr (by decide) (ZA0 (qv 0) (ZA0 ZA2 ZA1))))
      (ZA8 rfl (ZAE (i:=4) sc__law_name.nd rfl (Or.inl rfl) (ZAQ ZAY (qv 2) (ZAR h__law_take hr (by decide) (ZA0 (qv 0) (ZA0 ZA2 ZA1))) (fun _ _=>rfl)))
      (ZA8 rfl (ZAp (ZAX (ZAB ZBd (qv 3) ZA2 (ZAJ _)) (ZAA rfl (ZAE (i:=4) sc__law_name.nd rfl (Or.inl rfl) (ZAR h__law_letters hr (by decide) (ZA0 (ZAR h__law_take hr (by decide) (ZA0 (qv 0) (ZA0 (ZAH ZEa (ZAH ZDR ZA2 ZA2) ZA2) ZA1))) ZA1)))) ZAG))
      (ZA8 rfl (ZAp (ZAX (ZFq (ZAB ZBd (qv 3) ZA2 (ZAJ _)) (ZE2 (ZAB (ZHY hr.units0) (qv 1) (ZBa ZA1) (ZAJ _)))).pt (ZA8 rfl (ZAE (i:=4) sc__law_name.nd rfl (Or.inl rfl) (ZAQ ZAy (qv 1) (ZAR h__law_take hr (by decide) (ZA0 (qv 0) (ZA0 (ZA7 ZBf (by rfl) b_len (by decide +kernel) (ZA0 (qv 1) ZA1)) ZA1))) (fun _ _=>rfl)))
      (ZAA rfl (ZAE (i:=4) sc__law_name.nd rfl (Or.inl rfl) (ZBY sl_str (ZAH ZD0 (qv 4) (ZAR h__law_letters hr (by decide) (ZA0 (ZAR h__law_take hr (by decide) (ZA0 (qv 0) (ZA0 ZA2 ZA1))) ZA1))) ZBy (ZBz ZA2))))) ZAG))
      (ZA8 rfl (ZAp (ZAX (ZFq (ZAB ZBd (qv 3) ZA2 (ZAJ _)) (ZE2 (ZAB (ZHY hr.units0) (qv 1) (ZBa ZA1) (ZAJ _)))).pt (ZA8 rfl (ZAE (i:=4) sc__law_name.nd rfl (Or.inl rfl) (ZAQ ZAy (qv 1) (ZAR h__law_take hr (by decide) (ZA0 (qv 0) (ZA0 (ZA7 ZBf (by rfl) b_len (by decide +kernel) (ZA0 (qv 1) ZA1)) ZA1))) (fun _ _=>rfl)))
      (ZAA rfl (ZAE (i:=4) sc__law_name.nd rfl (Or.inl rfl) (ZBY sl_str (qv 4) ZBy (ZBz (ZAH ZBU ZA2 (ZAR h__law_take hr (by decide) (ZA0 (qv 0) (ZA0 (ZA7 ZCK (by rfl) b_len (by decide +kernel) (ZA0 (qv 4) ZA1)) ZA1))))))))) ZAG))
      (ZA8 rfl (ZAE (i:=5) sc__law_name.nd rfl (Or.inl rfl) ZA2)
      (ZA8 rfl (ZAp (ZGu PassesOwn.never (ZAB ZDg (qv 4) (qv 1) (by with_unfolding_all rfl)) (ZA8 rfl (ZAE (i:=4) sc__law_name.nd rfl (Or.inl rfl) (ZAR h__law_letters hr (by decide) (ZA0 (qv 5) ZA1)))
      (ZAA rfl (ZAE (i:=5) sc__law_name.nd rfl (Or.inl rfl) (ZAH ZBU (qv 5) ZA2))))))
      (ZAA rfl (ZAP (qv 4))))))))))),?_⟩
  have hl:(ns.map V.str).length=ns.length:=List.length_map _
  refine ⟨(by show 13≤sizeLine;decide +kernel),fun sm hsm=>?_⟩
  have hsp:sm≠p:=by
    obtain ⟨_,_,e,_⟩:=hp
    exact (ZAF e hsm).symm
  have g0:PStep p H (upd H sm (.tup menuV)):=PStep.of hp (ZAN hsm _)
  refine ⟨_,rfl,p,4,rfl,g0.pot,by decide,by decide,fun way H1 w0 w1 s1=>?_⟩
  refine ⟨_,rfl,_,rfl,p,13,rfl,s1.pot,by decide,by decide,fun i H2 i0 i1 s2=>?_⟩
  have h2:H2 sm=some (.tup menuV):=s2.at' (s1.at' ZA3 hsp) hsp
  obtain ⟨x,hx,nx⟩:=menu_at i0 i1
  refine ⟨sm,_,_,_,rfl,rfl,SqT.of h2,hx,?_⟩
  have g2:=g0.trans (s1.trans s2)
  refine ⟨fun σ' H'=>∃ x,σ'=[some (.ref p),some (.ref q),some (.ref sm),some (.int way),some (.str x),none]∧Nm x∧PStep p H H',?_,?_⟩
  · refine ⟨_,rfl,rfl,_,rfl,?_⟩
    refine ZAm (fun c=>?_) (fun c=>?_)
    · refine ⟨_,rfl,_,_,rfl,rfl,⟨by decide,by decide,by decide +kernel⟩,_,_,rfl,rfl,p,_,rfl,g2.pot,lt268a,lt268b,fun r H3 r0 r1 s3=>?_⟩
      have r2:r < 26 ^ 8:=Int.lt_trans r1 lt268j
      exact ⟨r,rfl,r0,r2,_,rfl,ZFu (lt268n r0 r2),g2.trans s3⟩
    · exact ⟨x,rfl,nx,g2⟩
  clear h2 hx nx s2 g2 i0 i1
  rintro σ' H3 ⟨y,rfl,ny,g3⟩
  refine ⟨fun σ' H'=>∃ x,σ'=[some (.ref p),some (.ref q),some (.ref sm),some (.int way),some (.str x),none]∧Nm x∧PStep p H H',?_,?_⟩
  · refine ⟨_,rfl,rfl,_,rfl,?_⟩
    refine ZAm (fun c=>?_) (fun c=>iteF ⟨y,rfl,ny,g3⟩)
    refine ⟨_,rfl,(by show 0≤sizeLine;decide),fun e he=>?_⟩
    have g4:=g3.trans (PStep.of g3.pot (ZAN he (.lst [])))
    have hSq:=g4.sqL hS hne
    refine ⟨q,e,_,[],rfl,rfl,.inl ⟨hSq,SqL.of ZA3⟩,ZBQ ns,rfl,_,rfl,?_⟩
    rw [ZHA]
    refine ZAm (fun c2=>?_) (fun c2=>⟨y,rfl,ny,g4⟩)
    have hpos:0 < ns.length:=by
      cases ns with
      | nil=>simp at c2
      | cons a r=>simp
    refine ⟨_,rfl,_,rfl,_,rfl,q,_,rfl,.inl hSq,p,_,rfl,g4.pot,(by rw [hl];omega),(by rw [hl];omega),fun i H5 i0 i1 s5=>?_⟩
    rw [hl] at i1
    have g5:=g4.trans s5
    obtain ⟨z,hz,hzm,_⟩:=ZGW i0 i1
    have nz:=hN z hzm
    refine ⟨q,_,_,_,rfl,rfl,g5.sqL hS hne,hz,?_⟩
    refine ⟨_,rfl,_,rfl,p,26,rfl,g5.pot,by decide,by decide,fun r H6 r0 r1 s6=>?_⟩
    have g6:=g5.trans s6
    have r2:r < 26 ^ 8:=Int.lt_trans r1 lt268k
    refine ⟨r,rfl,r0,r2,?_⟩
    have nl:=ZFu (n:=r.toNat) (lt268n r0 r2)
    have hlen:z.length+(ZBv (MA.lets r.toNat)).length≤16:=by have:=nz.2.1;have:=nl.2.1;omega
    refine ⟨_,_,rfl,rfl,ZBs (by omega),?_⟩
    refine ⟨_,rfl,_,rfl,ZBs (by rw [ZCy];omega),?_⟩
    refine ⟨_,rfl,ZH2 (by decide) (by decide) (by rw [ZCy];have:=nz.1;omega) (fun c hc=>?_),g6⟩
    rw [ZCt] at hc
    rcases List.mem_append.mp hc with hc | hc
    · exact nz.2.2 c hc
    · exact nl.2.2 c hc
  clear ny g3
  rintro σ' H3 ⟨y,rfl,ny,g3⟩
  refine ⟨fun σ' H'=>∃ x,σ'=[some (.ref p),some (.ref q),some (.ref sm),some (.int way),some (.str x),none]∧Nm x∧PStep p H H',?_,?_⟩
  · refine ⟨_,rfl,rfl,_,rfl,?_⟩
    refine ZAm (fun c=>?_) (fun c=>iteF ⟨y,rfl,ny,g3⟩)
    refine ⟨_,rfl,(by show 0≤sizeLine;decide),fun e he=>?_⟩
    have g4:=g3.trans (PStep.of g3.pot (ZAN he (.lst [])))
    have hSq:=g4.sqL hS hne
    refine ⟨q,e,_,[],rfl,rfl,.inl ⟨hSq,SqL.of ZA3⟩,ZBQ ns,rfl,_,rfl,?_⟩
    rw [ZHA]
    refine ZAm (fun c2=>?_) (fun c2=>⟨y,rfl,ny,g4⟩)
    have hpos:0 < ns.length:=by
      cases ns with
      | nil=>simp at c2
      | cons a r=>simp
    refine ⟨_,rfl,_,rfl,_,rfl,q,_,rfl,.inl hSq,p,_,rfl,g4.pot,(by rw [hl];omega),(by rw [hl];omega),fun i H5 i0 i1 s5=>?_⟩
    rw [hl] at i1
    have g5:=g4.trans s5
    obtain ⟨z,hz,hzm,_⟩:=ZGW i0 i1
    have nz:=hN z hzm
    refine ⟨q,_,_,_,rfl,rfl,g5.sqL hS hne,hz,?_⟩
    have nz1:=nz.1
    have nz2:=nz.2.1
    refine ⟨_,rfl,_,rfl,_,rfl,_,rfl,ZBs (by omega),p,_,rfl,g5.pot,(by omega),(by omega),fun r H6 r0 r1 s6=>?_⟩
    refine ⟨_,_,rfl,rfl,_,rfl,_,rfl,ZBs (by omega),?_⟩
    exact ⟨_,rfl,ZH2 (by omega) (by omega) nz1 nz.2.2,g5.trans s6⟩
  clear ny g3
  rintro σ' H3 ⟨y,rfl,ny,g3⟩
  refine ⟨fun σ' H'=>∃ x v,σ'=[some (.ref p),some (.ref q),some (.ref sm),some (.int way),some (.str x),some v]∧Nm x∧x∉ns∧H3=H',?_,?_⟩
  · refine ⟨fun m σ' H'=>∃ (k:Nat) (x:Str),σ'=[some (.ref p),some (.ref q),some (.ref sm),some (.int way),some (.str x),some (.int k)]∧H3=H'∧Nm x∧m=ns.length+1 - k∧k≤ns.length+1∧(0 < k→x=ZBv (MA.lets (k - 1)))∧(∀ j,j+1 < k→ZBv (MA.lets j)∈ns),
      ⟨ns.length+1,0,y,rfl,rfl,ny,rfl,Nat.zero_le _,fun h=>absurd h (by decide),fun j h=>absurd h (by omega)⟩,?_⟩
    rintro m σ' H' ⟨k,x,rfl,rfl,nx,rfl,hk,hx,hj⟩
    refine ⟨_,rfl,_,rfl,q,_,rfl,.inl (g3.sqL hS hne),rfl,ZBQ ns,_,rfl,?_⟩
    rw [if_neg (by decide),ZEc]
    refine ZAm (fun c=>?_) (fun c=>⟨x,_,rfl,nx,fun z=>c (decide_eq_true z),rfl⟩)
    have hin:x∈ns:=of_decide_eq_true c
    have hall:∀ j,j < k→ZBv (MA.lets j)∈ns:=fun j hj'=>by
      by_cases e:j+1 < k
      · exact hj j e
      · have e2:j=k - 1:=by omega
        rw [e2,← hx (by omega)];exact hin
    have hkn:=ZIX hall
    refine ⟨fun σ' H'=>σ'=[some (.ref p),some (.ref q),some (.ref sm),some (.int way),some (.str (ZBv (MA.lets k))),some (.int ((k:Int)+1))]∧H3=H',?_,?_⟩
    · rintro σ' H' ⟨rfl,rfl⟩
      exact ⟨ns.length+1 - (k+1),by omega,k+1,ZBv (MA.lets k),rfl,rfl,ZFu (Nat.lt_of_le_of_lt (Nat.le_trans hkn hL) lt268),rfl,by omega,fun _=>rfl,fun j hj'=>hall j (by omega)⟩
    · refine ⟨_,rfl,k,rfl,by omega,?_,?_⟩
      · have:(k:Int)≤1000:=by omega
        exact Int.lt_of_le_of_lt this lt268i
      · rw [Int.toNat_natCast]
        exact ⟨_,rfl,_,_,rfl,rfl,rfl,rfl⟩
  rintro σ' H' ⟨x,v,rfl,nx,hx,rfl⟩
  exact ⟨_,rfl,K1 x H3 nx hx g3⟩
theorem sc__law_names:FnScope ["pot", "many", "names", "k"] ["pot", "many"] (ZA4 ZB9):=⟨rfl,rfl,rfl,by decide +kernel,rfl,by decide +kernel,by decide +kernel⟩
theorem ZF2 (F:Fun K "_law_names" "_law_names" ZB9 f fd) (bd:Binds K fd ["pot", "many"] []) (m:mg "_law_names" = some (.ref f)) (h__law_name:Has P w K mg base "_law_name" 2 ["pot", "names"] (ZHO K)) (b_range:mg "range" = none) :
    Has P w K mg base "_law_names" 3 ["pot", "many"] (ZGR):=by
  refine Has.mk F bd m (F.okq (k:=2) sc__law_names (fun vs H Q E h=>?_) (fun cdv A outer s H vs Q E hr h=>?_))
  · obtain ⟨p,m,rfl,hp,m0,m1,q⟩:=h;rfl
  obtain ⟨p,m,rfl,hp,m0,m1,q⟩:=h
  refine ⟨_,(ZA8 rfl (ZAE (i:=2) sc__law_names.nd rfl (Or.inl rfl) (ZBa ZA1))
      (ZA8 rfl (ZAp (ZBb PassesOwn.never rfl (ZCB rfl b_range (ZA0 (qv 1) ZA1)) (ZAV (i:=3) sc__law_names.nd rfl (Or.inl rfl)) (ZAA rfl (ZBw (ZGz PySem.F.plainAttrs_list PySem.F.slot_list_append PySem.F.type_list_append ZDO (qv 2) (ZA0 (ZAR h__law_name hr (by decide) (ZA0 (qv 0) (ZA0 (qv 2) ZA1))) ZA1))))))
      (ZAA rfl (ZAP (qv 2))))),?_⟩
  refine ⟨(by show 0≤sizeLine;decide),fun l hl=>?_⟩
  have hne:=hp.ne hl
  refine ⟨fun σ' H'=>∃ (ns:List Str) (v:Option V),σ'=[some (.ref p),some (.int m),some (.ref l),v]∧PStep p H H'∧H' l=some (.lst (ns.map V.str))∧(ns.length:Int)=m∧(∀ x∈ns,Nm x)∧ns.Nodup,?_,?_⟩
  · refine ⟨_,rfl,m,rfl,by omega,by omega,ZIb (n:=m.toNat) (fun i σ' H'=>∃ (ns:List Str) (v:Option V),σ'=[some (.ref p),some (.int m),some (.ref l),v]∧PStep p H H'∧H' l=some (.lst (ns.map V.str))∧ns.length=i∧(∀ x∈ns,Nm x)∧ns.Nodup) ?_ ?_ ?_⟩
    · exact ⟨[],none,rfl,(PStep.of hp (Same.refl H)).upd hl hne,ZA3,rfl,fun x hx=>absurd hx (by simp),by simp⟩
    · rintro i σ' H' hi ⟨ns,v,rfl,g,e,hlen,hN,nd⟩
      refine ⟨_,rfl,.inl ⟨rfl,_,SqL.of e⟩,_,rfl,_,rfl,p,l,ns,rfl,g.pot,SqL.of e,hne,hN,by omega,fun x H2 nx hx s2=>?_⟩
      refine ⟨l,_,_,rfl,rfl,s2.at' e hne,Nat.lt_of_le_of_lt (m:=100) (by rw [List.length_map];omega) (by decide +kernel),?_⟩
      refine ⟨ns++[x],_,rfl,(g.trans s2).upd hl hne,by rw [ZA3,List.map_append];rfl,by rw [List.length_append];simp [hlen],fun y hy=>?_,ZEi nd hx⟩
      rcases List.mem_append.mp hy with h | h
      · exact hN y h
      · have:y=x:=by simpa using h
        rw [this];exact nx
    · rintro σ' H' ⟨ns,v,rfl,g,e,hlen,hN,nd⟩
      exact ⟨ns,v,rfl,g,e,by omega,hN,nd⟩
  rintro σ' H' ⟨ns,v,rfl,g,e,hlen,hN,nd⟩
  exact ⟨_,rfl,q l H' ns hl g e hlen hN nd⟩
theorem sc__law_kinds:FnScope ["pot", "many", "words", "shape", "kinds", "k", "puts", "j", "where", "kind"] ["pot"] (ZA4 ZBA):=⟨rfl,rfl,rfl,by decide +kernel,rfl,by decide +kernel,by decide +kernel⟩
theorem ZCe  : ∀ ss R,ZEp ss R→ss.length=1:=by rintro _ _ ⟨rfl,rfl⟩;rfl
theorem ZF4 (F:Fun K "_law_kinds" "_law_kinds" ZBA f fd) (bd:Binds K fd ["pot"] []) (m:mg "_law_kinds" = some (.ref f)) (h__law_names:Has P w K mg base "_law_names" 3 ["pot", "many"] (ZGR)) (h__law_take:Has P w K mg base "_law_take" 1 ["pot", "many"] (ZDe)) (b_max:mg "max" = none) (b_range:mg "range" = none) (b_tuple:mg "tuple" = none) :
    Has P w K mg base "_law_kinds" 4 ["pot"] (spF ZEp):=by
  refine Has.mk F bd m (F.okq (k:=3) sc__law_kinds (fun vs H Q E h=>Fz.spF_len ZCe h) (fun cdv A outer s H vs Q E hr h=>?_))
  refine ⟨_,(ZA8 rfl (ZAE (i:=1) sc__law_kinds.nd rfl (Or.inl rfl) (ZAH ZBU ZA2 (ZAR h__law_take hr (by decide) (ZA0 (qv 0) (ZA0 ZA2 ZA1)))))
      (ZA8 rfl (ZAE (i:=2) sc__law_kinds.nd rfl (Or.inl rfl) (ZAR h__law_names hr (by decide) (ZA0 (qv 0) (ZA0 (qv 1) ZA1))))
      (ZA8 rfl (ZAE (i:=3) sc__law_kinds.nd rfl (Or.inl rfl) (ZAR h__law_take hr (by decide) (ZA0 (qv 0) (ZA0 ZA2 ZA1))))
      (ZA8 rfl (ZAE (i:=4) sc__law_kinds.nd rfl (Or.inl rfl) (ZBa ZA1))
      (ZA8 rfl (ZAp (ZBb PassesOwn.never rfl (ZCB rfl b_range (ZA0 (qv 1) ZA1)) (ZAV (i:=5) sc__law_kinds.nd rfl (Or.inl rfl)) (ZA8 rfl (ZAE (i:=6) sc__law_kinds.nd rfl (Or.inl rfl) (ZBa ZA1))
      (ZA8 rfl (ZAp (ZBb PassesOwn.never rfl (ZCB rfl b_range (ZA0 (ZAQ ZAY (ZAd (ZA0 ZA2 (ZA0 ZA2 (ZA0 ZA2 (ZA0 ZA2 (ZA0 ZA2 (ZA0 ZA2 (ZA0 ZA2 ZA1)))))))) (ZAR h__law_take hr (by decide) (ZA0 (qv 0) (ZA0 ZA2 ZA1))) (fun _ _=>rfl)) ZA1)) (ZAV (i:=7) sc__law_kinds.nd rfl (Or.inl rfl)) (ZA8 rfl (ZAE (i:=8) sc__law_kinds.nd rfl (Or.inl rfl) (ZAQ ZAY (ZAd (ZA0 ZAC (ZA0 ZAC (ZA0 ZAC (ZA0 ZAC ZA1))))) (ZAR h__law_take hr (by decide) (ZA0 (qv 0) (ZA0 ZA2 ZA1))) (fun _ _=>rfl)))
      (ZA8 rfl (ZAE (i:=9) sc__law_kinds.nd rfl (Or.inl rfl) (ZAR h__law_take hr (by decide) (ZA0 (qv 0) (ZA0 (qv 1) ZA1))))
      (ZA8 rfl (ZAp (ZAX (ZAB op_lt (qv 3) ZA2 (ZAJ _)) (ZAA rfl (ZAE (i:=9) sc__law_kinds.nd rfl (Or.inl rfl) (ZAH ZBU (ZAH ZBU (qv 5) ZA2) (ZAH ZCO (qv 9) (ZA7 (ZFh rfl) (by rfl) b_max (by decide +kernel) (ZA0 ZA2 (ZA0 (ZAH ZEa (ZAH ZEa (qv 1) ZA2) (qv 5)) ZA1))))))) ZAG))
      (ZAA rfl (ZAX (ZAB op_lt (qv 9) (qv 1) (ZAJ _)) (ZAA rfl (ZBw (ZGz PySem.F.plainAttrs_list PySem.F.slot_list_append PySem.F.type_list_append ZDO (qv 6) (ZA0 (ZAd (ZA0 (qv 8) (ZA0 (ZAQ ZAy (qv 2) (qv 9) (fun _ _=>rfl)) ZA1))) ZA1)))) ZAG)))))))
      (ZAA rfl (ZBw (ZGz PySem.F.plainAttrs_list PySem.F.slot_list_insert PySem.F.type_list_insert ZIr (qv 4) (ZA0 (ZAR h__law_take hr (by decide) (ZA0 (qv 0) (ZA0 (ZAH ZBU (qv 5) ZA2) ZA1))) (ZA0 (ZAd (ZA0 (ZAQ ZAy (qv 2) (qv 5) (fun _ _=>rfl)) (ZA0 (ZDZ ZCr (by rfl) b_tuple (by decide +kernel) (ZA0 (qv 6) ZA1)) (ZA0 (ZG4 ZBd (ZAR h__law_take hr (by decide) (ZA0 (qv 0) (ZA0 ZA2 ZA1))) ZA2 (ZAJ _)) ZA1)))) ZA1)))))))))
      (ZAA rfl (ZAP (qv 4)))))))),?_⟩
  refine Fz.fn_run h ZCe ?_
  rintro _ _ ⟨rfl,rfl⟩
  show Ws [_,.any,.any,.any,.any,.any,.any,.any,.any,.any] _ _ _
  walk_at "ww"
  refine ⟨by decide,by decide,fun r a1 b1=>⟨_,rfl,?_⟩⟩
  obtain ⟨m0,rfl⟩:=Int.eq_ofNat_of_zero_le a1
  refine ZAb (ZE8 (wn_names rfl (ZA6 rfl ⟨_,rfl,by omega,by omega,fun ws hl hN nd=>?_⟩)))
  have hS:∀ x∈ws,ZAx x:=fun x hx=>nm_say (hN x hx)
  clear hN nd
  refine ZCh 2 rfl ?_
  walk_at "ww"
  refine ⟨by decide,by decide,fun sh s0 s1=>?_⟩
  walk_at "ww"
  refine ⟨by decide,?_⟩
  refine ZAb (ZCV (ZBp (fun _ i ss'=>∃ (ks:List Kd) (s5 s6 s7 s8 s9:Slot),ss'=[.pot,.is (.int (1+(m0:Int))),.is (.lst (ws.map .str)),.is (.int sh),.own (ks.map Kd.P),s5,s6,s7,s8,s9]∧ks.length=i∧∀ k∈ks,KdOk 0 k) ?_))
  walk_at "ww"
  rw [ZCD]
  refine ⟨by omega,by omega,⟨[],_,_,_,_,_,rfl,rfl,fun k hk=>absurd hk List.not_mem_nil⟩,?_,?_⟩
  · rintro k p ss' hp ⟨ks,s5,s6,s7,s8,s9,rfl,lk,ok⟩
    obtain ⟨hk,rfl⟩:=ZFp hp
    refine ZCH ?_
    walk_at "ww"
    refine ⟨by decide,?_⟩
    refine ZAb (ZCV (ZBp (fun _ j ss'=>∃ (qs:List (Str×Str)) (s7 s8 s9:Slot),ss'=[.pot,.is (.int (1+(m0:Int))),.is (.lst (ws.map .str)),.is (.int sh),.own (ks.map Kd.P),.is (.int k),.own (qs.map ZBB),s7,s8,s9]∧qs.length≤j∧∀ q∈qs,ZAx q.1∧ZAx q.2) ?_))
    walk_at "ww"
    refine ⟨by decide,_,.inr ⟨rfl,rfl,?_⟩⟩
    walk_at "ww"
    refine ⟨by decide,by decide,fun t t0 t1=>?_⟩
    obtain ⟨m,hm,lm⟩:=at7I t0 t1
    refine ⟨_,_,rfl,hm,_,rfl,by omega,by omega,?_⟩
    rw [ZCD,Int.toNat_natCast]
    refine ⟨⟨[],_,_,_,rfl,Nat.le_refl _,fun q hq=>absurd hq List.not_mem_nil⟩,?_,?_⟩
    · rintro j p ss' hp ⟨qs,s7,s8,s9,rfl,lq,oq⟩
      obtain ⟨hj,rfl⟩:=ZFp hp
      refine ZCH ?_
      walk_at "ww"
      refine ⟨by decide,_,.inr ⟨rfl,rfl,?_⟩⟩
      walk_at "ww"
      refine ⟨by decide,by decide,fun t2 a2 b2=>?_⟩
      obtain ⟨wh,hwh,swh⟩:=at4S a2 b2
      refine ⟨_,_,rfl,hwh,?_⟩
      walk_at "ww"
      refine ⟨by omega,ZHC (by omega),fun kd a3 b3=>?_⟩
      refine ZC0 (fun ss'=>∃ kd:Int,ss'=[.pot,.is (.int (1+(m0:Int))),.is (.lst (ws.map .str)),.is (.int sh),.own (ks.map Kd.P),.is (.int k),.own (qs.map ZBB),.is (.int j),.is (.str wh),.is (.int kd)]∧0≤kd) ?_ ?_
      · walk_at "ww"
        refine ZAm (fun c=>?_) (fun c=>ZAD ⟨kd,rfl,a3⟩)
        walk_at "ww"
        have hmx:0 < (if 1+(m0:Int) - 1 - k > 1 then 1+(m0:Int) - 1 - k else 1):=by split <;> omega
        have hmod:=Int.emod_nonneg kd (Int.ne_of_gt hmx)
        exact ⟨hmx,_,rfl,_,rfl,by omega⟩
      rintro _ ⟨kd,rfl,k0⟩
      walk_at "ww"
      refine ZAm (fun c=>?_) (fun c=>ZAD ⟨qs,_,_,_,rfl,by omega,oq⟩)
      have c':=of_decide_eq_true c
      obtain ⟨kn,rfl⟩:=Int.eq_ofNat_of_zero_le k0
      have hkn:kn < ws.length:=by omega
      have aK:L2.atI (ws.map PV.str) (kn:Int)=some (.str ws[kn]):=ZD4 (by omega) (by rw [Int.toNat_natCast,List.getElem?_map,List.getElem?_eq_getElem hkn];rfl)
      refine ZDi rfl (ZCN ?_)
      walk_at "ww"
      refine ⟨_,_,rfl,aK,?_⟩
      walk_at "ww"
      refine ⟨by show 2≤100000;decide,by rw [List.length_map];omega,qs++[(wh,ws[kn])],.is (.int j),.is (.str wh),.is (.int kn),?_,?_,?_⟩
      · rw [List.map_append];rfl
      · rw [List.length_append,List.length_singleton];omega
      · intro q hq
        rcases List.mem_append.mp hq with z | z
        · exact oq q z
        · rw [List.mem_singleton.mp z];exact ⟨swh,hS _ (List.getElem_mem hkn)⟩
    · rintro ss' ⟨qs,s7,s8,s9,rfl,lq,oq⟩
      have hkw:k < ws.length:=by omega
      have aK:L2.atI (ws.map PV.str) (k:Int)=some (.str ws[k]):=ZD4 (by omega) (by rw [Int.toNat_natCast,List.getElem?_map,List.getElem?_eq_getElem hkw];rfl)
      refine ZFF rfl ?_
      walk_at "ww"
      refine ⟨by omega,ZHC (by omega),fun t9 a9 b9=>⟨_,rfl,a9,by rw [List.length_map];omega,?_⟩⟩
      refine ZCN ?_
      walk_at "ww"
      refine ⟨_,_,rfl,aK,?_⟩
      walk_at "ww"
      refine ⟨by decide,by decide,fun r2 a2 b2=>?_⟩
      walk_at "ww"
      refine ⟨by show 3≤100000;decide,by rw [List.length_map];omega,ks.take t9.toNat++⟨ws[k],qs,ZBo (.int r2) (.int 1)⟩ :: ks.drop t9.toNat,.is (.int k),.own (qs.map ZBB),s7,s8,s9,?_,?_,?_⟩
      · rw [← List.map_take,← List.map_drop,List.map_append];rfl
      · rw [List.length_append,List.length_cons,List.length_take,List.length_drop];omega
      · intro kk hkk
        rcases List.mem_append.mp hkk with z | z
        · exact ok kk (List.mem_of_mem_take z)
        · rcases List.mem_cons.mp z with z | z
          · rw [z];exact ⟨hS _ (List.getElem_mem hkw),by show qs.length≤6+0;omega,oq⟩
          · exact ok kk (List.mem_of_mem_drop z)
  · rintro ss' ⟨ks,s5,s6,s7,s8,s9,rfl,lk,ok⟩
    refine ZCh 4 rfl ?_
    exact ZAh (ZA6 rfl ⟨ks,rfl,by omega,ok⟩)
theorem sc__law_due:FnScope ["kinds", "words", "word", "puts", "goes", "where", "kind"] ["kinds"] (ZA4 ZBE):=⟨rfl,rfl,rfl,by decide +kernel,rfl,by decide +kernel,by decide +kernel⟩
def ZF1:Scope:={ kind:=.function,names:=[(".0", .local),("sign", .local)],isGenerator:=false,isCoroutine:=false,more:=[] }
theorem ZEz:CompScope ["kinds", "words", "word", "puts", "goes", "where", "kind"] (ZA4 ZBE) ZF1 "sign" [] []:=⟨rfl,by decide +kernel,by decide +kernel,rfl,rfl,by decide +kernel,by decide +kernel,by decide +kernel,by decide +kernel⟩
theorem ZD8  : ∀ ss R,ZER ss R→ss.length=1:=by rintro _ _ ⟨ks,rfl,_,rfl⟩;rfl
theorem ZHD (F:Fun K "_law_due" "_law_due" ZBE f fd) (bd:Binds K fd ["kinds"] []) (m:mg "_law_due" = some (.ref f)) (b_len:mg "len" = none) :
    Has P w K mg base "_law_due" 1 ["kinds"] (spF ZER):=by
  refine Has.mk F bd m (F.okq (k:=0) sc__law_due (fun vs H Q E h=>Fz.spF_len ZD8 h) (fun cdv A outer s H vs Q E hr h=>?_))
  refine ⟨_,(ZA8 rfl (ZAX (ZFR (ZAB ZBd (ZA7 ZAs (by rfl) b_len (by decide +kernel) (ZA0 (qv 0) ZA1)) ZA2 (ZAJ _)) (ZDS (ZAB ZGq (ZA7 ZAs (by rfl) b_len (by decide +kernel) (ZA0 (qv 0) ZA1)) ZA2 (ZAJ _)))).pt (ZAA rfl (ZAP (ZAd (ZA0 ZA2 (ZA0 ZAC ZA1))))) ZAG)
      (ZA8 rfl (ZAE (i:=1) sc__law_due.nd rfl (Or.inl rfl) (ZBa ZA1))
      (ZA8 rfl (ZAp (ZBb PassesOwn.never rfl (ZEE (qv 0)) (ZEl rfl (ZAo (ZAV (i:=2) sc__law_due.nd rfl (Or.inl rfl)) (ZAo (ZAV (i:=3) sc__law_due.nd rfl (Or.inl rfl)) (ZAo (ZAV (i:=4) sc__law_due.nd rfl (Or.inl rfl)) ZD7)))) (ZA8 rfl (ZAX (ZFR (ZCw (ZDE ZDs ZDs ZA2 (ZA7 ZCK (by rfl) b_len (by decide +kernel) (ZA0 (qv 2) ZA1)) ZA2)) (ZDS (ZAB (ZHY hr.units0) (ZGK rfl ZEz (qi_str (qv 2)) (fun _ _ _ _=>by exact (qif_one (ZCw (ZDE ZFQ ZFQ ZAC (qv 0) ZAC)))) (fun _ _ _ _=>by exact (qv 0))) (ZBa ZA1) (ZAJ _)))).pt (ZAA rfl (ZAP (ZAd (ZA0 ZA2 (ZA0 (qv 2) ZA1))))) ZAG)
      (ZA8 rfl (ZAX (ZAB ZDg (qv 2) (qv 1) (by with_unfolding_all rfl)) (ZAA rfl (ZAP (ZAd (ZA0 ZA2 (ZA0 (qv 2) ZA1))))) ZAG)
      (ZA8 rfl (ZAX (ZAB ZGq (ZA7 ZAs (by rfl) b_len (by decide +kernel) (ZA0 (qv 3) ZA1)) ZA2 (ZAJ _)) (ZAA rfl (ZAP (ZAd (ZA0 ZA2 (ZA0 ZAC ZA1))))) ZAG)
      (ZAA rfl (ZBw (ZGz PySem.F.plainAttrs_list PySem.F.slot_list_append PySem.F.type_list_append ZDO (qv 1) (ZA0 (qv 2) ZA1)))))))))
      (ZA8 rfl (ZAp (ZBb PassesOwn.never rfl (ZEE (qv 0)) (ZEl rfl (ZAo (ZAV (i:=2) sc__law_due.nd rfl (Or.inl rfl)) (ZAo (ZAV (i:=3) sc__law_due.nd rfl (Or.inl rfl)) (ZAo (ZAV (i:=4) sc__law_due.nd rfl (Or.inl rfl)) ZD7)))) (ZAA rfl (ZBb PassesOwn.never rfl (ZEE (qv 3)) (ZEl rfl (ZAo (ZAV (i:=5) sc__law_due.nd rfl (Or.inl rfl)) (ZAo (ZAV (i:=6) sc__law_due.nd rfl (Or.inl rfl)) ZD7))) (ZA8 rfl (ZAX (ZAB ZBe (qv 5) (ZAd (ZA0 ZAC (ZA0 ZAC (ZA0 ZAC (ZA0 ZAC ZA1))))) (by with_unfolding_all rfl)) (ZAA rfl (ZAP (ZAd (ZA0 ZA2 (ZA0 (qv 5) ZA1))))) ZAG)
      (ZAA rfl (ZAX (ZAB ZBe (qv 6) (qv 1) (by with_unfolding_all rfl)) (ZAA rfl (ZAP (ZAd (ZA0 ZA2 (ZA0 (qv 6) ZA1))))) ZAG)))))))
      (ZAA rfl (ZAP ZEr)))))),?_⟩
  refine Fz.fn_run h ZD8 ?_
  rintro _ _ ⟨ks,rfl,hK,rfl⟩
  show Ws [_,.any,.any,.any,.any,.any,.any] _ _ _
  have many:∀ (c:ks.length=0∨8 < ks.length),ZC2 ks=some ((10:Int),("" : Str)):=fun c=>by unfold ZC2;rw [if_pos c]
  walk_at "ww"
  rw [List.length_map]
  refine ZAm (fun c=>?_) (fun c=>?_)
  · refine ZDy rfl ?_
    walk_at "ww"
    refine ⟨by show 2≤100000;decide,?_⟩
    rw [many (.inl (by have:=of_alike c;omega))];rfl
  walk_at "ww"
  rw [List.length_map]
  refine ZAm (fun c2=>?_) (fun c2=>ZAD ?_)
  · walk_at "ww"
    refine ⟨by show 2≤100000;decide,?_⟩
    rw [many (.inr (by have:=of_decide_eq_true c2;omega))];rfl
  have h1:ks.length≠0:=fun z=>c (by rw [z];rfl)
  have h8:ks.length≤8:=by
    have:¬ ((8:Int) < ks.length):=fun h=>c2 (decide_eq_true h)
    omega
  have dq:=ZEK (ks:=ks) (by omega)
  walk_at "ww"
  refine ⟨by decide,?_⟩
  refine ZAb (ZCV (ZBp (fun _ i ss'=>∃ s2 s3 s4 s5 s6:Slot,ss'=[.is (.lst (ks.map Kd.P)),.own (((ks.take i).map Kd.w).map .str),s2,s3,s4,s5,s6]∧ZCz [] ks=ZCz ((ks.take i).map Kd.w) (ks.drop i)) ?_))
  walk_at "ww"
  refine ⟨⟨_,_,_,_,_,rfl,rfl⟩,?_,?_⟩
  · rintro i p ss' hp ⟨s2,s3,s4,s5,s6,rfl,hI⟩
    rw [List.getElem?_map] at hp
    cases ex:ks[i]? with
    | none=>rw [ex] at hp;cases hp
    | some k=>
      rw [ex] at hp;cases hp
      have ok:=hK.2 k (List.mem_of_getElem? ex)
      have hi:=(List.getElem?_eq_some_iff.mp ex).1
      rw [ZCg ex,ZCz] at hI
      refine ZGL ⟨_,_,_,rfl,?_⟩
      have hx:=ok.1.2
      have bad:ZBt k.w=false→Ws [.is (.lst (ks.map Kd.P)),.own (((ks.take i).map Kd.w).map .str),.is (.str k.w),.is (.tup (k.ps.map ZBB)),.is (.bl k.g),s5,s6] (tRet (tTup (ZA9 (tC (V.int 0)) (ZA9 (ZBK 2) ZAa)))) (fun _=>False) (.is fun p=>p=dueV (ZC2 ks)):=fun e0=>by
        rw [if_pos e0] at hI
        refine ZAh (ZCN ?_)
        walk_at "ww"
        exact ⟨by show 2≤100000;decide,by rw [dq.1 _ hI];rfl⟩
      refine ZC0 (fun ss'=>ss'=[.is (.lst (ks.map Kd.P)),.own (((ks.take i).map Kd.w).map .str),.is (.str k.w),.is (.tup (k.ps.map ZBB)),.is (.bl k.g),s5,s6]∧¬ ZBt k.w=false) ?_ ?_
      · refine ZC5 (ZEq (ZCP (ZAu (ZHE (ZAO ⟨_,rfl,ZJ3 (ZA6 rfl ⟨_,rfl,by omega,_,rfl,?_⟩)⟩)))))
        refine ZAm (fun c1=>?_) (fun c1=>⟨_,rfl,ZDy rfl (ZDy rfl ((bad (ZFX (by have:=ZES c1;omega))).mono fun _ h=>h.elim))⟩)
        refine ZAO ⟨_,rfl,_,rfl,ZAm (fun c8=>ZDy rfl ((bad (ZFX (by have:=ZFY c8;omega))).mono fun _ h=>h.elim)) (fun c8=>?_)⟩
        have l1:1≤k.w.length:=by have:=of_decide_eq_true c1;omega
        have l8:k.w.length≤8:=by have:=ZFa c8;omega
        refine ZAu ?_
        walk_at "ww"
        refine ZAt (ZAv (ZEm (fun c:Nat=>PV.str ⟨#[c]⟩) badC (fun c=>PV.str ⟨#[c]⟩) (wi_str (ZA6 rfl ⟨k.w,rfl,k.w.cps.toList,rfl,by rw [← ZBL];omega,fun c _=>?_,fun c _ _=>ZA6 rfl rfl,?_⟩)) chr_inj))
        · refine ZCP (ZAu (ZJ5 (ZDc ⟨_,rfl,ZA6 rfl ⟨_,rfl,?_⟩⟩)))
          rw [leS_a]
          refine ZAm (fun h=>ZDc ⟨_,rfl,_,rfl,?_⟩) (fun h=>⟨_,rfl,?_⟩)
          · rw [leS_z];unfold badC;rw [h];rfl
          · unfold badC;rw [Bool.eq_false_iff.mpr h];rfl
        · refine ⟨_,.inl ⟨rfl,(k.w.cps.toList.filter badC).map (fun c=>(⟨#[c]⟩:Str)),by rw [List.map_map];rfl,?_⟩⟩
          refine ZAt (ZAv (ZHN ?_))
          walk_at "ww"
          refine ⟨by decide,_,.inl ⟨rfl,rfl,[],rfl,_,rfl,?_⟩⟩
          refine ZAm (fun c=>(bad ?_).mono fun _ h=>h.elim) (fun c=>ZAD ⟨rfl,?_⟩)
          · cases e:ZBt k.w with
            | false=>rfl
            | true=>
              rw [(ZHr l1 l8).mpr e,decide_eq_true (show List.map (fun c=>(⟨#[c]⟩:Str)) ([]:List Nat)=[] from rfl)] at c
              cases c
          · intro e
            have h:=ZDb c
            have h2:=(ZHr l1 l8).mp (List.map_eq_nil_iff.mp h)
            rw [e] at h2;cases h2
      rintro _ ⟨rfl,e0⟩
      rw [if_neg e0] at hI
      walk_at "ww"
      refine ZAm (fun c=>?_) (fun c=>ZAD ?_)
      · rw [if_pos (of_decide_eq_true c)] at hI
        refine ZAh (ZCN ?_)
        walk_at "ww"
        exact ⟨by show 2≤100000;decide,by rw [dq.1 _ hI];rfl⟩
      rw [if_neg (fun h=>c (decide_eq_true h))] at hI
      walk_at "ww"
      rw [List.length_map]
      refine ZAm (fun c=>?_) (fun c=>ZAD ?_)
      · rw [if_pos (by have:=of_decide_eq_true c;omega)] at hI
        refine ZAh (ZCN ?_)
        walk_at "ww"
        exact ⟨by show 2≤100000;decide,by rw [dq.1 _ hI];rfl⟩
      rw [if_neg (fun h=>c (decide_eq_true (by omega)))] at hI
      refine ZDi rfl (ZA6 rfl ⟨by rw [List.length_map,List.length_map,List.length_take];omega,.is (.str k.w),.is (.tup (k.ps.map ZBB)),.is (.bl k.g),s5,s6,?_,?_⟩)
      · rw [ZEC ex,List.map_append,List.map_append];rfl
      · rw [hI,ZEC ex,List.map_append];rfl
  · rw [List.length_map]
    rintro ss' ⟨s2,s3,s4,s5,s6,rfl,hI⟩
    rw [List.drop_length,ZCz] at hI
    have e2:=dq.2 hI
    rw [List.take_length]
    refine ZAb (ZCV (ZBp (fun _ i ss'=>∃ s2 s3 s4 s5 s6:Slot,ss'=[.is (.lst (ks.map Kd.P)),.own ((ks.map Kd.w).map .str),s2,s3,s4,s5,s6]∧ZDM (ks.map Kd.w) ks=ZDM (ks.map Kd.w) (ks.drop i)) ?_))
    walk_at "ww"
    refine ⟨⟨_,_,_,_,_,rfl,rfl⟩,?_,?_⟩
    · rintro i p ss' hp ⟨s2,s3,s4,s5,s6,rfl,hI⟩
      rw [List.getElem?_map] at hp
      cases ex:ks[i]? with
      | none=>rw [ex] at hp;cases hp
      | some k=>
        rw [ex] at hp;cases hp
        rw [ZCg ex,ZDM] at hI
        refine ZGL ⟨_,_,_,rfl,?_⟩
        refine ZBp (fun _ j ss'=>∃ s5 s6:Slot,ss'=[.is (.lst (ks.map Kd.P)),.own ((ks.map Kd.w).map .str),.is (.str k.w),.is (.tup (k.ps.map ZBB)),.is (.bl k.g),s5,s6]∧ZD2 (ks.map Kd.w) k.ps=ZD2 (ks.map Kd.w) (k.ps.drop j)) ?_
        walk_at "ww"
        refine ⟨⟨_,_,rfl,rfl⟩,?_,?_⟩
        · rintro j p ss' hp ⟨s5,s6,rfl,hJ⟩
          rw [List.getElem?_map] at hp
          cases ey:k.ps[j]? with
          | none=>rw [ey] at hp;cases hp
          | some q=>
            rw [ey] at hp;cases hp
            rw [ZCg ey,ZD2] at hJ
            refine ZI3 ⟨_,_,rfl,?_⟩
            walk_at "ww"
            refine ⟨by decide,_,.inr ⟨rfl,WH,rfl,_,rfl,?_⟩⟩
            refine ZAm (fun c=>?_) (fun c=>ZAD ?_)
            · have hn:q.1∉WH:=fun m=>by rw [decide_eq_true m] at c;cases c
              rw [if_pos hn] at hJ
              rw [hJ] at hI
              refine ZAh (ZCN ?_)
              walk_at "ww"
              exact ⟨by show 2≤100000;decide,by rw [e2,hI];rfl⟩
            · rw [if_neg (fun h=>h (ZDb c))] at hJ
              walk_at "ww"
              refine ZAm (fun c=>?_) (fun c=>ZAD ⟨_,_,rfl,?_⟩)
              · have hn:q.2∉ks.map Kd.w:=fun m=>by rw [decide_eq_true m] at c;cases c
                rw [if_pos hn] at hJ
                rw [hJ] at hI
                refine ZAh (ZCN ?_)
                walk_at "ww"
                exact ⟨by show 2≤100000;decide,by rw [e2,hI];rfl⟩
              · rw [if_neg (fun h=>h (ZDb c))] at hJ
                exact hJ
        · rw [List.length_map]
          rintro ss' ⟨s5,s6,rfl,hJ⟩
          rw [List.drop_length,ZD2] at hJ
          rw [hJ] at hI
          exact ⟨_,_,_,_,_,rfl,hI⟩
    · rw [List.length_map]
      rintro ss' ⟨s2,s3,s4,s5,s6,rfl,hI⟩
      rw [List.drop_length,ZDM] at hI
      refine ZAh (ZCx ?_)
      rw [e2,hI];rfl
theorem sc__law_pot:FnScope ["script", "k", "cell", "rest_here"] ["script", "k"] (ZA4 ZBW):=⟨rfl,rfl,rfl,by decide +kernel,rfl,by decide +kernel,by decide +kernel⟩
theorem ZGc (F:Fun K "_law_pot" "_law_pot" ZBW f fd) (bd:Binds K fd ["script", "k"] []) (m:mg "_law_pot" = some (.ref f)) (b_len:mg "len" = none) :
    Has P w K mg base "_law_pot" 1 ["script", "k"] (ZH4 K):=by
  refine Has.mk F bd m (F.okq (k:=0) sc__law_pot (fun vs H Q E h=>?_) (fun cdv A outer s H vs Q E hr h=>?_))
  · obtain ⟨a,ns,k,rfl,hS,k0,k1,q⟩:=h;rfl
  obtain ⟨a,ns,k,rfl,hS,k0,k1,q⟩:=h
  refine ⟨_,(ZA8 rfl (ZAE (i:=2) sc__law_pot.nd rfl (Or.inl rfl) ZA2)
      (ZA8 rfl (ZAp (ZAX (ZAB op_lt (qv 1) (ZA7 ZBf (by rfl) b_len (by decide +kernel) (ZA0 (qv 0) ZA1)) (ZAJ _)) (ZAA rfl (ZAE (i:=2) sc__law_pot.nd rfl (Or.inl rfl) (ZAH ZCO (ZAQ ZAy (qv 0) (qv 1) (fun _ _=>rfl)) (ZAH ZCM (ZAH ZCM (ZAH ZCM (ZAH ZDR ZA2 ZA2) (ZAH ZDR ZA2 ZA2)) (ZAH ZDR ZA2 ZA2)) (ZAH ZDR ZA2 ZA2))))) ZAG))
      (ZA8 rfl (ZAE (i:=3) sc__law_pot.nd rfl (Or.inl rfl) ZA2)
      (ZA8 rfl (ZAp (ZAX (ZAB op_ge (qv 2) (ZAH ZDR ZA2 ZA2) (ZAJ _)) (ZAA rfl (ZAE (i:=3) sc__law_pot.nd rfl (Or.inl rfl) (qv 2))) ZAG))
      (ZAA rfl (ZAP (ZBa (ZA0 (qv 3) (ZA0 (ZAH ZCO (ZAH ZCM (ZAH ZBU (ZAH ZBU (ZAH ZCO (qv 2) ZA2) (ZAH ZCM ZA2 (qv 1))) ZA2) ZA2) ZA2) ZA1))))))))),?_⟩
  have hl:(ns.map V.int).length=ns.length:=List.length_map _
  refine ⟨fun σ' H'=>∃ c:Int,σ'=[some (.ref a),some (.int k),some (.int c),none]∧H=H'∧0≤c∧c < 10 ^ 256,?_,?_⟩
  · refine ⟨_,rfl,_,rfl,a,_,rfl,.inl hS,_,_,rfl,rfl,_,rfl,?_⟩
    refine ZAm (fun c=>?_) (fun c=>?_)
    · have c':k < (((ns.map V.int).length:Nat):Int):=of_decide_eq_true c
      rw [hl] at c'
      have hk:k.toNat < ns.length:=by omega
      have hv:atI (ns.map V.int) k=some (.int ns[k.toNat]):=ZD4 k0 (by rw [List.getElem?_map,List.getElem?_eq_getElem hk] <;> rfl)
      refine ⟨_,rfl,_,rfl,a,_,_,_,rfl,rfl,hS,hv,_,_,rfl,rfl,⟨by decide,by decide,by decide +kernel⟩,_,_,rfl,rfl,⟨by decide,by decide,by decide +kernel⟩,_,_,rfl,rfl,⟨by decide +kernel,by decide +kernel⟩,_,_,rfl,rfl,⟨by decide,by decide,by decide +kernel⟩,_,_,rfl,rfl,⟨by decide +kernel,by decide +kernel⟩,
        _,_,rfl,rfl,⟨by decide,by decide,by decide +kernel⟩,_,_,rfl,rfl,⟨by decide +kernel,by decide +kernel⟩,_,_,rfl,rfl,(by show (0:Int) < _;decide +kernel),?_⟩
      exact ⟨_,rfl,rfl,Int.emod_nonneg _ (by decide +kernel),Int.emod_lt_of_pos _ (by decide +kernel)⟩
    · exact ⟨0,rfl,rfl,by decide,by decide +kernel⟩
  rintro σ' H' ⟨c,rfl,rfl,c0,c1⟩
  refine ⟨fun σ' H'=>∃ d:Int,σ'=[some (.ref a),some (.int k),some (.int c),some (.int d)]∧H=H'∧0≤d∧d < 10 ^ 256,?_,?_⟩
  · refine ⟨_,rfl,_,_,rfl,rfl,⟨by decide,by decide,by decide +kernel⟩,_,_,rfl,rfl,_,rfl,?_⟩
    refine ZAm (fun _=>?_) (fun _=>?_)
    · exact ⟨_,rfl,c,rfl,rfl,c0,c1⟩
    · exact ⟨0,rfl,rfl,by decide,by decide +kernel⟩
  rintro σ' H' ⟨d,rfl,rfl,d0,d1⟩
  have e0:0≤c % 2147483629:=Int.emod_nonneg _ (by decide)
  have e1:c % 2147483629 < 2147483629:=Int.emod_lt_of_pos _ (by decide)
  refine ⟨_,rfl,_,rfl,_,_,rfl,rfl,(by show (0:Int) < 2147483629;decide),_,rfl,_,_,rfl,rfl,⟨by decide +kernel,ZBh (by omega) (by omega)⟩,_,_,rfl,rfl,_,_,rfl,rfl,_,_,rfl,rfl,⟨ZBh (by omega) (by omega),by decide +kernel⟩,_,_,rfl,rfl,(by show (0:Int) < 2147483647;decide),?_⟩
  refine ⟨(by show 2≤sizeLine;decide),fun p hp=>?_⟩
  exact q p _ hp (ZAN hp _) ⟨d,_,ZA3,d0,d1,Int.emod_nonneg _ (by decide),Int.emod_lt_of_pos _ (by decide)⟩
theorem sc__law_more_puts:FnScope ["pot", "word", "puts", "way", "spot", "wrong"] ["pot", "word", "puts", "way"] (ZA4 ZAf):=⟨rfl,rfl,rfl,by decide +kernel,rfl,by decide +kernel,by decide +kernel⟩
theorem ZBi  : ∀ ss R,ZG1 ss R→ss.length=4:=by rintro _ _ ⟨n,x,ps,y,rfl,_,_,_,_,_,_,rfl⟩;rfl
theorem ZD6 (F:Fun K "_law_more_puts" "_law_more_puts" ZAf f fd) (bd:Binds K fd ["pot", "word", "puts", "way"] []) (m:mg "_law_more_puts" = some (.ref f)) (h__law_take:Has P w K mg base "_law_take" 1 ["pot", "many"] (ZDe)) (b_len:mg "len" = none) (b_min:mg "min" = none) :
    Has P w K mg base "_law_more_puts" 2 ["pot", "word", "puts", "way"] (spF ZG1):=by
  refine Has.mk F bd m (F.okq (k:=1) sc__law_more_puts (fun vs H Q E h=>Fz.spF_len ZBi h) (fun cdv A outer s H vs Q E hr h=>?_))
  refine ⟨_,(ZA8 rfl (ZAX (ZAB ZBd (qv 3) ZA2 (ZAJ _)) (ZAA rfl (ZAP (ZAH ZFr (qv 2) (ZAH op_repT (ZAd (ZA0 (ZAd (ZA0 ZAC (ZA0 (qv 1) ZA1))) ZA1)) (ZAH ZEa (ZAH ZBU ZA2 (ZAR h__law_take hr (by decide) (ZA0 (qv 0) (ZA0 ZA2 ZA1)))) (ZA7 (ZFN rfl) (by rfl) b_min (by decide +kernel) (ZA0 ZA2 (ZA0 (ZA7 ZAs (by rfl) b_len (by decide +kernel) (ZA0 (qv 2) ZA1)) ZA1)))))))) ZAG)
      (ZA8 rfl (ZAE (i:=4) sc__law_more_puts.nd rfl (Or.inl rfl) (ZAR h__law_take hr (by decide) (ZA0 (qv 0) (ZA0 (ZAH ZBU (ZA7 ZAs (by rfl) b_len (by decide +kernel) (ZA0 (qv 2) ZA1)) ZA2) ZA1))))
      (ZA8 rfl (ZAE (i:=5) sc__law_more_puts.nd rfl (Or.inl rfl) (ZAd (ZA0 ZAC (ZA0 (ZAQ ZAY (ZAd (ZA0 ZAC (ZA0 ZAC (ZA0 ZAC ZA1)))) (ZAR h__law_take hr (by decide) (ZA0 (qv 0) (ZA0 ZA2 ZA1))) (fun _ _=>rfl)) ZA1))))
      (ZA8 rfl (ZAp (ZAX (ZAB ZBd (qv 3) ZA2 (ZAJ _)) (ZAA rfl (ZAE (i:=5) sc__law_more_puts.nd rfl (Or.inl rfl) (ZAd (ZA0 (ZAQ ZAY (ZAd (ZA0 ZAC (ZA0 ZAC (ZA0 ZAC (ZA0 ZAC ZA1))))) (ZAR h__law_take hr (by decide) (ZA0 (qv 0) (ZA0 ZA2 ZA1))) (fun _ _=>rfl)) (ZA0 (ZAQ ZAY (ZAd (ZA0 ZAC (ZA0 (qv 1) ZA1))) (ZAR h__law_take hr (by decide) (ZA0 (qv 0) (ZA0 ZA2 ZA1))) (fun _ _=>rfl)) ZA1))))) ZAG))
      (ZAA rfl (ZAP (ZBY Fz.sl_two (ZAH ZFr (ZAH ZFr (ZBY Fz.sl_two (qv 2) ZBy (ZBz (qv 4))) (ZAd (ZA0 (qv 5) ZA1))) (ZBY Fz.sl_two (qv 2) (ZBz (qv 4)) ZBy)) ZBy (ZBz ZA2)))))))),?_⟩
  refine Fz.fn_run h ZBi ?_
  rintro _ _ ⟨n,x,ps,y,rfl,hn,y0,y1,hx,hl,hp,rfl⟩
  show Ws [_,_,_,_,.any,.any] _ _ _
  have sN:ZAx "next" := ZAq (by decide) (by decide)
  have sL:ZAx "last" := ZAq (by decide) (by decide)
  walk_at "ww"
  refine ZAm (fun c=>?_) (fun c=>ZAD ?_)
  · refine ZAh (ZG5 (ZA6 rfl ⟨_,rfl,wp_repT ?_⟩))
    walk_at "ww"
    refine ⟨by show 2≤100000;decide,?_⟩
    walk_at "ww"
    refine ⟨by show 1≤100000;decide,_,rfl,by simp,by show 1≤1000;decide,?_⟩
    walk_at "ww"
    refine ⟨by decide,by decide,fun t t0 t1=>⟨_,rfl,?_⟩⟩
    walk_at "ww"
    rw [List.length_map]
    generalize em:6+t - (if (ps.length:Int) < 6 then (ps.length:Int) else 6)=m
    have hm:0≤m∧m≤7∧ps.length+m.toNat≤6+(n+1):=by
      by_cases c6:(ps.length:Int) < 6
      · rw [if_pos c6] at em;omega
      · rw [if_neg c6] at em;omega
    rw [rep1]
    refine ⟨by omega,by omega,_,rfl,by rw [List.length_replicate];omega,ps++List.replicate m.toNat (("next" : Str),x),?_,?_,?_⟩
    · rw [List.map_append,List.map_replicate];rfl
    · rw [List.length_append,List.length_replicate];omega
    · intro q hq
      rcases List.mem_append.mp hq with z | z
      · exact hp q z
      · rw [(List.mem_replicate.mp z).2];exact ⟨sN,hx⟩
  · walk_at "ww"
    rw [List.length_map]
    refine ⟨by omega,ZHC (by omega),fun sp a1 b1=>?_⟩
    walk_at "ww"
    refine ⟨by decide,_,.inr ⟨rfl,rfl,?_⟩⟩
    walk_at "ww"
    refine ⟨by decide,by decide,fun t t0 t1=>?_⟩
    obtain ⟨z,hz,sz⟩:=at3S (a := "zz") (b := "") (c := "Dog") (ZAq (by decide) (by decide)) (ZAq (by decide) (by decide)) (ZAq (by decide) (by decide)) t0 t1
    refine ⟨_,_,rfl,hz,?_⟩
    walk_at "ww"
    refine ⟨by show 2≤100000;decide,?_⟩
    refine ZC0 (fun ss'=>∃ q:Str×Str,ss'=[.pot,.is (.str x),.is (.tup (ps.map ZBB)),.is (.int y),.is (.int sp),.is (ZBB q)]∧ZAx q.1∧ZAx q.2) ?_ ?_
    · walk_at "ww"
      refine ZAm (fun c=>?_) (fun c=>ZAD ⟨("last", z),rfl,sL,sz⟩)
      walk_at "ww"
      refine ⟨by decide,_,.inr ⟨rfl,rfl,?_⟩⟩
      walk_at "ww"
      refine ⟨by decide,by decide,fun t2 a2 b2=>?_⟩
      obtain ⟨u,hu,su⟩:=at4W a2 b2
      refine ⟨_,_,rfl,hu,?_⟩
      walk_at "ww"
      refine ⟨by show 2≤100000;decide,_,.inr ⟨rfl,rfl,?_⟩⟩
      walk_at "ww"
      refine ⟨by decide,by decide,fun t3 a3 b3=>?_⟩
      obtain ⟨u2,hu2,su2⟩:=at2S (a := "zz") (b:=x) (ZAq (by decide) (by decide)) hx a3 b3
      refine ⟨_,_,rfl,hu2,?_⟩
      walk_at "ww"
      exact ⟨by show 2≤100000;decide,(u,u2),rfl,su,su2⟩
    rintro _ ⟨q,rfl,q1,q2⟩
    refine ZAh (ZCC (ZAt (ZG5 (ZG5 (ZCC (ZAS rfl ?_))))))
    walk_at "ww"
    refine ⟨_,rfl,?_⟩
    walk_at "ww"
    refine ⟨by show 1≤100000;decide,_,rfl,?_⟩
    have c1:=ZHu (ps.map ZBB) none (some sp)
    have c2:=ZHu (ps.map ZBB) (some sp) none
    rw [List.length_map] at c1 c2
    refine ⟨by show _+1≤100000;omega,_,rfl,ZCC (ZAS rfl ?_)⟩
    walk_at "ww"
    refine ⟨_,rfl,by rw [List.length_append];show _+1+_≤100000;omega,_,.inr ⟨rfl,?_⟩⟩
    walk_at "ww"
    have eL:ZBO (ps.map ZBB) none (some sp)++[ZBB q]++ZBO (ps.map ZBB) (some sp) none=(ZBO ps none (some sp)++[q]++ZBO ps (some sp) none).map ZBB:=by
      rw [ZC4,ZC4,List.map_append,List.map_append];rfl
    rw [eL,ZC4]
    refine ⟨_,rfl,Nat.le_trans (cut6 _) (by omega),fun r hr=>?_⟩
    have hr':=List.mem_of_mem_drop (List.mem_of_mem_take hr)
    rcases List.mem_append.mp hr' with z | z
    · rcases List.mem_append.mp z with z | z
      · exact hp r (List.mem_of_mem_drop (List.mem_of_mem_take z))
      · rw [List.mem_singleton.mp z];exact ⟨q1,q2⟩
    · exact hp r (List.mem_of_mem_drop (List.mem_of_mem_take z))
theorem sc__law_spoilt:FnScope ["pot", "kinds", "way", "at", "word", "puts", "goes", "many"] ["pot", "kinds"] (ZA4 ZAl):=⟨rfl,rfl,rfl,by decide +kernel,rfl,by decide +kernel,by decide +kernel⟩
def ZDf:Scope:={ kind:=.function,names:=[(".0", .local),("k", .local)],isGenerator:=false,isCoroutine:=false,more:=[] }
theorem ZDN:CompScope ["pot", "kinds", "way", "at", "word", "puts", "goes", "many"] (ZA4 ZAl) ZDf "k" [] []:=⟨rfl,by decide +kernel,by decide +kernel,rfl,rfl,by decide +kernel,by decide +kernel,by decide +kernel,by decide +kernel⟩
theorem ZCR  : ∀ ss R,ZCW ss R→ss.length=2:=by rintro _ _ ⟨n,ks,rfl,_,_,rfl⟩;rfl
theorem ZEu (F:Fun K "_law_spoilt" "_law_spoilt" ZAl f fd) (bd:Binds K fd ["pot", "kinds"] []) (m:mg "_law_spoilt" = some (.ref f)) (h__law_more_puts:Has P w K mg base "_law_more_puts" 2 ["pot", "word", "puts", "way"] (spF ZG1)) (h__law_take:Has P w K mg base "_law_take" 1 ["pot", "many"] (ZDe)) (b_len:mg "len" = none) (b_range:mg "range" = none) :
    Has P w K mg base "_law_spoilt" 3 ["pot", "kinds"] (spF ZCW):=by
  refine Has.mk F bd m (F.okq (k:=2) sc__law_spoilt (fun vs H Q E h=>Fz.spF_len ZCR h) (fun cdv A outer s H vs Q E hr h=>?_))
  refine ⟨_,(ZA8 rfl (ZAE (i:=2) sc__law_spoilt.nd rfl (Or.inl rfl) (ZAR h__law_take hr (by decide) (ZA0 (qv 0) (ZA0 ZA2 ZA1))))
      (ZA8 rfl (ZAX (ZFR (ZAB (Fz.op_eqP hr.units) (qv 1) (ZBa ZA1) (ZAJ _)) (ZDS (ZAB ZBd (qv 2) ZA2 (ZAJ _)))).pt (ZAA rfl (ZAP (qv 1))) ZAG)
      (ZA8 rfl (ZAE (i:=3) sc__law_spoilt.nd rfl (Or.inl rfl) (ZAR h__law_take hr (by decide) (ZA0 (qv 0) (ZA0 (ZA7 ZAs (by rfl) b_len (by decide +kernel) (ZA0 (qv 1) ZA1)) ZA1))))
      (ZA8 rfl (ZHH (ZAQ ZAy (qv 1) (qv 3) (fun _ _=>rfl)) (ZEl rfl (ZAo (ZAV (i:=4) sc__law_spoilt.nd rfl (Or.inl rfl)) (ZAo (ZAV (i:=5) sc__law_spoilt.nd rfl (Or.inl rfl)) (ZAo (ZAV (i:=6) sc__law_spoilt.nd rfl (Or.inl rfl)) ZD7)))))
      (ZA8 rfl (ZAp (ZAX (ZAB ZBd (qv 2) ZA2 (ZAJ _)) (ZAA rfl (ZAE (i:=4) sc__law_spoilt.nd rfl (Or.inl rfl) (ZAQ ZAY (ZAd (ZA0 ZAC (ZA0 ZAC (ZA0 ZAC (ZA0 ZAC (ZA0 ZAC ZA1)))))) (ZAR h__law_take hr (by decide) (ZA0 (qv 0) (ZA0 ZA2 ZA1))) (fun _ _=>rfl)))) ZAG))
      (ZA8 rfl (ZAp (ZAX (ZAB ZBd (qv 2) ZA2 (ZAJ _)) (ZAA rfl (ZAE (i:=4) sc__law_spoilt.nd rfl (Or.inl rfl) (ZAQ ZAY (ZAQ ZAy (qv 1) (ZAR h__law_take hr (by decide) (ZA0 (qv 0) (ZA0 (ZA7 ZAs (by rfl) b_len (by decide +kernel) (ZA0 (qv 1) ZA1)) ZA1))) (fun _ _=>rfl)) ZA2 (fun _ _=>rfl)))) ZAG))
      (ZA8 rfl (ZAp (ZAX (ZDE ZDs ZDs ZA2 (qv 2) ZA2) (ZAA rfl (ZAE (i:=5) sc__law_spoilt.nd rfl (Or.inl rfl) (ZAR h__law_more_puts hr (by decide) (ZA0 (qv 0) (ZA0 (qv 4) (ZA0 (qv 5) (ZA0 (qv 2) ZA1))))))) ZAG))
      (ZA8 rfl (ZAX (ZFq (ZAB ZBd (qv 2) ZA2 (ZAJ _)) (ZE2 (ZAB ZBd (ZAR h__law_take hr (by decide) (ZA0 (qv 0) (ZA0 ZA2 ZA1))) ZA2 (ZAJ _)))).pt (ZAA rfl (ZAP (ZBa ZA1))) ZAG)
      (ZA8 rfl (ZAX (ZAB ZBd (qv 2) ZA2 (ZAJ _)) (ZA8 rfl (ZAE (i:=7) sc__law_spoilt.nd rfl (Or.inl rfl) (ZAH ZEa (ZAH ZBU ZA2 (ZAR h__law_take hr (by decide) (ZA0 (qv 0) (ZA0 ZA2 ZA1)))) (ZA7 ZAs (by rfl) b_len (by decide +kernel) (ZA0 (qv 1) ZA1))))
      (ZAA rfl (ZAP (ZAH ZHS (qv 1) (ZGK rfl ZDN (ZCB rfl b_range (ZA0 (qv 7) ZA1)) (fun _ _ _ _=>by exact ZG3) (fun _ _ _ _=>by exact (ZAd (ZA0 (ZAH ZD0 ZAC (ZAQ ix_str ZAC (qv 0) (fun _ _=>rfl))) (ZA0 (ZAd ZA1) (ZA0 ZEn ZA1)))))))))) ZAG)
      (ZAA rfl (ZAP (ZAH ZHS (ZAH ZHS (ZBY ZE1 (qv 1) ZBy (ZBz (qv 3))) (ZBa (ZA0 (ZAd (ZA0 (qv 4) (ZA0 (qv 5) (ZA0 (qv 6) ZA1)))) ZA1))) (ZBY ZE1 (qv 1) (ZBz (ZAH ZBU (qv 3) ZA2)) ZBy))))))))))))),?_⟩
  refine Fz.fn_run h ZCR ?_
  rintro _ _ ⟨n,ks,rfl,hn,hK,rfl⟩
  show Ws [_,_,.any,.any,.any,.any,.any,.any] _ _ _
  have up:KsOk (n+1) ks:=⟨hK.1,fun k hk=>let o:=hK.2 k hk;⟨o.1,by have:=o.2.1;omega,o.2.2⟩⟩
  have h9:=hK.1
  walk_at "ww"
  refine ⟨by decide,by decide,fun way w0 w1=>?_⟩
  walk_at "ww"
  refine ⟨by decide,ZFy ks,fun x hx=>absurd hx List.not_mem_nil,_,rfl,?_⟩
  refine ZAm (fun c=>ZDy rfl (ZAh (ZA6 rfl ⟨ks,rfl,up⟩))) (fun c=>?_)
  walk_at "ww"
  refine ZAm (fun c2=>ZAh (ZA6 rfl ⟨ks,rfl,up⟩)) (fun c2=>ZAD ?_)
  have hne:ks≠[]:=fun z=>c (by rw [z];rfl)
  have hpos:0 < ks.length:=List.length_pos_iff.mpr hne
  walk_at "ww"
  rw [List.length_map]
  refine ⟨by omega,ZHC (by omega),fun at0 a1 b1=>?_⟩
  obtain ⟨at_,rfl⟩:=Int.eq_ofNat_of_zero_le a1
  have hat:at_ < ks.length:=by omega
  have aK:∀ j (h:j < ks.length),L2.atI (ks.map Kd.P) (j:Int)=some (ks[j].P):=fun j h=>ZD4 (by omega) (by rw [Int.toNat_natCast,List.getElem?_map,List.getElem?_eq_getElem h];rfl)
  have okA:=hK.2 _ (List.getElem_mem hat)
  refine ZAb (ws_asgG ?_)
  walk_at "ww"
  refine ⟨_,_,rfl,aK at_ hat,?_⟩
  refine ZGL ⟨_,_,_,rfl,?_⟩
  generalize hk:ks[at_]=k0 at okA
  show Ws [.pot,.is (.lst (ks.map Kd.P)),.is (.int way),.is (.int at_),.is (.str k0.w),.is (.tup (k0.ps.map ZBB)),.is (.bl k0.g),.any] _ _ _
  refine ZC0 (fun ss'=>∃ x:Str,ss'=[.pot,.is (.lst (ks.map Kd.P)),.is (.int way),.is (.int at_),.is (.str x),.is (.tup (k0.ps.map ZBB)),.is (.bl k0.g),.any]∧ZAx x) ?_ ?_
  · walk_at "ww"
    refine ZAm (fun c=>?_) (fun c=>ZAD ⟨_,rfl,okA.1⟩)
    walk_at "ww"
    refine ⟨by decide,_,.inr ⟨rfl,rfl,?_⟩⟩
    walk_at "ww"
    refine ⟨by decide,by decide,fun t t0 t1=>?_⟩
    obtain ⟨u,hu,su⟩:=at5S t0 t1
    exact ⟨_,_,rfl,hu,u,rfl,su⟩
  rintro _ ⟨x,rfl,sx⟩
  refine ZC0 (fun ss'=>∃ x:Str,ss'=[.pot,.is (.lst (ks.map Kd.P)),.is (.int way),.is (.int at_),.is (.str x),.is (.tup (k0.ps.map ZBB)),.is (.bl k0.g),.any]∧ZAx x) ?_ ?_
  · walk_at "ww"
    refine ZAm (fun c=>?_) (fun c=>ZAD ⟨_,rfl,sx⟩)
    walk_at "ww"
    rw [List.length_map]
    refine ⟨by omega,ZHC (by omega),fun t a2 b2=>?_⟩
    obtain ⟨j,rfl⟩:=Int.eq_ofNat_of_zero_le a2
    have hj:j < ks.length:=by omega
    refine ⟨_,_,rfl,aK j hj,_,.inr ⟨rfl,rfl,?_⟩⟩
    walk_at "ww"
    exact ⟨_,rfl,(hK.2 _ (List.getElem_mem hj)).1⟩
  rintro _ ⟨x,rfl,sx⟩
  refine ZC0 (fun ss'=>∃ ps:List (Str×Str),ss'=[.pot,.is (.lst (ks.map Kd.P)),.is (.int way),.is (.int at_),.is (.str x),.is (.tup (ps.map ZBB)),.is (.bl k0.g),.any]∧ps.length≤6+(n+1)∧∀ q∈ps,ZAx q.1∧ZAx q.2) ?_ ?_
  · have same:∃ ps:List (Str×Str),[Slot.pot,.is (.lst (ks.map Kd.P)),.is (.int way),.is (.int at_),.is (.str x),.is (.tup (k0.ps.map ZBB)),.is (.bl k0.g),.any]=[.pot,.is (.lst (ks.map Kd.P)),.is (.int way),.is (.int at_),.is (.str x),.is (.tup (ps.map ZBB)),.is (.bl k0.g),.any]∧ps.length≤6+(n+1)∧∀ q∈ps,ZAx q.1∧ZAx q.2:=⟨k0.ps,rfl,by have:=okA.2.1;omega,okA.2.2⟩
    walk_at "ww"
    refine ZAm (fun c=>?_) (fun c=>⟨_,rfl,ZCJ (by decide) (ZAD same)⟩)
    walk_at "ww"
    refine ZAm (fun c3=>?_) (fun c3=>ZAD same)
    have l3:=of_decide_eq_true c
    have l5:=of_decide_eq_true c3
    obtain ⟨wn,rfl⟩:=Int.eq_ofNat_of_zero_le w0
    refine ZD1 (wp_callP rfl (ZAw (ZA6 rfl (ZAw (ZA6 rfl (ZAw (ZA6 rfl (ZB0 ⟨_,⟨n,x,k0.ps,wn,rfl,hn,by omega,by omega,sx,okA.2.1,okA.2.2,rfl⟩,?_⟩))))))))
    rintro _ ⟨qs,rfl,lq,oq⟩
    exact ⟨qs,rfl,lq,oq⟩
  rintro _ ⟨ps,rfl,lp,op⟩
  refine ZC0 (fun ss'=>ss'=[.pot,.is (.lst (ks.map Kd.P)),.is (.int way),.is (.int at_),.is (.str x),.is (.tup (ps.map ZBB)),.is (.bl k0.g),.any]) ?_ ?_
  · walk_at "ww"
    refine ZAm (fun c=>?_) (fun c=>ZCJ (by decide) (ZAD rfl))
    walk_at "ww"
    refine ⟨by decide,by decide,fun t t0 t1=>?_⟩
    walk_at "ww"
    refine ZAm (fun c=>?_) (fun c=>ZAD rfl)
    refine ZAh (ZAv (ZHN ?_))
    walk_at "ww"
    exact ⟨by decide,[],rfl,by decide,fun k hk=>absurd hk List.not_mem_nil⟩
  rintro _ rfl
  refine ZC0 (fun ss'=>ss'=[.pot,.is (.lst (ks.map Kd.P)),.is (.int way),.is (.int at_),.is (.str x),.is (.tup (ps.map ZBB)),.is (.bl k0.g),.any]) ?_ ?_
  · walk_at "ww"
    refine ZAm (fun c=>?_) (fun c=>ZAD rfl)
    walk_at "ww"
    refine ⟨by decide,by decide,fun t t0 t1=>?_⟩
    walk_at "ww"
    rw [List.length_map]
    refine ZAh (ZAv (ZG6 (ZEW rfl ⟨rfl,ZAt (ZAv (ZEm (fun n:Nat=>PV.int n) (fun _=>true) (fun j=>(zK j).P) (wi_rng (ZA6 rfl ⟨_,rfl,by omega,by omega,List.range _,rfl,by rw [List.length_range];omega,fun _ _=>ZGB rfl,fun j hj _=>?_,?_⟩)) (fun x y h=>by injection h with h;exact Int.ofNat.inj h)))⟩)))
    · have hj':=List.mem_range.mp hj
      refine ZCN ?_
      walk_at "ww"
      refine wp_addS (ZDc ⟨_,rfl,wp_ixS (ZDc ⟨_,rfl,by decide,ZA6 rfl ⟨_,_,rfl,at9 (by omega),_,rfl,by show 2+1≤100000;decide,?_⟩⟩)⟩)
      walk_at "ww"
      refine ⟨by decide,?_⟩
      walk_at "ww"
      exact ⟨by show 3≤100000;decide,rfl⟩
    · rw [List.filter_eq_self.mpr fun _ _=>rfl]
      refine ⟨_,.inl ⟨rfl,rfl,by rw [List.length_map,List.length_map,List.length_range];omega,ks++(List.range (8+t - (ks.length:Int)).toNat).map zK,by rw [List.map_append,List.map_map];rfl,?_,fun k hk=>?_⟩⟩
      · rw [List.length_append,List.length_map,List.length_range];omega
      · rcases List.mem_append.mp hk with z | z
        · exact up.2 k z
        · obtain ⟨j,hj,rfl⟩:=List.mem_map.mp z
          exact zK_ok (by have:=List.mem_range.mp hj;omega) _
  rintro _ rfl
  refine ZAh (ZAv (ZG6 (ZAt (ZAv (ZG6 (ZAt (ZAv (ZEw (ZEW rfl ⟨rfl,?_⟩)))))))))
  walk_at "ww"
  refine ⟨by show 3≤100000;decide,?_⟩
  walk_at "ww"
  have c1:=ZGe (ks.map Kd.P) at_
  have c2:=ZGt (ks.map Kd.P) at_
  rw [List.length_map] at c2
  refine ⟨by show 1≤100000;decide,_,.inl ⟨rfl,rfl,by show _+1≤100000;omega,_,.inl ⟨rfl,rfl,ZAt (ZAv (ZEw (ZEW rfl ⟨rfl,?_⟩)))⟩⟩⟩
  walk_at "ww"
  refine ⟨by rw [List.length_append];show _+1+_≤100000;omega,ZBO ks none (some (at_:Int))++[⟨x,ps,k0.g⟩]++ZBO ks (some ((at_:Int)+1)) none,by rw [ZC4,ZC4,List.map_append,List.map_append];rfl,?_,fun k hk=>?_⟩
  · have d1:=ZGe ks at_
    have d2:=ZGt ks at_
    rw [List.length_append,List.length_append,List.length_singleton];omega
  · rcases List.mem_append.mp hk with z | z
    · rcases List.mem_append.mp z with z | z
      · exact up.2 k (List.mem_of_mem_drop (List.mem_of_mem_take z))
      · rw [List.mem_singleton.mp z];exact ⟨sx,lp,op⟩
    · exact up.2 k (List.mem_of_mem_drop (List.mem_of_mem_take z))
theorem ZEy:FnScope ["words", "word"] ["words", "word"] (ZA4 ZB7):=⟨rfl,rfl,rfl,by decide +kernel,rfl,by decide +kernel,by decide +kernel⟩
theorem ZCU {a_NoName:Addr}:∀ ss R D,(ZEd a_NoName) ss R D→ss.length=2:=by rintro _ _ _ ⟨ws,x,rfl,_,_,rfl,rfl⟩;rfl
theorem ZF5 {a_NoName:Addr} (F:Fun K "check_word" "check_word" ZB7 f fd) (bd:Binds K fd ["words", "word"] []) (m:mg "check_word" = some (.ref f)) (m_NoName:mg "NoName" = some (.ref a_NoName)) (i_NoName:ZDo P w K mg base a_NoName "name") :
    HasX P w K mg base "check_word" 3 ["words", "word"] (spX (ZEd a_NoName)):=by
  refine HasX.mk F bd m (F.okx (k:=2) ZEy (fun vs H Q E h=>Fz.spX_len ZCU h) (fun cdv A outer s H vs Q E hr h=>?_))
  refine ⟨_,(ZAA rfl (ZAX (ZAB ZBe (qv 1) (qv 0) (by with_unfolding_all rfl)) (ZAA rfl (ZCj i_NoName (by rfl) m_NoName hr (by decide) rfl rfl ZBM (ZA0 (qv 1) ZA1))) ZAG)),?_⟩
  refine Fz.fn_runX h ZCU ?_
  rintro _ _ _ ⟨ws,x,rfl,hz,hx,rfl,rfl⟩
  intro i0
  show Ws [_,_] _ _ _
  walk_at "ww"
  refine ZAm (fun c=>ZCl (ZA6 rfl ⟨hx.1,trivial,fun m=>?_,rfl⟩)) (fun c=>ZAD ⟨_,rfl,rfl,?_⟩)
  · rw [decide_eq_true m] at c;cases c
  · exact ZDb c
theorem sc_check_puts:FnScope ["words", "puts", "put"] ["words", "puts"] (ZA4 ZB5):=⟨rfl,rfl,rfl,by decide +kernel,rfl,by decide +kernel,by decide +kernel⟩
theorem ZCd {a_NoName:Addr} {a_NoWhere:Addr} {a_There:Addr} {a_TooMany:Addr}:∀ ss R D,(ZEO a_NoName a_There a_NoWhere a_TooMany) ss R D→ss.length=2:=by rintro _ _ _ ⟨ws,ps,rfl,_,_,rfl,rfl⟩;rfl
theorem ZF8 {k_WHERES:Addr} {a_NoName:Addr} {a_NoWhere:Addr} {a_There:Addr} {a_TooMany:Addr} (F:Fun K "check_puts" "check_puts" ZB5 f fd) (bd:Binds K fd ["words", "puts"] []) (m:mg "check_puts" = some (.ref f)) (h_check_word:HasX P w K mg base "check_word" 3 ["words", "word"] (spX (ZEd a_NoName))) (c_WHERES:mg "WHERES" = some (.ref k_WHERES)) (t_WHERES:∀ H,SqT K H k_WHERES [.str "next", .str "last", .str "back", .str "first"]) (m_NoWhere:mg "NoWhere" = some (.ref a_NoWhere)) (i_NoWhere:ZDo P w K mg base a_NoWhere "where") :
    HasX P w K mg base "check_puts" 4 ["words", "puts"] (spX (ZEO a_NoName a_There a_NoWhere a_TooMany)):=by
  refine HasX.mk F bd m (F.okx (k:=3) sc_check_puts (fun vs H Q E h=>Fz.spX_len ZCd h) (fun cdv A outer s H vs Q E hr h=>?_))
  refine ⟨_,(ZAA rfl (ZBb ZE5 rfl (ZEE (qv 1)) (ZAV (i:=2) sc_check_puts.nd rfl (Or.inl rfl)) (ZA8 rfl (ZAX (ZAB ZBe (ZAQ ZAY (qv 2) ZA2 (fun _ _=>rfl)) (ZAT (v:=.ref k_WHERES) (by rfl) c_WHERES rfl) (by with_unfolding_all rfl)) (ZAA rfl (ZCj i_NoWhere (by rfl) m_NoWhere hr (by decide) rfl rfl ZBM (ZA0 (ZAQ ZAY (qv 2) ZA2 (fun _ _=>rfl)) ZA1))) ZAG)
      (ZAA rfl (ZBw (ZHM h_check_word hr (by decide) ZBM rfl (ZA0 (qv 0) (ZA0 (ZAQ ZAY (qv 2) ZA2 (fun _ _=>rfl)) ZA1)))))))),?_⟩
  refine Fz.fn_runX h ZCd ?_
  rintro _ _ _ ⟨ws,ps,rfl,hz,hp,rfl,rfl⟩
  intro i0
  show Ws [_,_,.any] _ _ _
  have C:Con K k_WHERES (WH.map .str):=Con.of t_WHERES rfl rfl
  refine ZBp (fun _ i ss'=>∃ s2:Slot,ss'=[.is (.lst (ws.map .str)),.is (.tup (ps.map ZBB)),s2]∧ZD2 ws ps=ZD2 ws (ps.drop i)) ?_
  walk_at "ww"
  refine ⟨⟨_,rfl,rfl⟩,?_,?_⟩
  · rintro k p ss' hq ⟨s2,rfl,hI⟩
    rw [List.getElem?_map] at hq
    cases ex:ps[k]? with
    | none=>rw [ex] at hq;cases hq
    | some q=>
      rw [ex] at hq;cases hq
      refine ZCH ?_
      have sq:=hp q (List.mem_of_getElem? ex)
      rw [ZCg ex,ZD2] at hI
      refine ZAb (ZC5 (ZAu (wp_inC (neg:=true) C (ZAW (ZAS rfl ⟨rfl,ZAO ⟨_,_,rfl,rfl,q.1,rfl,_,rfl,?_⟩⟩)))))
      refine ZAm (fun c=>?_) (fun c=>ZAD ?_)
      · have hn:q.1∉WH:=fun m=>by rw [decide_eq_true m] at c;cases c
        rw [if_pos hn] at hI
        exact ZCl (ZAW (ZAS rfl ⟨rfl,ZAO ⟨_,_,rfl,rfl,sq.1.1,trivial,_,hI,rfl⟩⟩))
      · have hy:¬ q.1∉WH:=fun h=>h (ZDb c)
        rw [if_neg hy] at hI
        refine ZE3 (ZEk (ZAw (ZA6 rfl (ZAw (ZAW (ZAS rfl ⟨rfl,ZAO ⟨_,_,rfl,rfl,ZB0 ⟨_,_,⟨ws,q.2,rfl,hz,sq.2,rfl,rfl⟩,trivial,fun e h=>⟨(0,q.2),by rw [hI,if_pos h.1],h.2⟩,fun p hp'=>?_⟩⟩⟩))))))
        obtain ⟨rfl,hm⟩:=hp'
        rw [if_neg (fun h=>h hm)] at hI
        exact ⟨_,rfl,hI⟩
  · rw [List.length_map]
    rintro ss' ⟨s2,rfl,hI⟩
    rw [List.drop_length,ZD2] at hI
    exact ⟨_,rfl,rfl,hI⟩
theorem ZHn:FnScope ["text"] ["text"] (ZA4 ZBP):=⟨rfl,rfl,rfl,by decide +kernel,rfl,by decide +kernel,by decide +kernel⟩
def ZGA:Scope:={ kind:=.function,names:=[(".0", .local),("sign", .local),("LETTERS", .globalImplicit)],isGenerator:=false,isCoroutine:=false,more:=[] }
theorem ZG9:CompScope ["text"] (ZA4 ZBP) ZGA "sign" [] []:=⟨rfl,by decide +kernel,by decide +kernel,rfl,rfl,by decide +kernel,by decide +kernel,by decide +kernel,by decide +kernel⟩
theorem ZHc {k_LETTERS:Tok} {k_MOST_LETTERS:Tok} (F:Fun K "is_name" "is_name" ZBP f fd) (bd:Binds K fd ["text"] []) (m:mg "is_name" = some (.ref f)) (b_all:mg "all" = none) (b_len:mg "len" = none) (c_LETTERS:mg "LETTERS" = some (.str "abcdefghijklmnopqrstuvwxyz" k_LETTERS)) (c_MOST_LETTERS:mg "MOST_LETTERS" = some (.int 8 k_MOST_LETTERS)) :
    Has P w K mg base "is_name" 1 ["text"] (ZET):=by
  refine Has.mk F bd m (F.okq (k:=0) ZHn (fun vs H Q E h=>?_) (fun cdv A outer s H vs Q E hr h=>?_))
  · obtain ⟨x,rfl,hx,q⟩:=h;rfl
  obtain ⟨x,rfl,hx,q⟩:=h
  refine ⟨_,(ZAA rfl (ZAP (qe_and (qe_chain ZDs ZDs ZA2 (ZA7 ZCK (by rfl) b_len (by decide +kernel) (ZA0 (qv 0) ZA1)) (ZAT (v:=.int 8) (by rfl) c_MOST_LETTERS ⟨_,rfl⟩)) (qe_one (ZA7 (call_all rfl) (by rfl) b_all (by decide +kernel) (ZA0 (ZGK rfl ZG9 (qi_str (qv 0)) (fun _ _ _ _=>by exact ZG3) (fun _ _ _ _=>by exact (ZG4 ZIg (qv 0) (ZAT (v:=.str "abcdefghijklmnopqrstuvwxyz") (by rfl) c_LETTERS ⟨_,rfl⟩) (by with_unfolding_all rfl)))) ZA1)))))),?_⟩
  refine ⟨_,rfl,_,rfl,ZBs (by omega),_,_,rfl,rfl,_,rfl,?_⟩
  refine ZAm (fun c=>?_) (fun c=>⟨_,rfl,iteF ?_⟩)
  · refine ⟨_,_,rfl,rfl,_,rfl,?_⟩
    refine ZAm (fun c2=>?_) (fun c2=>?_)
    · refine ⟨_,rfl,x,rfl,fun acc hacc=>comp_str (fun _=>true) inV1 hacc (by rw [← Array.length_toList,← ZBL];exact ZBs (by omega)) (fun i v H' Q' _ _ h=>h H' (Same.refl _)) (fun i v H' Q' hv _ _ h=>?_) (fun H' s1 e1=>?_)⟩
      · obtain ⟨cc,rfl⟩:=ZIk hv
        exact ⟨_,rfl,_,_,rfl,rfl,h H' (Same.refl _)⟩
      · rw [signs_in] at e1
        refine ⟨acc,_,rfl,SqL.of e1,?_⟩
        rw [all_map]
        have e:ZBt x=x.cps.toList.all ZFB:=by unfold ZBt;rw [c,c2];rfl
        rw [← e];exact q H' s1
    · have e:ZBt x=false:=by unfold ZBt;rw [Bool.eq_false_iff.mpr c2];simp
      rw [← e];exact q H (Same.refl _)
  · have e:ZBt x=false:=by unfold ZBt;rw [Bool.eq_false_iff.mpr c];simp
    rw [← e];exact q H (Same.refl _)
theorem sc_check_kinds:FnScope ["kinds", "words", "number", "kind"] ["kinds"] (ZA4 ZAn):=⟨rfl,rfl,rfl,by decide +kernel,rfl,by decide +kernel,by decide +kernel⟩
def ZDJ:Scope:={ kind:=.function,names:=[(".0", .local),("kind", .local)],isGenerator:=false,isCoroutine:=false,more:=[] }
theorem ZDV:CompScope ["kinds", "words", "number", "kind"] (ZA4 ZAn) ZDJ "kind" [] []:=⟨rfl,by decide +kernel,by decide +kernel,rfl,rfl,by decide +kernel,by decide +kernel,by decide +kernel,by decide +kernel⟩
theorem ZCQ {a_NoName:Addr} {a_NoWhere:Addr} {a_There:Addr} {a_TooMany:Addr}:∀ ss R D,(ZDU a_NoName a_There a_NoWhere a_TooMany) ss R D→ss.length=1:=by rintro _ _ _ ⟨ks,rfl,_,rfl,rfl⟩;rfl
theorem ZEb {k_MOST_KINDS:Tok} {k_MOST_PUTS:Tok} {a_NoName:Addr} {a_NoWhere:Addr} {a_There:Addr} {a_TooMany:Addr} (F:Fun K "check_kinds" "check_kinds" ZAn f fd) (bd:Binds K fd ["kinds"] []) (m:mg "check_kinds" = some (.ref f)) (h_check_puts:HasX P w K mg base "check_puts" 4 ["words", "puts"] (spX (ZEO a_NoName a_There a_NoWhere a_TooMany))) (h_is_name:Has P w K mg base "is_name" 1 ["text"] (ZET)) (b_enumerate:mg "enumerate" = none) (b_len:mg "len" = none) (c_MOST_KINDS:mg "MOST_KINDS" = some (.int 8 k_MOST_KINDS)) (c_MOST_PUTS:mg "MOST_PUTS" = some (.int 6 k_MOST_PUTS)) (m_NoName:mg "NoName" = some (.ref a_NoName)) (i_NoName:ZDo P w K mg base a_NoName "name") (m_There:mg "There" = some (.ref a_There)) (i_There:ZDo P w K mg base a_There "name") (m_TooMany:mg "TooMany" = some (.ref a_TooMany)) (x_TooMany:ZDx K a_TooMany none=true) :
    HasX P w K mg base "check_kinds" 5 ["kinds"] (spX (ZDU a_NoName a_There a_NoWhere a_TooMany)):=by
  refine HasX.mk F bd m (F.okx (k:=4) sc_check_kinds (fun vs H Q E h=>Fz.spX_len ZCQ h) (fun cdv A outer s H vs Q E hr h=>?_))
  refine ⟨_,(ZA8 rfl (ZAX (ZCw (ZDE ZDs ZDs ZA2 (ZA7 ZAs (by rfl) b_len (by decide +kernel) (ZA0 (qv 0) ZA1)) (ZAT (v:=.int 8) (by rfl) c_MOST_KINDS ⟨_,rfl⟩))) (ZAA rfl (ZF9 (by rfl) m_TooMany x_TooMany rfl rfl ZBM (ZA0 ZAC ZA1))) ZAG)
      (ZA8 rfl (qs_comp (i:=1) sc_check_kinds.nd rfl (Or.inl rfl) rfl ZDV (ZEE (qv 0)) (fun _ _ _ _=>by exact ZG3) (fun _ _ _ _=>by exact (ZAQ (show IxR _ (rIxT K) from ZAY) (qv 0) ZA2 (fun _ _=>rfl))))
      (ZA8 rfl (ZAp (ZBb ZE5 rfl (qi_enum2 rfl b_enumerate (ZA0 (qv 0) ZA1)) (ZEl rfl (ZAo (ZAV (i:=2) sc_check_kinds.nd rfl (Or.inl rfl)) (ZAo (ZAV (i:=3) sc_check_kinds.nd rfl (Or.inl rfl)) ZD7))) (ZA8 rfl (ZAX (ZCw (ZFv (ZAR h_is_name hr (by decide) (ZA0 (ZAQ ZAY (qv 3) ZA2 (fun _ _=>rfl)) ZA1)))) (ZAA rfl (ZCj i_NoName (by rfl) m_NoName hr (by decide) rfl rfl ZBM (ZA0 (ZAQ ZAY (qv 3) ZA2 (fun _ _=>rfl)) ZA1))) ZAG)
      (ZA8 rfl (ZAX (ZAB ZDg (ZAQ ZAY (qv 3) ZA2 (fun _ _=>rfl)) (ZBY ZE1 (qv 1) ZBy (ZBz (qv 2))) (by with_unfolding_all rfl)) (ZAA rfl (ZCj i_There (by rfl) m_There hr (by decide) rfl rfl ZBM (ZA0 (ZAQ ZAY (qv 3) ZA2 (fun _ _=>rfl)) ZA1))) ZAG)
      (ZAA rfl (ZAX (ZAB ZGq (ZA7 ZAs (by rfl) b_len (by decide +kernel) (ZA0 (ZAQ ZAY (qv 3) ZA2 (fun _ _=>rfl)) ZA1)) (ZAT (v:=.int 6) (by rfl) c_MOST_PUTS ⟨_,rfl⟩) (ZAJ _)) (ZAA rfl (ZF9 (by rfl) m_TooMany x_TooMany rfl rfl ZBM (ZA0 ZAC ZA1))) ZAG))))))
      (ZAA rfl (ZBb ZE5 rfl (ZEE (qv 0)) (ZAV (i:=3) sc_check_kinds.nd rfl (Or.inl rfl)) (ZAA rfl (ZBw (ZHM h_check_puts hr (by decide) ZBM rfl (ZA0 (qv 1) (ZA0 (ZAQ ZAY (qv 3) ZA2 (fun _ _=>rfl)) ZA1)))))))))),?_⟩
  refine Fz.fn_runX h ZCQ ?_
  rintro _ _ _ ⟨ks,rfl,hK,rfl,rfl⟩
  intro i0
  show Ws [_,.any,.any,.any] _ _ _
  have many:∀ (c:ks.length=0∨8 < ks.length),Ws [.sq false (ks.map Kd.P),.any,.any,.any] (ZE0 a_TooMany Xw.e (ZA9 (tC (V.str "no kinds, or more than a book can have")) ZAa)) (fun _=>False) (.is fun p=>p=PV.non∧ZC2 ks=none):=fun c=>by
    refine ZFm ?_
    walk_at "ww"
    exact ⟨by show 1≤1000;decide,trivial,_,by unfold ZC2;rw [if_pos c],rfl⟩
  walk_at "ww"
  rw [List.length_map]
  refine ZAm (fun c1=>?_) (fun c1=>?_)
  · refine ZAO ⟨_,rfl,_,rfl,ZAm (fun c2=>?_) (fun c2=>ZAD ?_)⟩
    · exact (many (.inr (by have:=ZFY c2;omega))).mono fun _ h=>h.elim
    have h1:1≤ks.length:=by have:=of_decide_eq_true c1;omega
    have h8:ks.length≤8:=by have:=ZFa c2;omega
    have dq:=ZEK (ks:=ks) (by omega)
    refine ZAb (ZE8 (ZEm Kd.P (fun _=>true) (fun k=>PV.str k.w) (wi_sq (wz_sq rfl ⟨ks,rfl,by omega,fun k _=>ZGB rfl,fun k _ _=>ZAW (ZAS rfl ⟨rfl,ZAO ⟨_,_,rfl,rfl,rfl⟩⟩),?_⟩)) Kd.inj))
    rw [List.filter_eq_self.mpr fun _ _=>rfl]
    refine ZCh 1 rfl ?_
    have ew:(ks.map fun k=>PV.str k.w)=(ks.map Kd.w).map PV.str:=by rw [List.map_map];rfl
    rw [ew]
    show Ws [.sq false (ks.map Kd.P),.is (.lst ((ks.map Kd.w).map .str)),.any,.any] _ _ _
    refine ZAb (ZCV (ZBp (fun _ i ss'=>∃ s2 s3:Slot,ss'=[.sq false (ks.map Kd.P),.is (.lst ((ks.map Kd.w).map .str)),s2,s3]∧ZCz [] ks=ZCz ((ks.take i).map Kd.w) (ks.drop i)) ?_))
    walk_at "ww"
    refine ⟨⟨_,_,rfl,rfl⟩,?_,?_⟩
    · rintro i q ss' hq ⟨s2,s3,rfl,hI⟩
      obtain ⟨x0,hx,rfl⟩:=enumP_of hq
      rw [List.getElem?_map] at hx
      cases ex:ks[i]? with
      | none=>rw [ex] at hx;cases hx
      | some k=>
        rw [ex] at hx;cases hx
        have hi:=(List.getElem?_eq_some_iff.mp ex).1
        have ok:=hK.2 k (List.mem_of_getElem? ex)
        rw [ZCg ex,ZCz] at hI
        refine ZI3 ⟨_,_,rfl,?_⟩
        walk_at "ww"
        refine ZIZ (ZAW (ZAS rfl ⟨rfl,ZAO ⟨_,_,rfl,rfl,k.w,rfl,ok.1.2,_,rfl,?_⟩⟩))
        refine ZAm (fun c=>?_) (fun c=>ZAD ?_)
        · have e0:ZBt k.w=false:=by
            cases e:ZBt k.w with
            | false=>rfl
            | true=>rw [e] at c;cases c
          rw [if_pos e0] at hI
          exact ZCl (ZAW (ZAS rfl ⟨rfl,ZAO ⟨_,_,rfl,rfl,ok.1.1,trivial,(0,k.w),dq.1 _ hI,rfl⟩⟩))
        have e0:¬ ZBt k.w=false:=fun e=>by rw [e] at c;exact c rfl
        rw [if_neg e0] at hI
        walk_at "ww"
        rw [show ZBO (ks.map Kd.w) none (some (i:Int))=(ks.take i).map Kd.w from by rw [cut_to (by rw [List.length_map];omega),List.map_take]]
        refine ZAm (fun c=>?_) (fun c=>ZAD ?_)
        · rw [if_pos (of_decide_eq_true c)] at hI
          exact ZCl (ZAW (ZAS rfl ⟨rfl,ZAO ⟨_,_,rfl,rfl,ok.1.1,trivial,(1,k.w),dq.1 _ hI,rfl⟩⟩))
        rw [if_neg (fun h=>c (decide_eq_true h))] at hI
        refine ZC5 (ZAu (wp_rB0 (wp_len (ZAt (ZAW (ZAS rfl ⟨rfl,ZAO ⟨_,_,rfl,rfl,_,.inr ⟨rfl,?_⟩⟩⟩))))))
        walk_at "ww"
        rw [List.length_map]
        refine ZAm (fun c=>?_) (fun c=>ZAD ⟨_,_,rfl,?_⟩)
        · rw [if_pos (by have:=of_decide_eq_true c;omega)] at hI
          refine ZFm ?_
          walk_at "ww"
          exact ⟨by show 1≤1000;decide,trivial,(10, ""),dq.1 _ hI,rfl⟩
        · rw [if_neg (fun h=>c (decide_eq_true (by omega)))] at hI
          rw [hI,ZEC ex,List.map_append];rfl
    · rw [ZCk,List.length_map]
      rintro ss' ⟨s2,s3,rfl,hI⟩
      rw [List.drop_length,ZCz] at hI
      have e2:=dq.2 hI
      refine ZBp (fun _ i ss'=>∃ s2 s3:Slot,ss'=[.sq false (ks.map Kd.P),.is (.lst ((ks.map Kd.w).map .str)),s2,s3]∧ZDM (ks.map Kd.w) ks=ZDM (ks.map Kd.w) (ks.drop i)) ?_
      walk_at "ww"
      refine ⟨⟨_,_,rfl,rfl⟩,?_,?_⟩
      · rintro i p ss' hp ⟨s2,s3,rfl,hI⟩
        rw [List.getElem?_map] at hp
        cases ex:ks[i]? with
        | none=>rw [ex] at hp;cases hp
        | some k=>
          rw [ex] at hp;cases hp
          have ok:=hK.2 k (List.mem_of_getElem? ex)
          rw [ZCg ex,ZDM] at hI
          refine ZCH ?_
          refine ZE3 (ZEk (ZAw (ZA6 rfl (ZAw (ZAW (ZAS rfl ⟨rfl,ZAO ⟨_,_,rfl,rfl,ZB0 ⟨_,_,⟨ks.map Kd.w,k.ps,rfl,by rw [List.length_map];omega,ok.2.2,rfl,rfl⟩,trivial,fun e h=>?_,fun p hp'=>?_⟩⟩⟩))))))
          · obtain ⟨d,hd,he⟩:=h
            rw [hd] at hI
            exact ⟨d,e2.trans hI,he⟩
          · obtain ⟨rfl,hm⟩:=hp'
            rw [hm] at hI
            exact ⟨_,_,rfl,hI⟩
      · rw [List.length_map]
        rintro ss' ⟨s2,s3,rfl,hI⟩
        rw [List.drop_length,ZDM] at hI
        exact ⟨_,rfl,rfl,e2.trans hI⟩
  · refine ⟨_,rfl,ZDy rfl ?_⟩
    exact (many (.inl (by have:=ZES c1;omega))).mono fun _ h=>h.elim
theorem sc_Errands___init__:FnScope ["self", "kinds", "kind"] ["self", "kinds"] (ZA4 ZAU):=⟨rfl,rfl,rfl,by decide +kernel,rfl,by decide +kernel,by decide +kernel⟩
theorem ZBZ {a_Errands:Addr} {a_NoName:Addr} {a_NoWhere:Addr} {a_There:Addr} {a_TooMany:Addr}:∀ ss R D,(ZFx a_Errands a_NoName a_There a_NoWhere a_TooMany) ss R D→ss.length=2:=by rintro _ _ _ ⟨dx,a,ks,rfl,_,rfl,rfl⟩;rfl
theorem ZCp {a_Errands:Addr} {a_NoName:Addr} {a_NoWhere:Addr} {a_There:Addr} {a_TooMany:Addr} (F:Fun K "__init__" "Errands.__init__" ZAU f fd) (bd:Binds K fd ["self", "kinds"] []) (mt:Mk K a_Errands f) (h_check_kinds:HasX P w K mg base "check_kinds" 5 ["kinds"] (spX (ZDU a_NoName a_There a_NoWhere a_TooMany))) (b_tuple:mg "tuple" = none) (oc_Errands:Cls K a_Errands) (na_Errands_goes_by_word:NoAttr K a_Errands "goes_by_word") (na_Errands_puts_by_word:NoAttr K a_Errands "puts_by_word") :
    HasIX P w K mg base a_Errands 6 ["self", "kinds"] (spMX (ZFx a_Errands a_NoName a_There a_NoWhere a_TooMany)):=by
  refine ⟨f,fd,F.okx (k:=5) sc_Errands___init__ (fun vs H Q E h=>Fz.spMX_len ZBZ h) (fun cdv A outer s H vs Q E hr h=>?_),bd,mt⟩
  refine ⟨_,(ZA8 rfl (ZBw (ZHM h_check_kinds hr (by decide) ZBM rfl (ZA0 (qv 1) ZA1)))
      (ZA8 rfl (qs_fld (qv 0) ZH6)
      (ZA8 rfl (qs_fld (qv 0) ZH6)
      (ZAA rfl (ZBb ZE5 rfl (ZEE (qv 1)) (ZAV (i:=2) sc_Errands___init__.nd rfl (Or.inl rfl)) (ZA8 rfl (ZIC (hu_of hr) (qe_fld (qv 0)) (ZAQ ZAY (qv 2) ZA2 (fun _ _=>rfl)) (ZDZ ZCr (by rfl) b_tuple (by decide +kernel) (ZA0 (ZAQ ZAY (qv 2) ZA2 (fun _ _=>rfl)) ZA1)))
      (ZAA rfl (ZIC (hu_of hr) (qe_fld (qv 0)) (ZAQ ZAY (qv 2) ZA2 (fun _ _=>rfl)) (ZAQ ZAY (qv 2) ZA2 (fun _ _=>rfl)))))))))),?_⟩
  refine Fz.fn_runMX h ZBZ ?_
  rintro _ _ _ ⟨dx,a,ks,rfl,hK,rfl,rfl⟩ nk a0 us e0
  cases e0
  intro i0
  show Ws [_,_,.any] _ _ _
  refine ZAb (ZE3 (ZEk (wa_sq (wq_sq rfl (ZB0 ⟨_,_,⟨ks,rfl,hK,rfl,rfl⟩,rfl,fun e h=>h,fun p hp=>?_⟩)))))
  obtain ⟨rfl,hd⟩:=hp
  refine ZAb (ZIJ (i:=0) (ZI5 fun b1=>ZBF rfl ⟨true,a_Errands,dx,[],a,[],rfl,rfl,oc_Errands,na_Errands_puts_by_word,by decide,List.not_mem_nil,?_⟩))
  rw [OV.put_nil]
  show Ws [.ow true (.nd (.obj a_Errands dx ["puts_by_word"]) a [.nd (.dct []) b1 []]),.sq false (ks.map Kd.P),.any] _ _ _
  refine ZAb (ZIJ (i:=0) (ZI5 fun b2=>ZBF rfl ⟨true,a_Errands,dx,_,a,_,rfl,rfl,oc_Errands,na_Errands_goes_by_word,by decide,List.not_mem_nil,?_⟩))
  rw [OV.put_nil]
  show Ws [.ow true (.nd (.obj a_Errands dx ["puts_by_word", "goes_by_word"]) a [.nd (.dct []) b1 [],.nd (.dct []) b2 []]),.sq false (ks.map Kd.P),.any] _ _ _
  refine ZBp (fun _ i ss'=>∃ (kA kB:List Key) (uA uB:List OV) (s2:Slot),ss'=[.ow true (.nd (.obj a_Errands dx ["puts_by_word", "goes_by_word"]) a [.nd (.dct kA) b1 uA,.nd (.dct kB) b2 uB]),.sq false (ks.map Kd.P),s2]∧kA.Nodup∧kB.Nodup∧uA.length≤i∧uB.length≤i) ?_
  walk_at "ww"
  refine ⟨⟨[],[],[],[],_,rfl,List.nodup_nil,List.nodup_nil,Nat.le_refl _,Nat.le_refl _⟩,?_,?_⟩
  · rintro i p ss' hp ⟨kA,kB,uA,uB,s2,rfl,nA,nB,lA,lB⟩
    rw [List.getElem?_map] at hp
    cases ex:ks[i]? with
    | none=>rw [ex] at hp;cases hp
    | some k=>
      rw [ex] at hp;cases hp
      have hi:=(List.getElem?_eq_some_iff.mp ex).1
      have h9:=hK.1
      refine ZCH ?_
      refine ZAb (ZGj (i:=0) (t:=.nd (.obj a_Errands dx ["puts_by_word", "goes_by_word"]) a [.nd (.dct kA) b1 uA,.nd (.dct kB) b2 uB]) (wx_p (ZEM rfl (ZAt (ZAW (ZAS rfl ⟨rfl,ZAO ⟨_,_,rfl,rfl,_,.inr ⟨rfl,?_⟩⟩⟩))))))
      refine wl_fld (ZBF rfl ⟨a_Errands,dx,_,a,_,0,_,rfl,oc_Errands,na_Errands_puts_by_word,rfl,rfl,true,b1,kA,uA,rfl,rfl,by omega,nA,List.not_mem_nil,ZAW (ZAS rfl ⟨rfl,ZAO ⟨_,_,rfl,rfl,.inr k.w,rfl,?_⟩⟩)⟩)
      rw [List.nil_append,OV.put_nd (show _=some _ from rfl),OV.put_nil]
      have lA':=ZFI kA uA (.inr k.w) (.fz (.tup (k.ps.map ZBB)))
      have nA':=ZDn nA (.inr k.w)
      generalize ZDk kA uA (.inr k.w) (.fz (.tup (k.ps.map ZBB)))=uA' at lA' ⊢
      generalize ZEg kA (.inr k.w)=kA' at nA' ⊢
      show Ws [.ow true (.nd (.obj a_Errands dx ["puts_by_word", "goes_by_word"]) a [.nd (.dct kA') b1 uA',.nd (.dct kB) b2 uB]),.sq false (ks.map Kd.P),.is k.P] _ _ _
      refine ZGj (i:=0) (t:=.nd (.obj a_Errands dx ["puts_by_word", "goes_by_word"]) a [.nd (.dct kA') b1 uA',.nd (.dct kB) b2 uB]) (wx_p (ZAW (ZAS rfl ⟨rfl,ZAO ⟨_,_,rfl,rfl,?_⟩⟩)))
      refine wl_fld (ZBF rfl ⟨a_Errands,dx,_,a,_,1,_,rfl,oc_Errands,na_Errands_goes_by_word,by decide +kernel,rfl,true,b2,kB,uB,rfl,rfl,by omega,nB,List.not_mem_nil,ZAW (ZAS rfl ⟨rfl,ZAO ⟨_,_,rfl,rfl,.inr k.w,rfl,?_⟩⟩)⟩)
      rw [List.nil_append,OV.put_nd (show _=some _ from rfl),OV.put_nil]
      have lB':=ZFI kB uB (.inr k.w) (.fz (.bl k.g))
      exact ⟨kA',_,uA',_,_,rfl,nA',ZDn nB (.inr k.w),by omega,by omega⟩
  · rintro ss' ⟨kA,kB,uA,uB,s2,rfl,nA,nB,lA,lB⟩
    exact ⟨_,_,_,_,rfl,rfl,rfl,⟨_,_,rfl⟩,hd⟩
theorem sc__law_said:FnScope ["kinds", "found", "e"] ["kinds"] (ZA4 ZBH):=⟨rfl,rfl,rfl,by decide +kernel,rfl,by decide +kernel,by decide +kernel⟩
theorem ZCs {a_NoName:Addr} {a_NoWhere:Addr} {a_There:Addr} {a_TooMany:Addr}:∀ ss R,(ZDT a_NoName a_There a_NoWhere a_TooMany) ss R→ss.length=1:=by rintro _ _ ⟨ks,rfl,_,rfl⟩;rfl
theorem ZFo {a_Errands:Addr} {a_NoName:Addr} {a_NoWhere:Addr} {a_StirError:Addr} {a_There:Addr} {a_TooMany:Addr} (F:Fun K "_law_said" "_law_said" ZBH f fd) (bd:Binds K fd ["kinds"] []) (m:mg "_law_said" = some (.ref f)) (h_Errands___init__:HasIX P w K mg base a_Errands 6 ["self", "kinds"] (spMX (ZFx a_Errands a_NoName a_There a_NoWhere a_TooMany))) (m_Errands:mg "Errands" = some (.ref a_Errands)) (m_StirError:mg "StirError" = some (.ref a_StirError)) (xm0:PySem.W.exmOne K (.ref a_NoName) (.ref a_StirError)=some true) (xm1:PySem.W.exmOne K (.ref a_There) (.ref a_StirError)=some true) (xm7:PySem.W.exmOne K (.ref a_NoWhere) (.ref a_StirError)=some true) (xm10:PySem.W.exmOne K (.ref a_TooMany) (.ref a_StirError)=some true) :
    Has P w K mg base "_law_said" 8 ["kinds"] (spF (ZDT a_NoName a_There a_NoWhere a_TooMany)):=by
  refine Has.mk F bd m (F.okq (k:=7) sc__law_said (fun vs H Q E h=>Fz.spF_len ZCs h) (fun cdv A outer s H vs Q E hr h=>?_))
  refine ⟨_,(ZA8 rfl (ZAE (i:=1) sc__law_said.nd rfl (Or.inl rfl) ZEr)
      (ZA8 rfl (qs_try (j:=2) rfl rfl sc__law_said.nd rfl rfl (by rfl) m_StirError (fun _ _ _ g1=>by exact (ZAA rfl (ZBw (qe_makeX h_Errands___init__ hr (by decide) g1 rfl m_Errands (ZA0 (qv 0) ZA1))))) (fun _=>by exact (ZAA rfl (ZAE (i:=1) sc__law_said.nd rfl (Or.inl rfl) (qv 2)))))
      (ZAA rfl (ZAP (qv 1))))),?_⟩
  refine Fz.fn_run h ZCs ?_
  rintro _ _ ⟨ks,rfl,hK,rfl⟩
  show Ws [_,.any,.any] _ _ _
  walk_at "ww"
  refine ws_try (fun ss'=>ss'=[.sq false (ks.map Kd.P),.is .non,.any]) (duR a_NoName a_There a_NoWhere a_TooMany (ZC2 ks)) (fun E=>?_) (fun ss1 x hJ hD=>?_)
  · letI:Xw:=xwT E (fun ss'=>ss'=[.sq false (ks.map Kd.P),.is .non,.any]) (duR a_NoName a_There a_NoWhere a_TooMany (ZC2 ks))
    refine ZE3 (wp_of_wx (wx_makeX (wa_sq (wq_sq rfl (ZB0 fun x dx=>⟨_,_,⟨dx,x,ks,rfl,hK,rfl,rfl⟩,rfl,fun e h=>h,fun p t' hp=>?_⟩)))))
    obtain ⟨rfl,⟨ns,us,rfl⟩,hd⟩:=hp
    refine ⟨rfl,_,_,rfl,rfl,?_⟩
    clear this
    show Ws [.sq false (ks.map Kd.P),.is .non,.any] _ _ _
    exact ZAh (ZA6 rfl (.inl ⟨rfl,hd⟩))
  · subst hJ
    obtain ⟨d,hd,rfl⟩:=hD
    refine ⟨?_,ZD1 (ZA6 rfl (ZAh (ZA6 rfl (.inr ⟨d,hd,rfl⟩))))⟩
    unfold exK
    split
    · exact xm0
    · split
      · exact xm1
      · split
        · exact xm7
        · exact xm10
theorem sc__law_alone:FnScope ["e", "place", "some"] ["e", "place"] (ZA4 ZB4):=⟨rfl,rfl,rfl,by decide +kernel,rfl,by decide +kernel,by decide +kernel⟩
theorem ZCf {a_Endless:Addr} {a_Full:Addr} {a_Gone:Addr} {a_NoLog:Addr} {a_NoLoop:Addr} {a_NoName:Addr} {a_NoOrders:Addr} {a_NoPlace:Addr} {a_NoRow:Addr} {a_NoRule:Addr} {a_NoText:Addr} {a_NoTicket:Addr} {a_NoWhere:Addr} {a_Stale:Addr} {a_StirError:Addr} {a_There:Addr} {a_TooMany:Addr}:∀ ss R,(ZEU K [a_NoName,a_There,a_Gone,a_NoPlace,a_NoRule,a_NoLog,a_Stale,a_NoWhere,a_NoText,a_Full,a_TooMany,a_NoLoop,a_NoTicket,a_Endless,a_NoOrders,a_NoRow] a_StirError) ss R→ss.length=2:=by rintro _ _ ⟨C,ms,xs,i,rfl,_,_,_,rfl⟩;rfl
theorem ZF7 {a_Endless:Addr} {a_Full:Addr} {a_Gone:Addr} {a_NoLog:Addr} {a_NoLoop:Addr} {a_NoName:Addr} {a_NoOrders:Addr} {a_NoPlace:Addr} {a_NoRow:Addr} {a_NoRule:Addr} {a_NoText:Addr} {a_NoTicket:Addr} {a_NoWhere:Addr} {a_Stale:Addr} {a_StirError:Addr} {a_There:Addr} {a_TooMany:Addr} (F:Fun K "_law_alone" "_law_alone" ZB4 f fd) (bd:Binds K fd ["e", "place"] []) (m:mg "_law_alone" = some (.ref f)) (b_ValueError:mg "ValueError" = none) (b_isinstance:mg "isinstance" = none) (m_Endless:mg "Endless" = some (.ref a_Endless)) (m_Full:mg "Full" = some (.ref a_Full)) (m_Gone:mg "Gone" = some (.ref a_Gone)) (m_NoLog:mg "NoLog" = some (.ref a_NoLog)) (m_NoLoop:mg "NoLoop" = some (.ref a_NoLoop)) (m_NoName:mg "NoName" = some (.ref a_NoName)) (m_NoOrders:mg "NoOrders" = some (.ref a_NoOrders)) (m_NoPlace:mg "NoPlace" = some (.ref a_NoPlace)) (m_NoRow:mg "NoRow" = some (.ref a_NoRow)) (m_NoRule:mg "NoRule" = some (.ref a_NoRule)) (m_NoText:mg "NoText" = some (.ref a_NoText)) (m_NoTicket:mg "NoTicket" = some (.ref a_NoTicket)) (m_NoWhere:mg "NoWhere" = some (.ref a_NoWhere)) (m_Stale:mg "Stale" = some (.ref a_Stale)) (m_StirError:mg "StirError" = some (.ref a_StirError)) (m_There:mg "There" = some (.ref a_There)) (m_TooMany:mg "TooMany" = some (.ref a_TooMany)) :
    Has P w K mg base "_law_alone" 1 ["e", "place"] (spF (ZEU K [a_NoName,a_There,a_Gone,a_NoPlace,a_NoRule,a_NoLog,a_Stale,a_NoWhere,a_NoText,a_Full,a_TooMany,a_NoLoop,a_NoTicket,a_Endless,a_NoOrders,a_NoRow] a_StirError)):=by
  refine Has.mk F bd m (F.okq (k:=0) sc__law_alone (fun vs H Q E h=>Fz.spF_len ZCf h) (fun cdv A outer s H vs Q E hr h=>?_))
  refine ⟨_,(ZA8 rfl (ZAE (i:=2) sc__law_alone.nd rfl (Or.inl rfl) (ZBa (ZA0 (ZA7 ZAM (by rfl) b_isinstance (by decide +kernel) (ZA0 (qv 0) (ZA0 (ZAT (v:=.ref a_NoName) (by rfl) m_NoName rfl) ZA1))) (ZA0 (ZA7 ZAM (by rfl) b_isinstance (by decide +kernel) (ZA0 (qv 0) (ZA0 (ZAT (v:=.ref a_There) (by rfl) m_There rfl) ZA1))) (ZA0 (ZA7 ZAM (by rfl) b_isinstance (by decide +kernel) (ZA0 (qv 0) (ZA0 (ZAT (v:=.ref a_Gone) (by rfl) m_Gone rfl) ZA1))) (ZA0 (ZA7 ZAM (by rfl) b_isinstance (by decide +kernel) (ZA0 (qv 0) (ZA0 (ZAT (v:=.ref a_NoPlace) (by rfl) m_NoPlace rfl) ZA1))) (ZA0 (ZA7 ZAM (by rfl) b_isinstance (by decide +kernel) (ZA0 (qv 0) (ZA0 (ZAT (v:=.ref a_NoRule) (by rfl) m_NoRule rfl) ZA1))) (ZA0 (ZA7 ZAM (by rfl) b_isinstance (by decide +kernel) (ZA0 (qv 0) (ZA0 (ZAT (v:=.ref a_NoLog) (by rfl) m_NoLog rfl) ZA1))) (ZA0 (ZA7 ZAM (by rfl) b_isinstance (by decide +kernel) (ZA0 (qv 0) (ZA0 (ZAT (v:=.ref a_Stale) (by rfl) m_Stale rfl) ZA1))) (ZA0 (ZA7 ZAM (by rfl) b_isinstance (by decide +kernel) (ZA0 (qv 0) (ZA0 (ZAT (v:=.ref a_NoWhere) (by rfl) m_NoWhere rfl) ZA1))) (ZA0 (ZA7 ZAM (by rfl) b_isinstance (by decide +kernel) (ZA0 (qv 0) (ZA0 (ZAT (v:=.ref a_NoText) (by rfl) m_NoText rfl) ZA1))) (ZA0 (ZA7 ZAM (by rfl) b_isinstance (by decide +kernel) (ZA0 (qv 0) (ZA0 (ZAT (v:=.ref a_Full) (by rfl) m_Full rfl) ZA1))) (ZA0 (ZA7 ZAM (by rfl) b_isinstance (by decide +kernel) (ZA0 (qv 0) (ZA0 (ZAT (v:=.ref a_TooMany) (by rfl) m_TooMany rfl) ZA1))) (ZA0 (ZA7 ZAM (by rfl) b_isinstance (by decide +kernel) (ZA0 (qv 0) (ZA0 (ZAT (v:=.ref a_NoLoop) (by rfl) m_NoLoop rfl) ZA1))) (ZA0 (ZA7 ZAM (by rfl) b_isinstance (by decide +kernel) (ZA0 (qv 0) (ZA0 (ZAT (v:=.ref a_NoTicket) (by rfl) m_NoTicket rfl) ZA1))) (ZA0 (ZA7 ZAM (by rfl) b_isinstance (by decide +kernel) (ZA0 (qv 0) (ZA0 (ZAT (v:=.ref a_Endless) (by rfl) m_Endless rfl) ZA1))) (ZA0 (ZA7 ZAM (by rfl) b_isinstance (by decide +kernel) (ZA0 (qv 0) (ZA0 (ZAT (v:=.ref a_NoOrders) (by rfl) m_NoOrders rfl) ZA1))) (ZA0 (ZA7 ZAM (by rfl) b_isinstance (by decide +kernel) (ZA0 (qv 0) (ZA0 (ZAT (v:=.ref a_NoRow) (by rfl) m_NoRow rfl) ZA1))) ZA1))))))))))))))))))
      (ZA8 rfl (ZAX (ZFR (ZCw (ZFv (ZA7 ZAM (by rfl) b_isinstance (by decide +kernel) (ZA0 (qv 0) (ZA0 (ZAT (v:=.ref a_StirError) (by rfl) m_StirError rfl) ZA1))))) (ZDS (ZCw (ZFv (ZA7 ZAM (by rfl) b_isinstance (by decide +kernel) (ZA0 (qv 0) (ZA0 (qe_ty "ValueError" b_ValueError) ZA1))))))).pt (ZAA rfl (ZAP ZEn)) ZAG)
      (ZAA rfl (ZAP (qe_and (ZG4 ZBd (ZGz PySem.F.plainAttrs_list PySem.F.slot_list_count PySem.F.type_list_count mr_count (qv 2) (ZA0 ZEn ZA1)) ZA2 (ZAJ _)) (qe_one (ZAQ ZAy (qv 2) (qv 1) (fun _ _=>rfl)))))))),?_⟩
  refine Fz.fn_run h ZCf ?_
  rintro _ _ ⟨C,ms,xs,i,rfl,al,hi,_,rfl⟩
  show Ws [_,_,.any] _ _ _
  walk_at "ww"
  refine ZAi (ZA6 rfl ⟨⟨fun _ _ _ z=>(by cases z),fun _ _ z=>(by cases z)⟩,_,_,_,rfl,⟨rfl,al.ex⟩,al.at_ 0 (by show 0 < 16;decide),?_⟩)
  walk_at "ww"
  refine ZAi (ZA6 rfl ⟨⟨fun _ _ _ z=>(by cases z),fun _ _ z=>(by cases z)⟩,_,_,_,rfl,⟨rfl,al.ex⟩,al.at_ 1 (by show 1 < 16;decide),?_⟩)
  walk_at "ww"
  refine ZAi (ZA6 rfl ⟨⟨fun _ _ _ z=>(by cases z),fun _ _ z=>(by cases z)⟩,_,_,_,rfl,⟨rfl,al.ex⟩,al.at_ 2 (by show 2 < 16;decide),?_⟩)
  walk_at "ww"
  refine ZAi (ZA6 rfl ⟨⟨fun _ _ _ z=>(by cases z),fun _ _ z=>(by cases z)⟩,_,_,_,rfl,⟨rfl,al.ex⟩,al.at_ 3 (by show 3 < 16;decide),?_⟩)
  walk_at "ww"
  refine ZAi (ZA6 rfl ⟨⟨fun _ _ _ z=>(by cases z),fun _ _ z=>(by cases z)⟩,_,_,_,rfl,⟨rfl,al.ex⟩,al.at_ 4 (by show 4 < 16;decide),?_⟩)
  walk_at "ww"
  refine ZAi (ZA6 rfl ⟨⟨fun _ _ _ z=>(by cases z),fun _ _ z=>(by cases z)⟩,_,_,_,rfl,⟨rfl,al.ex⟩,al.at_ 5 (by show 5 < 16;decide),?_⟩)
  walk_at "ww"
  refine ZAi (ZA6 rfl ⟨⟨fun _ _ _ z=>(by cases z),fun _ _ z=>(by cases z)⟩,_,_,_,rfl,⟨rfl,al.ex⟩,al.at_ 6 (by show 6 < 16;decide),?_⟩)
  walk_at "ww"
  refine ZAi (ZA6 rfl ⟨⟨fun _ _ _ z=>(by cases z),fun _ _ z=>(by cases z)⟩,_,_,_,rfl,⟨rfl,al.ex⟩,al.at_ 7 (by show 7 < 16;decide),?_⟩)
  walk_at "ww"
  refine ZAi (ZA6 rfl ⟨⟨fun _ _ _ z=>(by cases z),fun _ _ z=>(by cases z)⟩,_,_,_,rfl,⟨rfl,al.ex⟩,al.at_ 8 (by show 8 < 16;decide),?_⟩)
  walk_at "ww"
  refine ZAi (ZA6 rfl ⟨⟨fun _ _ _ z=>(by cases z),fun _ _ z=>(by cases z)⟩,_,_,_,rfl,⟨rfl,al.ex⟩,al.at_ 9 (by show 9 < 16;decide),?_⟩)
  walk_at "ww"
  refine ZAi (ZA6 rfl ⟨⟨fun _ _ _ z=>(by cases z),fun _ _ z=>(by cases z)⟩,_,_,_,rfl,⟨rfl,al.ex⟩,al.at_ 10 (by show 10 < 16;decide),?_⟩)
  walk_at "ww"
  refine ZAi (ZA6 rfl ⟨⟨fun _ _ _ z=>(by cases z),fun _ _ z=>(by cases z)⟩,_,_,_,rfl,⟨rfl,al.ex⟩,al.at_ 11 (by show 11 < 16;decide),?_⟩)
  walk_at "ww"
  refine ZAi (ZA6 rfl ⟨⟨fun _ _ _ z=>(by cases z),fun _ _ z=>(by cases z)⟩,_,_,_,rfl,⟨rfl,al.ex⟩,al.at_ 12 (by show 12 < 16;decide),?_⟩)
  walk_at "ww"
  refine ZAi (ZA6 rfl ⟨⟨fun _ _ _ z=>(by cases z),fun _ _ z=>(by cases z)⟩,_,_,_,rfl,⟨rfl,al.ex⟩,al.at_ 13 (by show 13 < 16;decide),?_⟩)
  walk_at "ww"
  refine ZAi (ZA6 rfl ⟨⟨fun _ _ _ z=>(by cases z),fun _ _ z=>(by cases z)⟩,_,_,_,rfl,⟨rfl,al.ex⟩,al.at_ 14 (by show 14 < 16;decide),?_⟩)
  walk_at "ww"
  refine ZAi (ZA6 rfl ⟨⟨fun _ _ _ z=>(by cases z),fun _ _ z=>(by cases z)⟩,_,_,_,rfl,⟨rfl,al.ex⟩,al.at_ 15 (by show 15 < 16;decide),?_⟩)
  walk_at "ww"
  refine ⟨by simp,?_⟩
  refine ZAb (ZC5 (ZEq (ZCP (wt_b (ZAi (ZA6 rfl ⟨⟨fun _ _ _ z=>(by cases z),fun _ _ z=>(by cases z)⟩,_,_,_,rfl,⟨rfl,al.ex⟩,al.st,true,rfl,iteF ?_⟩))))))
  refine ZCP (wt_b (ZAi (ZA6 rfl ⟨⟨fun _ _ _ z=>(by cases z),fun _ _ z=>(by cases z)⟩,_,_,_,rfl,⟨rfl,al.ex⟩,al.ve,true,rfl,iteF (ZAD ?_)⟩)))
  refine ZAh (wp_and (wp_eq (ZIT (ZGO rfl ⟨rfl,[decide (0=i),decide (1=i),decide (2=i),decide (3=i),decide (4=i),decide (5=i),decide (6=i),decide (7=i),decide (8=i),decide (9=i),decide (10=i),decide (11=i),decide (12=i),decide (13=i),decide (14=i),decide (15=i)],rfl,wp_bl ⟨true,rfl,ZAO ?_⟩⟩))))
  have hi':i < 16:=hi
  refine ⟨rfl,_,rfl,ZDy (by rw [cnt16 hi'];rfl) (wp_ixL (ZGO rfl ⟨rfl,ZA6 rfl ⟨_,_,rfl,at16 hi',rfl⟩⟩))⟩
theorem ZF3:FnScope ["e", "place"] ["e", "place"] (ZA4 ZB6):=⟨rfl,rfl,rfl,by decide +kernel,rfl,by decide +kernel,by decide +kernel⟩
theorem ZCc {a_NoName:Addr} {a_NoWhere:Addr} {a_There:Addr} {a_TooMany:Addr}:∀ ss R,(ZED a_NoName a_There a_NoWhere a_TooMany) ss R→ss.length=2:=by rintro _ _ ⟨d,rfl,_,rfl⟩;rfl
theorem ZF0 {a_Endless:Addr} {a_Full:Addr} {a_Gone:Addr} {a_NoLog:Addr} {a_NoLoop:Addr} {a_NoName:Addr} {a_NoOrders:Addr} {a_NoPlace:Addr} {a_NoRow:Addr} {a_NoRule:Addr} {a_NoText:Addr} {a_NoTicket:Addr} {a_NoWhere:Addr} {a_Stale:Addr} {a_StirError:Addr} {a_There:Addr} {a_TooMany:Addr} (F:Fun K "_law_field" "_law_field" ZB6 f fd) (bd:Binds K fd ["e", "place"] []) (m:mg "_law_field" = some (.ref f)) (al0:ZBS K [a_NoName,a_There,a_Gone,a_NoPlace,a_NoRule,a_NoLog,a_Stale,a_NoWhere,a_NoText,a_Full,a_TooMany,a_NoLoop,a_NoTicket,a_Endless,a_NoOrders,a_NoRow] a_StirError a_NoName 0=true) (al1:ZBS K [a_NoName,a_There,a_Gone,a_NoPlace,a_NoRule,a_NoLog,a_Stale,a_NoWhere,a_NoText,a_Full,a_TooMany,a_NoLoop,a_NoTicket,a_Endless,a_NoOrders,a_NoRow] a_StirError a_There 1=true) (al7:ZBS K [a_NoName,a_There,a_Gone,a_NoPlace,a_NoRule,a_NoLog,a_Stale,a_NoWhere,a_NoText,a_Full,a_TooMany,a_NoLoop,a_NoTicket,a_Endless,a_NoOrders,a_NoRow] a_StirError a_NoWhere 7=true) (hd0:PySem.W.hasDictIn K a_NoName=true) (nn0:PySem.W.findIn K (.ref a_NoName) "name" = some none) (hd1:PySem.W.hasDictIn K a_There=true) (nn1:PySem.W.findIn K (.ref a_There) "name" = some none) (hd7:PySem.W.hasDictIn K a_NoWhere=true) (nn7:PySem.W.findIn K (.ref a_NoWhere) "where" = some none) :
    Has P w K mg base "_law_field" 1 ["e", "place"] (spF (ZED a_NoName a_There a_NoWhere a_TooMany)):=by
  refine Has.mk F bd m (F.okq (k:=0) ZF3 (fun vs H Q E h=>Fz.spF_len ZCc h) (fun cdv A outer s H vs Q E hr h=>?_))
  refine ⟨_,(ZA8 rfl (ZAX (ZAB ZBd (qv 1) ZA2 (ZAJ _)) (ZAA rfl (ZAP (ZI2 (qv 0)))) ZAG)
      (ZA8 rfl (ZAX (ZAB op_lt (qv 1) ZA2 (ZAJ _)) (ZAA rfl (ZAP (ZI2 (qv 0)))) ZAG)
      (ZAA rfl (ZAP ZAC)))),?_⟩
  refine Fz.fn_run h ZCc ?_
  rintro _ _ ⟨d,rfl,hd,rfl⟩
  have al0:=ZBm al0
  have al1:=ZBm al1
  have al7:=ZBm al7
  obtain ⟨d1,d2⟩:=d
  show Ws [_,_] _ _ _
  rcases hd with h | h | h | ⟨h,h2⟩
  · have h:d1=0:=h
    subst h
    walk_at "ww"
    refine ZCJ (by show ¬ ZBo (.int 0) (.int 7)=true;decide) (ZAD ?_)
    walk_at "ww"
    refine ZDy (by show decide ((0:Int) < 2)=true;decide) ?_
    exact ZAh (ZGP (ZA6 rfl ⟨a_NoName,_,rfl,al0.ex.toExGet,hd0,nn0,rfl⟩))
  · have h:d1=1:=h
    subst h
    walk_at "ww"
    refine ZCJ (by show ¬ ZBo (.int 1) (.int 7)=true;decide) (ZAD ?_)
    walk_at "ww"
    refine ZDy (by show decide ((1:Int) < 2)=true;decide) ?_
    exact ZAh (ZGP (ZA6 rfl ⟨a_There,_,rfl,al1.ex.toExGet,hd1,nn1,rfl⟩))
  · have h:d1=7:=h
    subst h
    walk_at "ww"
    refine ZDy (by show ZBo (.int 7) (.int 7)=true;decide) ?_
    exact ZAh (ZGP (ZA6 rfl ⟨a_NoWhere,_,rfl,al7.ex.toExGet,hd7,nn7,rfl⟩))
  · have h:d1=10:=h
    have h2:d2 = "" := h2
    subst h h2
    walk_at "ww"
    refine ZCJ (by show ¬ ZBo (.int 10) (.int 7)=true;decide) (ZAD ?_)
    walk_at "ww"
    refine ZCJ (by decide) (ZAD ?_)
    exact ZAh (ZDc rfl)
theorem sc_law:FnScope ["script", "kinds", "k", "due", "turn", "handed", "found"] ["script"] (ZA4 ZDB):=⟨rfl,rfl,rfl,by decide +kernel,rfl,by decide +kernel,by decide +kernel⟩
theorem ok_law {a_Endless:Addr} {a_Full:Addr} {a_Gone:Addr} {a_NoLog:Addr} {a_NoLoop:Addr} {a_NoName:Addr} {a_NoOrders:Addr} {a_NoPlace:Addr} {a_NoRow:Addr} {a_NoRule:Addr} {a_NoText:Addr} {a_NoTicket:Addr} {a_NoWhere:Addr} {a_Stale:Addr} {a_StirError:Addr} {a_There:Addr} {a_TooMany:Addr} (F:Fun K "law" "law" ZDB f fd) (bd:Binds K fd ["script"] []) (m:mg "law" = some (.ref f)) (h__law_alone:Has P w K mg base "_law_alone" 1 ["e", "place"] (spF (ZEU K [a_NoName,a_There,a_Gone,a_NoPlace,a_NoRule,a_NoLog,a_Stale,a_NoWhere,a_NoText,a_Full,a_TooMany,a_NoLoop,a_NoTicket,a_Endless,a_NoOrders,a_NoRow] a_StirError))) (h__law_due:Has P w K mg base "_law_due" 1 ["kinds"] (spF ZER)) (h__law_field:Has P w K mg base "_law_field" 1 ["e", "place"] (spF (ZED a_NoName a_There a_NoWhere a_TooMany))) (h__law_kinds:Has P w K mg base "_law_kinds" 4 ["pot"] (spF ZEp)) (h__law_pot:Has P w K mg base "_law_pot" 1 ["script", "k"] (ZH4 K)) (h__law_said:Has P w K mg base "_law_said" 8 ["kinds"] (spF (ZDT a_NoName a_There a_NoWhere a_TooMany))) (h__law_spoilt:Has P w K mg base "_law_spoilt" 3 ["pot", "kinds"] (spF ZCW)) (b_len:mg "len" = none) (b_list:mg "list" = none) (b_max:mg "max" = none) (b_min:mg "min" = none) (b_range:mg "range" = none) (al0:ZBS K [a_NoName,a_There,a_Gone,a_NoPlace,a_NoRule,a_NoLog,a_Stale,a_NoWhere,a_NoText,a_Full,a_TooMany,a_NoLoop,a_NoTicket,a_Endless,a_NoOrders,a_NoRow] a_StirError a_NoName 0=true) (al1:ZBS K [a_NoName,a_There,a_Gone,a_NoPlace,a_NoRule,a_NoLog,a_Stale,a_NoWhere,a_NoText,a_Full,a_TooMany,a_NoLoop,a_NoTicket,a_Endless,a_NoOrders,a_NoRow] a_StirError a_There 1=true) (al7:ZBS K [a_NoName,a_There,a_Gone,a_NoPlace,a_NoRule,a_NoLog,a_Stale,a_NoWhere,a_NoText,a_Full,a_TooMany,a_NoLoop,a_NoTicket,a_Endless,a_NoOrders,a_NoRow] a_StirError a_NoWhere 7=true) (al10:ZBS K [a_NoName,a_There,a_Gone,a_NoPlace,a_NoRule,a_NoLog,a_Stale,a_NoWhere,a_NoText,a_Full,a_TooMany,a_NoLoop,a_NoTicket,a_Endless,a_NoOrders,a_NoRow] a_StirError a_TooMany 10=true) :
    FnOk P w K mg base CX0 9 f fd ["script"] (ZH7 K):=by
  refine (F.okq (k:=8) sc_law (fun vs H Q E h=>by obtain ⟨a,ns,rfl,_⟩:=h;rfl) (fun cdv A outer s H vs Q E hr h=>?_))
  refine ⟨_,(ZA8 rfl (ZAE (i:=1) sc_law.nd rfl (Or.inl rfl) (ZAR h__law_kinds hr (by decide) (ZA0 (ZAR h__law_pot hr (by decide) (ZA0 (qv 0) (ZA0 ZA2 ZA1))) ZA1)))
      (ZA8 rfl (ZAp (ZBb PassesOwn.never rfl (ZIP rfl b_range (ZA0 ZA2 (ZA0 (ZA7 (ZFh rfl) (by rfl) b_max (by decide +kernel) (ZA0 ZA2 (ZA0 (ZA7 (ZFN rfl) (by rfl) b_min (by decide +kernel) (ZA0 (ZA7 ZAs (by rfl) b_len (by decide +kernel) (ZA0 (qv 0) ZA1)) (ZA0 ZA2 ZA1))) ZA1))) ZA1))) (ZAV (i:=2) sc_law.nd rfl (Or.inl rfl)) (ZAA rfl (ZAE (i:=1) sc_law.nd rfl (Or.inl rfl) (ZAR h__law_spoilt hr (by decide) (ZA0 (ZAR h__law_pot hr (by decide) (ZA0 (qv 0) (ZA0 (qv 2) ZA1))) (ZA0 (qv 1) ZA1)))))))
      (ZA8 rfl (ZAE (i:=3) sc_law.nd rfl (Or.inl rfl) (ZAR h__law_due hr (by decide) (ZA0 (qv 1) ZA1)))
      (ZA8 rfl (ZAp (ZBb PassesOwn.never rfl (ZCB rfl b_range (ZA0 ZA2 ZA1)) (ZAV (i:=4) sc_law.nd rfl (Or.inl rfl)) (ZA8 rfl (ZAE (i:=5) sc_law.nd rfl (Or.inl rfl) (ZDZ ZFt (by rfl) b_list (by decide +kernel) (ZA0 (qv 1) ZA1)))
      (ZA8 rfl (ZAE (i:=6) sc_law.nd rfl (Or.inl rfl) (ZAR h__law_said hr (by decide) (ZA0 (qv 5) ZA1)))
      (ZA8 rfl (ZAX (ZAB (Fz.op_neP hr.units) (qv 5) (qv 1) (ZAJ _)) (ZAA rfl (ZAP ZEn)) ZAG)
      (ZA8 rfl (ZAX (ZFq (ZAB op_isN (qv 3) ZEr (ZAJ _)) (ZE2 (ZAB ZI4 (qv 6) ZEr (ZAJ _)))).pt (ZAA rfl (ZAP ZEn)) ZAG)
      (ZAA rfl (ZAX (ZAB ZI4 (qv 3) ZEr (ZAJ _)) (ZAA rfl (ZAX (ZFR (ZCw (ZFv (ZAR h__law_alone hr (by decide) (ZA0 (qv 6) (ZA0 (ZAQ ZAY (qv 3) ZA2 (fun _ _=>rfl)) ZA1))))) (ZDS (ZAB op_ne (ZAR h__law_field hr (by decide) (ZA0 (qv 6) (ZA0 (ZAQ ZAY (qv 3) ZA2 (fun _ _=>rfl)) ZA1))) (ZAQ ZAY (qv 3) ZA2 (fun _ _=>rfl)) (ZAJ _)))).pt (ZAA rfl (ZAP ZEn)) ZAG)) ZAG))))))))
      (ZAA rfl (ZAP ZEn)))))),?_⟩
  refine Fz.law_run h ?_
  intro sc h63
  have al0:=ZBm al0
  have al1:=ZBm al1
  have al7:=ZBm al7
  have al10:=ZBm al10
  show Ws [_,.any,.any,.any,.any,.any,.any] _ _ _
  refine ZAb (ZD1 (ZFb rfl (ZAO ⟨_,rfl,by decide,by decide,ZB0 ⟨[],_,rfl,⟨rfl,rfl⟩,?_⟩⟩)))
  rintro _ ⟨ks,rfl,hK⟩
  refine ZAb (ZCV (ZBp (fun _ i ss'=>∃ (ks:List Kd) (s2 s3 s4 s5 s6:Slot),ss'=[.raw (ZB8 K sc),.is (.lst (ks.map Kd.P)),s2,s3,s4,s5,s6]∧KsOk i ks) ?_))
  walk_at "ww"
  obtain ⟨m,em,hm⟩:=maxminB (b:=2) (c:=5) (n:=sc.length) (by decide) (by decide) (by omega)
  rw [em]
  refine ⟨⟨by decide,by decide,by omega,by omega⟩,⟨ks,_,_,_,_,_,rfl,hK⟩,?_,?_⟩
  · rintro i p ss' hp ⟨ks,s2,s3,s4,s5,s6,rfl,hK⟩
    obtain ⟨hi,rfl⟩:=rng2_at hp
    refine ZCH ?_
    refine ZD1 (ZFb rfl (ZA6 rfl ⟨_,rfl,by omega,by omega,ZAw (ZA6 rfl (ZB0 ⟨[.lst (ks.map Kd.P)],_,rfl,⟨i,ks,rfl,by omega,hK,rfl⟩,?_⟩))⟩))
    rintro _ ⟨ks',rfl,hK'⟩
    exact ⟨ks',_,_,_,_,_,rfl,hK'⟩
  rw [ZCT]
  rintro ss' ⟨ks,s2,s3,s4,s5,s6,rfl,hK⟩
  have hK6:KsOk 6 ks:=⟨hK.1,fun k hk=>let o:=hK.2 k hk;⟨o.1,by have:=o.2.1;omega,o.2.2⟩⟩
  refine ZAb (ZD1 (ZBX (ZAw (ZA6 rfl (ZB0 ⟨_,⟨ks,rfl,hK6,rfl⟩,?_⟩)))))
  rintro _ rfl
  refine ZAb (ZCV (ZBp (fun _ i ss'=>∃ s4 s5 s6:Slot,ss'=[.raw (ZB8 K sc),.is (.lst (ks.map Kd.P)),s2,.is (dueV (ZC2 ks)),s4,s5,s6]) ?_))
  walk_at "ww"
  refine ⟨by decide,by decide,⟨_,_,_,rfl⟩,?_,?_⟩
  · rintro i p ss' hp ⟨s4,s5,s6,rfl⟩
    obtain ⟨hi,rfl⟩:=ZFp hp
    refine ZCH ?_
    refine ZAb (ZE8 (ZIL rfl (ZEW rfl ?_)))
    refine ZAb (ZD1 (ZBX (wa_sq (ZGO rfl (ZB0 ⟨_,⟨ks,rfl,hK6,rfl⟩,?_⟩)))))
    intro pf hf
    refine ZCh 5 rfl ?_
    show Ws [.raw (ZB8 K sc),.is (.lst (ks.map Kd.P)),s2,.is (dueV (ZC2 ks)),.is (.int i),.is (.lst (ks.map Kd.P)),.is pf] _ _ _
    walk_at "ww"
    refine ⟨ZFy ks,ZFy ks,_,rfl,ZCJ (by rw [eqP_refl 40 (ZFy (K:=K) ks)];decide) (ZAD ?_)⟩
    rcases hf with ⟨rfl,hd⟩ | ⟨d,hd,rfl⟩
    · rw [hd]
      show Ws [.raw (ZB8 K sc),.is (.lst (ks.map Kd.P)),s2,.is .non,.is (.int i),.is (.lst (ks.map Kd.P)),.is .non] _ _ _
      refine ZAb (ZC5 (ZHa (ZAu (ZI9 (ZA6 rfl (ZCx ⟨rfl,_,rfl,ZDy rfl (ZAu (ZEX (ZA6 rfl (ZCx ⟨rfl,_,rfl,ZCJ (by decide) (ZAD ?_)⟩))))⟩))))))
      exact ZC5 (ZAu (ZEX (ZA6 rfl (ZCx ⟨rfl,_,rfl,ZCJ (by decide) (ZAD ⟨_,_,_,rfl⟩)⟩))))
    · rw [hd]
      show Ws [.raw (ZB8 K sc),.is (.lst (ks.map Kd.P)),s2,.is (.tup [.int d.1,.str d.2]),.is (.int i),.is (.lst (ks.map Kd.P)),.is (.exc (exK a_NoName a_There a_NoWhere a_TooMany d).C (exK a_NoName a_There a_NoWhere a_TooMany d).ns (exK a_NoName a_There a_NoWhere a_TooMany d).xs)] _ _ _
      have hok:=dueK_ok hd
      clear hd
      obtain ⟨d1,d2⟩:=d
      refine ZAb (ZC5 (ZHa (ZAu (ZI9 (ZA6 rfl (ZCx ⟨rfl,_,rfl,ZCJ (by show ¬ false=true;decide) (ZCJ (by decide) (ZAD ?_))⟩))))))
      refine ZC5 (ZAu (ZEX (ZA6 rfl (ZCx ⟨rfl,_,rfl,ZDy rfl ?_⟩))))
      rcases hok with h | h | h | ⟨h,h2⟩
      · have h:d1=0:=h
        subst h
        refine ZC5 (ZEq (ZCP (wt_b (ZBX (ZAw (ZA6 rfl (ZAw (ZAW (ZAS rfl ⟨rfl,ZAO ⟨_,_,rfl,rfl,ZB0 ⟨_,⟨a_NoName,_,_,0,rfl,al0,by show 0 < 16;decide,rfl,rfl⟩,?_⟩⟩⟩)))))))))
        rintro _ rfl
        refine ⟨_,rfl,ZCJ (by decide) ?_⟩
        refine ZAu (ZGk (ZBX (ZAw (ZA6 rfl (ZAw (ZAW (ZAS rfl ⟨rfl,ZAO ⟨_,_,rfl,rfl,ZB0 ⟨_,⟨(0,d2),rfl,.inl rfl,rfl⟩,?_⟩⟩⟩)))))))
        rintro _ rfl
        refine ZAW (ZAS rfl ⟨rfl,ZAO ⟨_,_,rfl,rfl,?_⟩⟩)
        exact ⟨rfl,_,rfl,ZCJ (by simp [ZBo]) (ZAD ⟨_,_,_,rfl⟩)⟩
      · have h:d1=1:=h
        subst h
        refine ZC5 (ZEq (ZCP (wt_b (ZBX (ZAw (ZA6 rfl (ZAw (ZAW (ZAS rfl ⟨rfl,ZAO ⟨_,_,rfl,rfl,ZB0 ⟨_,⟨a_There,_,_,1,rfl,al1,by show 1 < 16;decide,rfl,rfl⟩,?_⟩⟩⟩)))))))))
        rintro _ rfl
        refine ⟨_,rfl,ZCJ (by decide) ?_⟩
        refine ZAu (ZGk (ZBX (ZAw (ZA6 rfl (ZAw (ZAW (ZAS rfl ⟨rfl,ZAO ⟨_,_,rfl,rfl,ZB0 ⟨_,⟨(1,d2),rfl,.inr (.inl rfl),rfl⟩,?_⟩⟩⟩)))))))
        rintro _ rfl
        refine ZAW (ZAS rfl ⟨rfl,ZAO ⟨_,_,rfl,rfl,?_⟩⟩)
        exact ⟨rfl,_,rfl,ZCJ (by simp [ZBo]) (ZAD ⟨_,_,_,rfl⟩)⟩
      · have h:d1=7:=h
        subst h
        refine ZC5 (ZEq (ZCP (wt_b (ZBX (ZAw (ZA6 rfl (ZAw (ZAW (ZAS rfl ⟨rfl,ZAO ⟨_,_,rfl,rfl,ZB0 ⟨_,⟨a_NoWhere,_,_,7,rfl,al7,by show 7 < 16;decide,rfl,rfl⟩,?_⟩⟩⟩)))))))))
        rintro _ rfl
        refine ⟨_,rfl,ZCJ (by decide) ?_⟩
        refine ZAu (ZGk (ZBX (ZAw (ZA6 rfl (ZAw (ZAW (ZAS rfl ⟨rfl,ZAO ⟨_,_,rfl,rfl,ZB0 ⟨_,⟨(7,d2),rfl,.inr (.inr (.inl rfl)),rfl⟩,?_⟩⟩⟩)))))))
        rintro _ rfl
        refine ZAW (ZAS rfl ⟨rfl,ZAO ⟨_,_,rfl,rfl,?_⟩⟩)
        exact ⟨rfl,_,rfl,ZCJ (by simp [ZBo]) (ZAD ⟨_,_,_,rfl⟩)⟩
      · have h:d1=10:=h
        have h2:d2 = "" := h2
        subst h h2
        refine ZC5 (ZEq (ZCP (wt_b (ZBX (ZAw (ZA6 rfl (ZAw (ZAW (ZAS rfl ⟨rfl,ZAO ⟨_,_,rfl,rfl,ZB0 ⟨_,⟨a_TooMany,_,_,10,rfl,al10,by show 10 < 16;decide,rfl,rfl⟩,?_⟩⟩⟩)))))))))
        rintro _ rfl
        refine ⟨_,rfl,ZCJ (by decide) ?_⟩
        refine ZAu (ZGk (ZBX (ZAw (ZA6 rfl (ZAw (ZAW (ZAS rfl ⟨rfl,ZAO ⟨_,_,rfl,rfl,ZB0 ⟨_,⟨(10,("" : Str)),rfl,.inr (.inr (.inr ⟨rfl,rfl⟩)),rfl⟩,?_⟩⟩⟩)))))))
        rintro _ rfl
        refine ZAW (ZAS rfl ⟨rfl,ZAO ⟨_,_,rfl,rfl,?_⟩⟩)
        exact ⟨rfl,_,rfl,ZCJ (by simp [ZBo]) (ZAD ⟨_,_,_,rfl⟩)⟩
  · rintro ss' ⟨s4,s5,s6,rfl⟩
    exact ZAh (wp_bl rfl)
theorem all_mk {l:PySem.W.OpenLaw} {w:World} {K:PySem.W.Frag} {h:Heap} {mg:Str→Option Value} {fa f1 f2 f3 f4 f5 f6 f7 f8 f9 f10 f11 f12 f13 f14 f15 f16 f17 f18:Addr} (X:K.In h) (G:h.Ns mainGlobals mg) (hfa:mg "law" = some (.ref fa))
    {od1 od2 od3 od4 od5 od6 od7 od8 od9 od10 od11 od12 od13 od14 od15 od16 od17 od18 an1 an2 an3 an4 an5 an6 an7 an8 an9 an10 an11 an12 an13 an14 an15 an16 an17 an18:Option Addr} {sl1 sl2 sl3 sl4 sl5 sl6 sl7 sl8 sl9 sl10 sl11 sl12 sl13 sl14 sl15 sl16 sl17 sl18:Array (Option Value)} {oc1 oc2 oc3 oc4 oc5 oc6 oc7 oc8 oc9 oc10 oc11 oc12 oc13 oc14 oc15 oc16 oc17 oc18 kV1 kV2 kV3 kV4 kV5 kV6 kV7 kV8 kV9 kV10 kV11 kV12 kV13 kV14 kV15 kV16 kV17 kV18 dc1 dc2 dc3 dc4 dc5 dc6 dc7 dc8 dc9 dc10 dc11 dc12 dc13 dc14 dc15 dc16 dc17 dc18 pm1 pm2 pm3 pm4 pm5 pm6 pm7 pm8 pm9 pm10 pm11 pm12 pm13 pm14 pm15 pm16 pm17 pm18 cd1 cd2 cd3 cd4 cd5 cd6 cd7 cd8 cd9 cd10 cd11 cd12 cd13 cd14 cd15 cd16 cd17 cd18 ct1 ct2 ct3 ct4 ct5 ct6 ct7 ct8 ct9 ct10 ct11 ct12 ct13 ct14 ct15 ct16 ct17 ct18:Value} {k_LETTERS:Tok} {k_MOST_KINDS:Tok} {k_MOST_LETTERS:Tok} {k_MOST_PUTS:Tok} {k_WHERES:Addr}
    {a_Errands:Addr} (e0_Errands:PySem.W.nsIn K mainGlobals "Errands" = some (some (.ref a_Errands)))
    (o1_Errands:PySem.W.plainGet K a_Errands Str.empty=true)
    (o2_Errands:PySem.W.hasDictIn K a_Errands=true)
    (o3_Errands:PySem.W.plainOver K a_Errands=true)
    (o4_Errands:PySem.W.findIn K (.ref a_Errands) "__setattr__" = some (some (.builtin "object.__setattr__")))
    (o5_Errands:PySem.W.makesIn K a_Errands=true)
    (o6_Errands:PySem.W.keepIn K (.ref a_Errands)=true)
    (na_Errands_goes_by_word:PySem.W.findIn K (.ref a_Errands) "goes_by_word" = some none)
    (na_Errands_puts_by_word:PySem.W.findIn K (.ref a_Errands) "puts_by_word" = some none)
    (a1:PySem.W.nsIn K mainGlobals "_law_take" = some (some (.ref f1))) (l1:K.lookup f1=some ⟨oc1,od1,.func (PySem.W.fnOf "_law_take" "_law_take" (ZAL ZBI) (ZAI ZBI) (ZA4 ZBI) .none kV1 dc1 pm1 an1 cd1 ct1),sl1⟩) (c1:PySem.W.codeIn K cd1 "_law_take" = true) (k1:PySem.W.keepIn K (.ref f1)=true)
    (a2:PySem.W.nsIn K mainGlobals "_law_letters" = some (some (.ref f2))) (l2:K.lookup f2=some ⟨oc2,od2,.func (PySem.W.fnOf "_law_letters" "_law_letters" (ZAL ZAr) (ZAI ZAr) (ZA4 ZAr) .none kV2 dc2 pm2 an2 cd2 ct2),sl2⟩) (c2:PySem.W.codeIn K cd2 "_law_letters" = true) (k2:PySem.W.keepIn K (.ref f2)=true)
    (a3:PySem.W.nsIn K mainGlobals "_law_name" = some (some (.ref f3))) (l3:K.lookup f3=some ⟨oc3,od3,.func (PySem.W.fnOf "_law_name" "_law_name" (ZAL ZBG) (ZAI ZBG) (ZA4 ZBG) .none kV3 dc3 pm3 an3 cd3 ct3),sl3⟩) (c3:PySem.W.codeIn K cd3 "_law_name" = true) (k3:PySem.W.keepIn K (.ref f3)=true)
    (a4:PySem.W.nsIn K mainGlobals "_law_names" = some (some (.ref f4))) (l4:K.lookup f4=some ⟨oc4,od4,.func (PySem.W.fnOf "_law_names" "_law_names" (ZAL ZB9) (ZAI ZB9) (ZA4 ZB9) .none kV4 dc4 pm4 an4 cd4 ct4),sl4⟩) (c4:PySem.W.codeIn K cd4 "_law_names" = true) (k4:PySem.W.keepIn K (.ref f4)=true)
    (a5:PySem.W.nsIn K mainGlobals "_law_kinds" = some (some (.ref f5))) (l5:K.lookup f5=some ⟨oc5,od5,.func (PySem.W.fnOf "_law_kinds" "_law_kinds" (ZAL ZBA) (ZAI ZBA) (ZA4 ZBA) .none kV5 dc5 pm5 an5 cd5 ct5),sl5⟩) (c5:PySem.W.codeIn K cd5 "_law_kinds" = true) (k5:PySem.W.keepIn K (.ref f5)=true)
    (a6:PySem.W.nsIn K mainGlobals "_law_due" = some (some (.ref f6))) (l6:K.lookup f6=some ⟨oc6,od6,.func (PySem.W.fnOf "_law_due" "_law_due" (ZAL ZBE) (ZAI ZBE) (ZA4 ZBE) .none kV6 dc6 pm6 an6 cd6 ct6),sl6⟩) (c6:PySem.W.codeIn K cd6 "_law_due" = true) (k6:PySem.W.keepIn K (.ref f6)=true)
    (a7:PySem.W.nsIn K mainGlobals "_law_pot" = some (some (.ref f7))) (l7:K.lookup f7=some ⟨oc7,od7,.func (PySem.W.fnOf "_law_pot" "_law_pot" (ZAL ZBW) (ZAI ZBW) (ZA4 ZBW) .none kV7 dc7 pm7 an7 cd7 ct7),sl7⟩) (c7:PySem.W.codeIn K cd7 "_law_pot" = true) (k7:PySem.W.keepIn K (.ref f7)=true)
    (a8:PySem.W.nsIn K mainGlobals "_law_more_puts" = some (some (.ref f8))) (l8:K.lookup f8=some ⟨oc8,od8,.func (PySem.W.fnOf "_law_more_puts" "_law_more_puts" (ZAL ZAf) (ZAI ZAf) (ZA4 ZAf) .none kV8 dc8 pm8 an8 cd8 ct8),sl8⟩) (c8:PySem.W.codeIn K cd8 "_law_more_puts" = true) (k8:PySem.W.keepIn K (.ref f8)=true)
    (a9:PySem.W.nsIn K mainGlobals "_law_spoilt" = some (some (.ref f9))) (l9:K.lookup f9=some ⟨oc9,od9,.func (PySem.W.fnOf "_law_spoilt" "_law_spoilt" (ZAL ZAl) (ZAI ZAl) (ZA4 ZAl) .none kV9 dc9 pm9 an9 cd9 ct9),sl9⟩) (c9:PySem.W.codeIn K cd9 "_law_spoilt" = true) (k9:PySem.W.keepIn K (.ref f9)=true)
    (a10:PySem.W.nsIn K mainGlobals "check_word" = some (some (.ref f10))) (l10:K.lookup f10=some ⟨oc10,od10,.func (PySem.W.fnOf "check_word" "check_word" (ZAL ZB7) (ZAI ZB7) (ZA4 ZB7) .none kV10 dc10 pm10 an10 cd10 ct10),sl10⟩) (c10:PySem.W.codeIn K cd10 "check_word" = true) (k10:PySem.W.keepIn K (.ref f10)=true)
    (a11:PySem.W.nsIn K mainGlobals "check_puts" = some (some (.ref f11))) (l11:K.lookup f11=some ⟨oc11,od11,.func (PySem.W.fnOf "check_puts" "check_puts" (ZAL ZB5) (ZAI ZB5) (ZA4 ZB5) .none kV11 dc11 pm11 an11 cd11 ct11),sl11⟩) (c11:PySem.W.codeIn K cd11 "check_puts" = true) (k11:PySem.W.keepIn K (.ref f11)=true)
    (a12:PySem.W.nsIn K mainGlobals "is_name" = some (some (.ref f12))) (l12:K.lookup f12=some ⟨oc12,od12,.func (PySem.W.fnOf "is_name" "is_name" (ZAL ZBP) (ZAI ZBP) (ZA4 ZBP) .none kV12 dc12 pm12 an12 cd12 ct12),sl12⟩) (c12:PySem.W.codeIn K cd12 "is_name" = true) (k12:PySem.W.keepIn K (.ref f12)=true)
    (a13:PySem.W.nsIn K mainGlobals "check_kinds" = some (some (.ref f13))) (l13:K.lookup f13=some ⟨oc13,od13,.func (PySem.W.fnOf "check_kinds" "check_kinds" (ZAL ZAn) (ZAI ZAn) (ZA4 ZAn) .none kV13 dc13 pm13 an13 cd13 ct13),sl13⟩) (c13:PySem.W.codeIn K cd13 "check_kinds" = true) (k13:PySem.W.keepIn K (.ref f13)=true)
    (a14:PySem.W.findIn K (.ref a_Errands) "__init__" = some (some (.ref f14))) (l14:K.lookup f14=some ⟨oc14,od14,.func (PySem.W.fnOf "__init__" "Errands.__init__" (ZAL ZAU) (ZAI ZAU) (ZA4 ZAU) .none kV14 dc14 pm14 an14 cd14 ct14),sl14⟩) (c14:PySem.W.codeIn K cd14 "Errands.__init__" = true) (k14:PySem.W.keepIn K (.ref f14)=true)
    (fn14:PySem.W.isFn K (.ref f14)=true)
    (a15:PySem.W.nsIn K mainGlobals "_law_said" = some (some (.ref f15))) (l15:K.lookup f15=some ⟨oc15,od15,.func (PySem.W.fnOf "_law_said" "_law_said" (ZAL ZBH) (ZAI ZBH) (ZA4 ZBH) .none kV15 dc15 pm15 an15 cd15 ct15),sl15⟩) (c15:PySem.W.codeIn K cd15 "_law_said" = true) (k15:PySem.W.keepIn K (.ref f15)=true)
    (a16:PySem.W.nsIn K mainGlobals "_law_alone" = some (some (.ref f16))) (l16:K.lookup f16=some ⟨oc16,od16,.func (PySem.W.fnOf "_law_alone" "_law_alone" (ZAL ZB4) (ZAI ZB4) (ZA4 ZB4) .none kV16 dc16 pm16 an16 cd16 ct16),sl16⟩) (c16:PySem.W.codeIn K cd16 "_law_alone" = true) (k16:PySem.W.keepIn K (.ref f16)=true)
    (a17:PySem.W.nsIn K mainGlobals "_law_field" = some (some (.ref f17))) (l17:K.lookup f17=some ⟨oc17,od17,.func (PySem.W.fnOf "_law_field" "_law_field" (ZAL ZB6) (ZAI ZB6) (ZA4 ZB6) .none kV17 dc17 pm17 an17 cd17 ct17),sl17⟩) (c17:PySem.W.codeIn K cd17 "_law_field" = true) (k17:PySem.W.keepIn K (.ref f17)=true)
    (a18:PySem.W.nsIn K mainGlobals "law" = some (some (.ref f18))) (l18:K.lookup f18=some ⟨oc18,od18,.func (PySem.W.fnOf "law" "law" (ZAL ZDB) (ZAI ZDB) (ZA4 ZDB) .none kV18 dc18 pm18 an18 cd18 ct18),sl18⟩) (c18:PySem.W.codeIn K cd18 "law" = true) (k18:PySem.W.keepIn K (.ref f18)=true)
    (z_ValueError:PySem.W.nsIn K mainGlobals "ValueError" = some none)
    (z_all:PySem.W.nsIn K mainGlobals "all" = some none)
    (z_enumerate:PySem.W.nsIn K mainGlobals "enumerate" = some none)
    (z_isinstance:PySem.W.nsIn K mainGlobals "isinstance" = some none)
    (z_len:PySem.W.nsIn K mainGlobals "len" = some none)
    (z_list:PySem.W.nsIn K mainGlobals "list" = some none)
    (z_max:PySem.W.nsIn K mainGlobals "max" = some none)
    (z_min:PySem.W.nsIn K mainGlobals "min" = some none)
    (z_range:PySem.W.nsIn K mainGlobals "range" = some none)
    (z_tuple:PySem.W.nsIn K mainGlobals "tuple" = some none)
    (e_LETTERS:PySem.W.nsIn K mainGlobals "LETTERS" = some (some (.str "abcdefghijklmnopqrstuvwxyz" k_LETTERS)))
    (e_MOST_KINDS:PySem.W.nsIn K mainGlobals "MOST_KINDS" = some (some (.int 8 k_MOST_KINDS)))
    (e_MOST_LETTERS:PySem.W.nsIn K mainGlobals "MOST_LETTERS" = some (some (.int 8 k_MOST_LETTERS)))
    (e_MOST_PUTS:PySem.W.nsIn K mainGlobals "MOST_PUTS" = some (some (.int 6 k_MOST_PUTS)))
    (e_WHERES:PySem.W.nsIn K mainGlobals "WHERES" = some (some (.ref k_WHERES)))
    {od_WHERES:Option Addr} {sl_WHERES:Array (Option Value)} {nn_WHERES:Nat} {q0_WHERES q1_WHERES q2_WHERES q3_WHERES:Tok} (y_WHERES:K.lookup k_WHERES=some ⟨.type "tuple", od_WHERES,.seq #[.str "next" q0_WHERES,.str "last" q1_WHERES,.str "back" q2_WHERES,.str "first" q3_WHERES] nn_WHERES,sl_WHERES⟩)
    {a_Endless:Addr} (e0_Endless:PySem.W.nsIn K mainGlobals "Endless" = some (some (.ref a_Endless)))
    {a_Full:Addr} (e0_Full:PySem.W.nsIn K mainGlobals "Full" = some (some (.ref a_Full)))
    {a_Gone:Addr} (e0_Gone:PySem.W.nsIn K mainGlobals "Gone" = some (some (.ref a_Gone)))
    {a_NoLog:Addr} (e0_NoLog:PySem.W.nsIn K mainGlobals "NoLog" = some (some (.ref a_NoLog)))
    {a_NoLoop:Addr} (e0_NoLoop:PySem.W.nsIn K mainGlobals "NoLoop" = some (some (.ref a_NoLoop)))
    {a_NoName:Addr} (e0_NoName:PySem.W.nsIn K mainGlobals "NoName" = some (some (.ref a_NoName)))
    {a_NoOrders:Addr} (e0_NoOrders:PySem.W.nsIn K mainGlobals "NoOrders" = some (some (.ref a_NoOrders)))
    {a_NoPlace:Addr} (e0_NoPlace:PySem.W.nsIn K mainGlobals "NoPlace" = some (some (.ref a_NoPlace)))
    {a_NoRow:Addr} (e0_NoRow:PySem.W.nsIn K mainGlobals "NoRow" = some (some (.ref a_NoRow)))
    {a_NoRule:Addr} (e0_NoRule:PySem.W.nsIn K mainGlobals "NoRule" = some (some (.ref a_NoRule)))
    {a_NoText:Addr} (e0_NoText:PySem.W.nsIn K mainGlobals "NoText" = some (some (.ref a_NoText)))
    {a_NoTicket:Addr} (e0_NoTicket:PySem.W.nsIn K mainGlobals "NoTicket" = some (some (.ref a_NoTicket)))
    {a_NoWhere:Addr} (e0_NoWhere:PySem.W.nsIn K mainGlobals "NoWhere" = some (some (.ref a_NoWhere)))
    {a_Stale:Addr} (e0_Stale:PySem.W.nsIn K mainGlobals "Stale" = some (some (.ref a_Stale)))
    {a_StirError:Addr} (e0_StirError:PySem.W.nsIn K mainGlobals "StirError" = some (some (.ref a_StirError)))
    {a_There:Addr} (e0_There:PySem.W.nsIn K mainGlobals "There" = some (some (.ref a_There)))
    {a_TooMany:Addr} (e0_TooMany:PySem.W.nsIn K mainGlobals "TooMany" = some (some (.ref a_TooMany)))
    (k0_s1:PySem.W.specialIn K (.ref a_StirError) "__getattribute__" = some (some (.builtin "type.__getattribute__")))
    (k0_s2:PySem.W.readsIn K a_StirError (.type "type")=true)
    (k0_s3:PySem.W.findCls K (.ref a_StirError) (.type "type") "__init__" = some (.val (.builtin "ValueError.__init__")))
    {g_NoName:Addr} {god_NoName gan_NoName:Option Addr} {gsl_NoName:Array (Option Value)} {goc_NoName gkV_NoName gdc_NoName gpm_NoName gcd_NoName gct_NoName:Value} (k1_NoName:PySem.W.findIn K (.ref a_NoName) "__init__" = some (some (.ref g_NoName))) (k2_NoName:K.lookup g_NoName=some ⟨goc_NoName,god_NoName,.func (PySem.W.fnOf "__init__" "NoName.__init__" (ZAL ZBT) (ZAI ZBT) (ZA4 ZBT) .none gkV_NoName gdc_NoName gpm_NoName gan_NoName gcd_NoName gct_NoName),gsl_NoName⟩) (k3_NoName:PySem.W.codeIn K gcd_NoName "NoName.__init__" = true) (k4_NoName:PySem.W.keepIn K (.ref g_NoName)=true)
    (k5_NoName:ZDx K a_NoName (some (.ref g_NoName))=true)
    (k6_NoName:PySem.W.findIn K (.ref a_NoName) "__setattr__" = some (some (.builtin "object.__setattr__")))
    (k7_NoName:ZDj K a_NoName=true)
    (k8_NoName:PySem.W.takerIn K a_NoName "name" = some none)
    (k9_NoName:PySem.W.hasDictIn K a_NoName=true)
    (kA_NoName:PySem.W.isFn K (.ref g_NoName)=true)
    (kB_NoName:PySem.W.keepIn K (.ref a_NoName)=true)
    {g_NoWhere:Addr} {god_NoWhere gan_NoWhere:Option Addr} {gsl_NoWhere:Array (Option Value)} {goc_NoWhere gkV_NoWhere gdc_NoWhere gpm_NoWhere gcd_NoWhere gct_NoWhere:Value} (k1_NoWhere:PySem.W.findIn K (.ref a_NoWhere) "__init__" = some (some (.ref g_NoWhere))) (k2_NoWhere:K.lookup g_NoWhere=some ⟨goc_NoWhere,god_NoWhere,.func (PySem.W.fnOf "__init__" "NoWhere.__init__" (ZAL ZBD) (ZAI ZBD) (ZA4 ZBD) .none gkV_NoWhere gdc_NoWhere gpm_NoWhere gan_NoWhere gcd_NoWhere gct_NoWhere),gsl_NoWhere⟩) (k3_NoWhere:PySem.W.codeIn K gcd_NoWhere "NoWhere.__init__" = true) (k4_NoWhere:PySem.W.keepIn K (.ref g_NoWhere)=true)
    (k5_NoWhere:ZDx K a_NoWhere (some (.ref g_NoWhere))=true)
    (k6_NoWhere:PySem.W.findIn K (.ref a_NoWhere) "__setattr__" = some (some (.builtin "object.__setattr__")))
    (k7_NoWhere:ZDj K a_NoWhere=true)
    (k8_NoWhere:PySem.W.takerIn K a_NoWhere "where" = some none)
    (k9_NoWhere:PySem.W.hasDictIn K a_NoWhere=true)
    (kA_NoWhere:PySem.W.isFn K (.ref g_NoWhere)=true)
    (kB_NoWhere:PySem.W.keepIn K (.ref a_NoWhere)=true)
    {g_There:Addr} {god_There gan_There:Option Addr} {gsl_There:Array (Option Value)} {goc_There gkV_There gdc_There gpm_There gcd_There gct_There:Value} (k1_There:PySem.W.findIn K (.ref a_There) "__init__" = some (some (.ref g_There))) (k2_There:K.lookup g_There=some ⟨goc_There,god_There,.func (PySem.W.fnOf "__init__" "There.__init__" (ZAL ZBj) (ZAI ZBj) (ZA4 ZBj) .none gkV_There gdc_There gpm_There gan_There gcd_There gct_There),gsl_There⟩) (k3_There:PySem.W.codeIn K gcd_There "There.__init__" = true) (k4_There:PySem.W.keepIn K (.ref g_There)=true)
    (k5_There:ZDx K a_There (some (.ref g_There))=true)
    (k6_There:PySem.W.findIn K (.ref a_There) "__setattr__" = some (some (.builtin "object.__setattr__")))
    (k7_There:ZDj K a_There=true)
    (k8_There:PySem.W.takerIn K a_There "name" = some none)
    (k9_There:PySem.W.hasDictIn K a_There=true)
    (kA_There:PySem.W.isFn K (.ref g_There)=true)
    (kB_There:PySem.W.keepIn K (.ref a_There)=true)
    (x_TooMany:ZDx K a_TooMany none=true)
    (xm0:PySem.W.exmOne K (.ref a_NoName) (.ref a_StirError)=some true)
    (xm1:PySem.W.exmOne K (.ref a_There) (.ref a_StirError)=some true)
    (xm7:PySem.W.exmOne K (.ref a_NoWhere) (.ref a_StirError)=some true)
    (xm10:PySem.W.exmOne K (.ref a_TooMany) (.ref a_StirError)=some true)
    (al0:ZBS K [a_NoName,a_There,a_Gone,a_NoPlace,a_NoRule,a_NoLog,a_Stale,a_NoWhere,a_NoText,a_Full,a_TooMany,a_NoLoop,a_NoTicket,a_Endless,a_NoOrders,a_NoRow] a_StirError a_NoName 0=true)
    (al1:ZBS K [a_NoName,a_There,a_Gone,a_NoPlace,a_NoRule,a_NoLog,a_Stale,a_NoWhere,a_NoText,a_Full,a_TooMany,a_NoLoop,a_NoTicket,a_Endless,a_NoOrders,a_NoRow] a_StirError a_There 1=true)
    (al7:ZBS K [a_NoName,a_There,a_Gone,a_NoPlace,a_NoRule,a_NoLog,a_Stale,a_NoWhere,a_NoText,a_Full,a_TooMany,a_NoLoop,a_NoTicket,a_Endless,a_NoOrders,a_NoRow] a_StirError a_NoWhere 7=true)
    (hd0:PySem.W.hasDictIn K a_NoName=true)
    (nn0:PySem.W.findIn K (.ref a_NoName) "name" = some none)
    (hd1:PySem.W.hasDictIn K a_There=true)
    (nn1:PySem.W.findIn K (.ref a_There) "name" = some none)
    (hd7:PySem.W.hasDictIn K a_NoWhere=true)
    (nn7:PySem.W.findIn K (.ref a_NoWhere) "where" = some none)
    (al10:ZBS K [a_NoName,a_There,a_Gone,a_NoPlace,a_NoRule,a_NoLog,a_Stale,a_NoWhere,a_NoText,a_Full,a_TooMany,a_NoLoop,a_NoTicket,a_Endless,a_NoOrders,a_NoRow] a_StirError a_TooMany 10=true)
    : ∃ fd:FuncData,(∀ (s:Shared) (v:Value),BindsTo s fd ⟨[v],[]⟩ [("script", v)])∧∀ base:Heap,K.In base→base.Ns mainGlobals mg→FnOk l.prog w K mg base CX0 9 fa fd ["script"] (ZH7 K):=by
  have e:=hfa.symm.trans (PySem.W.mg_of X G a18)
  cases e
  have F1:=ZAc (st:=ZBI) l1 c1 k1
  have d1:=F1.binds (ps:=["pot", "many"]) fun _ _ _ _ _ _ us hl=>match us,hl with | [_,_],_=>rfl
  have F2:=ZAc (st:=ZAr) l2 c2 k2
  have d2:=F2.binds (ps:=["number"]) fun _ _ _ _ _ _ us hl=>match us,hl with | [_],_=>rfl
  have F3:=ZAc (st:=ZBG) l3 c3 k3
  have d3:=F3.binds (ps:=["pot", "names"]) fun _ _ _ _ _ _ us hl=>match us,hl with | [_,_],_=>rfl
  have F4:=ZAc (st:=ZB9) l4 c4 k4
  have d4:=F4.binds (ps:=["pot", "many"]) fun _ _ _ _ _ _ us hl=>match us,hl with | [_,_],_=>rfl
  have F5:=ZAc (st:=ZBA) l5 c5 k5
  have d5:=F5.binds (ps:=["pot"]) fun _ _ _ _ _ _ us hl=>match us,hl with | [_],_=>rfl
  have F6:=ZAc (st:=ZBE) l6 c6 k6
  have d6:=F6.binds (ps:=["kinds"]) fun _ _ _ _ _ _ us hl=>match us,hl with | [_],_=>rfl
  have F7:=ZAc (st:=ZBW) l7 c7 k7
  have d7:=F7.binds (ps:=["script", "k"]) fun _ _ _ _ _ _ us hl=>match us,hl with | [_,_],_=>rfl
  have F8:=ZAc (st:=ZAf) l8 c8 k8
  have d8:=F8.binds (ps:=["pot", "word", "puts", "way"]) fun _ _ _ _ _ _ us hl=>match us,hl with | [_,_,_,_],_=>rfl
  have F9:=ZAc (st:=ZAl) l9 c9 k9
  have d9:=F9.binds (ps:=["pot", "kinds"]) fun _ _ _ _ _ _ us hl=>match us,hl with | [_,_],_=>rfl
  have F10:=ZAc (st:=ZB7) l10 c10 k10
  have d10:=F10.binds (ps:=["words", "word"]) fun _ _ _ _ _ _ us hl=>match us,hl with | [_,_],_=>rfl
  have F11:=ZAc (st:=ZB5) l11 c11 k11
  have d11:=F11.binds (ps:=["words", "puts"]) fun _ _ _ _ _ _ us hl=>match us,hl with | [_,_],_=>rfl
  have F12:=ZAc (st:=ZBP) l12 c12 k12
  have d12:=F12.binds (ps:=["text"]) fun _ _ _ _ _ _ us hl=>match us,hl with | [_],_=>rfl
  have F13:=ZAc (st:=ZAn) l13 c13 k13
  have d13:=F13.binds (ps:=["kinds"]) fun _ _ _ _ _ _ us hl=>match us,hl with | [_],_=>rfl
  have F14:=ZAc (st:=ZAU) l14 c14 k14
  have d14:=F14.binds (ps:=["self", "kinds"]) fun _ _ _ _ _ _ us hl=>match us,hl with | [_,_],_=>rfl
  have F15:=ZAc (st:=ZBH) l15 c15 k15
  have d15:=F15.binds (ps:=["kinds"]) fun _ _ _ _ _ _ us hl=>match us,hl with | [_],_=>rfl
  have F16:=ZAc (st:=ZB4) l16 c16 k16
  have d16:=F16.binds (ps:=["e", "place"]) fun _ _ _ _ _ _ us hl=>match us,hl with | [_,_],_=>rfl
  have F17:=ZAc (st:=ZB6) l17 c17 k17
  have d17:=F17.binds (ps:=["e", "place"]) fun _ _ _ _ _ _ us hl=>match us,hl with | [_,_],_=>rfl
  have F18:=ZAc (st:=ZDB) l18 c18 k18
  have d18:=F18.binds (ps:=["script"]) fun _ _ _ _ _ _ us hl=>match us,hl with | [_],_=>rfl
  have oc_Errands:Cls K a_Errands:=⟨o1_Errands,o2_Errands,o3_Errands,o4_Errands⟩
  have mt14:Mk K a_Errands f14:=⟨o5_Errands,a14,fn14,o6_Errands⟩
  have b_ValueError:=PySem.W.mg_none_of X G z_ValueError
  have b_all:=PySem.W.mg_none_of X G z_all
  have b_enumerate:=PySem.W.mg_none_of X G z_enumerate
  have b_isinstance:=PySem.W.mg_none_of X G z_isinstance
  have b_len:=PySem.W.mg_none_of X G z_len
  have b_list:=PySem.W.mg_none_of X G z_list
  have b_max:=PySem.W.mg_none_of X G z_max
  have b_min:=PySem.W.mg_none_of X G z_min
  have b_range:=PySem.W.mg_none_of X G z_range
  have b_tuple:=PySem.W.mg_none_of X G z_tuple
  have c_LETTERS:=PySem.W.mg_of X G e_LETTERS
  have c_MOST_KINDS:=PySem.W.mg_of X G e_MOST_KINDS
  have c_MOST_LETTERS:=PySem.W.mg_of X G e_MOST_LETTERS
  have c_MOST_PUTS:=PySem.W.mg_of X G e_MOST_PUTS
  have c_WHERES:=PySem.W.mg_of X G e_WHERES
  have t_WHERES:∀ H,SqT K H k_WHERES [.str "next", .str "last", .str "back", .str "first"]:=fun H=>.inr ⟨_,_,_,y_WHERES,rfl,rfl,(by show 4≤sizeLine;decide +kernel),(.cons ⟨_,rfl⟩ (.cons ⟨_,rfl⟩ (.cons ⟨_,rfl⟩ (.cons ⟨_,rfl⟩ .nil))))⟩
  have m_Endless:=PySem.W.mg_of X G e0_Endless
  have m_Errands:=PySem.W.mg_of X G e0_Errands
  have m_Full:=PySem.W.mg_of X G e0_Full
  have m_Gone:=PySem.W.mg_of X G e0_Gone
  have m_NoLog:=PySem.W.mg_of X G e0_NoLog
  have m_NoLoop:=PySem.W.mg_of X G e0_NoLoop
  have m_NoName:=PySem.W.mg_of X G e0_NoName
  have m_NoOrders:=PySem.W.mg_of X G e0_NoOrders
  have m_NoPlace:=PySem.W.mg_of X G e0_NoPlace
  have m_NoRow:=PySem.W.mg_of X G e0_NoRow
  have m_NoRule:=PySem.W.mg_of X G e0_NoRule
  have m_NoText:=PySem.W.mg_of X G e0_NoText
  have m_NoTicket:=PySem.W.mg_of X G e0_NoTicket
  have m_NoWhere:=PySem.W.mg_of X G e0_NoWhere
  have m_Stale:=PySem.W.mg_of X G e0_Stale
  have m_StirError:=PySem.W.mg_of X G e0_StirError
  have m_There:=PySem.W.mg_of X G e0_There
  have m_TooMany:=PySem.W.mg_of X G e0_TooMany
  refine ⟨PySem.W.fnOf "law" "law" (ZAL ZDB) (ZAI ZDB) (ZA4 ZDB) .none kV18 dc18 pm18 an18 cd18 ct18,fun s v=>.of_eq rfl,fun base _ _=>?_⟩
  have i_NoName:=ZHJ (P:=l.prog) (w:=w) (base:=base) (ZAc (st:=ZBT) k2_NoName k3_NoName k4_NoName) ((ZAc (st:=ZBT) k2_NoName k3_NoName k4_NoName).binds (ps:=["self", "name"]) fun _ _ _ _ _ _ us hl=>match us,hl with | [_,_],_=>rfl) ⟨k5_NoName,k6_NoName,k7_NoName,k8_NoName,k9_NoName,kA_NoName,kB_NoName⟩ ⟨k0_s1,k0_s2,k0_s3,rfl⟩ m_StirError
  have i_NoWhere:=ZGb (P:=l.prog) (w:=w) (base:=base) (ZAc (st:=ZBD) k2_NoWhere k3_NoWhere k4_NoWhere) ((ZAc (st:=ZBD) k2_NoWhere k3_NoWhere k4_NoWhere).binds (ps:=["self", "where"]) fun _ _ _ _ _ _ us hl=>match us,hl with | [_,_],_=>rfl) ⟨k5_NoWhere,k6_NoWhere,k7_NoWhere,k8_NoWhere,k9_NoWhere,kA_NoWhere,kB_NoWhere⟩ ⟨k0_s1,k0_s2,k0_s3,rfl⟩ m_StirError
  have i_There:=ZIR (P:=l.prog) (w:=w) (base:=base) (ZAc (st:=ZBj) k2_There k3_There k4_There) ((ZAc (st:=ZBj) k2_There k3_There k4_There).binds (ps:=["self", "name"]) fun _ _ _ _ _ _ us hl=>match us,hl with | [_,_],_=>rfl) ⟨k5_There,k6_There,k7_There,k8_There,k9_There,kA_There,kB_There⟩ ⟨k0_s1,k0_s2,k0_s3,rfl⟩ m_StirError
  have h__law_take:=ZG0 (P:=l.prog) (w:=w) (base:=base)  F1 d1 (PySem.W.mg_of X G a1)
  have h__law_letters:=ZDw (P:=l.prog) (w:=w) (base:=base)  F2 d2 (PySem.W.mg_of X G a2)
  have h__law_name:=ZGG (P:=l.prog) (w:=w) (base:=base)  F3 d3 (PySem.W.mg_of X G a3) h__law_letters h__law_take b_len
  have h__law_names:=ZF2 (P:=l.prog) (w:=w) (base:=base)  F4 d4 (PySem.W.mg_of X G a4) h__law_name b_range
  have h__law_kinds:=ZF4 (P:=l.prog) (w:=w) (base:=base)  F5 d5 (PySem.W.mg_of X G a5) h__law_names h__law_take b_max b_range b_tuple
  have h__law_due:=ZHD (P:=l.prog) (w:=w) (base:=base)  F6 d6 (PySem.W.mg_of X G a6) b_len
  have h__law_pot:=ZGc (P:=l.prog) (w:=w) (base:=base)  F7 d7 (PySem.W.mg_of X G a7) b_len
  have h__law_more_puts:=ZD6 (P:=l.prog) (w:=w) (base:=base)  F8 d8 (PySem.W.mg_of X G a8) h__law_take b_len b_min
  have h__law_spoilt:=ZEu (P:=l.prog) (w:=w) (base:=base)  F9 d9 (PySem.W.mg_of X G a9) h__law_more_puts h__law_take b_len b_range
  have h_check_word:=ZF5 (P:=l.prog) (w:=w) (base:=base) (a_NoName:=a_NoName) F10 d10 (PySem.W.mg_of X G a10) m_NoName i_NoName
  have h_check_puts:=ZF8 (P:=l.prog) (w:=w) (base:=base) (a_NoName:=a_NoName) (a_NoWhere:=a_NoWhere) (a_There:=a_There) (a_TooMany:=a_TooMany) F11 d11 (PySem.W.mg_of X G a11) h_check_word c_WHERES t_WHERES m_NoWhere i_NoWhere
  have h_is_name:=ZHc (P:=l.prog) (w:=w) (base:=base)  F12 d12 (PySem.W.mg_of X G a12) b_all b_len c_LETTERS c_MOST_LETTERS
  have h_check_kinds:=ZEb (P:=l.prog) (w:=w) (base:=base) (a_NoName:=a_NoName) (a_NoWhere:=a_NoWhere) (a_There:=a_There) (a_TooMany:=a_TooMany) F13 d13 (PySem.W.mg_of X G a13) h_check_puts h_is_name b_enumerate b_len c_MOST_KINDS c_MOST_PUTS m_NoName i_NoName m_There i_There m_TooMany x_TooMany
  have h_Errands___init__:=ZCp (P:=l.prog) (w:=w) (mg:=mg) (base:=base) (a_Errands:=a_Errands) (a_NoName:=a_NoName) (a_NoWhere:=a_NoWhere) (a_There:=a_There) (a_TooMany:=a_TooMany) F14 d14 mt14 h_check_kinds b_tuple oc_Errands na_Errands_goes_by_word na_Errands_puts_by_word
  have h__law_said:=ZFo (P:=l.prog) (w:=w) (base:=base) (a_Errands:=a_Errands) (a_NoName:=a_NoName) (a_NoWhere:=a_NoWhere) (a_StirError:=a_StirError) (a_There:=a_There) (a_TooMany:=a_TooMany) F15 d15 (PySem.W.mg_of X G a15) h_Errands___init__ m_Errands m_StirError xm0 xm1 xm7 xm10
  have h__law_alone:=ZF7 (P:=l.prog) (w:=w) (base:=base) (a_Endless:=a_Endless) (a_Full:=a_Full) (a_Gone:=a_Gone) (a_NoLog:=a_NoLog) (a_NoLoop:=a_NoLoop) (a_NoName:=a_NoName) (a_NoOrders:=a_NoOrders) (a_NoPlace:=a_NoPlace) (a_NoRow:=a_NoRow) (a_NoRule:=a_NoRule) (a_NoText:=a_NoText) (a_NoTicket:=a_NoTicket) (a_NoWhere:=a_NoWhere) (a_Stale:=a_Stale) (a_StirError:=a_StirError) (a_There:=a_There) (a_TooMany:=a_TooMany) F16 d16 (PySem.W.mg_of X G a16) b_ValueError b_isinstance m_Endless m_Full m_Gone m_NoLog m_NoLoop m_NoName m_NoOrders m_NoPlace m_NoRow m_NoRule m_NoText m_NoTicket m_NoWhere m_Stale m_StirError m_There m_TooMany
  have h__law_field:=ZF0 (P:=l.prog) (w:=w) (base:=base) (a_Endless:=a_Endless) (a_Full:=a_Full) (a_Gone:=a_Gone) (a_NoLog:=a_NoLog) (a_NoLoop:=a_NoLoop) (a_NoName:=a_NoName) (a_NoOrders:=a_NoOrders) (a_NoPlace:=a_NoPlace) (a_NoRow:=a_NoRow) (a_NoRule:=a_NoRule) (a_NoText:=a_NoText) (a_NoTicket:=a_NoTicket) (a_NoWhere:=a_NoWhere) (a_Stale:=a_Stale) (a_StirError:=a_StirError) (a_There:=a_There) (a_TooMany:=a_TooMany) F17 d17 (PySem.W.mg_of X G a17) al0 al1 al7 hd0 nn0 hd1 nn1 hd7 nn7
  exact ok_law (P:=l.prog) (w:=w) (base:=base) (a_Endless:=a_Endless) (a_Full:=a_Full) (a_Gone:=a_Gone) (a_NoLog:=a_NoLog) (a_NoLoop:=a_NoLoop) (a_NoName:=a_NoName) (a_NoOrders:=a_NoOrders) (a_NoPlace:=a_NoPlace) (a_NoRow:=a_NoRow) (a_NoRule:=a_NoRule) (a_NoText:=a_NoText) (a_NoTicket:=a_NoTicket) (a_NoWhere:=a_NoWhere) (a_Stale:=a_Stale) (a_StirError:=a_StirError) (a_There:=a_There) (a_TooMany:=a_TooMany) F18 d18 (PySem.W.mg_of X G a18) h__law_alone h__law_due h__law_field h__law_kinds h__law_pot h__law_said h__law_spoilt b_len b_list b_max b_min b_range al0 al1 al7 al10
theorem walk {l:PySem.W.OpenLaw} {q:Program} {loose:List Str} {XP:(Str→Option Value)→Heap→Prop} {YP:World→Heap→Prop} {d:DefRec} {K:Params→PySem.W.Frag} (hn:l.most=some 63) (hdf:d.params.defaults=[])
    (hY:∀ (w:World) (h:Heap),YP w h→(K w.params).In h)
    (F:∀ (w:World) (mg:Str→Option Value) (fa:Addr) (h:Heap),(K w.params).In h→h.Ns mainGlobals mg→mg d.name=some (.ref fa)→
      ∃ fd:FuncData,(∀ (s:Shared) (u:Value),BindsTo s fd ⟨[u],[]⟩ [("script", u)])∧∀ base:Heap,(K w.params).In base→base.Ns mainGlobals mg→FnOk l.prog w (K w.params) mg base CX0 9 fa fd ["script"] (ZH7 (K w.params))) :
    PySem.W.WalkO q loose XP YP l.row.toRowW d [] (fun f vs=>PySem.call f vs):=
  L2.walk_of (n:=63) (k:=9) (x := "script") (CX:=fun _=>CX0) (sp:=fun w=>ZH7 (K w.params)) hn (by decide) hdf ⟨rfl,by decide,by decide⟩ hY F (fun _ _ a ns hl _ hS=>⟨a,ns,rfl,hS,hl,fun _=>rfl⟩) fun _ _ _ _ _ z=>z
end Pf
open PySem PySem.W PyProof.Rows
set_option maxRecDepth 100000 in
set_option maxHeartbeats 0 in
theorem PySem.Challenge.cw_stirround_k72_errands_refused_holds : PySem.Challenge.rw_stirround_k72_errands_refused.Holds := by
  w_on;o_law;k_head;(case hw=>w_witness2)
  k_fill
  refine Pf.walk (l:=PySem.Challenge.rw_stirround_k72_errands_refused) rfl rfl (fun w h Y=>PySem.W.kIn_of Y) ?F
  case F=>
    intro w mg fa h KX G hmg
    refine' Pf.all_mk KX G hmg ?e0_Errands ?o1_Errands ?o2_Errands ?o3_Errands ?o4_Errands ?o5_Errands ?o6_Errands ?na_Errands_goes_by_word ?na_Errands_puts_by_word ?a1 ?l1 ?c1 ?k1 ?a2 ?l2 ?c2 ?k2 ?a3 ?l3 ?c3 ?k3 ?a4 ?l4 ?c4 ?k4 ?a5 ?l5 ?c5 ?k5 ?a6 ?l6 ?c6 ?k6 ?a7 ?l7 ?c7 ?k7 ?a8 ?l8 ?c8 ?k8 ?a9 ?l9 ?c9 ?k9 ?a10 ?l10 ?c10 ?k10 ?a11 ?l11 ?c11 ?k11 ?a12 ?l12 ?c12 ?k12 ?a13 ?l13 ?c13 ?k13 ?a14 ?l14 ?c14 ?k14 ?fn14 ?a15 ?l15 ?c15 ?k15 ?a16 ?l16 ?c16 ?k16 ?a17 ?l17 ?c17 ?k17 ?a18 ?l18 ?c18 ?k18 ?z_ValueError ?z_all ?z_enumerate ?z_isinstance ?z_len ?z_list ?z_max ?z_min ?z_range ?z_tuple ?e_LETTERS ?e_MOST_KINDS ?e_MOST_LETTERS ?e_MOST_PUTS ?e_WHERES ?y_WHERES ?e0_Endless ?e0_Full ?e0_Gone ?e0_NoLog ?e0_NoLoop ?e0_NoName ?e0_NoOrders ?e0_NoPlace ?e0_NoRow ?e0_NoRule ?e0_NoText ?e0_NoTicket ?e0_NoWhere ?e0_Stale ?e0_StirError ?e0_There ?e0_TooMany ?k0_s1 ?k0_s2 ?k0_s3 ?k1_NoName ?k2_NoName ?k3_NoName ?k4_NoName ?k5_NoName ?k6_NoName ?k7_NoName ?k8_NoName ?k9_NoName ?kA_NoName ?kB_NoName ?k1_NoWhere ?k2_NoWhere ?k3_NoWhere ?k4_NoWhere ?k5_NoWhere ?k6_NoWhere ?k7_NoWhere ?k8_NoWhere ?k9_NoWhere ?kA_NoWhere ?kB_NoWhere ?k1_There ?k2_There ?k3_There ?k4_There ?k5_There ?k6_There ?k7_There ?k8_There ?k9_There ?kA_There ?kB_There ?x_TooMany ?xm0 ?xm1 ?xm7 ?xm10 ?al0 ?al1 ?al7 ?hd0 ?nn0 ?hd1 ?nn1 ?hd7 ?nn7 ?al10
    (case e0_Errands=>k_is);(case o1_Errands=>kernel_rfl);(case o2_Errands=>kernel_rfl);(case o3_Errands=>kernel_rfl)
    (case o4_Errands=>k_is);(case o5_Errands=>kernel_rfl);(case o6_Errands=>k_is);(case na_Errands_goes_by_word=>k_is)
    (case na_Errands_puts_by_word=>k_is);(case a1=>k_is);(case l1=>k_is);(case c1=>k_is)
    (case k1=>k_is);(case a2=>k_is);(case l2=>k_is);(case c2=>k_is)
    (case k2=>k_is);(case a3=>k_is);(case l3=>k_is);(case c3=>k_is)
    (case k3=>k_is);(case a4=>k_is);(case l4=>k_is);(case c4=>k_is)
    (case k4=>k_is);(case a5=>k_is);(case l5=>k_is);(case c5=>k_is)
    (case k5=>k_is);(case a6=>k_is);(case l6=>k_is);(case c6=>k_is)
    (case k6=>k_is);(case a7=>k_is);(case l7=>k_is);(case c7=>k_is)
    (case k7=>k_is);(case a8=>k_is);(case l8=>k_is);(case c8=>k_is)
    (case k8=>k_is);(case a9=>k_is);(case l9=>k_is);(case c9=>k_is)
    (case k9=>k_is);(case a10=>k_is);(case l10=>k_is);(case c10=>k_is)
    (case k10=>k_is);(case a11=>k_is);(case l11=>k_is);(case c11=>k_is)
    (case k11=>k_is);(case a12=>k_is);(case l12=>k_is);(case c12=>k_is)
    (case k12=>k_is);(case a13=>k_is);(case l13=>k_is);(case c13=>k_is)
    (case k13=>k_is);(case a14=>k_is);(case l14=>k_is);(case c14=>k_is)
    (case k14=>k_is);(case fn14=>kernel_rfl);(case a15=>k_is);(case l15=>k_is)
    (case c15=>k_is);(case k15=>k_is);(case a16=>k_is);(case l16=>k_is)
    (case c16=>k_is);(case k16=>k_is);(case a17=>k_is);(case l17=>k_is)
    (case c17=>k_is);(case k17=>k_is);(case a18=>k_is);(case l18=>k_is)
    (case c18=>k_is);(case k18=>k_is);(case z_ValueError=>k_is);(case z_all=>k_is)
    (case z_enumerate=>k_is);(case z_isinstance=>k_is);(case z_len=>k_is);(case z_list=>k_is)
    (case z_max=>k_is);(case z_min=>k_is);(case z_range=>k_is);(case z_tuple=>k_is)
    (case e_LETTERS=>k_is);(case e_MOST_KINDS=>k_is);(case e_MOST_LETTERS=>k_is);(case e_MOST_PUTS=>k_is)
    (case e_WHERES=>k_is);(case y_WHERES=>k_is);(case e0_Endless=>k_is);(case e0_Full=>k_is)
    (case e0_Gone=>k_is);(case e0_NoLog=>k_is);(case e0_NoLoop=>k_is);(case e0_NoName=>k_is)
    (case e0_NoOrders=>k_is);(case e0_NoPlace=>k_is);(case e0_NoRow=>k_is);(case e0_NoRule=>k_is)
    (case e0_NoText=>k_is);(case e0_NoTicket=>k_is);(case e0_NoWhere=>k_is);(case e0_Stale=>k_is)
    (case e0_StirError=>k_is);(case e0_There=>k_is);(case e0_TooMany=>k_is);(case k0_s1=>k_is)
    (case k0_s2=>k_is);(case k0_s3=>k_is);(case k1_NoName=>k_is);(case k2_NoName=>k_is)
    (case k3_NoName=>k_is);(case k4_NoName=>k_is);(case k5_NoName=>kernel_rfl);(case k6_NoName=>k_is)
    (case k7_NoName=>kernel_rfl);(case k8_NoName=>k_is);(case k9_NoName=>k_is);(case kA_NoName=>k_is)
    (case kB_NoName=>k_is);(case k1_NoWhere=>k_is);(case k2_NoWhere=>k_is);(case k3_NoWhere=>k_is)
    (case k4_NoWhere=>k_is);(case k5_NoWhere=>kernel_rfl);(case k6_NoWhere=>k_is);(case k7_NoWhere=>kernel_rfl)
    (case k8_NoWhere=>k_is);(case k9_NoWhere=>k_is);(case kA_NoWhere=>k_is);(case kB_NoWhere=>k_is)
    (case k1_There=>k_is);(case k2_There=>k_is);(case k3_There=>k_is);(case k4_There=>k_is)
    (case k5_There=>kernel_rfl);(case k6_There=>k_is);(case k7_There=>kernel_rfl);(case k8_There=>k_is)
    (case k9_There=>k_is);(case kA_There=>k_is);(case kB_There=>k_is);(case x_TooMany=>kernel_rfl)
    (case xm0=>kernel_rfl);(case xm1=>kernel_rfl);(case xm7=>kernel_rfl);(case xm10=>kernel_rfl)
    (case al0=>kernel_rfl);(case al1=>kernel_rfl);(case al7=>kernel_rfl);(case hd0=>kernel_rfl)
    (case nn0=>kernel_rfl);(case hd1=>kernel_rfl);(case nn1=>kernel_rfl);(case hd7=>kernel_rfl)
    (case nn7=>kernel_rfl);(case al10=>kernel_rfl)
#print axioms PySem.Challenge.cw_stirround_k72_errands_refused_holds
