import PyProof.Rows.All
import Wide.All
import OpenK.AllK
import Wide.FinOn
import Lean
import PyProof.EqAt
import PyProof.EqKinds
import PyProof.TupleCall
import KE.KRevIter
import PyProof.CallType
import PyProof.EnumMake
import PyProof.EnumFor
import PyProof.Rows.SortStr
import PyProof.Draws
import PyProof.TupleIter
import PyProof.ZipIter
import PyProof.Rows.ZipGen
import PyProof.Rows.TupAdd
import KE.KLcPair
import PyProof.IsRules
import PyProof.ListRange
import PyProof.NeKinds
import KE.KTryMore
import OpenK.KOwn
import PyProof.ExcInit
import PyProof.FString
import PyProof.ReprStr
import PyProof.StrLawsRepr
import PyProof.CallStr
import OpenK.KCls
import PyProof.ExcArgsOwn
import PyProof.Rows.StrJoin2
import PySem.Challenge.RW_stirround_k17_whole_each_begun_thing_onc
def PySem.W.Fast.tw4413483862824355606:Nat:=0
def PySem.W.Fast.tw7200943206100508001:Nat:=0
def PySem.W.Fast.tw12836855241134506680:Nat:=0
def PySem.W.Fast.tw11370814552143310365:Nat:=0
def PySem.W.Fast.tw17869040398794266140:Nat:=0
def PySem.W.Fast.tw9661705785639521890:Nat:=0
def PySem.W.Fast.tw531887532776793970:Nat:=0
def PySem.W.Fast.tw3376867548933810912:Nat:=0
def PySem.W.Fast.tw552225954457877127:Nat:=0
def PySem.W.Fast.tw7478702615986458171:Nat:=0
def PySem.W.Fast.tw14384464007234605482:Nat:=0
def PySem.W.Fast.tw5861158002911116472:Nat:=0
def PySem.W.Fast.tw14746945016224997302:Nat:=0
def PySem.W.Fast.tw4277424449859199895:Nat:=0
def PySem.W.Fast.tw13299317257972357865:Nat:=0
def PySem.W.Fast.tw8465787739616983555:Nat:=0
def PySem.W.Fast.tw9083934562604253086:Nat:=0
def PySem.W.Fast.tw15592395525022774144:Nat:=0
def PySem.W.Fast.tw6049329358745277541:Nat:=0
def PySem.W.Fast.tw4620822413132901250:Nat:=0
def PySem.W.Fast.tw2484340181013574705:Nat:=0
def PySem.W.Fast.tw8059632343531665724:Nat:=0
def PySem.W.Fast.tw3095459389135450068:Nat:=0
def PySem.W.Fast.tw460986294222113310:Nat:=0
def PySem.W.Fast.tw9164544117451291347:Nat:=0
def PySem.W.Fast.tw3693756680008158431:Nat:=0
def PySem.W.Fast.tw11292542910694089922:Nat:=0
set_option Elab.async false
set_option linter.all false
set_option maxRecDepth 100000
namespace L2
open PySem PySem.Spec PyProof.Rows
abbrev Key:=Sum Int Str
def ZGR:Key→Value→Bool
  | .inl k,v=>Value.isInt k v
  | .inr x,v=>Value.isStrOf x v
def keyH (w:World):Key→Int
  | .inl k=>hashInt k
  | .inr x=>hashStr w x
theorem ZAh:∀ {k:Key} {v:Value},ZGR k v=true→(∃ i t,k=Sum.inl i∧v=Value.int i t)∨(∃ x t,k=Sum.inr x∧v=Value.str x t)
  | .inl i,v,h=>by
    obtain ⟨t,e⟩:=Value.isInt_shape (k:=i) (v:=v) h
    exact .inl ⟨i,t,rfl,e⟩
  | .inr x,v,h=>by
    obtain ⟨t,e⟩:=Value.isStrOf_shape (x:=x) (v:=v) h
    exact .inr ⟨x,t,rfl,e⟩
theorem ZKI (i:Int) (t:Tok):ZGR (.inl i) (.int i t)=true:=by simp [ZGR,Value.isInt]
theorem ZKf (x:Str) (t:Tok):ZGR (.inr x) (.str x t)=true:=by simp [ZGR,Value.isStrOf]
theorem key_ll (a b:Int):decide ((Sum.inl a:Key)=Sum.inl b)=(a == b):=by
  by_cases e:a=b
  · subst e;simp
  · have h:¬ (Sum.inl a:Key)=Sum.inl b:=fun q=>e (Sum.inl.inj q)
    rw [decide_eq_false h]
    exact (beq_eq_false_iff_ne.mpr e).symm
theorem key_rr (a b:Str):decide ((Sum.inr a:Key)=Sum.inr b)=decide (a=b):=by
  by_cases e:a=b
  · subst e;simp
  · have h:¬ (Sum.inr a:Key)=Sum.inr b:=fun q=>e (Sum.inr.inj q)
    rw [decide_eq_false h,decide_eq_false e]
theorem key_lr (a:Int) (b:Str):decide ((Sum.inl a:Key)=Sum.inr b)=false:=decide_eq_false (fun q=>nomatch q)
theorem key_rl (a:Str) (b:Int):decide ((Sum.inr a:Key)=Sum.inl b)=false:=decide_eq_false (fun q=>nomatch q)
def ZAx (prog:Program) (w:World):PySem.KeyKind prog w Key where
  is:=ZGR
  hash:=keyH w
  inj:=fun v a b ha hb=>by
    rcases ZAh ha with ⟨i,t,rfl,rfl⟩ | ⟨x,t,rfl,rfl⟩
    · rcases ZAh hb with ⟨j,u,rfl,e⟩ | ⟨y,u,rfl,e⟩
      · injection e with e1 _;rw [e1]
      · exact nomatch e
    · rcases ZAh hb with ⟨j,u,rfl,e⟩ | ⟨y,u,rfl,e⟩
      · exact nomatch e
      · injection e with e1 _;rw [e1]
  byValue:=fun k v h=>by
    rcases ZAh h with ⟨i,t,rfl,rfl⟩ | ⟨x,t,rfl,rfl⟩ <;> rfl
  pyHash:=fun hv h=>by
    rcases ZAh hv with ⟨i,t,rfl,rfl⟩ | ⟨x,t,rfl,rfl⟩
    · exact wpAny_pyHash_int h
    · exact wpAny_pyHash_str h
  eqBool:=fun hu hv h=>by
    rcases ZAh hu with ⟨i,t,rfl,rfl⟩ | ⟨x,t,rfl,rfl⟩
    · rcases ZAh hv with ⟨j,u,rfl,rfl⟩ | ⟨y,u,rfl,rfl⟩
      · rw [key_ll] at h;exact wpAny_eqBool_int h
      · rw [key_lr] at h;exact SeqAt.EqAt.int_str i t y u _ _ _ _ h
    · rcases ZAh hv with ⟨j,u,rfl,rfl⟩ | ⟨y,u,rfl,rfl⟩
      · rw [key_rl] at h;exact SeqAt.EqAt.str_int x t j u _ _ _ _ h
      · rw [key_rr] at h;exact wpAny_eqBool_str h
  «strs»:=fun k x t v h=>by
    rcases ZAh h with ⟨i,u,rfl,e⟩ | ⟨y,u,rfl,e⟩
    · exact nomatch e
    · injection e with e1 _
      subst e1
      cases v <;> rfl
theorem ZIO (prog:Program) (w:World) (i:Int) (t:Tok):(ZAx prog w).is (.inl i) (.int i t)=true:=ZKI i t
theorem ZHy (prog:Program) (w:World) (x:Str) (t:Tok):(ZAx prog w).is (.inr x) (.str x t)=true:=ZKf x t
end L2
namespace L2
open PySem PySem.Spec PyProof.Rows
inductive V where
  | non | bl (b:Bool) | int (i:Int) | str (x:Str) | byt (b:Array UInt8) | flt (b:UInt64) | ref (a:Addr) | ty (n:String)
  deriving DecidableEq
def RelV:V→Value→Prop
  | .non,u=>u=Value.none
  | .bl b,u=>u=Value.bool b
  | .int i,u=>∃ t,u=Value.int i t
  | .str x,u=>∃ t,u=Value.str x t
  | .byt b,u=>∃ t,u=Value.bytes b t
  | .flt b,u=>∃ t,u=Value.float b t
  | .ref a,u=>u=Value.ref a
  | .ty n,u=>u=Value.type n
abbrev Vals:List V→List Value→Prop:=Paired RelV
theorem Vals.length {xs:List V} {us:List Value} (r:Vals xs us):xs.length=us.length:=Paired.length r
theorem Vals.get:∀ {xs:List V} {us:List Value} {i:Nat} {x:V},Vals xs us→xs[i]?=some x→∃ u,us[i]?=some u∧RelV x u
  | _,_,_,_,.nil,e=>by simp at e
  | _,_,0,_,.cons r _,e=>by simp at e;subst e;exact ⟨_,rfl,r⟩
  | _,_,i+1,x,.cons _ t,e=>by
    obtain ⟨u,h1,h2⟩:=Vals.get (i:=i) (x:=x) t (by simpa using e)
    exact ⟨u,by simpa using h1,h2⟩
theorem Vals.set {x:V} {u:Value} (r:RelV x u):∀ {xs:List V} {us:List Value} (i:Nat),Vals xs us→Vals (xs.set i x) (us.set i u)
  | _,_,_,.nil=>.nil
  | _,_,0,.cons _ t=>.cons r t
  | _,_,i+1,.cons q t=>.cons q (Vals.set r i t)
theorem Vals.append:∀ {xs ys:List V} {us ws:List Value},Vals xs us→Vals ys ws→Vals (xs++ys) (us++ws)
  | _,_,_,_,.nil,s=>s
  | _,_,_,_,.cons r t,s=>.cons r (Vals.append t s)
theorem Vals.take:∀ {xs:List V} {us:List Value} (n:Nat),Vals xs us→Vals (xs.take n) (us.take n)
  | _,_,0,_=>.nil
  | _,_,_+1,.nil=>.nil
  | _,_,n+1,.cons r t=>.cons r (Vals.take n t)
theorem Vals.drop:∀ {xs:List V} {us:List Value} (n:Nat),Vals xs us→Vals (xs.drop n) (us.drop n)
  | _,_,0,r=>r
  | _,_,_+1,.nil=>.nil
  | _,_,n+1,.cons _ t=>Vals.drop n t
def RelO:Option V→Option Value→Prop
  | some v,some u=>RelV v u
  | none,none=>True
  | _,_=>False
def KV {κ:Type}:List (κ×V)→List (κ×Value)→Prop:=Paired fun (p:κ×V) (q:κ×Value)=>p.1=q.1∧RelV p.2 q.2
def kV:Key→V
  | .inl i=>.int i
  | .inr x=>.str x
inductive HO where
  /-- a list -/
  | lst (xs:List V)
  /-- a tuple (never changes) -/
  | tup (xs:List V)
  /-- a dict whose keys are ints and texts;one whose keys are tuples of ints and texts (the empty one is both) -/
  | dK (kvs:List (Key×V)) | dT (kvs:List (List Key×V))
  /-- a set of ints: its members,its size -/
  | set (S:Int→Bool) (n:Nat)
  /-- an instance of the class at C,its dict at dx,its attributes -/
  | ins (C dx:Addr) (fs:List (Str×V))
  /-- the dict of the instance at x -/
  | own (x:Addr)
  /-- the dict of an exception -/
  | xd (fs:List (Str×V))
  /-- a bound method,f of x -/
  | met (f x:Addr)
  /-- a range object lo,lo+1,.. below hi -/
  | rng (lo hi:Int)
  /-- a thing that is known to the object (the script;a dict while a loop walks it): read,never written while it is so -/
  | frz (o:Obj) (u:HO)
  /-- a code object's table -/
  | tbl (ps:Array Value)
  /-- any other thing,by what is true of its one object (a def of one's own: SetO a S n:=HO.ext fun h=>..) -/
  | ext (φ:Heap→Prop)
abbrev Hp:=Addr→Option HO
def upd (H:Hp) (a:Addr) (o:HO):Hp:=fun b=>if b=a then some o else H b
theorem ZA3 {H:Hp} {a:Addr} {o:HO}:upd H a o a=some o:=by unfold upd;rw [if_pos rfl]
theorem ZAE {H:Hp} {a b:Addr} {o:HO} (h:b≠a):upd H a o b=H b:=by unfold upd;rw [if_neg h]
theorem ne_of {H:Hp} {a b:Addr} {o u:HO} (h:H a=some o) (h':H b=some u) (d:o≠u):a≠b:=by
  intro e;subst e;rw [h] at h';exact d (Option.some.inj h')
theorem ZAT {H:Hp} {a b:Addr} {o:HO} (h:H a=some o) (h':H b=none):a≠b:=by
  intro e;subst e;rw [h] at h';cases h'
section
variable (P:Program) (w:World)
def ObjOk (H:Hp) (h:Heap) (a:Addr):HO→Prop
  | .lst xs=>xs.length≤sizeLine∧∃ (its:List Value) (n:Nat),Vals xs its∧h.get? a=some { cls:=.type "list", data:=.seq its.toArray n }
  | .tup xs=>xs.length≤sizeLine∧∃ its:List Value,Vals xs its∧(IsTup h a its.toArray∧∀ ob,h.get? a=some ob→ob.dict=none)
  | .dK kvs=>kvs.length≤sizeLine∧(a == sysModules)=false∧∃ vs,KV kvs vs∧h.DictOf (ZAx P w) a vs
  | .dT kvs=>kvs.length≤sizeLine∧(a == sysModules)=false∧∃ xs:List (List Key×Addr×Value),
      Paired (fun (p:List Key×V) (q:List Key×Addr×Value)=>p.1=q.1∧H q.2.1=some (.tup (p.1.map kV))∧RelV p.2 q.2.2) kvs xs∧
      ∃ o es ep,h.get? a=some o∧o.ExactDict∧o.data=.dict es ep∧es.toList=xs.map (entryOfKey (tupleKind (ZAx P w)))∧(xs.map (·.1)).Nodup
  | .set S n=>h.SetOf (intKind P w) a S n
  | .ins C dx fs=>H dx=some (.own a)∧fs.length≤1000∧dx≠a∧h.get? a=some (PySem.W.instObj C dx)∧
      ∃ mA,h.Ns1 dx mA∧(∀ f,RelO (fs.lookup f) (mA f))∧PySem.Within mA (fs.map (·.1))
  | .own _=>∃ o,h.get? a=some o
  | .xd fs=>∃ mA,h.Ns1 a mA∧∀ f,RelO (fs.lookup f) (mA f)
  | .rng lo hi=>∃ t u v,h.get? a=some { cls:=.type "range", data:=.fields #[.int lo t,.int hi u,.int 1 v] }
  | .frz o u=>h.get? a=some o∧ObjOk H h a u
  | .tbl ps=>h.get? a=some { cls:=.none,data:=.fields ps }
  | .met f x=>h.get? a=some (PySem.W.methodObj (.ref f) (.ref x))
  | .ext φ=>φ h∧(∃ o,h.get? a=some o)∧∀ h1 h2:Heap,φ h1→(∀ o,h1.get? a=some o→h2.get? a=some o)→φ h2
def HOk (H:Hp) (h:Heap):Prop:=∀ a o,H a=some o→ObjOk P w H h a o
end
section
variable {P:Program} {w:World} {H H':Hp} {h h':Heap} {a:Addr} {o:HO}
theorem ObjOk.lt (x:ObjOk P w H h a o):a < h.objs.size:=by
  cases o with
  | lst xs=>obtain ⟨_,_,_,_,e⟩:=x;exact Heap.lt_size e
  | tup xs=>obtain ⟨_,_,_,p⟩:=x;exact p.1.lt
  | dK kvs=>obtain ⟨_,_,_,_,o,_,_,e,_⟩:=x;exact Heap.lt_size e
  | dT kvs=>obtain ⟨_,_,_,_,o,_,_,e,_⟩:=x;exact Heap.lt_size e
  | set S n=>obtain ⟨o,_,_,_,e,_⟩:=x;exact Heap.lt_size e
  | ins C dx fs=>obtain ⟨_,_,_,e,_⟩:=x;exact Heap.lt_size e
  | own y=>obtain ⟨_,e⟩:=x;exact Heap.lt_size e
  | xd fs=>obtain ⟨_,⟨_,_,_,e,_⟩,_⟩:=x;exact Heap.lt_size e
  | rng lo hi=>obtain ⟨_,_,_,e⟩:=x;exact Heap.lt_size e
  | frz ob u=>obtain ⟨e,_⟩:=x;exact Heap.lt_size e
  | tbl ps=>exact Heap.lt_size (show h.get? a=some _ from x)
  | met f y=>exact Heap.lt_size (show h.get? a=some _ from x)
  | ext φ=>obtain ⟨_,⟨_,e⟩,_⟩:=x;exact Heap.lt_size e
theorem Paired.mapP {α β:Type} {F G:α→β→Prop}:∀ {l₁:List α} {l₂:List β},Paired F l₁ l₂→(∀ a b,F a b→G a b)→Paired G l₁ l₂
  | _,_,.nil,_=>.nil
  | _,_,.cons r t,f=>.cons (f _ _ r) (Paired.mapP t f)
theorem ObjOk.stay (x:ObjOk P w H h a o) (k:∀ b u,(b=a∨H b=some (.own a))→h.get? b=some u→h'.get? b=some u)
    (ho:∀ b,H b=some (.own a)→H' b=some (.own a)) (ht:∀ b xs,H b=some (.tup xs)→H' b=some (.tup xs)):ObjOk P w H' h' a o:=by
  induction o with
  | lst xs=>obtain ⟨z,its,n,r,e⟩:=x;exact ⟨z,its,n,r,k _ _ (.inl rfl) e⟩
  | tup xs=>obtain ⟨z,its,r,⟨ob,e,c⟩,dn⟩:=x;exact ⟨z,its,r,⟨ob,k _ _ (.inl rfl) e,c⟩,fun ob' e'=>by rw [k _ _ (.inl rfl) e] at e';cases e';exact dn _ e⟩
  | dK kvs=>obtain ⟨z,y,vs,r,ob,es,ep,e,c⟩:=x;exact ⟨z,y,vs,r,ob,es,ep,k _ _ (.inl rfl) e,c⟩
  | dT kvs=>
    obtain ⟨z,y,xs,r,ob,es,ep,e,c⟩:=x
    exact ⟨z,y,xs,Paired.mapP r fun p q z=>⟨z.1,ht _ _ z.2.1,z.2.2⟩,ob,es,ep,k _ _ (.inl rfl) e,c⟩
  | set S n=>obtain ⟨ob,es,ep,t,e,c⟩:=x;exact ⟨ob,es,ep,t,k _ _ (.inl rfl) e,c⟩
  | ins C dx fs=>
    obtain ⟨d,z,ne,e,mA,⟨od,es,ep,e2,c⟩,r⟩:=x
    exact ⟨ho _ d,z,ne,k _ _ (.inl rfl) e,mA,⟨od,es,ep,k _ _ (.inr d) e2,c⟩,r⟩
  | own y=>obtain ⟨ob,e⟩:=x;exact ⟨ob,k _ _ (.inl rfl) e⟩
  | xd fs=>obtain ⟨mA,⟨od,es,ep,e,c⟩,r⟩:=x;exact ⟨mA,⟨od,es,ep,k _ _ (.inl rfl) e,c⟩,r⟩
  | rng lo hi=>obtain ⟨t,u,v,e⟩:=x;exact ⟨t,u,v,k _ _ (.inl rfl) e⟩
  | frz ob u ih=>obtain ⟨e,q⟩:=x;exact ⟨k _ _ (.inl rfl) e,ih q⟩
  | tbl ps=>
    have e:h.get? a=some { cls:=.none,data:=.fields ps }:=x
    show h'.get? a=some { cls:=.none,data:=.fields ps }
    exact k a _ (.inl rfl) e
  | met f y=>
    have e:h.get? a=some (PySem.W.methodObj (.ref f) (.ref y)):=x
    show h'.get? a=some (PySem.W.methodObj (.ref f) (.ref y))
    exact k a _ (.inl rfl) e
  | ext φ=>obtain ⟨p,⟨o,e⟩,st⟩:=x;exact ⟨st _ _ p fun o q=>k _ _ (.inl rfl) q,⟨o,k _ _ (.inl rfl) e⟩,st⟩
theorem HOk.lt (x:HOk P w H h) (e:H a=some o):a < h.objs.size:=(x a o e).lt
theorem HOk.fresh (x:HOk P w H h) (e:h.objs.size≤a):H a=none:=by
  cases q:H a with
  | none=>rfl
  | some u=>exact absurd (Nat.lt_of_lt_of_le (x.lt q) e) (Nat.lt_irrefl _)
theorem HOk.kept (x:HOk P w H h) (k:∀ b u,h.get? b=some u→h'.get? b=some u):HOk P w H h':=fun a o e=>
  (x a o e).stay (fun b u _ q=>k b u q) (fun _ q=>q) fun _ _ q=>q
theorem HOk.laid (x:HOk P w H h) (k:∀ b u,h.get? b=some u→h'.get? b=some u) (hp:h.objs.size≤a) (new:ObjOk P w (upd H a o) h' a o):HOk P w (upd H a o) h':=fun b u e=>by
  have hn:=x.fresh hp
  by_cases hb:b=a
  · subst hb;rw [ZA3] at e;cases e;exact new
  · rw [ZAE hb] at e
    exact (x b u e).stay (fun c v _ q=>k c v q) (fun c q=>by rw [ZAE (ZAT q hn)];exact q) fun c xs q=>by rw [ZAE (ZAT q hn)];exact q
end
def Rd (H:Hp) (a:Addr) (u:HO):Prop:=H a=some u∨∃ o,H a=some (.frz o u)
theorem Rd.ok {P:Program} {w:World} {H:Hp} {h:Heap} {a:Addr} {u:HO} (r:Rd H a u) (x:HOk P w H h):ObjOk P w H h a u:=by
  rcases r with r | ⟨o,r⟩
  · exact x a u r
  · obtain ⟨_,q⟩:=x a _ r
    exact q
def Mut:Option HO→Prop
  | some (.lst _)=>True
  | some (.dK _)=>True
  | some (.dT _)=>True
  | some (.set _ _)=>True
  | some (.ins _ _ _)=>True
  | some (.ext _)=>True
  | _=>False
section
variable {P:Program} {w:World} {H:Hp} {h h':Heap} {x e:Addr} {o':HO}
theorem HOk.write (ok:HOk P w H h) (mu:Mut (H x)) (he:e=x∨H e=some (.own x)) (k:∀ b u,b≠e→h.get? b=some u→h'.get? b=some u) (heo:∃ u,h'.get? e=some u)
    (new:ObjOk P w (upd H x o') h' x o'):HOk P w (upd H x o') h':=fun b u q=>by
  have nown:∀ c y,H c=some (.own y)→c≠x:=fun c y r z=>by subst z;rw [r] at mu;exact mu
  have ntup:∀ c xs,H c=some (.tup xs)→c≠x:=fun c xs r z=>by subst z;rw [r] at mu;exact mu
  by_cases hb:b=x
  · subst hb;rw [ZA3] at q;cases q;exact new
  · rw [ZAE hb] at q
    by_cases hbe:b=e
    · have q':H b=some (.own x):=by
        rcases he with z | z
        · exact absurd (hbe.trans z) hb
        · rw [hbe];exact z
      rw [q] at q';cases q'
      obtain ⟨v,hv⟩:=heo
      exact ⟨v,by rw [hbe];exact hv⟩
    · refine (ok b u q).stay (fun c v hc r=>k c v ?_ r) (fun c r=>by rw [ZAE (nown c b r)];exact r) fun c xs r=>by rw [ZAE (ntup c xs r)];exact r
      rcases hc with rfl | hc
      · exact hbe
      · rintro rfl
        rcases he with z | z
        · exact nown c b hc z
        · rw [hc] at z;cases z;exact hb rfl
end
structure Un (fs ex:List Addr) (H H':Hp) (h h':Heap):Prop where
  keep:∀ b o,h.get? b=some o→H b=none→b∉fs→b∉ex→h'.get? b=some o
  slot:∀ b o,h.get? b=some o→H b=none→b∈fs→b∉ex→∃ sl,h'.get? b=some { o with slots:=sl }
  free:∀ b o,h.get? b=some o→H b=none→b∉ex→H' b=none
  there:∀ b o,h.get? b=some o→b∉ex→∃ o',h'.get? b=some o'
  tups:∀ b xs,H b=some (.tup xs)→H' b=some (.tup xs)
  frzs:∀ b o u,H b=some (.frz o u)→H' b=some (.frz o u)
  tbls:∀ b ps,H b=some (.tbl ps)→∃ more,H' b=some (.tbl (ps++more))
section
variable {fs fs' ex ex':List Addr} {H H1 H2:Hp} {h h1 h2 h':Heap} {a x e:Addr} {o:HO}
theorem Un.any (u:Un fs ex H H1 h h1) {b:Addr} {ob:Obj} (q:h.get? b=some ob) (n:H b=none) (hx:b∉ex):∃ sl,h1.get? b=some { ob with slots:=sl }:=by
  by_cases hb:b∈fs
  · exact u.slot b ob q n hb hx
  · exact ⟨ob.slots,u.keep b ob q n hb hx⟩
theorem Un.kept (k:∀ b u,h.get? b=some u→h'.get? b=some u):Un fs ex H H h h':=
  ⟨fun b ob q _ _ _=>k b ob q,fun b ob q _ _ _=>⟨ob.slots,k b ob q⟩,fun _ _ _ n _=>n,fun b ob q _=>⟨ob,k b ob q⟩,fun _ _ q=>q,fun _ _ _ q=>q,fun _ ps q=>⟨#[],by rw [q];simp⟩⟩
theorem Un.refl:Un fs ex H H h h:=Un.kept fun _ _ q=>q
theorem Un.laid (k:∀ b u,h.get? b=some u→h'.get? b=some u) (hp:h.objs.size≤a) (hn:H a=none):Un fs ex H (upd H a o) h h' where
  keep:=fun b u q _ _ _=>k b u q
  slot:=fun b u q _ _ _=>⟨u.slots,k b u q⟩
  free:=fun b u q n _=>by rw [ZAE (Nat.ne_of_lt (Nat.lt_of_lt_of_le (Heap.lt_size q) hp))];exact n
  there:=fun b u q _=>⟨u,k b u q⟩
  tups:=fun b xs q=>by rw [ZAE (ZAT q hn)];exact q
  frzs:=fun b u xs q=>by rw [ZAE (ZAT q hn)];exact q
  tbls:=fun b ps q=>⟨#[],by rw [ZAE (ZAT q hn),q];simp⟩
theorem Un.write (mu:Mut (H x)) (he:e=x∨H e=some (.own x)) (k:∀ b u,b≠e→h.get? b=some u→h'.get? b=some u) (heo:∃ u,h'.get? e=some u):Un fs ex H (upd H x o) h h':=by
  have hx:∀ b,H b=none→b≠x:=fun b n z=>by subst z;rw [n] at mu;exact mu
  have hb:∀ b,H b=none→b≠e:=fun b n z=>by
    subst z
    rcases he with r | r
    · exact hx b n r
    · rw [n] at r;cases r
  have hm:∀ b u,H b=some u→¬ Mut (some u)→b≠x:=fun b u q nm z=>by subst z;rw [q] at mu;exact nm mu
  refine ⟨fun b u q n _ _=>k b u (hb b n) q,fun b u q n _ _=>⟨u.slots,k b u (hb b n) q⟩,fun b u q n _=>by rw [ZAE (hx b n)];exact n,fun b u q _=>?_,
    fun b xs q=>by rw [ZAE (hm b _ q fun z=>z)];exact q,fun b u xs q=>by rw [ZAE (hm b _ q fun z=>z)];exact q,fun b ps q=>⟨#[],by rw [ZAE (hm b _ q fun z=>z),q];simp⟩⟩
  by_cases hbe:b=e
  · subst hbe;exact heo
  · exact ⟨u,k b u hbe q⟩
theorem Un.mono (u:Un fs ex H H1 h h1) (hs:∀ b∈fs,b∈fs') (hx:∀ b∈ex,b∈ex'):Un fs' ex' H H1 h h1:=
  ⟨fun b ob q n hb he=>u.keep b ob q n (fun z=>hb (hs b z)) fun z=>he (hx b z),fun _ _ q n _ he=>u.any q n fun z=>he (hx _ z),fun b ob q n he=>u.free b ob q n fun z=>he (hx b z),fun b ob q he=>u.there b ob q fun z=>he (hx b z),u.tups,u.frzs,u.tbls⟩
end
def trk (h:Heap) (H:Hp):List Addr:=(List.range h.objs.size).filter fun a=>(H a).isSome
def hidT (h:Heap) (H:Hp):Heap:=PySem.W.hideAll h (trk h H)
theorem ZKE (h:Heap) (H:Hp):(hidT h H).objs.size=h.objs.size:=PySem.W.hideAll_size _ _
theorem hidT_get {h:Heap} {H:Hp} {b:Addr} {o:Obj} (e:h.get? b=some o) (n:H b=none):(hidT h H).get? b=some o:=
  PySem.W.hideAll_get _ e fun hm=>by
    have q:(H b).isSome=true:=(List.mem_filter.mp hm).2
    rw [n] at q;simp at q
theorem of_hidT {h:Heap} {H:Hp} {b:Addr} {o:Obj} (e:(hidT h H).get? b=some o):h.get? b=some o∧H b=none:=by
  have e':h.get? b=some o:=PySem.W.of_hideAll (trk h H) e
  refine ⟨e',?_⟩
  cases q:H b with
  | none=>rfl
  | some x=>
    have hm:b∈trk h H:=List.mem_filter.mpr ⟨List.mem_range.mpr (Heap.lt_size e'),by simp [q]⟩
    have z:(hidT h H).get? b=none:=PySem.W.hideAll_none (trk h H) hm
    rw [z] at e;cases e
def allNews (g h:Heap) (L:Addr):List (Addr×Obj):=(List.range h.objs.size).filterMap fun a=>if a=L∨(g.get? a).isSome=true then none else (h.get? a).map fun o=>(a,o)
def rest (g h:Heap) (L d:Addr):List (Addr×Obj):=(allNews g h L).filter fun p=>decide (p.1≠d)
end L2
namespace L2
open PySem PySem.Spec PyProof.Rows
structure Mod (K:PySem.W.Frag) (mg:Str→Option Value) (base:Heap):Prop where
  kin:K.In base
  glob:base.Ns mainGlobals mg
  blt:∃ mb,base.Ns builtinsNs mb∧∀ x:Str,x ≠ "__name__" → mb x=bootBuiltins x
  nolimit:base.NoLimit
structure Cx where
  prog:Program
  w:World
  K:PySem.W.Frag
  mg:Str→Option Value
  base:Heap
  A:Around
  N:List Str
  s₀:Shared
  H₀:Hp
  env:Env
  outer:List Env
  stack:List Env
  ex:List Addr
  fn:Str→Bool
  calm:Bool
  pn:List (Addr×Obj)
  xe:Value→Shared→Prop
def frs (l:List Env):List Addr:=l.filterMap (·.frame)
abbrev Cx.fs (X:Cx):List Addr:=frs X.outer
def Vis (sc:Scope) (x:Str):Prop:=sc.names.lookup x=some .local∨sc.names.lookup x=some .cell∨sc.names.lookup x=some .free
def Loc (sc:Scope) (x:Str):Prop:=sc.names.lookup x=some .local∨sc.names.lookup x=some .cell
def Look (env:Env) (h:Heap) (m:Str→Option Value) (x:Str) (u:Value):Prop:=
  (env.kindOf x=some .local∧m x=some u)∨((env.kindOf x=some .cell∨env.kindOf x=some .free)∧∃ c,env.cells.lookup x=some c∧h.IsCell c (some u))
structure Cx.Ok (X:Cx):Prop where
  mod:Mod X.K X.mg X.base
  kind:X.env.scope.kind=.function
  glob:X.env.globals=mainGlobals
  blt:X.env.builtins=builtinsNs
  above:X.s₀.heap.objs.size≤X.env.locals
  inj:∀ x y c,X.env.cells.lookup x=some c→X.env.cells.lookup y=some c→x=y
  has:∀ x,(X.env.kindOf x=some .cell∨X.env.kindOf x=some .free)→∃ c,X.env.cells.lookup x=some c
  cab:∀ x c,X.fn x=true→X.env.cells.lookup x=some c→X.s₀.heap.objs.size≤c
  hd:X.calm=true→X.A.handled=none
  frames:X.A.frames=some X.stack
  stk:X.stack=X.outer∨(X.stack=X.env :: X.outer∧X.env.frame=some X.env.locals)
  exf:∀ b∈X.ex,b≠X.env.locals∧∀ x c,X.env.cells.lookup x=some c→c≠b
  bs:∀ b o,X.base.get? b=some o→X.s₀.heap.get? b=some o∧X.H₀ b=none
  bsz:X.base.objs.size≤X.s₀.heap.objs.size
  noex:∀ b o,X.base.get? b=some o→b∉X.ex
  exfs:∀ b∈X.ex,b∉X.fs
  funs:X.s₀.heap.FunFrames X.base X.outer
  frf:∀ b∈X.fs,X.H₀ b=none
structure Inv (X:Cx) (pins:List (Addr×Obj)) (σ:List (Option V)) (H:Hp) (s:Shared):Prop where
  ok:X.Ok
  os:s.os=X.s₀.os
  bare:AllBare s.gens
  base:Un X.fs X.ex X.H₀ H X.s₀.heap s.heap
  loc:∃ m,s.heap.Ns X.env.locals m∧∀ (i:Nat) (x:Str) (v:V),X.N[i]?=some x→σ[i]?=some (some v)→Vis X.env.scope x→∃ u,RelV v u∧Look X.env s.heap m x u
  cell:∀ x c,X.env.cells.lookup x=some c→∃ v,s.heap.IsCell c v
  free:H X.env.locals=none
  freeC:∀ x c,X.env.cells.lookup x=some c→H c=none
  pin:∀ p∈X.pn++pins,s.heap.get? p.1=some p.2∧H p.1=none∧p.1≠X.env.locals∧p.1∉X.fs∧∀ v,p.2.data≠.cell v
  hok:HOk X.prog X.w H s.heap
  len:σ.length=X.N.length
section
variable {X:Cx} {pins:List (Addr×Obj)} {σ:List (Option V)} {H H':Hp} {s:Shared} {h':Heap}
theorem Cx.Ok.nofr (ok:X.Ok) {b:Addr} {o:Obj} (e:X.base.get? b=some o):b∉X.fs:=fun hb=>by
  have:=(ok.funs.mem hb).1
  rw [e] at this;cases this
theorem Inv.bs (I:Inv X pins σ H s):∀ b o,X.base.get? b=some o→s.heap.get? b=some o∧H b=none:=fun b o e=>
  ⟨I.base.keep b o (I.ok.bs b o e).1 (I.ok.bs b o e).2 (I.ok.nofr e) (I.ok.noex b o e),I.base.free b o (I.ok.bs b o e).1 (I.ok.bs b o e).2 (I.ok.noex b o e)⟩
theorem Inv.bk (I:Inv X pins σ H s):∀ b o,X.base.get? b=some o→s.heap.get? b=some o:=fun b o e=>(I.bs b o e).1
theorem Inv.mod (I:Inv X pins σ H s):Mod X.K X.mg X.base:=I.ok.mod
theorem Inv.kIn (I:Inv X pins σ H s):X.K.In s.heap:=I.ok.mod.kin.keeps I.bk
theorem Inv.lt (I:Inv X pins σ H s):X.env.locals < s.heap.objs.size:=let ⟨_,hn,_⟩:=I.loc;hn.lt
theorem Inv.sz (I:Inv X pins σ H s):X.s₀.heap.objs.size≤s.heap.objs.size:=Nat.le_trans I.ok.above (Nat.le_of_lt I.lt)
theorem Inv.nofs (I:Inv X pins σ H s) {a:Addr} (h:s.heap.objs.size≤a):a∉X.fs:=fun hb=>by
  obtain ⟨_,o,ho,_⟩:=I.ok.funs.mem hb
  exact absurd (Nat.lt_of_lt_of_le (Heap.lt_size ho) (Nat.le_trans I.sz h)) (Nat.lt_irrefl _)
theorem Inv.cne (I:Inv X pins σ H s):∀ x c,X.env.cells.lookup x=some c→c≠X.env.locals:=fun x c e z=>by
  obtain ⟨v,o,ho,hd⟩:=I.cell x c e
  obtain ⟨m,⟨o',es,ep,ho',hd',_⟩,_⟩:=I.loc
  rw [z,ho'] at ho;cases ho;rw [hd'] at hd;cases hd
theorem Inv.funs (I:Inv X pins σ H s):s.heap.FunFrames X.base X.outer:=by
  have all:∀ (l:List Env),(∀ b∈frs l,b∈X.fs)→X.s₀.heap.FunFrames X.base l→s.heap.FunFrames X.base l:=by
    intro l
    induction l with
    | nil=>intro _ _;trivial
    | cons env r ih=>
      intro hs hl
      obtain ⟨hk,⟨L,o,hf,hn,ho,hd⟩,hr⟩:=hl
      have hL:L∈X.fs:=hs L (by unfold frs;rw [List.filterMap_cons,hf];exact List.mem_cons_self)
      obtain ⟨sl,e⟩:=I.base.slot L o ho (I.ok.frf L hL) hL fun z=>I.ok.exfs L z hL
      exact ⟨hk,⟨L,_,hf,hn,e,hd⟩,ih (fun b hb=>hs b (by unfold frs;rw [List.filterMap_cons,hf];exact List.mem_cons_of_mem _ hb)) hr⟩
  exact all X.outer (fun _ hb=>hb) I.ok.funs
theorem Inv.stack (I:Inv X pins σ H s):s.heap.FunFrames X.base X.stack:=by
  rcases I.ok.stk with e | ⟨e,hf⟩
  · rw [e];exact I.funs
  · rw [e]
    obtain ⟨m,hn,_⟩:=I.loc
    refine .cons (by rw [I.ok.kind];decide) hf hn ?_ I.funs
    exact Heap.get?_none_of_le (Nat.le_trans I.ok.bsz I.ok.above)
theorem Inv.stkSub (I:Inv X pins σ H s):∀ b∈frs X.stack,b∈X.env.locals :: X.fs:=fun b hb=>by
  rcases I.ok.stk with e | ⟨e,hf⟩
  · rw [e] at hb;exact List.mem_cons_of_mem _ hb
  · rw [e] at hb
    unfold frs at hb
    rw [List.filterMap_cons,hf] at hb
    exact hb
theorem Inv.stkFree (I:Inv X pins σ H s):∀ b∈frs X.stack,H b=none:=fun b hb=>by
  rcases List.mem_cons.mp (I.stkSub b hb) with e | hb
  · rw [e];exact I.free
  · obtain ⟨_,o,ho,_⟩:=I.ok.funs.mem hb
    exact I.base.free b o ho (I.ok.frf b hb) fun z=>I.ok.exfs b z hb
theorem Inv.step {g':Array GenState} {t':Nat} {d':Drawn} {ch:List Addr} (I:Inv X pins σ H s)
    (hch:∀ b∈ch,(b∈X.ex∨X.s₀.heap.objs.size≤b)∧b≠X.env.locals∧(∀ x c,X.env.cells.lookup x=some c→c≠b)∧∀ p∈X.pn++pins,p.1≠b)
    (keep:∀ b o,b≠X.env.locals→b∉X.fs→b∉ch→s.heap.get? b=some o→H b=none→h'.get? b=some o)
    (slot:∀ b o,b≠X.env.locals→b∈X.fs→b∉ch→s.heap.get? b=some o→H b=none→∃ sl,h'.get? b=some { o with slots:=sl }) (free:∀ b o,b∉ch→s.heap.get? b=some o→H b=none→H' b=none)
    (there:∀ b o,b∉ch→s.heap.get? b=some o→∃ o',h'.get? b=some o')
    (tups:∀ b xs,H b=some (.tup xs)→H' b=some (.tup xs)) (frzs:∀ b o u,H b=some (.frz o u)→H' b=some (.frz o u)) (tbls:∀ b ps,H b=some (.tbl ps)→∃ more,H' b=some (.tbl (ps++more)))
    (ns:∀ m,s.heap.Ns X.env.locals m→h'.Ns X.env.locals m) (hok:HOk X.prog X.w H' h') (hg:AllBare g') :
    Inv X pins σ H' { s with heap:=h',gens:=g',drawn:=d',toks:=t' }:=by
  have neL:∀ b o,X.s₀.heap.get? b=some o→b≠X.env.locals:=fun b o e=>Nat.ne_of_lt (Nat.lt_of_lt_of_le (Heap.lt_size e) I.ok.above)
  have neC:∀ b o,X.s₀.heap.get? b=some o→b∉X.ex→b∉ch:=fun b o e hx hb=>by
    rcases (hch b hb).1 with z | z
    · exact hx z
    · exact absurd (Nat.lt_of_lt_of_le (Heap.lt_size e) z) (Nat.lt_irrefl _)
  have cellK:∀ x c,X.env.cells.lookup x=some c→∀ v,s.heap.IsCell c v→h'.IsCell c v:=fun x c e v ⟨o,ho,hd⟩=>by
    have nch:c∉ch:=fun z=>(hch c z).2.2.1 x c e rfl
    by_cases hc:c∈X.fs
    · obtain ⟨sl,q⟩:=slot c o (I.cne x c e) hc nch ho (I.freeC x c e)
      exact ⟨_,q,hd⟩
    · exact ⟨o,keep c o (I.cne x c e) hc nch ho (I.freeC x c e),hd⟩
  refine ⟨I.ok,I.os,hg,⟨fun b o e n hb hx=>?_,fun b o e n hb hx=>?_,fun b o e n hx=>?_,fun b o e hx=>?_,fun b xs e=>tups b xs (I.base.tups b xs e),fun b o xs e=>frzs b o xs (I.base.frzs b o xs e),fun b ps e=>?_⟩,?_,fun x c e=>?_,?_,fun x c e=>?_,fun p hp=>?_,hok,I.len⟩
  · exact keep b o (neL b o e) hb (neC b o e hx) (I.base.keep b o e n hb hx) (I.base.free b o e n hx)
  · obtain ⟨sl,e1⟩:=I.base.slot b o e n hb hx
    obtain ⟨sl',e2⟩:=slot b _ (neL b o e) hb (neC b o e hx) e1 (I.base.free b o e n hx)
    exact ⟨sl',e2⟩
  · obtain ⟨o',e1⟩:=I.base.there b o e hx
    exact free b o' (neC b o e hx) e1 (I.base.free b o e n hx)
  · obtain ⟨o',e1⟩:=I.base.there b o e hx
    exact there b o' (neC b o e hx) e1
  · obtain ⟨m1,e1⟩:=I.base.tbls b ps e
    obtain ⟨m2,e2⟩:=tbls b _ e1
    exact ⟨m1++m2,by rw [e2,Array.append_assoc]⟩
  · obtain ⟨m,hn,hl⟩:=I.loc
    refine ⟨m,ns m hn,fun i x v e1 e2 e3=>?_⟩
    obtain ⟨u,r,l⟩:=hl i x v e1 e2 e3
    refine ⟨u,r,?_⟩
    rcases l with l | ⟨k,c,e,z⟩
    · exact .inl l
    · exact .inr ⟨k,c,e,cellK x c e _ z⟩
  · obtain ⟨v,z⟩:=I.cell x c e
    exact ⟨v,cellK x c e v z⟩
  · obtain ⟨m,⟨o,_,_,ho,_⟩,_⟩:=I.loc
    exact free _ o (fun z=>(hch _ z).2.1 rfl) ho I.free
  · obtain ⟨v,o,ho,hd⟩:=I.cell x c e
    exact free c o (fun z=>(hch c z).2.2.1 x c e rfl) ho (I.freeC x c e)
  · obtain ⟨e,n,ne,nf,d⟩:=I.pin p hp
    have nch:p.1∉ch:=fun z=>(hch p.1 z).2.2.2 p hp rfl
    exact ⟨keep p.1 p.2 ne nf nch e n,free p.1 p.2 nch e n,ne,nf,d⟩
theorem Inv.un {t':Nat} (I:Inv X pins σ H s) (u:Un X.fs [] H H' s.heap h') (hok:HOk X.prog X.w H' h'):Inv X pins σ H' { s with heap:=h',toks:=t' }:=by
  obtain ⟨m,⟨o,es,ep,ho,r⟩,_⟩:=id I.loc
  obtain ⟨sl,hL⟩:=u.any ho I.free (by simp)
  exact I.step (g':=s.gens) (d':=s.drawn) (ch:=[]) (fun _ z=>nomatch z) (fun b o _ hb _ e n=>u.keep b o e n hb (by simp)) (fun b o _ hb _ e n=>u.slot b o e n hb (by simp)) (fun b o _ e n=>u.free b o e n (by simp)) (fun b o _ e=>u.there b o e (by simp)) u.tups u.frzs u.tbls (fun m' hm=>by
    obtain ⟨o',es',ep',ho',r'⟩:=hm
    rw [ho] at ho';cases ho'
    exact ⟨_,es',ep',hL,r'⟩) hok I.bare
theorem Inv.call {g':Array GenState} {t':Nat} {d':Drawn} {ch:List Addr} (I:Inv X pins σ H s) (u:Un (frs X.stack) ch H H' s.heap h') (hok:HOk X.prog X.w H' h') (hg:AllBare g')
    (hch:∀ b∈ch,(b∈X.ex∨X.s₀.heap.objs.size≤b)∧b≠X.env.locals∧(∀ x c,X.env.cells.lookup x=some c→c≠b)∧∀ p∈X.pn++pins,p.1≠b) :
    Inv X pins σ H' { s with heap:=h',gens:=g',drawn:=d',toks:=t' }:=by
  obtain ⟨m,⟨o,es,ep,ho,r⟩,_⟩:=id I.loc
  obtain ⟨sl,hL⟩:=u.any ho I.free fun z=>(hch _ z).2.1 rfl
  exact I.step (ch:=ch) hch (fun b o hL hb hc e n=>u.keep b o e n (fun z=>(List.mem_cons.mp (I.stkSub b z)).elim hL hb) hc) (fun b o _ _ hc e n=>u.any e n hc) (fun b o hc e n=>u.free b o e n hc) (fun b o hc e=>u.there b o e hc) u.tups u.frzs u.tbls (fun m' hm=>by
    obtain ⟨o',es',ep',ho',r'⟩:=hm
    rw [ho] at ho';cases ho'
    exact ⟨_,es',ep',hL,r'⟩) hok hg
theorem Inv.turned {t':Nat} {it:Addr} (I:Inv X pins σ H s) (k:∀ b o,b≠it→s.heap.get? b=some o→h'.get? b=some o) (hn:H it=none) (hL:it≠X.env.locals)
    (h1:it∈X.ex∨X.s₀.heap.objs.size≤it) (h2:∀ x c,X.env.cells.lookup x=some c→c≠it) (h3:∀ p∈X.pn++pins,p.1≠it):Inv X pins σ H { s with heap:=h',toks:=t' }:=by
  have nit:∀ b u,H b=some u→b≠it:=fun b u e z=>by rw [z,hn] at e;cases e
  refine I.step (g':=s.gens) (d':=s.drawn) (ch:=[it]) (fun b hb=>?_) (fun b o _ _ hc e _=>k b o (fun z=>hc (by simp [z])) e) (fun b o _ _ hc e _=>⟨o.slots,k b o (fun z=>hc (by simp [z])) e⟩) (fun _ _ _ _ n=>n)
    (fun b o hc e=>⟨o,k b o (fun z=>hc (by simp [z])) e⟩) (fun _ _ e=>e) (fun _ _ _ e=>e) (fun b ps e=>⟨#[],by rw [e];simp⟩) (fun m hm=>?_) (fun b u e=>?_) I.bare
  · have e:b=it:=by simpa using hb
    subst e
    exact ⟨h1,hL,h2,h3⟩
  · obtain ⟨o,es,ep,ho,r⟩:=hm
    exact ⟨o,es,ep,k _ o (Ne.symm hL) ho,r⟩
  · refine (I.hok b u e).stay (fun c v hc q=>k c v ?_ q) (fun _ q=>q) fun _ _ q=>q
    rcases hc with z | z
    · rw [z];exact nit b u e
    · exact nit c _ z
theorem Inv.tok (I:Inv X pins σ H s) (t:Nat):Inv X pins σ H { s with toks:=t }:=I.un (h':=s.heap) (t':=t) Un.refl I.hok
theorem Inv.kept {t':Nat} (I:Inv X pins σ H s) (k:∀ b u,s.heap.get? b=some u→h'.get? b=some u):Inv X pins σ H { s with heap:=h',toks:=t' }:=I.un (Un.kept k) (I.hok.kept k)
theorem Inv.laid {a:Addr} {o:HO} {t':Nat} (I:Inv X pins σ H s) (k:∀ b u,s.heap.get? b=some u→h'.get? b=some u) (hp:s.heap.objs.size≤a) (new:ObjOk X.prog X.w (upd H a o) h' a o) :
    Inv X pins σ (upd H a o) { s with heap:=h',toks:=t' }:=I.un (Un.laid k hp (I.hok.fresh hp)) (I.hok.laid k hp new)
theorem Inv.write {x e:Addr} {o:HO} {t':Nat} (I:Inv X pins σ H s) (mu:Mut (H x)) (he:e=x∨H e=some (.own x)) (k:∀ b u,b≠e→s.heap.get? b=some u→h'.get? b=some u) (heo:∃ u,h'.get? e=some u)
    (new:ObjOk X.prog X.w (upd H x o) h' x o):Inv X pins σ (upd H x o) { s with heap:=h',toks:=t' }:=I.un (Un.write mu he k heo) (I.hok.write mu he k heo new)
theorem Inv.pins_of {pins':List (Addr×Obj)} (I:Inv X pins σ H s) (h:∀ p∈pins',s.heap.get? p.1=some p.2∧H p.1=none∧p.1≠X.env.locals∧p.1∉X.fs∧∀ v,p.2.data≠.cell v):Inv X pins' σ H s:=
  ⟨I.ok,I.os,I.bare,I.base,I.loc,I.cell,I.free,I.freeC,fun p hp=>(List.mem_append.mp hp).elim (fun z=>I.pin p (List.mem_append_left _ z)) (h p),I.hok,I.len⟩
theorem ZHk {N:List Str} (hN:N.Nodup) {i j:Nat} {x:Str} (a:N[i]?=some x) (b:N[j]?=some x):i=j:=by
  obtain ⟨h1,e1⟩:=List.getElem?_eq_some_iff.mp a
  obtain ⟨h2,e2⟩:=List.getElem?_eq_some_iff.mp b
  exact (List.getElem_inj hN).mp (e1.trans e2.symm)
theorem ZGd {M:Model} {A:Around} {E:Value→Shared→Prop} {i:Nat} {x:Str} {v:V} {u:Value} {Q:Unit→Shared→Prop} (I:Inv X pins σ H s) (hN:X.N.Nodup) (hi:X.N[i]?=some x) (hx:Loc X.env.scope x) (r:RelV v u)
    (h:∀ s',Inv X pins (σ.set i (some v)) H s'→(∃ a,Heap.SameBut a s.heap s'.heap∧(a=X.env.locals∨X.env.cells.lookup x=some a))→Q () s') (hf:X.fn x=true∨X.env.scope.names.lookup x=some .local:=by first | exact .inl rfl | exact .inr rfl | assumption):wpAny M A (storeName X.env x u) Q E s:=by
  obtain ⟨m,hn,hl⟩:=id I.loc
  have hcls:(X.env.scope.kind == .class || (X.env.scope.kind == .module && X.env.locals != X.env.globals))=false:=by rw [I.ok.kind];rfl
  have hiσ:i < σ.length:=by rw [I.len];exact (List.getElem?_eq_some_iff.mp hi).1
  have cne:=I.cne
  have tracked:∀ {a:Addr} {h':Heap},(∃ o,s.heap.get? a=some o∧H a=none)→Heap.SameBut a s.heap h'→HOk X.prog X.w H h':=fun {a h'} ha hs b ob e=>by
    obtain ⟨_,_,hfree⟩:=ha
    refine (I.hok b ob e).stay (fun c w' hc q=>(hs.2 c ?_).trans q) (fun _ q=>q) fun _ _ q=>q
    rintro rfl
    rcases hc with rfl | hc
    · rw [hfree] at e;cases e
    · rw [hfree] at hc;cases hc
  rcases hx with hk | hk
  · refine wpAny_storeName_local hk hn (fun h' hn' hs=>?_) hcls
    obtain ⟨oL,_,_,hoL,_⟩:=id hn
    refine h _ ⟨I.ok,I.os,I.bare,⟨fun b o e n hb hx=>?_,fun b o e n hb hx=>?_,I.base.free,fun b o e hx=>?_,I.base.tups,I.base.frzs,I.base.tbls⟩,⟨_,hn',fun j y v' e1 e2 e3=>?_⟩,fun y c e=>?_,I.free,I.freeC,fun p hp=>?_,tracked ⟨oL,hoL,I.free⟩ hs,by simpa using I.len⟩ ⟨_,hs,.inl rfl⟩
    · exact (hs.2 b (Nat.ne_of_lt (Nat.lt_of_lt_of_le (Heap.lt_size e) I.ok.above))).trans (I.base.keep b o e n hb hx)
    · obtain ⟨sl,e1⟩:=I.base.slot b o e n hb hx
      exact ⟨sl,(hs.2 b (Nat.ne_of_lt (Nat.lt_of_lt_of_le (Heap.lt_size e) I.ok.above))).trans e1⟩
    · obtain ⟨o',e1⟩:=I.base.there b o e hx
      exact ⟨o',(hs.2 b (Nat.ne_of_lt (Nat.lt_of_lt_of_le (Heap.lt_size e) I.ok.above))).trans e1⟩
    · by_cases hj:j=i
      · subst hj
        rw [hi] at e1;cases e1
        rw [List.getElem?_set_self hiσ] at e2
        cases e2
        exact ⟨u,r,.inl ⟨hk,by simp⟩⟩
      · rw [List.getElem?_set_ne (Ne.symm hj)] at e2
        obtain ⟨u',r',q⟩:=hl j y v' e1 e2 e3
        refine ⟨u',r',?_⟩
        rcases q with ⟨k,e⟩ | ⟨k,c,e,z⟩
        · refine .inl ⟨k,?_⟩
          have:y≠x:=fun e=>hj (ZHk hN e1 (e▸hi))
          simp [this,e]
        · exact .inr ⟨k,c,e,z.sameBut hs (cne y c e)⟩
    · obtain ⟨w',z⟩:=I.cell y c e
      exact ⟨w',z.sameBut hs (cne y c e)⟩
    · obtain ⟨e,n,ne,nf,d⟩:=I.pin p hp
      exact ⟨(hs.2 p.1 ne).trans e,n,ne,nf,d⟩
  · have hfn:X.fn x=true:=by
      rcases hf with z | z
      · exact z
      · rw [z] at hk;cases hk
    obtain ⟨c,hc⟩:=I.ok.has x (.inl hk)
    obtain ⟨w',z⟩:=I.cell x c hc
    refine wpAny_storeName_cell I.ok.kind hk hc z (fun h' hc' hs=>?_)
    obtain ⟨oc,hoc,hocd⟩:=id z
    refine h { s with heap:=h' } ⟨I.ok,I.os,I.bare,⟨fun b o e n hb hx=>?_,fun b o e n hb hx=>?_,I.base.free,fun b o e hx=>?_,I.base.tups,I.base.frzs,I.base.tbls⟩,⟨m,hn.sameBut hs (Ne.symm (cne x c hc)),fun j y v' e1 e2 e3=>?_⟩,fun y c' e=>?_,I.free,I.freeC,fun p hp=>?_,tracked ⟨oc,hoc,I.freeC x c hc⟩ hs,by simpa using I.len⟩ ⟨c,hs,.inr hc⟩
    · exact (hs.2 b (Nat.ne_of_lt (Nat.lt_of_lt_of_le (Heap.lt_size e) (I.ok.cab x c hfn hc)))).trans (I.base.keep b o e n hb hx)
    · obtain ⟨sl,e1⟩:=I.base.slot b o e n hb hx
      exact ⟨sl,(hs.2 b (Nat.ne_of_lt (Nat.lt_of_lt_of_le (Heap.lt_size e) (I.ok.cab x c hfn hc)))).trans e1⟩
    · obtain ⟨o',e1⟩:=I.base.there b o e hx
      exact ⟨o',(hs.2 b (Nat.ne_of_lt (Nat.lt_of_lt_of_le (Heap.lt_size e) (I.ok.cab x c hfn hc)))).trans e1⟩
    · by_cases hj:j=i
      · subst hj
        rw [hi] at e1;cases e1
        rw [List.getElem?_set_self hiσ] at e2
        cases e2
        exact ⟨u,r,.inr ⟨.inl hk,c,hc,hc'⟩⟩
      · rw [List.getElem?_set_ne (Ne.symm hj)] at e2
        obtain ⟨u',r',q⟩:=hl j y v' e1 e2 e3
        refine ⟨u',r',?_⟩
        rcases q with q | ⟨k,c',e,z'⟩
        · exact .inl q
        · refine .inr ⟨k,c',e,z'.sameBut hs ?_⟩
          rintro rfl
          exact hj (ZHk hN e1 (I.ok.inj _ _ _ e hc▸hi))
    · by_cases hcc:c'=c
      · subst hcc;exact ⟨_,hc'⟩
      · obtain ⟨w2,z2⟩:=I.cell y c' e
        exact ⟨w2,z2.sameBut hs hcc⟩
    · obtain ⟨e,n,ne,nf,d⟩:=I.pin p hp
      refine ⟨(hs.2 p.1 ?_).trans e,n,ne,nf,d⟩
      intro q
      rw [q,hoc] at e
      have q':oc=p.2:=Option.some.inj e
      exact d w' (by rw [← q'];exact hocd)
theorem ZHu {M:Model} {A:Around} {E:Value→Shared→Prop} {i:Nat} {x:Str} {v:V} {u:Value} {Q:Unit→Shared→Prop} (I:Inv X pins σ H s) (hN:X.N.Nodup) (hi:X.N[i]?=some x) (hx:Loc X.env.scope x) (r:RelV v u)
    (h:∀ s',Inv X pins (σ.set i (some v)) H s'→Q () s') (hf:X.fn x=true∨X.env.scope.names.lookup x=some .local:=by first | exact .inl rfl | exact .inr rfl | assumption):wpAny M A (storeName X.env x u) Q E s:=
  ZGd I hN hi hx r (fun s' I' _=>h s' I') hf
theorem Inv.call' {s':Shared} {ch:List Addr} (I:Inv X pins σ H s) (ho:s'.os=s.os) (u:Un (frs X.stack) ch H H' s.heap s'.heap) (hok:HOk X.prog X.w H' s'.heap) (hg:AllBare s'.gens)
    (hch:∀ b∈ch,(b∈X.ex∨X.s₀.heap.objs.size≤b)∧b≠X.env.locals∧(∀ x c,X.env.cells.lookup x=some c→c≠b)∧∀ p∈X.pn++pins,p.1≠b):Inv X pins σ H' s':=by
  obtain ⟨h',g',d',t',o'⟩:=s'
  have e:o'=s.os:=ho
  subst e
  exact I.call (g':=g') (t':=t') (d':=d') u hok hg hch
end
abbrev XK:=Value→Option Addr→Hp→Prop
abbrev St:=List (Option V)
abbrev VK:=V→Hp→Prop
abbrev TE:=St→Hp→VK→Prop
abbrev TT:=St→Hp→(Bool→Hp→Prop)→Prop
abbrev TA:=St→Hp→(List V→Hp→Prop)→Prop
structure Ends where
  nx:St→Hp→Prop
  rt:VK
  bk:St→Hp→Prop:=fun _ _=>False
  ct:St→Hp→Prop:=fun _ _=>False
abbrev TS:=Ends→St→Hp→Prop
def EP (X:Cx) (pins:List (Addr×Obj)) (σ:St) (Q:VK) (u:Value) (s':Shared):Prop:=∃ v H',Inv X pins σ H' s'∧RelV v u∧Q v H'
def TP (X:Cx) (pins:List (Addr×Obj)) (σ:St) (Q:Bool→Hp→Prop) (b:Bool) (s':Shared):Prop:=∃ H',Inv X pins σ H' s'∧Q b H'
def AP (X:Cx) (pins:List (Addr×Obj)) (σ:St) (Q:List V→Hp→Prop) (us:List Value) (s':Shared):Prop:=∃ vs H',Inv X pins σ H' s'∧Vals vs us∧Q vs H'
def SP (X:Cx) (pins:List (Addr×Obj)) (D:Ends) (f:Flow) (s':Shared):Prop:=
  match f with
  | .next=>∃ σ' H',Inv X pins σ' H' s'∧D.nx σ' H'
  | .brk=>∃ σ' H',Inv X pins σ' H' s'∧D.bk σ' H'
  | .cont=>∃ σ' H',Inv X pins σ' H' s'∧D.ct σ' H'
  | .ret u=>∃ v σ' H',Inv X pins σ' H' s'∧RelV v u∧D.rt v H'
def PE (X:Cx) (e:Expr) (t:TE):Prop:=
  ∀ (pins:List (Addr×Obj)) (s:Shared) (σ:St) (H:Hp) (Q:VK),Inv X pins σ H s→t σ H Q→wpAny (model X.prog X.w) X.A (eval e X.env) (EP X pins σ Q) X.xe s
def PT (X:Cx) (e:Expr) (t:TT):Prop:=
  ∀ (pins:List (Addr×Obj)) (s:Shared) (σ:St) (H:Hp) (Q:Bool→Hp→Prop),Inv X pins σ H s→t σ H Q→wpAny (model X.prog X.w) X.A (isTrue e X.env (eval e X.env)) (TP X pins σ Q) X.xe s
def PW (X:Cx) (e:Expr) (t:TT):Prop:=
  ∀ (whole:Sem Value) (pins:List (Addr×Obj)) (s:Shared) (σ:St) (H:Hp) (Q:Bool→Hp→Prop),Inv X pins σ H s→t σ H Q→wpAny (model X.prog X.w) X.A (isTrue e X.env whole) (TP X pins σ Q) X.xe s
theorem PW.pt {X:Cx} {e:Expr} {t:TT} (h:PW X e t):PT X e t:=h _
def PA (X:Cx) (es:List Expr) (t:TA):Prop:=
  ∀ (pos:Pos) (pins:List (Addr×Obj)) (s:Shared) (σ:St) (H:Hp) (Q:List V→Hp→Prop),Inv X pins σ H s→t σ H Q→wpAny (model X.prog X.w) X.A (spliced (backTo pos (starEach es X.env))) (AP X pins σ Q) X.xe s
def PS (X:Cx) (st:Stmt) (t:TS):Prop:=
  ∀ (pins:List (Addr×Obj)) (s:Shared) (σ:St) (H:Hp) (D:Ends),Inv X pins σ H s→t D σ H→wpAny (model X.prog X.w) X.A (exec st X.env) (SP X pins D) X.xe s
def PSs (X:Cx) (st:List Stmt) (t:TS):Prop:=
  ∀ (pins:List (Addr×Obj)) (s:Shared) (σ:St) (H:Hp) (D:Ends),Inv X pins σ H s→t D σ H→wpAny (model X.prog X.w) X.A (execs st X.env) (SP X pins D) X.xe s
theorem thn {α:Type} {t:Sem α} {Q Q':α→Shared→Prop} {M:Model} {A:Around} {E:Value→Shared→Prop} {s:Shared} (h:wpAny M A t Q E s) (hQ:∀ a s,Q a s→Q' a s):wpAny M A t Q' E s:=wpAny_mono h hQ fun _ _ x=>x
end L2
namespace L2
open PySem PySem.Spec PyProof.Rows
section
variable {X:Cx}
def ZBi (i:Nat):TE:=fun σ H Q=>∃ v,σ[i]?=some (some v)∧Q v H
def tC (v:V):TE:=fun _ H Q=>Q v H
theorem pe_var {i:Nat} {x:Str} {pos:Pos} (hN:X.N[i]?=some x) (hv:Vis X.env.scope x) (hd:(x == ("__debug__" : Str))=false:=by decide) (hcd:(x == ("__classdict__" : Str))=false:=by decide):PE X (.Name x pos) (ZBi i):=by
  intro pins s σ H Q I h
  obtain ⟨v,e,h⟩:=h
  obtain ⟨m,hn,hl⟩:=I.loc
  obtain ⟨u,r,l⟩:=hl i x v hN e hv
  have fin:EP X pins σ Q u s:=⟨v,H,I,r,h⟩
  rcases l with ⟨hk,hm⟩ | ⟨hk,c,hc,hcell⟩
  · exact wpAny_Name (wpAny_loadName_local I.ok.kind hk hn hm fin) hd
  · rcases hk with hk | hk
    · exact wpAny_Name (wpAny_loadName_cell I.ok.kind hk hc hcell fin) hd
    · exact wpAny_Name (wpAny_loadName_free I.ok.kind hk hc hcell fin hcd) hd
theorem pe_int {i j pos}:PE X (.Constant (.int i) j pos) (tC (.int i)):=fun _ _ _ H _ I h=>wpAny_Constant_int ⟨.int i,H,I.tok _,⟨_,rfl⟩,h⟩
theorem pe_bl {b j pos}:PE X (.Constant (.bool b) j pos) (tC (.bl b)):=fun _ _ _ H _ I h=>Constant_bool ⟨.bl b,H,I,rfl,h⟩
theorem pe_non {j pos}:PE X (.Constant .none j pos) (tC .non):=fun _ _ _ H _ I h=>Constant_none ⟨.non,H,I,rfl,h⟩
theorem pe_str {x j pos}:PE X (.Constant (.str x) j pos) (tC (.str x)):=fun _ _ _ H _ I h=>Calls.Constant_str ⟨.str x,H,I.tok _,⟨_,rfl⟩,h⟩
def Gl (X:Cx) (x:Str):Prop:=X.env.kindOf x=some .globalImplicit
theorem ZJv {E:Value→Shared→Prop} {pins:List (Addr×Obj)} {s:Shared} {σ:St} {H:Hp} {x:Str} {u:Value} {pos:Pos} {Q:Value→Shared→Prop} (I:Inv X pins σ H s) (hg:Gl X x) (hm:X.mg x=some u) (h:Q u s)
    (hd:(x == ("__debug__" : Str))=false:=by decide):wpAny (model X.prog X.w) X.A (eval (.Name x pos) X.env) Q E s:=
  Calls.Name_function_global I.ok.kind hg (Calls.loadGlobal_global (by rw [I.ok.glob];exact I.mod.glob.keeps I.bk) hm h) hd
theorem ZCk {E:Value→Shared→Prop} {pins:List (Addr×Obj)} {s:Shared} {σ:St} {H:Hp} {x:Str} {u:Value} {pos:Pos} {Q:Value→Shared→Prop} (I:Inv X pins σ H s) (hg:Gl X x) (hm:X.mg x=none) (hv:bootBuiltins x=some u) (h:Q u s)
    (hn:x ≠ "__name__" := by decide) (hd:(x == ("__debug__" : Str))=false:=by decide):wpAny (model X.prog X.w) X.A (eval (.Name x pos) X.env) Q E s:=by
  obtain ⟨mb,h1,h2⟩:=I.mod.blt
  exact Calls.Name_function_global I.ok.kind hg (Calls.loadGlobal_builtin (by rw [I.ok.glob];exact I.mod.glob.keeps I.bk) hm (by rw [I.ok.blt];exact h1.keeps I.bk) ((h2 x hn).trans hv) h) hd
theorem pe_glob {x:Str} {v:V} {u:Value} {pos:Pos} (hg:Gl X x) (hm:X.mg x=some u) (r:RelV v u) (hd:(x == ("__debug__" : Str))=false:=by decide):PE X (.Name x pos) (tC v):=
  fun _ _ _ H _ I h=>ZJv I hg hm ⟨v,H,I,r,h⟩ hd
variable {a b:Expr} {ta tb:TE} {pos:Pos}
def tB (t:TE):TT:=fun σ H Q=>t σ H fun x H1=>∃ c,x=.bl c∧Q c H1
theorem pt_val {e:Expr} {t:TE} (h:PE X e t) (he:∀ whole,isTrue e X.env whole=(do let v ← whole;standAt e.pos;holding [v] (truthy v)):=by intro _;rfl):PT X e (tB t):=by
  intro pins s σ H Q I hw
  refine isTrue_plain (thn (h pins s σ H _ I hw) fun v s1 ⟨x,H1,I1,r1,q1⟩=>?_) (he _)
  obtain ⟨d,rfl,q⟩:=q1
  cases r1
  exact wpAny_truthy_bool ⟨H1,I1,q⟩
variable {tA tB':TT} {rest:List Expr}
def tAnd (t u:TT):TT:=fun σ H Q=>t σ H fun c H1=>if c=true then u σ H1 Q else Q false H1
def tOr (t u:TT):TT:=fun σ H Q=>t σ H fun c H1=>if c=true then Q true H1 else u σ H1 Q
def tNot (t:TT):TT:=fun σ H Q=>t σ H fun c H1=>Q (!c) H1
theorem pw_and1 (ha:PT X a tA):PW X (.BoolOp .And [a] pos) tA:=by
  intro wh pins s σ H Q I h
  refine isTrue_and (thn (ha pins s σ H Q I h) fun c s1 e=>?_)
  cases c with
  | true=>exact isTrue_and_nil e
  | false=>exact e
theorem pw_or1 (ha:PT X a tA):PW X (.BoolOp .Or [a] pos) tA:=by
  intro wh pins s σ H Q I h
  refine isTrue_or (thn (ha pins s σ H Q I h) fun c s1 e=>?_)
  cases c with
  | false=>exact isTrue_or_nil e
  | true=>exact e
theorem pw_and (ha:PT X a tA) (hb:PW X (.BoolOp .And (b :: rest) pos) tB'):PW X (.BoolOp .And (a :: b :: rest) pos) (tAnd tA tB'):=by
  intro wh pins s σ H Q I h
  refine isTrue_and (thn (ha pins s σ H _ I h) fun c s1 ⟨H1,I1,q1⟩=>?_)
  cases c with
  | true=>exact hb wh pins s1 σ H1 Q I1 q1
  | false=>exact ⟨H1,I1,q1⟩
theorem pw_or (ha:PT X a tA) (hb:PW X (.BoolOp .Or (b :: rest) pos) tB'):PW X (.BoolOp .Or (a :: b :: rest) pos) (tOr tA tB'):=by
  intro wh pins s σ H Q I h
  refine isTrue_or (thn (ha pins s σ H _ I h) fun c s1 ⟨H1,I1,q1⟩=>?_)
  cases c with
  | true=>exact ⟨H1,I1,q1⟩
  | false=>exact hb wh pins s1 σ H1 Q I1 q1
theorem pt_not (ha:PT X a tA):PT X (.UnaryOp .Not a pos) (tNot tA):=by
  intro pins s σ H Q I h
  exact isTrue_not (ha pins s σ H (fun c H1=>Q (!c) H1) I h)
def tAndV (ta tb:TE):TE:=fun σ H Q=>ta σ H fun x H1=>∃ c,x=.bl c∧if c=true then tb σ H1 Q else Q (.bl false) H1
def tOrV (ta tb:TE):TE:=fun σ H Q=>ta σ H fun x H1=>∃ c,x=.bl c∧if c=true then Q (.bl true) H1 else tb σ H1 Q
def tNotV (ta:TE):TE:=fun σ H Q=>ta σ H fun x H1=>∃ c,x=.bl c∧Q (.bl (!c)) H1
theorem pe_one {op} {t:TE} (h:PE X a t):PE X (.BoolOp op [a] pos) t:=fun pins s σ H Q I hw=>BoolOp_one (h pins s σ H Q I hw)
theorem pe_and (ha:PE X a ta) (hb:PE X (.BoolOp .And (b :: rest) pos) tb):PE X (.BoolOp .And (a :: b :: rest) pos) (tAndV ta tb):=by
  intro pins s σ H Q I h
  refine BoolOp_and (thn (ha pins s σ H _ I h) fun v s1 ⟨x,H1,I1,r1,q1⟩=>?_)
  obtain ⟨c,rfl,q1⟩:=q1
  cases r1
  refine wpAny_truthy_bool ?_
  cases c with
  | true=>exact hb pins s1 σ H1 Q I1 q1
  | false=>exact ⟨.bl false,H1,I1,rfl,q1⟩
theorem pe_or (ha:PE X a ta) (hb:PE X (.BoolOp .Or (b :: rest) pos) tb):PE X (.BoolOp .Or (a :: b :: rest) pos) (tOrV ta tb):=by
  intro pins s σ H Q I h
  refine BoolOp_or (thn (ha pins s σ H _ I h) fun v s1 ⟨x,H1,I1,r1,q1⟩=>?_)
  obtain ⟨c,rfl,q1⟩:=q1
  cases r1
  refine wpAny_truthy_bool ?_
  cases c with
  | false=>exact hb pins s1 σ H1 Q I1 q1
  | true=>exact ⟨.bl true,H1,I1,rfl,q1⟩
end
end L2
namespace L2
open PySem PySem.Spec PyProof.Rows
def SqL (K:PySem.W.Frag) (H:Hp) (a:Addr) (xs:List V):Prop:=
  Rd H a (.lst xs)∨
    ∃ (o:Obj) (its:Array Value) (n:Nat),K.lookup a=some o∧o.cls=.type "list" ∧ o.dict=none∧o.data=.seq its n∧its.size≤sizeLine∧Vals xs its.toList
def SqT (K:PySem.W.Frag) (H:Hp) (a:Addr) (xs:List V):Prop:=
  Rd H a (.tup xs)∨
    ∃ (o:Obj) (its:Array Value) (n:Nat),K.lookup a=some o∧o.cls=.type "tuple" ∧ o.data=.seq its n∧its.size≤sizeLine∧Vals xs its.toList
def absV:Value→Option V
  | .none=>some .non
  | .bool b=>some (.bl b)
  | .int i _=>some (.int i)
  | .str x _=>some (.str x)
  | .bytes b _=>some (.byt b)
  | .float b _=>some (.flt b)
  | .ref a=>some (.ref a)
  | .type n=>some (.ty n)
  | _=>none
theorem RelV.abs {x:V} {u:Value} (r:RelV x u):absV u=some x:=by
  cases x with
  | non=>cases r;rfl
  | bl _=>cases r;rfl
  | int _=>obtain ⟨t,rfl⟩:=r;rfl
  | str _=>obtain ⟨t,rfl⟩:=r;rfl
  | byt _=>obtain ⟨t,rfl⟩:=r;rfl
  | flt _=>obtain ⟨t,rfl⟩:=r;rfl
  | ref _=>cases r;rfl
  | ty _=>cases r;rfl
theorem RelV.inj {x y:V} {u:Value} (r:RelV x u) (q:RelV y u):x=y:=Option.some.inj (r.abs.symm.trans q.abs)
theorem Vals.inj:∀ {xs ys:List V} {us:List Value},Vals xs us→Vals ys us→xs=ys
  | _,_,_,.nil,.nil=>rfl
  | _,_,_,.cons r t,.cons r' t'=>by rw [r.inj r',Vals.inj t t']
section
variable {X:Cx} {pins:List (Addr×Obj)} {σ:St} {H:Hp} {s:Shared} {a:Addr} {xs ys:List V}
theorem SqL.of {K:PySem.W.Frag} (h:H a=some (.lst xs)):SqL K H a xs:=.inl (.inl h)
theorem SqT.of {K:PySem.W.Frag} (h:H a=some (.tup xs)):SqT K H a xs:=.inl (.inl h)
theorem Inv.list (I:Inv X pins σ H s) (h:SqL X.K H a xs):∃ its:List Value,Vals xs its∧PlainL s.heap a its.toArray∧xs.length≤sizeLine:=by
  rcases h with h | ⟨o,its,n,hk,hc,hd,hs,hz,r⟩
  · obtain ⟨z,its,n,r,e⟩:=h.ok I.hok
    exact ⟨its,r,⟨_,n,e,rfl,rfl,rfl⟩,z⟩
  · refine ⟨its.toList,r,⟨o,n,I.kIn a o hk,hc,hd,by simpa using hs⟩,?_⟩
    have e:=r.length
    simp only [Array.length_toList] at e
    omega
theorem Inv.tuple (I:Inv X pins σ H s) (h:SqT X.K H a xs):∃ its:List Value,Vals xs its∧IsTup s.heap a its.toArray∧xs.length≤sizeLine:=by
  rcases h with h | ⟨o,its,n,hk,hc,hs,hz,r⟩
  · obtain ⟨z,its,r,p⟩:=h.ok I.hok
    exact ⟨its,r,p.1,z⟩
  · refine ⟨its.toList,r,⟨o,I.kIn a o hk,hc,n,by simpa using hs⟩,?_⟩
    have e:=r.length
    simp only [Array.length_toList] at e
    omega
theorem Inv.list_inj (I:Inv X pins σ H s) (h:SqL X.K H a xs) (h':SqL X.K H a ys):xs=ys:=by
  obtain ⟨its,r,⟨o,n,e,_,_,d⟩,_⟩:=I.list h
  obtain ⟨its',r',⟨o',n',e',_,_,d'⟩,_⟩:=I.list h'
  rw [e] at e';cases e'
  rw [d] at d'
  injection d' with d1 _
  have:its=its':=by simpa using congrArg Array.toList d1
  subst this
  exact r.inj r'
theorem Inv.tuple_inj (I:Inv X pins σ H s) (h:SqT X.K H a xs) (h':SqT X.K H a ys):xs=ys:=by
  obtain ⟨its,r,⟨o,e,_,n,d⟩,_⟩:=I.tuple h
  obtain ⟨its',r',⟨o',e',_,n',d'⟩,_⟩:=I.tuple h'
  rw [e] at e';cases e'
  rw [d] at d'
  injection d' with d1 _
  have:its=its':=by simpa using congrArg Array.toList d1
  subst this
  exact r.inj r'
end
abbrev Cx.wish (X:Cx) (E:Value→Shared→Prop):Cx:={ X with xe:=E }
abbrev Cx.nox (X:Cx):Cx:=X.wish fun _ _=>False
theorem Cx.Ok.wish {X:Cx} (ok:X.Ok) (E:Value→Shared→Prop):(X.wish E).Ok:=
  ⟨ok.mod,ok.kind,ok.glob,ok.blt,ok.above,ok.inj,ok.has,ok.cab,ok.hd,ok.frames,ok.stk,ok.exf,ok.bs,ok.bsz,ok.noex,ok.exfs,ok.funs,ok.frf⟩
theorem Cx.Ok.unwish {X:Cx} {E:Value→Shared→Prop} (ok:(X.wish E).Ok):X.Ok:=
  ⟨ok.mod,ok.kind,ok.glob,ok.blt,ok.above,ok.inj,ok.has,ok.cab,ok.hd,ok.frames,ok.stk,ok.exf,ok.bs,ok.bsz,ok.noex,ok.exfs,ok.funs,ok.frf⟩
section
variable {X:Cx} {pins:List (Addr×Obj)} {σ:St} {H:Hp} {s:Shared} {E:Value→Shared→Prop}
theorem Inv.wish (I:Inv X pins σ H s) (E:Value→Shared→Prop):Inv (X.wish E) pins σ H s:=⟨I.ok.wish E,I.os,I.bare,I.base,I.loc,I.cell,I.free,I.freeC,I.pin,I.hok,I.len⟩
theorem Inv.unwish (I:Inv (X.wish E) pins σ H s):Inv X pins σ H s:=⟨I.ok.unwish,I.os,I.bare,I.base,I.loc,I.cell,I.free,I.freeC,I.pin,I.hok,I.len⟩
theorem SP.unwish {D:Ends} {f:Flow} {s':Shared} (h:SP (X.wish E) pins D f s'):SP X pins D f s':=by
  cases f with
  | next=>obtain ⟨σ',H',I,q⟩:=h;exact ⟨σ',H',I.unwish,q⟩
  | brk=>obtain ⟨σ',H',I,q⟩:=h;exact ⟨σ',H',I.unwish,q⟩
  | cont=>obtain ⟨σ',H',I,q⟩:=h;exact ⟨σ',H',I.unwish,q⟩
  | ret u=>obtain ⟨v,σ',H',I,r,q⟩:=h;exact ⟨v,σ',H',I.unwish,r,q⟩
theorem PSs.nox {st:List Stmt} {t:TS} (h:PSs X.nox st t):PSs X st t:=fun pins s σ H D I hw=>
  wpAny_mono (h pins s σ H D (I.wish _) hw) (fun _ _ q=>q.unwish) fun _ _ z=>False.elim z
end
section
variable {X:Cx} {st:Stmt} {rest:List Stmt} {t u:TS} {e:Expr} {te:TE} {pos:Pos}
def tNext:TS:=fun D σ H=>D.nx σ H
def tSeq (t u:TS):TS:=fun D σ H=>t { D with nx:=u D } σ H
theorem pss_nil:PSs X [] tNext:=fun _ _ σ H _ I h=>wpAny_execs_nil ⟨σ,H,I,h⟩
theorem pss_cons (h1:PS X st t) (h2:PSs X rest u):PSs X (st :: rest) (tSeq t u):=by
  intro pins s σ H D I h
  refine wpAny_execs_cons (thn (h1 pins s σ H { D with nx:=u D } I h) fun f s1 q=>?_)
  cases f with
  | next=>
    obtain ⟨σ',H',I',q⟩:=q
    exact h2 pins s1 σ' H' D I' q
  | ret v=>exact q
  | brk=>exact q
  | cont=>exact q
theorem pss_one (h1:PS X st t):PSs X [st] t:=by
  intro pins s σ H D I h
  refine wpAny_execs_cons (thn (h1 pins s σ H D I h) fun f s1 q=>?_)
  cases f with
  | next=>exact wpAny_execs_nil q
  | ret v=>exact q
  | brk=>exact q
  | cont=>exact q
theorem Inv.quiet {pins:List (Addr×Obj)} {σ:St} {H:Hp} {s:Shared} (I:Inv X pins σ H s):interactive X.env=false:=by simp [interactive,I.ok.kind]
def ZFi (te:TE):TS:=fun D σ H=>te σ H fun _ H1=>D.nx σ H1
theorem ps_expr (he:PE X e te) (hs:swapsWith e none pos.line X.env=pure false:=by rfl):PS X (.Expr e pos) (ZFi te):=by
  intro pins s σ H D I h
  exact wpAny_Expr_any (thn (he pins s σ H _ I h) fun v s1 ⟨x,H1,I1,r1,q1⟩=>⟨σ,H1,I1,q1⟩) I.quiet hs
def tRet (te:TE):TS:=fun D σ H=>te σ H D.rt
theorem ps_ret (he:PE X e te):PS X (.Return (some e) pos) (tRet te):=by
  intro pins s σ H D I h
  exact wpAny_Return_some (thn (he pins s σ H _ I h) fun v s1 ⟨x,H1,I1,r1,q1⟩=>⟨x,σ,H1,I1,r1,q1⟩)
def tIfS (c:TT) (t u:TS):TS:=fun D σ H=>c σ H fun b H1=>if b=true then t D σ H1 else u D σ H1
theorem ps_if {c:Expr} {a b:List Stmt} {tc:TT} (hc:PT X c tc) (ha:PSs X a t) (hb:PSs X b u):PS X (.If c a b pos) (tIfS tc t u):=by
  intro pins s σ H D I h
  refine wpAny_If (thn (hc pins s σ H _ I h) fun d s1 ⟨H1,I1,q1⟩=>?_)
  cases d with
  | true=>exact ha pins s1 σ H1 D I1 q1
  | false=>exact hb pins s1 σ H1 D I1 q1
def tNever:TS:=fun _ _ _=>False
theorem ps_never:PS X st tNever:=fun _ _ _ _ _ _ h=>h.elim
end
abbrev TG:=V→St→Hp→(St→Hp→Prop)→Prop
abbrev TGs:=List V→St→Hp→(St→Hp→Prop)→Prop
def PG (X:Cx) (target:Expr) (t:TG):Prop:=
  ∀ (pins:List (Addr×Obj)) (s:Shared) (σ:St) (H:Hp) (v:V) (u:Value) (Q:St→Hp→Prop),Inv X pins σ H s→RelV v u→t v σ H Q→
    wpAny (model X.prog X.w) X.A (assign target X.env u) (fun _ s'=>∃ σ' H',Inv X pins σ' H' s'∧Q σ' H') X.xe s
def PGs (X:Cx) (ts:List Expr) (t:TGs):Prop:=
  ∀ (pins:List (Addr×Obj)) (s:Shared) (σ:St) (H:Hp) (vs:List V) (us:List Value) (Q:St→Hp→Prop),Inv X pins σ H s→Vals vs us→t vs σ H Q→
    wpAny (model X.prog X.w) X.A (assignInOrder ((assignEach ts X.env).map (·.2)) us) (fun _ s'=>∃ σ' H',Inv X pins σ' H' s'∧Q σ' H') X.xe s
abbrev TSet:=V→V→V→Hp→(Hp→Prop)→Prop
def PSet (X:Cx) (t:TSet):Prop:=
  ∀ (pins:List (Addr×Obj)) (s:Shared) (σ:St) (H:Hp) (o i v:V) (ov iv u:Value) (Q:Hp→Prop),Inv X pins σ H s→RelV o ov→RelV i iv→RelV v u→t o i v H Q→
    wpAny (model X.prog X.w) X.A (setItem ov iv u) (fun _ s'=>∃ H',Inv X pins σ H' s'∧Q H') X.xe s
section
variable {X:Cx} {pos:Pos}
def ZC9 (i:Nat):TG:=fun v σ H Q=>Q (σ.set i (some v)) H
theorem ZK5 {i:Nat} {x:Str} (hN:X.N.Nodup) (hi:X.N[i]?=some x) (hx:Loc X.env.scope x) (hf:X.fn x=true∨X.env.scope.names.lookup x=some .local:=by first | exact .inl rfl | exact .inr rfl | assumption):PG X (.Name x pos) (ZC9 i):=by
  intro pins s σ H v u Q I r h
  exact wpAny_assign_Name (ZHu I hN hi hx r (fun s' I'=>⟨_,H,I',h⟩) hf)
def gNil:TGs:=fun vs σ H Q=>vs=[]∧Q σ H
def gCons (t:TG) (u:TGs):TGs:=fun vs σ H Q=>∃ v r,vs=v :: r∧t v σ H fun σ' H'=>u r σ' H' Q
theorem pgs_nil:PGs X [] gNil:=by
  intro pins s σ H vs us Q I r h
  obtain ⟨e,h⟩:=h
  subst e
  cases r
  exact assignInOrder_nil ⟨σ,H,I,h⟩
theorem pgs_cons {e:Expr} {es:List Expr} {t:TG} {u:TGs} (h1:PG X e t) (h2:PGs X es u)
    (hs:(assignEach (e :: es) X.env).map (·.2)=assign e X.env :: (assignEach es X.env).map (·.2):=by rfl):PGs X (e :: es) (gCons t u):=by
  intro pins s σ H vs us Q I r h
  obtain ⟨v,vr,e1,h⟩:=h
  subst e1
  cases r with
  | cons r rr=>
    rw [hs]
    refine assignInOrder_cons (thn (h1 pins s σ H _ _ _ I r h) fun _ s1 ⟨σ1,H1,I1,q1⟩=>?_)
    exact h2 pins s1 σ1 H1 _ _ Q I1 rr q1
def gTup (K:PySem.W.Frag) (n:Nat) (t:TGs):TG:=fun v σ H Q=>∃ a xs,v=.ref a∧SqT K H a xs∧xs.length=n∧t xs σ H Q
theorem pg_tup {es:List Expr} {k:Nat} {t:TGs} {n:Nat} (hc:X.calm=true) (h:PGs X es t)
    (hn:(assignEach es X.env).length=n:=by rfl) (hst:(assignEach es X.env).findIdx? (·.1)=none:=by rfl):PG X (.Tuple es k pos) (gTup X.K n t):=by
  intro pins s σ H v u Q I r hw
  obtain ⟨a,xs,e1,hq,hl,hw⟩:=hw
  subst e1
  cases r
  obtain ⟨its,rv,ht,hz⟩:=I.tuple hq
  refine assign_Tuple_tuple (I.ok.hd hc) ht (by simp [hn,← hl,rv.length]) hst fun h' hx=>?_
  have I1:Inv X pins σ H { s with heap:=h' }:=I.kept (t':=s.toks) fun b o e=>hx b o (Nat.ne_of_lt (Heap.lt_size e)) e
  exact h pins _ σ H xs _ Q I1 (by simpa using rv) hw
def gSub (to ti:TE) (t:TSet):TG:=fun v σ H Q=>to σ H fun o H1=>ti σ H1 fun i H2=>t o i v H2 fun H3=>Q σ H3
theorem pg_sub {o i:Expr} {to ti:TE} {t:TSet} (ho:PE X o to) (hi:PE X i ti) (hs:PSet X t)
    (ha:∀ v,assign (.Subscript o i pos) X.env v=(do
      let ov ← holding [v] (eval o X.env)
      let iv ← holding [v,ov] (eval i X.env)
      standAt pos
      holding [v,ov,iv] (setItem ov iv v)
      release [v,ov,iv] []):=by intro _;rfl):PG X (.Subscript o i pos) (gSub to ti t):=by
  intro pins s σ H v u Q I r h
  rw [ha]
  refine wpAny_bind (wpAny_holding (thn (ho pins s σ H _ I h) fun ov s1 ⟨x,H1,I1,r1,q1⟩=>?_))
  refine wpAny_bind (wpAny_holding (thn (hi pins s1 σ H1 _ I1 q1) fun iv s2 ⟨y,H2,I2,r2,q2⟩=>?_))
  refine wpAny_bind (wpAny_standAt (wpAny_bind (wpAny_holding (thn (hs pins s2 σ H2 x y v ov iv u _ I2 r1 r2 r q2) fun _ s3 ⟨H3,I3,q3⟩=>?_))))
  exact wpAny_release ⟨σ,H3,I3,q3⟩
def ZFh (te:TE) (g:TG):TS:=fun D σ H=>te σ H fun x H1=>g x σ H1 D.nx
theorem ps_asg {tg e:Expr} {te:TE} {g:TG} (he:PE X e te) (hg:PG X tg g) (hs:swapsWithSole [tg] e pos.line X.env=pure false:=by rfl) (hw:swappedStores [tg] e X.env=pure none:=by rfl)
    (h1:(assignEach [tg] X.env).map (·.2)=[assign tg X.env]:=by rfl):PS X (.Assign [tg] e pos) (ZFh te g):=by
  intro pins s σ H D I h
  refine wpAny_Assign_stores (thn (he pins s σ H _ I h) fun v s1 ⟨x,H1,I1,r1,q1⟩=>?_) hs hw
  rw [h1]
  exact thn (hg pins s1 σ H1 x v _ I1 r1 q1) fun _ s2 q=>q
theorem ps_set {i:Nat} {x:Str} {e:Expr} {te:TE} {pos':Pos} (hN:X.N.Nodup) (hi:X.N[i]?=some x) (hx:Loc X.env.scope x) (he:PE X e te) (hs:swapsWith e (some (.Name x pos')) pos.line X.env=pure false:=by rfl) (hf:X.fn x=true∨X.env.scope.names.lookup x=some .local:=by first | exact .inl rfl | exact .inr rfl | assumption) :
    PS X (.Assign [.Name x pos'] e pos) (ZFh te (ZC9 i)):=by
  intro pins s σ H D I h
  refine wpAny_Assign_Name (thn (he pins s σ H _ I h) fun v s1 ⟨y,H1,I1,r1,q1⟩=>?_) hs
  exact ZHu I1 hN hi hx r1 (fun s2 I2=>⟨_,H1,I2,q1⟩) hf
end
section
variable {X:Cx} {pos:Pos}
def ZIr (c:TT) (tb:TS):TS:=fun D σ H=>∃ W:Nat→St→Hp→Prop,(∃ m,W m σ H)∧∀ m σ H,W m σ H→
  c σ H fun b H1=>if b=true then ∃ N:St→Hp→Prop,(∀ σ' H',N σ' H'→∃ m',m' < m∧W m' σ' H')∧tb { D with nx:=N,ct:=N,bk:=D.nx } σ H1 else D.nx σ H1
theorem ps_while {c:Expr} {body:List Stmt} {tc:TT} {tb:TS} (hp:PassesOwn (model X.prog X.w) X.A X.env X.xe) (hc:PT X c tc) (hb:PSs X body tb):PS X (.While c body [] pos) (ZIr tc tb):=by
  intro pins s σ H D I h
  obtain ⟨W,⟨m0,w0⟩,turn⟩:=h
  refine wpAny_While (codeAny_whileLoop (fun n s'=>∃ σ' H',Inv X pins σ' H' s'∧W n σ' H') ?_ m0 ⟨σ,H,I,w0⟩)
  rintro n s1 ⟨σ1,H1,I1,w1⟩
  refine wpAny_passesOwn hp (thn (hc pins s1 σ1 H1 _ I1 (turn n σ1 H1 w1)) fun b s2 ⟨H2,I2,q2⟩=>?_)
  cases b with
  | true=>
    obtain ⟨N,hN,q2⟩:=q2
    rw [if_pos rfl]
    refine wpAny_passesOwn hp (thn (hb pins s2 σ1 H2 _ I2 q2) fun f s3 q3=>?_)
    cases f with
    | next=>
      obtain ⟨σ3,H3,I3,n3⟩:=q3
      obtain ⟨m',hm,w3⟩:=hN σ3 H3 n3
      exact ⟨m',hm,σ3,H3,I3,w3⟩
    | cont=>
      obtain ⟨σ3,H3,I3,n3⟩:=q3
      obtain ⟨m',hm,w3⟩:=hN σ3 H3 n3
      exact ⟨m',hm,σ3,H3,I3,w3⟩
    | brk=>exact q3
    | ret v=>exact q3
  | false=>
    rw [if_neg Bool.false_ne_true]
    exact wpAny_execs_nil ⟨σ1,H2,I2,q2⟩
end
structure It where
  go:Nat→Hp→Prop
  yld:Nat→Hp→V→Hp→Prop
  stop:Nat→Hp→Prop
def ZCm (X:Cx) (pins:List (Addr×Obj)) (H:Hp) (b:Addr):Prop:=
  H b=none∧b≠X.env.locals∧b∉X.fs∧(b∈X.ex∨X.s₀.heap.objs.size≤b)∧(∀ x c,X.env.cells.lookup x=some c→c≠b)∧∀ p∈X.pn++pins,p.1≠b
theorem Inv.fpOk {X:Cx} {pins:List (Addr×Obj)} {σ:St} {H H':Hp} {s:Shared} {b:Addr} (I:Inv X pins σ H s) (hb:s.heap.objs.size≤b) (hn:H' b=none):ZCm X pins H' b:=by
  refine ⟨hn,Nat.ne_of_gt (Nat.lt_of_lt_of_le I.lt hb),I.nofs hb,.inr (Nat.le_trans I.sz hb),fun x c e z=>?_,fun p hp z=>?_⟩
  · obtain ⟨v,q⟩:=I.cell x c e
    exact absurd (Nat.lt_of_lt_of_le q.lt (by rw [z];exact hb)) (Nat.lt_irrefl _)
  · exact absurd (Nat.lt_of_lt_of_le (Heap.lt_size (I.pin p hp).1) (by rw [z];exact hb)) (Nat.lt_irrefl _)
structure Turn (P:Program) (w:World) (K:PySem.W.Frag) (tg:Expr) (J:It) (fp:List Addr) (it:Addr) (tn:Nat→Heap→Prop):Prop where
  mem:it∈fp
  obj:∀ i h,tn i h→∀ b∈fp,∃ o,h.get? b=some o∧∀ v,o.data≠.cell v
  keep:∀ i h h',tn i h→(∀ b∈fp,∀ o,h.get? b=some o→h'.get? b=some o)→tn i h'
  item:∀ (X:Cx),X.prog=P→X.w=w→X.K=K→X.calm=true→∀ (i:Nat) (pins:List (Addr×Obj)) (s:Shared) (σ:St) (H:Hp) (E:Value→Shared→Prop),Inv X pins σ H s→(∀ b∈fp,ZCm X pins H b)→tn i s.heap→J.go i H→
    wpAny (model P w) X.A (pyNext (.ref it)) (fun r s1=>∃ u,r=some u∧
      wpAny (model P w) X.A (letOwnedTupleGo tg (.ref it) u) (fun _ s2=>∃ x H',Inv X pins σ H' s2∧RelV x u∧J.yld i H x H'∧tn (i+1) s2.heap∧∀ b∈fp,H' b=none) E s1) E s
  done:∀ (X:Cx),X.prog=P→X.w=w→X.K=K→X.calm=true→∀ (i:Nat) (pins:List (Addr×Obj)) (s:Shared) (σ:St) (H:Hp) (E:Value→Shared→Prop),Inv X pins σ H s→(∀ b∈fp,ZCm X pins H b)→tn i s.heap→J.stop i H→
    wpAny (model P w) X.A (pyNext (.ref it)) (fun r s1=>r=none∧Inv X pins σ H s1) E s
  self:∀ (A:Around) (i:Nat) (s:Shared) (Q:Value→Shared→Prop) (E:Value→Shared→Prop),tn i s.heap→Q (.ref it) s→wpAny (model P w) A (pyIter (.ref it)) Q E s
abbrev TI:=St→Hp→(It→Hp→Prop)→Prop
def PIE (X:Cx) (pins:List (Addr×Obj)) (σ:St) (tg:Expr) (R:It→Hp→Prop) (itv:Value) (s2:Shared):Prop:=
  ∃ (it:Addr) (fp:List Addr) (tn:Nat→Heap→Prop) (J:It) (H':Hp),itv=.ref it∧Inv X pins σ H' s2∧Turn X.prog X.w X.K tg J fp it tn∧tn 0 s2.heap∧(∀ b∈fp,ZCm X pins H' b)∧R J H'
def PI (X:Cx) (tg iter:Expr) (wi:TI):Prop:=
  ∀ (pins:List (Addr×Obj)) (s:Shared) (σ:St) (H:Hp) (R:It→Hp→Prop),Inv X pins σ H s→wi σ H R→
    wpAny (model X.prog X.w) X.A (eval iter X.env) (fun v s1=>wpAny (model X.prog X.w) X.A (pyIter v) (PIE X pins σ tg R) X.xe s1) X.xe s
theorem go_of {M:Model} {A:Around} {E:Value→Shared→Prop} {s:Shared} {tg:Expr} {it:Addr} {u:Value} {o:Obj} {n:String} {vs:Array Value} {Q:Unit→Shared→Prop} (ho:s.heap.get? it=some o) (hc:o.cls=.type n) (hd:o.data=.fields vs)
    (hn:["enumerate", "zip", "dict_itemiterator", "dict_reverseitemiterator", "odict_iterator", "itertools.zip_longest", "itertools.pairwise"].contains n=false) (hQ:Q () s):wpAny M A (letOwnedTupleGo tg (.ref it) u) Q E s:=by
  unfold letOwnedTupleGo
  cases tg <;> first
    | exact wpAny_pure hQ
    | (cases u <;> first
        | exact wpAny_pure hQ
        | (refine wpAny_bind (wpAny_load ho ?_)
           rw [hc,hd]
           show wpAny M A (if (["enumerate", "zip", "dict_itemiterator", "dict_reverseitemiterator", "odict_iterator", "itertools.zip_longest", "itertools.pairwise"].contains n && vs[0]? == some (rawInt _))=true then _ else _) Q E s
           rw [if_neg (by intro h;rw [hn,Bool.false_and] at h;cases h)]
           exact wpAny_pure hQ))
def Itl (K:PySem.W.Frag) (a:Addr):It:=
  ⟨fun i H=>∃ xs x,SqL K H a xs∧xs[i]?=some x,fun i H x H'=>H'=H∧∀ xs,SqL K H a xs→xs[i]?=some x,fun i H=>∃ xs,SqL K H a xs∧xs.length≤i⟩
def Itt (K:PySem.W.Frag) (a:Addr):It:=
  ⟨fun i H=>∃ xs x,SqT K H a xs∧xs[i]?=some x,fun i H x H'=>H'=H∧∀ xs,SqT K H a xs→xs[i]?=some x,fun i H=>∃ xs,SqT K H a xs∧xs.length≤i⟩
def Itr (lo:Int) (n:Nat):It:=⟨fun i _=>i < n,fun i H x H'=>H'=H∧x=.int (lo+i),fun i _=>n≤i⟩
theorem ZCA {P:Program} {w:World} {K:PySem.W.Frag} {tg:Expr} (a it:Addr):Turn P w K tg (Itl K a) [it] it (fun i h=>h.IsListIter it a i) where
  mem:=by simp
  obj:=fun i h st b hb=>by
    have e:b=it:=by simpa using hb
    subst e
    obtain ⟨o,e,c,d⟩:=st
    exact ⟨o,e,fun v z=>by rw [d] at z;cases z⟩
  keep:=fun i h h' st k=>st.at fun o e=>k it (by simp) o e
  item:=by
    intro X hP hw hK hc i pins s σ H E I hf st hg
    subst hP hw hK
    obtain ⟨xs,x,hq,hx⟩:=hg
    obtain ⟨its,rv,p,hz⟩:=I.list hq
    obtain ⟨u,hu,ru⟩:=rv.get hx
    obtain ⟨f0,f1,f2,f3,f4,f5⟩:=hf it (by simp)
    refine wpAny_pyNext_list_item st p.isList (x:=u) (by simpa using hu) fun h' st' sb=>?_
    have I1:Inv X pins σ H { s with heap:=h' }:=I.turned (t':=s.toks) (fun b o hb e=>(sb.2 b hb).trans e) f0 f1 f3 f4 f5
    obtain ⟨o,e,c,d⟩:=id st'
    exact ⟨u,rfl,go_of (s:={ s with heap:=h' }) e c d (by decide) ⟨x,H,I1,ru,⟨rfl,fun ys hy=>by rw [I.list_inj hy hq];exact hx⟩,st',fun b hb=>(hf b hb).1⟩⟩
  done:=by
    intro X hP hw hK hc i pins s σ H E I hf st hg
    subst hP hw hK
    obtain ⟨xs,hq,hx⟩:=hg
    obtain ⟨its,rv,p,hz⟩:=I.list hq
    obtain ⟨f0,f1,f2,f3,f4,f5⟩:=hf it (by simp)
    have hl:=rv.length
    exact wpAny_pyNext_list_end (I.ok.hd hc) st p.isList (by simp;omega) fun h' eb=>⟨rfl,I.turned (t':=s.toks) (fun b o hb e=>eb b o hb e) f0 f1 f3 f4 f5⟩
  self:=fun _ _ _ _ _ st h=>wpAny_pyIter_listiter st h
theorem ZBt {P:Program} {w:World} {K:PySem.W.Frag} {tg:Expr} (a it:Addr):Turn P w K tg (Itt K a) [it] it (fun i h=>h.IsTupleIter it a i) where
  mem:=by simp
  obj:=fun i h st b hb=>by
    have e:b=it:=by simpa using hb
    subst e
    obtain ⟨o,e,c,d⟩:=st
    exact ⟨o,e,fun v z=>by rw [d] at z;cases z⟩
  keep:=fun i h h' st k=>st.at fun o e=>k it (by simp) o e
  item:=by
    intro X hP hw hK hc i pins s σ H E I hf st hg
    subst hP hw hK
    obtain ⟨xs,x,hq,hx⟩:=hg
    obtain ⟨its,rv,p,hz⟩:=I.tuple hq
    obtain ⟨u,hu,ru⟩:=rv.get hx
    obtain ⟨f0,f1,f2,f3,f4,f5⟩:=hf it (by simp)
    refine wpAny_pyNext_tuple_item st (show s.heap.IsTuple a its.toArray from p) (x:=u) (by simpa using hu) fun h' st' sb=>?_
    have I1:Inv X pins σ H { s with heap:=h' }:=I.turned (t':=s.toks) (fun b o hb e=>(sb.2 b hb).trans e) f0 f1 f3 f4 f5
    obtain ⟨o,e,c,d⟩:=id st'
    exact ⟨u,rfl,go_of (s:={ s with heap:=h' }) e c d (by decide) ⟨x,H,I1,ru,⟨rfl,fun ys hy=>by rw [I.tuple_inj hy hq];exact hx⟩,st',fun b hb=>(hf b hb).1⟩⟩
  done:=by
    intro X hP hw hK hc i pins s σ H E I hf st hg
    subst hP hw hK
    obtain ⟨xs,hq,hx⟩:=hg
    obtain ⟨its,rv,p,hz⟩:=I.tuple hq
    obtain ⟨f0,f1,f2,f3,f4,f5⟩:=hf it (by simp)
    have hl:=rv.length
    exact wpAny_pyNext_tuple_end (I.ok.hd hc) st (show s.heap.IsTuple a its.toArray from p) (by simp;omega) fun h' eb=>⟨rfl,I.turned (t':=s.toks) (fun b o hb e=>eb b o hb e) f0 f1 f3 f4 f5⟩
  self:=fun _ _ _ _ _ st h=>wpAny_pyIter_tupleiter st h
theorem ZJ7 {P:Program} {w:World} {K:PySem.W.Frag} {tg:Expr} (it:Addr) (lo:Int) (n:Nat):Turn P w K tg (Itr lo n) [it] it (fun i h=>IsRangeIter h it (lo+(i:Nat) * 1) ((n:Int) - (i:Nat)) 1) where
  mem:=by simp
  obj:=fun i h st b hb=>by
    have e:b=it:=by simpa using hb
    subst e
    exact ⟨_,st,fun v z=>by
      have z':Data.fields _=Data.cell v:=z
      cases z'⟩
  keep:=fun i h h' st k=>k it (by simp) _ st
  item:=by
    intro X hP hw hK hc i pins s σ H E I hf st hg
    subst hP hw hK
    obtain ⟨f0,f1,f2,f3,f4,f5⟩:=hf it (by simp)
    have W:=Walks.range (prog:=X.prog) (w:=X.w) (I.ok.hd hc) it lo 1 n
    refine W.item i s _ _ hg st fun v h' tk hv st' kk=>?_
    obtain ⟨t,rfl⟩:=hv
    have I1:Inv X pins σ H { s with heap:=h',toks:=tk }:=I.turned (fun b o hb e=>kk b o (by simpa using hb) e) f0 f1 f3 f4 f5
    refine ⟨_,rfl,go_of (s:={ s with heap:=h',toks:=tk }) (n := "range_iterator") st' rfl rfl (by decide) ⟨.int (lo+i),H,I1,⟨t,?_⟩,⟨rfl,rfl⟩,st',fun b hb=>(hf b hb).1⟩⟩
    rw [Int.mul_one]
  done:=by
    intro X hP hw hK hc i pins s σ H E I hf st hg
    subst hP hw hK
    obtain ⟨f0,f1,f2,f3,f4,f5⟩:=hf it (by simp)
    exact wpAny_pyNext_range_end (I.ok.hd hc) st (by have:n≤i:=hg;omega) fun h' eb=>⟨rfl,I.turned (t':=s.toks) (fun b o hb e=>eb b o hb e) f0 f1 f3 f4 f5⟩
  self:=fun _ _ _ _ _ st h=>wpAny_pyIter_rangeiter st h
end L2
namespace L2
open PySem PySem.Spec PyProof.Rows
section
variable {X:Cx} {tg:Expr}
theorem range_it {pins:List (Addr×Obj)} {σ:St} {H:Hp} {s:Shared} {R:It→Hp→Prop} {E:Value→Shared→Prop} {lo hi:Int} {t u v:Tok} {tk:Nat} (I:Inv X pins σ H s) (h1:-(2 ^ 62)≤lo) (h2:lo < 2 ^ 62) (h3:-(2 ^ 62)≤hi) (h4:hi < 2 ^ 62)
    (q:R (Itr lo (hi - lo).toNat) H):wpAny (model X.prog X.w) X.A (pyIter (.ref s.heap.objs.size)) (PIE X pins σ tg R) E { s with heap:=s.heap.push { cls:=.type "range", data:=.fields #[.int lo t,.int hi u,.int 1 v] },toks:=tk }:=by
  refine wpAny_pyIter_range (IsRange.new ..) (small_one h1 h2 h3 h4) ?_
  have I1:Inv X pins σ H { s with heap:=s.heap.push { cls:=.type "range", data:=.fields #[.int lo t,.int hi u,.int 1 v] },toks:=tk }:=I.kept fun b o e=>Heap.get?_push_of_some _ e
  refine ⟨(s.heap.push { cls:=.type "range", data:=.fields #[.int lo t,.int hi u,.int 1 v] }).objs.size,[(s.heap.push { cls:=.type "range", data:=.fields #[.int lo t,.int hi u,.int 1 v] }).objs.size],_,_,H,rfl,
    I1.kept (t':=tk) fun b o e=>Heap.get?_push_of_some _ e,ZJ7 _ lo (hi - lo).toNat,?_,fun b hb=>?_,q⟩
  · have e1:lo+((0:Nat):Int) * 1=lo:=by simp
    have e2:(((hi - lo).toNat:Nat):Int) - ((0:Nat):Int)=Builtin.Range.rangeSize lo hi 1:=by rw [rangeSize_one];split <;> omega
    show IsRangeIter _ _ (lo+((0:Nat):Int) * 1) ((((hi - lo).toNat:Nat):Int) - ((0:Nat):Int)) 1
    rw [e1,e2]
    exact Heap.get?_push_size _ rfl
  · have e:b=(s.heap.push { cls:=.type "range", data:=.fields #[.int lo t,.int hi u,.int 1 v] }).objs.size:=by simpa using hb
    subst e
    exact I1.fpOk (Nat.le_refl _) (I1.hok.fresh (Nat.le_refl _))
def iRng1 (ta:TA):TI:=fun σ H R=>ta σ H fun vs H1=>∃ j:Int,vs=[.int j]∧-(2 ^ 62)≤j∧j < 2 ^ 62∧R (Itr 0 j.toNat) H1
def iRng2 (ta:TA):TI:=fun σ H R=>ta σ H fun vs H1=>∃ i j:Int,vs=[.int i,.int j]∧(-(2 ^ 62)≤i∧i < 2 ^ 62∧-(2 ^ 62)≤j∧j < 2 ^ 62)∧R (Itr i (j - i).toNat) H1
theorem ZKW {a:Expr} {ta:TA} {p pos:Pos} (hg:Gl X "range") (hm:X.mg "range" = none) (ha:PA X [a] ta) (hs:starEach [a] X.env=[(false,eval a X.env)]:=by rfl):PI X tg (.Call (.Name "range" p) [a] [] pos) (iRng1 ta):=by
  intro pins s σ H R I h
  refine Call_ (ZCk I hg hm boot_range (PyProof.Rows.callWith_type1 (thn (ha pos pins s σ H _ I h) fun us s1 ⟨vs,H1,I1,r1,q1⟩=>?_) hs rfl))
  obtain ⟨j,e,q1,q2,q⟩:=q1
  subst e
  cases r1 with
  | cons r rr=>
    cases rr
    obtain ⟨t,rfl⟩:=r
    exact call_range_1 (range_it I1 (by omega) (by omega) q1 q2 (by simpa using q))
def tFor (wi:TI) (g:TG) (tb:TS):TS:=fun D σ H=>wi σ H fun J H1=>∃ W:Nat→Nat→St→Hp→Prop,(∃ m,W 0 m σ H1)∧∀ i m σ H,W i m σ H→
  (J.stop i H∧D.nx σ H)∨(J.go i H∧∃ N:St→Hp→Prop,(∀ σ' H',N σ' H'→∃ m',m' < m∧W (i+1) m' σ' H')∧∀ x H',J.yld i H x H'→g x σ H' fun σ2 H2=>tb { D with nx:=N,ct:=N,bk:=D.nx } σ2 H2)
def ZFQ (fp:List Addr) (h:Heap):List (Addr×Obj):=fp.filterMap fun b=>(h.get? b).map fun o=>(b,o)
theorem ZCS {fp:List Addr} {h:Heap} {b:Addr} {o:Obj} (hb:b∈fp) (e:h.get? b=some o):(b,o)∈ZFQ fp h:=List.mem_filterMap.mpr ⟨b,hb,by rw [e];rfl⟩
theorem ZKB {fp:List Addr} {h:Heap} {p:Addr×Obj} (hp:p∈ZFQ fp h):p.1∈fp∧h.get? p.1=some p.2:=by
  obtain ⟨b,hb,e⟩:=List.mem_filterMap.mp hp
  cases q:h.get? b with
  | none=>rw [q] at e;cases e
  | some o=>
    rw [q] at e
    have e':(b,o)=p:=Option.some.inj e
    subst e'
    exact ⟨hb,q⟩
theorem Inv.pinned {pins:List (Addr×Obj)} {σ:St} {H:Hp} {s:Shared} {fp:List Addr} (I:Inv X pins σ H s) (hf:∀ b∈fp,ZCm X pins H b) (ho:∀ b∈fp,∃ o,s.heap.get? b=some o∧∀ v,o.data≠.cell v):Inv X (pins++ZFQ fp s.heap) σ H s:=
  I.pins_of fun p hp=>(List.mem_append.mp hp).elim (fun z=>I.pin p (List.mem_append_right _ z)) fun z=>by
    obtain ⟨hb,e⟩:=ZKB z
    obtain ⟨f0,f1,f2,_⟩:=hf p.1 hb
    obtain ⟨o,e',d⟩:=ho p.1 hb
    rw [e] at e';cases e'
    exact ⟨e,f0,f1,f2,d⟩
theorem Inv.unpinned {pins pl:List (Addr×Obj)} {σ:St} {H:Hp} {s:Shared} (I:Inv X (pins++pl) σ H s):Inv X pins σ H s:=I.pins_of fun p hp=>I.pin p (List.mem_append_right _ (List.mem_append_left _ hp))
theorem ps_for {iter:Expr} {body:List Stmt} {wi:TI} {g:TG} {tb:TS} {pos:Pos} (hp:PassesOwn (model X.prog X.w) X.A X.env X.xe) (hc:X.calm=true) (hi:PI X tg iter wi) (hg:PG X tg g) (hb:PSs X body tb)
    (hs:∀ x,foldedSetIterable iter X.env x=pure x:=by intro _;rfl):PS X (.For tg iter body [] pos) (tFor wi g tb):=by
  intro pins s σ H D I h
  refine wpAny_For (thn (hi pins s σ H _ I h) fun v s1 h1=>thn h1 fun itv s2 h2=>?_) hs
  obtain ⟨it,fp,tn,J,H2,e,I2,T,st2,f2,W,⟨m0,w0⟩,turn⟩:=h2
  subst e
  -- what stays true of the iterator's objects through the loop
  have stat:∀ {H':Hp},(∀ b∈fp,H' b=none)→∀ b∈fp,ZCm X pins H' b:=fun hn b hb=>⟨hn b hb,(f2 b hb).2⟩
  refine codeAny_forLoop_any (fun n s'=>∃ i σ' H',Inv X pins σ' H' s'∧tn i s'.heap∧(∀ b∈fp,H' b=none)∧W i n σ' H') ?_ m0 ⟨0,σ,H2,I2,st2,fun b hb=>(f2 b hb).1,w0⟩
  rintro n s3 ⟨i,σ3,H3,I3,st3,fr3,w3⟩
  rcases turn i n σ3 H3 w3 with ⟨stop,qn⟩ | ⟨go,N,hN,step⟩
  · refine wpAny_passesOwn hp (thn (T.done X rfl rfl rfl hc i pins s3 σ3 H3 X.xe I3 (stat fr3) st3 stop) fun r s4 ⟨hr,I4⟩=>?_)
    subst hr
    exact wpAny_execs_nil ⟨σ3,H3,I4,qn⟩
  · refine wpAny_passesOwn hp (thn (T.item X rfl rfl rfl hc i pins s3 σ3 H3 X.xe I3 (stat fr3) st3 go) fun r s4 ⟨u,hr,h4⟩=>?_)
    subst hr
    refine wpAny_passesOwn hp (thn h4 fun _ s5 ⟨x,H5,I5,r5,y5,st5,fr5⟩=>?_)
    have I5':=I5.pinned (stat fr5) (T.obj _ _ st5)
    refine wpAny_passesOwn hp (thn (hg _ s5 σ3 H5 x u _ I5' r5 (step x H5 y5)) fun _ s6 ⟨σ6,H6,I6,q6⟩=>?_)
    refine wpAny_passesOwn hp (thn (hb _ s6 σ6 H6 _ I6 q6) fun f s7 q7=>?_)
    have again:∀ {σ7:St} {H7:Hp},Inv X (pins++ZFQ fp s5.heap) σ7 H7 s7→N σ7 H7→∃ m,m < n∧∃ i σ' H',Inv X pins σ' H' s7∧tn i s7.heap∧(∀ b∈fp,H' b=none)∧W i m σ' H':=fun {σ7 H7} I7 n7=>by
      obtain ⟨m',hm,w7⟩:=hN σ7 H7 n7
      refine ⟨m',hm,i+1,σ7,H7,I7.unpinned,T.keep _ _ _ st5 fun b hb o e=>(I7.pin (b,o) (List.mem_append_right _ (List.mem_append_right _ (ZCS hb e)))).1,fun b hb=>?_,w7⟩
      obtain ⟨o,e,d⟩:=T.obj _ _ st5 b hb
      exact (I7.pin (b,o) (List.mem_append_right _ (List.mem_append_right _ (ZCS hb e)))).2.1
    cases f with
    | next=>obtain ⟨σ7,H7,I7,n7⟩:=q7;exact again I7 n7
    | cont=>obtain ⟨σ7,H7,I7,n7⟩:=q7;exact again I7 n7
    | brk=>obtain ⟨σ7,H7,I7,q7⟩:=q7;exact ⟨σ7,H7,I7.unpinned,q7⟩
    | ret v=>obtain ⟨x7,σ7,H7,I7,r7,q7⟩:=q7;exact ⟨x7,σ7,H7,I7.unpinned,r7,q7⟩
end
theorem ZKq {lo:Int} {n:Nat} {g:TG} {tb:TS} {D:Ends} {σ:St} {H:Hp} (Pv:Nat→St→Hp→Prop) (h0:Pv 0 σ H)
    (hs:∀ i σ H,i < n→Pv i σ H→g (.int (lo+i)) σ H fun σ2 H2=>tb { D with nx:=Pv (i+1),ct:=Pv (i+1),bk:=D.nx } σ2 H2) (hd:∀ σ H,Pv n σ H→D.nx σ H) :
    ∃ W:Nat→Nat→St→Hp→Prop,(∃ m,W 0 m σ H)∧∀ i m σ H,W i m σ H→
      ((Itr lo n).stop i H∧D.nx σ H)∨((Itr lo n).go i H∧∃ N:St→Hp→Prop,(∀ σ' H',N σ' H'→∃ m',m' < m∧W (i+1) m' σ' H')∧∀ x H',(Itr lo n).yld i H x H'→g x σ H' fun σ2 H2=>tb { D with nx:=N,ct:=N,bk:=D.nx } σ2 H2):=by
  refine ⟨fun i m σ H=>m=n - i∧i≤n∧Pv i σ H,⟨n,by simp,Nat.zero_le _,h0⟩,?_⟩
  rintro i m σ H ⟨rfl,hi,p⟩
  by_cases hlt:i < n
  · refine .inr ⟨hlt,Pv (i+1),fun σ' H' p'=>⟨n - (i+1),by omega,rfl,hlt,p'⟩,fun x H' y=>?_⟩
    obtain ⟨e,y⟩:=y
    subst e y
    exact hs i σ _ hlt p
  · have e:i=n:=by omega
    subst e
    exact .inl ⟨Nat.le_refl _,hd σ H p⟩
end L2
namespace L2
open PySem PySem.Spec PyProof.Rows
abbrev R2:=V→V→Hp→VK→Prop
def OpR (X:Cx) (f:Value→Value→Sem Value) (r:R2):Prop:=
  ∀ (pins:List (Addr×Obj)) (s:Shared) (σ:St) (H:Hp) (x y:V) (v u:Value) (Q:VK),Inv X pins σ H s→RelV x v→RelV y u→r x y H Q→
    wpAny (model X.prog X.w) X.A (f v u) (EP X pins σ Q) X.xe s
def ZBr (X:Cx) (f:Value) (r:List V→Hp→VK→Prop):Prop:=
  ∀ (pins:List (Addr×Obj)) (s:Shared) (σ:St) (H:Hp) (xs:List V) (us:List Value) (Q:VK),Inv X pins σ H s→Vals xs us→r xs H Q→
    wpAny (model X.prog X.w) X.A (call f us) (EP X pins σ Q) X.xe s
def tOp (r:R2) (ta tb:TE):TE:=fun σ H Q=>ta σ H fun x H1=>tb σ H1 fun y H2=>r x y H2 Q
def tUn (r:V→Hp→VK→Prop) (ta:TE):TE:=fun σ H Q=>ta σ H fun x H1=>r x H1 Q
def rI (C:Int→Int→Prop) (g:Int→Int→V):R2:=fun x y H Q=>∃ i j,x=.int i∧y=.int j∧C i j∧Q (g i j) H
def rI0 (g:Int→Int→V):R2:=fun x y H Q=>∃ i j,x=.int i∧y=.int j∧Q (g i j) H
def rU (g:Int→V):V→Hp→VK→Prop:=fun x H Q=>∃ i,x=.int i∧Q (g i) H
section
variable {X:Cx} {a b c:Expr} {ta tb tc:TE} {pos:Pos}
theorem binT (ha:PE X a ta) (hb:PE X b tb) {pins:List (Addr×Obj)} {s:Shared} {σ:St} {H:Hp} {R:V→V→Hp→Prop} (I:Inv X pins σ H s)
    (h:ta σ H fun x H1=>tb σ H1 fun y H2=>R x y H2) {Q:Value→Shared→Prop} {f:Value→Value→Sem Value}
    (hf:∀ v u s2 x y H2,Inv X pins σ H2 s2→RelV x v→RelV y u→R x y H2→wpAny (model X.prog X.w) X.A (f v u) Q X.xe s2) :
    wpAny (model X.prog X.w) X.A (eval a X.env) (fun v s₁=>wpAny (model X.prog X.w) X.A (eval b X.env) (fun u s₂=>wpAny (model X.prog X.w) X.A (f v u) Q X.xe s₂) X.xe s₁) X.xe s:=by
  refine thn (ha pins s σ H _ I h) fun v s1 ⟨x,H1,I1,r1,q1⟩=>?_
  refine thn (hb pins s1 σ H1 _ I1 q1) fun u s2 ⟨y,H2,I2,r2,q2⟩=>?_
  exact hf v u s2 x y H2 I2 r1 r2 q2
theorem pe_op {op:Operator} {r:R2} (ho:OpR X (binaryOp op) r) (ha:PE X a ta) (hb:PE X b tb):PE X (.BinOp a op b pos) (tOp r ta tb):=by
  intro pins s σ H Q I h
  exact wpAny_BinOp (binT ha hb I h fun v u s2 x y H2 I2 rx ry q=>ho pins s2 σ H2 x y v u Q I2 rx ry q)
theorem opI {f:Value→Value→Sem Value} {C:Int→Int→Prop} {g:Int→Int→Int}
    (rule:∀ (i j:Int) (t u:Tok) (s:Shared) (Q:Value→Shared→Prop) (E:Value→Shared→Prop),C i j→Q (.int (g i j) s.toks) { s with toks:=s.toks+1 }→wpAny (model X.prog X.w) X.A (f (.int i t) (.int j u)) Q E s) :
    OpR X f (rI C fun i j=>.int (g i j)):=by
  intro pins s σ H x y v u Q I rx ry h
  obtain ⟨i,j,rfl,rfl,hc,q⟩:=h
  obtain ⟨t,rfl⟩:=rx
  obtain ⟨t',rfl⟩:=ry
  exact rule i j t t' s _ _ hc ⟨.int (g i j),H,I.tok _,⟨_,rfl⟩,q⟩
theorem opI0 {f:Value→Value→Sem Value} {g:Int→Int→Int}
    (rule:∀ (i j:Int) (t u:Tok) (s:Shared) (Q:Value→Shared→Prop) (E:Value→Shared→Prop),Q (.int (g i j) s.toks) { s with toks:=s.toks+1 }→wpAny (model X.prog X.w) X.A (f (.int i t) (.int j u)) Q E s) :
    OpR X f (rI0 fun i j=>.int (g i j)):=by
  intro pins s σ H x y v u Q I rx ry h
  obtain ⟨i,j,rfl,rfl,q⟩:=h
  obtain ⟨t,rfl⟩:=rx
  obtain ⟨t',rfl⟩:=ry
  exact rule i j t t' s _ _ ⟨.int (g i j),H,I.tok _,⟨_,rfl⟩,q⟩
theorem opB0 {f:Value→Value→Sem Value} {g:Int→Int→Bool}
    (rule:∀ (i j:Int) (t u:Tok) (s:Shared) (Q:Value→Shared→Prop) (E:Value→Shared→Prop),Q (.bool (g i j)) s→wpAny (model X.prog X.w) X.A (f (.int i t) (.int j u)) Q E s) :
    OpR X f (rI0 fun i j=>.bl (g i j)):=by
  intro pins s σ H x y v u Q I rx ry h
  obtain ⟨i,j,rfl,rfl,q⟩:=h
  obtain ⟨t,rfl⟩:=rx
  obtain ⟨t',rfl⟩:=ry
  exact rule i j t t' s _ _ ⟨.bl (g i j),H,I,rfl,q⟩
def CPow (i j:Int):Prop:=0≤j∧j≤1000000∧i.natAbs < 2 ^ 64
theorem ZBP:OpR X (binaryOp .Add) (rI0 fun i j=>.int (i+j)):=opI0 fun _ _ _ _ _ _ _ q=>add_int q
theorem ZIs:OpR X (binaryOp .Sub) (rI0 fun i j=>.int (i - j)):=opI0 fun _ _ _ _ _ _ _ q=>sub_int q
theorem ZCd:OpR X (binaryOp .Mod) (rI (fun _ j=>0 < j) fun i j=>.int (i % j)):=opI fun i j _ _ _ _ _ hc q=>by
  have h1:(0:Int) < j:=hc
  exact mod_int' (by omega) (by rw [Int.fmod_eq_emod_of_nonneg i (by omega)];exact q)
theorem ZE0:OpR X (binaryOp .Pow) (rI CPow fun i j=>.int (i ^ j.toNat)):=opI fun _ _ _ _ _ _ _ hc q=>pow_int_small hc.1 hc.2.1 hc.2.2 q
end
def scal:V→V→Bool
  | .non,.non=>true | .non,.int _=>true | .int _,.non=>true | .non,.bl _=>true | .bl _,.non=>true | .non,.str _=>true | .str _,.non=>true
  | .int _,.int _=>true | .bl _,.bl _=>true | .str _,.str _=>true | .byt _,.byt _=>true
  | .int _,.str _=>true | .str _,.int _=>true | .bl _,.str _=>true | .str _,.bl _=>true
  | _,_=>false
def rEq:R2:=fun x y H Q=>scal x y=true∧Q (.bl (decide (x=y))) H
def rNe:R2:=fun x y H Q=>scal x y=true∧Q (.bl (!decide (x=y))) H
theorem ZJX {i j:Int}:decide (V.int i=V.int j)=(i == j):=by
  rw [Bool.eq_iff_iff]
  simp
theorem dec_bl {i j:Bool}:decide (V.bl i=V.bl j)=(i == j):=by
  rw [Bool.eq_iff_iff]
  simp
theorem ZJq {i j:Str}:decide (V.str i=V.str j)=(i == j):=by
  rw [Bool.eq_iff_iff]
  simp
theorem ZJx {i j:Array UInt8}:decide (V.byt i=V.byt j)=(i.toList == j.toList):=by
  rw [Bool.eq_iff_iff]
  cases i
  cases j
  simp
section
variable {X:Cx} {a b c:Expr} {ta tb tc:TE} {pos:Pos}
theorem ZAQ {pins:List (Addr×Obj)} {σ:St} {H:Hp} {s:Shared} {Q:VK} {k k':Bool} (I:Inv X pins σ H s) (q:Q (.bl k) H) (e:k=k'):EP X pins σ Q (.bool k') s:=by
  subst e
  exact ⟨.bl k,H,I,rfl,q⟩
theorem ZAk:OpR X (compareOp .Eq) rEq:=by
  intro pins s σ H x y v u Q I rx ry h
  obtain ⟨hs,q⟩:=h
  cases x with
  | non=>
    cases rx
    cases y with
    | non=>cases ry;exact PySem.EqNone.eq_none_none (ZAQ I q (by simp))
    | bl j=>cases ry;exact PySem.EqNone.eq_none_bool (ZAQ I q (by simp))
    | int j=>obtain ⟨t',rfl⟩:=ry;exact PySem.EqNone.eq_none_int (ZAQ I q (by simp))
    | str j=>obtain ⟨t',rfl⟩:=ry;exact PySem.EqNone.eq_none_str (ZAQ I q (by simp))
    | _=>exact absurd (show false=true from hs) Bool.false_ne_true
  | bl i=>
    cases rx
    cases y with
    | non=>cases ry;exact PySem.EqNone.eq_bool_none (ZAQ I q (by simp))
    | bl j=>cases ry;exact eq_bool (ZAQ I q dec_bl)
    | str j=>obtain ⟨t',rfl⟩:=ry;exact PySem.EqMixed.eq_bool_str (ZAQ I q (by simp))
    | _=>exact absurd (show false=true from hs) Bool.false_ne_true
  | int i=>
    obtain ⟨t,rfl⟩:=rx
    cases y with
    | non=>cases ry;exact PySem.EqNone.eq_int_none (ZAQ I q (by simp))
    | int j=>obtain ⟨t',rfl⟩:=ry;exact eq_int (ZAQ I q ZJX)
    | str j=>obtain ⟨t',rfl⟩:=ry;exact PySem.EqMixed.eq_int_str (ZAQ I q (by simp))
    | _=>exact absurd (show false=true from hs) Bool.false_ne_true
  | str i=>
    obtain ⟨t,rfl⟩:=rx
    cases y with
    | non=>cases ry;exact PySem.EqNone.eq_str_none (ZAQ I q (by simp))
    | bl j=>cases ry;exact PySem.EqMixed.eq_str_bool (ZAQ I q (by simp))
    | int j=>obtain ⟨t',rfl⟩:=ry;exact PySem.EqMixed.eq_str_int (ZAQ I q (by simp))
    | str j=>obtain ⟨t',rfl⟩:=ry;exact eq_str (ZAQ I q ZJq)
    | _=>exact absurd (show false=true from hs) Bool.false_ne_true
  | byt i=>
    obtain ⟨t,rfl⟩:=rx
    cases y with
    | byt j=>obtain ⟨t',rfl⟩:=ry;exact PySem.W.eq_bytes (ZAQ I q ZJx)
    | _=>exact absurd (show false=true from hs) Bool.false_ne_true
  | _=>cases y <;> exact absurd (show false=true from hs) Bool.false_ne_true
theorem op_ne:OpR X (compareOp .NotEq) rNe:=by
  intro pins s σ H x y v u Q I rx ry h
  obtain ⟨hs,q⟩:=h
  cases x with
  | non=>
    cases rx
    cases y with
    | non=>cases ry;exact PySem.EqNone.ne_none_none (ZAQ I q (by simp))
    | bl j=>cases ry;exact PySem.EqNone.ne_none_bool (ZAQ I q (by simp))
    | int j=>obtain ⟨t',rfl⟩:=ry;exact PySem.EqNone.ne_none_int (ZAQ I q (by simp))
    | str j=>obtain ⟨t',rfl⟩:=ry;exact PySem.EqNone.ne_none_str (ZAQ I q (by simp))
    | _=>exact absurd (show false=true from hs) Bool.false_ne_true
  | bl i=>
    cases rx
    cases y with
    | non=>cases ry;exact PySem.EqNone.ne_bool_none (ZAQ I q (by simp))
    | bl j=>cases ry;exact ne_bool (ZAQ I q (congrArg not dec_bl))
    | str j=>obtain ⟨t',rfl⟩:=ry;exact PySem.EqMixed.ne_bool_str (ZAQ I q (by simp))
    | _=>exact absurd (show false=true from hs) Bool.false_ne_true
  | int i=>
    obtain ⟨t,rfl⟩:=rx
    cases y with
    | non=>cases ry;exact PySem.EqNone.ne_int_none (ZAQ I q (by simp))
    | int j=>obtain ⟨t',rfl⟩:=ry;exact ne_int (ZAQ I q (congrArg not ZJX))
    | str j=>obtain ⟨t',rfl⟩:=ry;exact PySem.EqMixed.ne_int_str (ZAQ I q (by simp))
    | _=>exact absurd (show false=true from hs) Bool.false_ne_true
  | str i=>
    obtain ⟨t,rfl⟩:=rx
    cases y with
    | non=>cases ry;exact PySem.EqNone.ne_str_none (ZAQ I q (by simp))
    | bl j=>cases ry;exact PySem.EqMixed.ne_str_bool (ZAQ I q (by simp))
    | int j=>obtain ⟨t',rfl⟩:=ry;exact PySem.EqMixed.ne_str_int (ZAQ I q (by simp))
    | str j=>obtain ⟨t',rfl⟩:=ry;exact ne_str (ZAQ I q (congrArg not ZJq))
    | _=>exact absurd (show false=true from hs) Bool.false_ne_true
  | byt i=>
    obtain ⟨t,rfl⟩:=rx
    cases y with
    | byt j=>obtain ⟨t',rfl⟩:=ry;exact PySem.W.ne_bytes (ZAQ I q (congrArg not ZJx))
    | _=>exact absurd (show false=true from hs) Bool.false_ne_true
  | _=>cases y <;> exact absurd (show false=true from hs) Bool.false_ne_true
theorem ZGU:OpR X (compareOp .Lt) (rI0 fun i j=>.bl (decide (i < j))):=opB0 fun _ _ _ _ _ _ _ q=>lt_int q
theorem ZCh:OpR X (compareOp .LtE) (rI0 fun i j=>.bl (decide (i≤j))):=opB0 fun _ _ _ _ _ _ _ q=>le_int q
theorem op_gt:OpR X (compareOp .Gt) (rI0 fun i j=>.bl (decide (j < i))):=opB0 fun _ _ _ _ _ _ _ q=>gt_int q
theorem ZHz:OpR X (compareOp .GtE) (rI0 fun i j=>.bl (decide (j≤i))):=opB0 fun _ _ _ _ _ _ _ q=>ge_int q
theorem ZKj:OpR X (compareOp .In) (fun x y H Q=>∃ i j,x=.str i∧y=.str j∧Q (.bl (!(Builtin.Str.occurrences j i 0 j.length 1).isEmpty)) H):=by
  intro pins s σ H x y v u Q I rx ry h
  obtain ⟨i,j,rfl,rfl,q⟩:=h
  obtain ⟨t,rfl⟩:=rx
  obtain ⟨t',rfl⟩:=ry
  exact in_str (ZAQ I q rfl)
theorem op_isN:OpR X (compareOp .Is) (fun x y H Q=>y=.non∧Q (.bl (decide (x=.non))) H):=by
  intro pins s σ H x y v u Q I rx ry h
  obtain ⟨rfl,q⟩:=h
  cases ry
  refine is_none_gen (ZAQ I q ?_)
  cases x <;> first
    | (cases rx;rfl)
    | (obtain ⟨t,rfl⟩:=rx;rfl)
theorem op_notN:OpR X (compareOp .IsNot) (fun x y H Q=>y=.non∧Q (.bl (!decide (x=.non))) H):=by
  intro pins s σ H x y v u Q I rx ry h
  obtain ⟨rfl,q⟩:=h
  cases ry
  refine isnot_none_gen (ZAQ I q ?_)
  cases x <;> first
    | (cases rx;rfl)
    | (obtain ⟨t,rfl⟩:=rx;rfl)
theorem ZAF (b:Expr) {op:CmpOp} (h:op≠.In:=by decide) (h2:op≠.NotIn:=by decide):behindInMarks op b=false:=by
  have e1:(op == CmpOp.In)=false:=by cases op <;> first | rfl | exact absurd rfl h
  have e2:(op == CmpOp.NotIn)=false:=by cases op <;> first | rfl | exact absurd rfl h2
  cases b <;> simp [behindInMarks,e1,e2]
theorem pe_cmpR {op:CmpOp} {r:R2} (ho:OpR X (compareOp op) r) (ha:PE X a ta) (hb:PE X b tb) (hm:behindInMarks op b=false):PE X (.Compare a [op] [b] pos) (tOp r ta tb):=by
  intro pins s σ H Q I h
  exact wpAny_Compare1 (binT ha hb I h fun v u s2 x y H2 I2 rx ry q=>ho pins s2 σ H2 x y v u Q I2 rx ry q) hm
def ZID (t:TE):TT:=fun σ H Q=>t σ H fun x H'=>∃ k,x=.bl k∧Q k H'
theorem pt_cmpR {op:CmpOp} {r:R2} (ho:OpR X (compareOp op) r) (ha:PE X a ta) (hb:PE X b tb) (hm:behindInMarks op b=false):PT X (.Compare a [op] [b] pos) (ZID (tOp r ta tb)):=by
  intro pins s σ H Q I h
  refine wpAny_isTrue_Compare1 (thn (ha pins s σ H _ I h) fun v s1 ⟨x,H1,I1,r1,q1⟩=>thn (hb pins s1 σ H1 _ I1 q1) fun u s2 ⟨y,H2,I2,r2,q2⟩=>
    thn (ho pins s2 σ H2 x y v u _ I2 r1 r2 q2) fun c s3 ⟨z,H3,I3,r3,k,e,q3⟩=>?_) hm
  subst e
  cases r3
  exact wpAny_truthy_bool ⟨H3,I3,q3⟩
def ZFA (r r':R2) (ta tb tc:TE):TE:=fun σ H Q=>ta σ H fun x H1=>tb σ H1 fun y H2=>r x y H2 fun z H3=>∃ k,z=.bl k∧
  (if k=true then tc σ H3 fun w' H4=>r' y w' H4 Q else Q (.bl false) H3)
theorem pe_chain {op op':CmpOp} {r r':R2} (ho:OpR X (compareOp op) r) (ho':OpR X (compareOp op') r') (ha:PE X a ta) (hb:PE X b tb) (hc:PE X c tc)
    (hm:lastMarks [op,op'] [b,c]=false:=by with_unfolding_all rfl):PE X (.Compare a [op,op'] [b,c] pos) (ZFA r r' ta tb tc):=by
  intro pins s σ H Q I h
  refine Compare_chain (thn (ha pins s σ H _ I h) fun v s1 ⟨x,H1,I1,r1,q1⟩=>chain_link (thn (hb pins s1 σ H1 _ I1 q1) fun u s2 ⟨y,H2,I2,r2,q2⟩=>
    thn (ho pins s2 σ H2 x y v u _ I2 r1 r2 q2) fun d s3 ⟨z,H3,I3,r3,k,e,q3⟩=>?_)) hm
  subst e
  cases r3
  refine wpAny_truthy_bool ?_
  cases k with
  | false=>exact ite_ff ⟨.bl false,H3,I3,rfl,q3⟩
  | true=>exact ite_tt (chain_last (thn (hc pins s3 σ H3 _ I3 q3) fun w' s4 ⟨z',H4,I4,r4,q4⟩=>ho' pins s4 σ H4 y z' u w' Q I4 r2 r4 q4))
theorem pt_chain {op op':CmpOp} {r r':R2} (ho:OpR X (compareOp op) r) (ho':OpR X (compareOp op') r') (ha:PE X a ta) (hb:PE X b tb) (hc:PE X c tc)
    (hm:lastMarks [op,op'] [b,c]=false:=by with_unfolding_all rfl):PT X (.Compare a [op,op'] [b,c] pos) (ZID (ZFA r r' ta tb tc)):=by
  intro pins s σ H Q I h
  refine isTrue_chain (thn (ha pins s σ H _ I h) fun v s1 ⟨x,H1,I1,r1,q1⟩=>test_link (thn (hb pins s1 σ H1 _ I1 q1) fun u s2 ⟨y,H2,I2,r2,q2⟩=>
    thn (ho pins s2 σ H2 x y v u _ I2 r1 r2 q2) fun d s3 ⟨z,H3,I3,r3,k,e,q3⟩=>?_)) hm
  subst e
  cases r3
  refine wpAny_truthy_bool ?_
  cases k with
  | false=>
    obtain ⟨k',e',q'⟩:=q3
    cases e'
    exact ite_ff ⟨H3,I3,q'⟩
  | true=>
    refine ite_tt (test_last (thn (hc pins s3 σ H3 _ I3 q3) fun w' s4 ⟨z',H4,I4,r4,q4⟩=>thn (ho' pins s4 σ H4 y z' u w' _ I4 r2 r4 q4) fun d' s5 ⟨z2,H5,I5,r5,k2,e2,q5⟩=>?_))
    subst e2
    cases r5
    exact wpAny_truthy_bool ⟨H5,I5,q5⟩
theorem ZCN:(sizeLine:Nat) < 2 ^ 63:=by rw [sizeLine_eq];decide
theorem ZFI:OpR X (binaryOp .Add) (fun x y H Q=>∃ i j,x=.str i∧y=.str j∧i.length+j.length≤sizeLine∧Q (.str (i++j)) H):=by
  intro pins s σ H x y v u Q I rx ry h
  obtain ⟨i,j,rfl,rfl,hz,q⟩:=h
  obtain ⟨t,rfl⟩:=rx
  obtain ⟨t',rfl⟩:=ry
  exact add_str (fun t' tk=>⟨.str (i++j),H,I.tok _,⟨_,rfl⟩,q⟩) hz
theorem ZCl {x:V} {us:List Value} (r:Vals [x] us):∃ u,us=[u]∧RelV x u:=by
  cases r with
  | cons r1 r2=>cases r2;exact ⟨_,rfl,r1⟩
theorem vals2 {x y:V} {us:List Value} (r:Vals [x,y] us):∃ u w',us=[u,w']∧RelV x u∧RelV y w':=by
  cases r with
  | cons r1 r2=>
    cases r2 with
    | cons r3 r4=>cases r4;exact ⟨_,_,rfl,r1,r3⟩
theorem ZKk (hc:X.calm=true):ZBr X (.builtin "max") (fun xs H Q=>∃ i j,xs=[.int i,.int j]∧Q (.int (if j > i then j else i)) H):=by
  intro pins s σ H xs us Q I r h
  obtain ⟨i,j,rfl,q⟩:=h
  obtain ⟨u,w',rfl,⟨t,rfl⟩,⟨t',rfl⟩⟩:=vals2 r
  refine max_two_ints (I.ok.hd hc) fun h' tk k=>⟨_,H,I.kept k,?_,q⟩
  by_cases hj:j > i
  · rw [if_pos hj,if_pos hj];exact ⟨_,rfl⟩
  · rw [if_neg hj,if_neg hj];exact ⟨_,rfl⟩
theorem ZKP (hc:X.calm=true):ZBr X (.builtin "min") (fun xs H Q=>∃ i j,xs=[.int i,.int j]∧Q (.int (if j < i then j else i)) H):=by
  intro pins s σ H xs us Q I r h
  obtain ⟨i,j,rfl,q⟩:=h
  obtain ⟨u,w',rfl,⟨t,rfl⟩,⟨t',rfl⟩⟩:=vals2 r
  refine min_two_ints (I.ok.hd hc) fun h' tk k=>⟨_,H,I.kept k,?_,q⟩
  by_cases hj:j < i
  · rw [if_pos hj,if_pos hj];exact ⟨_,rfl⟩
  · rw [if_neg hj,if_neg hj];exact ⟨_,rfl⟩
end
end L2
namespace L2
open PySem PySem.Spec PyProof.Rows
section
variable {prog:Program} {w:World} {A:Around} {E:Value→Shared→Prop} {s:Shared} {K:PySem.W.Frag} {x dx C f:Addr} {mA:Str→Option Value} {name:Str} {v:Value}
end
theorem RelO.some_of {v:V} {o:Option Value} (r:RelO (some v) o):∃ u,o=some u∧RelV v u:=by
  cases o with
  | none=>exact (show False from r).elim
  | some u=>exact ⟨u,rfl,r⟩
section
variable {P:Program} {w:World} {H H':Hp} {h h':Heap} {a C dx:Addr} {fs fs':List (Str×V)}
end
section
variable {X:Cx} {pins:List (Addr×Obj)} {σ:St} {H:Hp} {s:Shared} {a C dx:Addr} {fs:List (Str×V)} {f:Str} {v:V} {A:Around} {E:Value→Shared→Prop}
end
section
variable {X:Cx} {o e value:Expr} {f:Str} {pos pos' tpos:Pos} {ta tv:TE}
end
section
variable {X:Cx} {pins:List (Addr×Obj)} {σ:St} {H:Hp} {s:Shared} {A:Around} {E:Value→Shared→Prop} {Q:Value→Shared→Prop} {c:Value} {b:Bool}
end
end L2
namespace L2
open PySem PySem.Spec PyProof.Rows
structure Room (k:Nat) (A:Around):Prop where
  hd:A.handled=none
  dp:A.depth+3 * k+5 < recursionLimit
  un:A.units+16 * k+200 < cLine
theorem Room.mono {j k:Nat} {A:Around} (r:Room k A) (h:j≤k):Room j A:=⟨r.hd,by have:=r.dp;omega,by have:=r.un;omega⟩
theorem Room.deeper {k:Nat} {A:Around} (r:Room (k+1) A) (env:Env):Room k (A.deeper env):=
  ⟨r.hd,by have:=r.dp;show A.depth+1+3 * k+5 < _;omega,by have:=r.un;show A.units+3+16 * k+200 < _;omega⟩
theorem Room.depth {k:Nat} {A:Around} (r:Room k A):A.depth < recursionLimit:=by have:=r.dp;omega
theorem Room.units {k:Nat} {A:Around} (r:Room k A):A.units+64 < cLine:=by have:=r.un;omega
theorem Room.units0 {k:Nat} {A:Around} (r:Room k A):A.units < cLine:=by have:=r.un;omega
def ZAa:TA:=fun _ H Q=>Q [] H
def ZAA (ta:TE) (tr:TA):TA:=fun σ H Q=>ta σ H fun x H1=>tr σ H1 fun xs H2=>Q (x :: xs) H2
section
variable {X:Cx} {e:Expr} {es:List Expr} {te:TE} {t:TA} {pos:Pos}
theorem pa_nil:PA X [] ZAa:=fun _ _ _ _ H Q I h=>Calls.spliced_nil ⟨[],H,I,.nil,h⟩
theorem pa_cons (ha:PE X e te) (hr:PA X es t) (hs:starEach (e :: es) X.env=(false,eval e X.env) :: starEach es X.env:=by rfl):PA X (e :: es) (ZAA te t):=by
  intro pos pins s σ H Q I h
  rw [hs]
  show wpAny _ _ (spliced ((false,eval e X.env) :: backTo pos (starEach es X.env))) _ _ s
  refine Calls.spliced_cons (thn (ha pins s σ H _ I h) fun u s1 ⟨x,H1,I1,r1,q1⟩=>?_)
  exact thn (hr pos pins s1 σ H1 _ I1 q1) fun us s2 ⟨xs,H2,I2,r2,q2⟩=>⟨x :: xs,H2,I2,.cons r1 r2,q2⟩
def tTup (t:TA):TE:=fun σ H Q=>t σ H fun xs H1=>xs.length≤sizeLine∧∀ p,H1 p=none→Q (.ref p) (upd H1 p (.tup xs))
def tLst (t:TA):TE:=fun σ H Q=>t σ H fun xs H1=>xs.length≤sizeLine∧∀ p,H1 p=none→Q (.ref p) (upd H1 p (.lst xs))
theorem pe_tup {x1} (h:PA X es t):PE X (.Tuple es x1 pos) (tTup t):=by
  intro pins s σ H Q I hq
  refine wpAny_Tuple_spliced (thn (h pos pins s σ H _ I hq) fun us s1 ⟨xs,H1,I1,r,z,q⟩=>⟨by rw [← r.length];exact z,?_⟩)
  have hf:H1 s1.heap.objs.size=none:=I1.hok.fresh (Nat.le_refl _)
  refine ⟨.ref s1.heap.objs.size,upd H1 s1.heap.objs.size (.tup xs),I1.laid (t':=s1.toks) (fun b u e=>Heap.get?_push_of_some _ e) (Nat.le_refl _) ?_,rfl,q _ hf⟩
  exact ⟨z,us,r,⟨_,Heap.get?_push_size _ rfl,rfl,_,rfl⟩,fun ob' e'=>by rw [Heap.get?_push_size _ rfl] at e';cases e';rfl⟩
theorem pe_lst (h:PA X es t):PE X (.List es pos) (tLst t):=by
  intro pins s σ H Q I hq
  refine wpAny_List_spliced (thn (h pos pins s σ H _ I hq) fun us s1 ⟨xs,H1,I1,r,z,q⟩=>⟨by rw [← r.length];exact z,?_⟩)
  have hf:H1 s1.heap.objs.size=none:=I1.hok.fresh (Nat.le_refl _)
  refine ⟨.ref s1.heap.objs.size,upd H1 s1.heap.objs.size (.lst xs),I1.laid (t':=s1.toks) (fun b u e=>Heap.get?_push_of_some _ e) (Nat.le_refl _) ?_,rfl,q _ hf⟩
  exact ⟨z,us,0,r,Heap.get?_push_size _ rfl⟩
end
abbrev Sp:=List V→Hp→VK→XK→Prop
abbrev CXT:=List Env→Hp→Shared→XK→Value→Shared→Prop
structure Env0 (P:Program) (w:World) (K:PySem.W.Frag) (mg:Str→Option Value) (base:Heap) (A:Around) (outer:List Env) (s:Shared) (H:Hp):Prop where
  frames:A.frames=some outer
  mod:Mod K mg base
  bs:∀ b o,base.get? b=some o→s.heap.get? b=some o∧H b=none
  bsz:base.objs.size≤s.heap.objs.size
  funs:s.heap.FunFrames base outer
  frf:∀ b∈frs outer,H b=none
  hok:HOk P w H s.heap
  bare:AllBare s.gens
def CE (outer:List Env) (P:Program) (w:World) (H:Hp) (s:Shared) (Q:VK) (u:Value) (s':Shared):Prop:=
  ∃ v H',s'.os=s.os∧AllBare s'.gens∧Un (frs outer) [] H H' s.heap s'.heap∧HOk P w H' s'.heap∧RelV v u∧Q v H'
def CR (CX:CXT) (outer:List Env) (P:Program) (w:World) (H:Hp) (s:Shared) (Q:VK) (E:XK) (r:Result) (s':Shared):Prop:=
  match r with
  | .ok (.ret u)=>CE outer P w H s Q u s'
  | .ok _=>False
  | .error e=>CX outer H s E e s'
structure FnOk (P:Program) (w:World) (K:PySem.W.Frag) (mg:Str→Option Value) (base:Heap) (CX:CXT) (k:Nat) (f:Addr) (fd:FuncData) (ps:List Str) (sp:Sp):Prop where
  len:∀ vs H Q E,sp vs H Q E→vs.length=ps.length
  run:∀ (A:Around) (outer:List Env) (s:Shared) (H:Hp) (args:Args) (us:List Value) (vs:List V) (Q:VK) (E:XK),Room k A→Env0 P w K mg base A outer s H→BindsTo s fd args (ps.zip us)→Vals vs us→sp vs H Q E→
    codeAny (model P w) A (.call (.ref f) args) (CR CX outer P w H s Q E) s
theorem FnOk.mono {P:Program} {w:World} {K:PySem.W.Frag} {mg:Str→Option Value} {base:Heap} {CX:CXT} {j k:Nat} {f:Addr} {fd:FuncData} {ps:List Str} {sp:Sp} (F:FnOk P w K mg base CX j f fd ps sp) (h:j≤k) :
    FnOk P w K mg base CX k f fd ps sp:=⟨F.len,fun A outer s H args us vs Q E hr=>F.run A outer s H args us vs Q E (hr.mono h)⟩
section
variable {X:Cx} {pins:List (Addr×Obj)} {σ:St} {H:Hp} {s s':Shared}
theorem Inv.env0 (I:Inv X pins σ H s):Env0 X.prog X.w X.K X.mg X.base X.A X.stack s H:=
  ⟨I.ok.frames,I.ok.mod,I.bs,Nat.le_trans I.ok.bsz I.sz,I.stack,I.stkFree,I.hok,I.bare⟩
theorem Inv.after {Q:VK} {u:Value} (I:Inv X pins σ H s) (h:CE X.stack X.prog X.w H s Q u s'):EP X pins σ Q u s':=by
  obtain ⟨v,H',os,bare,un,hok,r,q⟩:=h
  obtain ⟨hh,g,d,t,os'⟩:=s'
  obtain rfl:os'=s.os:=os
  exact ⟨v,H',I.call (h':=hh) (g':=g) (d':=d) (t':=t) (ch:=[]) un hok bare (fun b z=>absurd z (by simp)),r,q⟩
end
def ZAo (sp:Sp) (dvs:List V) (E:XK) (t:TA):TE:=fun σ H Q=>t σ H fun vs H1=>sp (vs++dvs) H1 Q E
def Binds (K:PySem.W.Frag) (fd:FuncData) (ps:List Str) (ds:List Value):Prop:=
  ∀ (s:Shared) (us:List Value),K.In s.heap→(us++ds).length=ps.length→BindsTo s fd ⟨us,[]⟩ (ps.zip (us++ds))
theorem Binds.all {K:PySem.W.Frag} {fd:FuncData} {ps:List Str} (h:∀ us:List Value,us.length=ps.length→bindArgs fd ⟨us,[]⟩=pure (ps.zip us)):Binds K fd ps []:=fun s us _ hl=>by
  rw [List.append_nil] at hl ⊢
  exact .of_eq (h us hl)
def ZJA (CX:CXT) (X:Cx) (E:XK):Prop:=∀ (pins:List (Addr×Obj)) (σ:St) (H:Hp) (s:Shared) (e:Value) (s':Shared),Inv X pins σ H s→CX X.stack H s E e s'→X.xe e s'
section
variable {X:Cx} {CX:CXT} {k:Nat} {f C:Addr} {fd:FuncData} {ps:List Str} {sp:Sp} {dvs:List V} {ds:List Value} {E:XK} {x m:Str} {p pos apos:Pos} {e o:Expr} {es:List Expr} {ta:TE} {t:TA}
theorem run_fn {pins:List (Addr×Obj)} {σ:St} {H:Hp} {s:Shared} {Q:VK} {us:List Value} {vs:List V} (F:FnOk X.prog X.w X.K X.mg X.base CX k f fd ps sp) (hr:Room k X.A) (hb:Binds X.K fd ps ds) (hd:Vals dvs ds) (hx:ZJA CX X E)
    (I:Inv X pins σ H s) (r:Vals vs us) (h:sp (vs++dvs) H Q E):wpAny (model X.prog X.w) X.A (call (.ref f) us) (EP X pins σ Q) X.xe s:=by
  have r2:Vals (vs++dvs) (us++ds):=r.append hd
  have hl:(us++ds).length=ps.length:=by rw [← r2.length];exact F.len _ _ _ _ h
  refine wpAny_call (codeAny_mono (F.run X.A X.stack s H ⟨us,[]⟩ (us++ds) (vs++dvs) Q E hr I.env0 (hb s us I.kIn hl) r2 h) fun r s' hq=>?_)
  cases r with
  | error e=>exact hx pins σ H s e s' I hq
  | ok fl=>
    cases fl with
    | ret u=>exact I.after hq
    | next=>exact False.elim hq
    | brk=>exact False.elim hq
    | cont=>exact False.elim hq
theorem pe_call (F:FnOk X.prog X.w X.K X.mg X.base CX k f fd ps sp) (hr:Room k X.A) (hg:Gl X x) (hm:X.mg x=some (.ref f)) (hk:PySem.W.keepIn X.K (.ref f)=true) (hb:Binds X.K fd ps ds) (hd:Vals dvs ds) (hx:ZJA CX X E)
    (ha:PA X (e :: es) t) (hdb:(x == ("__debug__" : Str))=false:=by decide) (he:starEach (e :: es) X.env=(false,eval e X.env) :: starEach es X.env:=by rfl) (hpl:(backTo pos (starEach es X.env)).any (·.1)=false:=by rfl) :
    PE X (.Call (.Name x p) (e :: es) [] pos) (ZAo sp dvs E t):=by
  intro pins s σ H Q I h
  refine wpAny_Call_Name_kw (ZJv I hg hm ?_ hdb)
  refine PySem.W.callWith_K (h₀:=X.base) I.ok.mod.kin hk (thn (ha pos pins s σ H _ I h) fun us s1 ⟨vs,H1,I1,r,q⟩=>⟨I1.kIn,?_⟩) he hpl
  exact run_fn F hr hb hd hx I1 r q
end
section
variable {X:Cx} {CX:CXT} {k:Nat} {f C:Addr} {fd:FuncData} {ps ks:List Str} {sp:Sp} {E:XK} {x m:Str} {p pos apos kpos:Pos} {e o:Expr} {es:List Expr} {kws:List Keyword} {te ta:TE} {t tk:TA} {nm:Option Str}
variable {g:List Value→List Value→List Value} {gV:List V→List V→List V}
end
structure FnScope (N P:List Str) (sc:Scope):Prop where
  kind:sc.kind=.function
  co:sc.isCoroutine=false
  gen:sc.isGenerator=false
  nd:N.Nodup
  pre:N.take P.length=P
  par:∀ x∈P,sc.names.lookup x=some .local∨sc.names.lookup x=some .cell
  nofree:∀ y∈sc.names,y.2≠.free
theorem ZGf {kindOf:Str→Option NameKind} {x:Str}:∀ {binds:List (Str×Value)} {m:Str→Option Value},(∀ v,(x,v)∉binds)→bindL kindOf binds m x=m x
  | [],_,_=>rfl
  | (n,v) :: r,m,h=>by
    unfold bindL
    rw [ZGf fun w hw=>h w (List.mem_cons_of_mem _ hw)]
    split
    · have:x≠n:=by rintro rfl;exact h v List.mem_cons_self
      simp [this]
    · rfl
theorem ZGL {kindOf:Str→Option NameKind} {x:Str}:∀ {binds:List (Str×Value)} {m:Str→Option Value},(∀ v,(x,v)∉binds)→bindC kindOf binds m x=m x
  | [],_,_=>rfl
  | (n,v) :: r,m,h=>by
    unfold bindC
    rw [ZGL fun w hw=>h w (List.mem_cons_of_mem _ hw)]
    split
    · rfl
    · have:x≠n:=by rintro rfl;exact h v List.mem_cons_self
      simp [this]
theorem ZGD {kindOf:Str→Option NameKind} {x:Str} {v:Value}:∀ {P:List Str} {vs:List Value} {i:Nat} {m:Str→Option Value},P.Nodup→P[i]?=some x→vs[i]?=some v→kindOf x=some .local→
    bindL kindOf (P.zip vs) m x=some v
  | [],_,_,_,_,h,_,_=>by simp at h
  | _ :: _,[],_,_,_,_,h,_=>by simp at h
  | p :: P,w :: vs,0,m,nd,h1,h2,hk=>by
    simp at h1 h2;subst h1;subst h2
    show bindL kindOf ((p,w) :: P.zip vs) m p=_
    unfold bindL
    rw [ZGf fun v hv=>(List.nodup_cons.mp nd).1 (List.of_mem_zip hv).1,if_pos hk]
    simp
  | p :: P,w :: vs,i+1,m,nd,h1,h2,hk=>by
    show bindL kindOf ((p,w) :: P.zip vs) m x=_
    unfold bindL
    exact ZGD (i:=i) (List.nodup_cons.mp nd).2 (by simpa using h1) (by simpa using h2) hk
theorem ZGW {kindOf:Str→Option NameKind} {x:Str} {v:Value}:∀ {P:List Str} {vs:List Value} {i:Nat} {m:Str→Option Value},P.Nodup→P[i]?=some x→vs[i]?=some v→kindOf x≠some .local→
    bindC kindOf (P.zip vs) m x=some v
  | [],_,_,_,_,h,_,_=>by simp at h
  | _ :: _,[],_,_,_,_,h,_=>by simp at h
  | p :: P,w :: vs,0,m,nd,h1,h2,hk=>by
    simp at h1 h2;subst h1;subst h2
    show bindC kindOf ((p,w) :: P.zip vs) m p=_
    unfold bindC
    rw [ZGL fun v hv=>(List.nodup_cons.mp nd).1 (List.of_mem_zip hv).1,if_neg hk]
    simp
  | p :: P,w :: vs,i+1,m,nd,h1,h2,hk=>by
    show bindC kindOf ((p,w) :: P.zip vs) m x=_
    unfold bindC
    exact ZGW (i:=i) (List.nodup_cons.mp nd).2 (by simpa using h1) (by simpa using h2) hk
def start (N:List Str) (vs:List V):St:=vs.map some++List.replicate (N.length - vs.length) none
def cxOf (CX:CXT) (P:Program) (w:World) (K:PySem.W.Frag) (mg:Str→Option Value) (base:Heap) (N:List Str) (qual:Str) (scope:Scope) (f:Addr) (cd:Value) (A:Around) (outer:List Env) (s:Shared) (H:Hp) (E:XK):Cx where
  prog:=P
  w:=w
  K:=K
  mg:=mg
  base:=base
  A:=A.deeper (envOfC qual scope s.heap.objs.size f cd)
  N:=N
  s₀:=s
  H₀:=H
  env:=envOfC qual scope s.heap.objs.size f cd
  outer:=outer
  stack:=envOfC qual scope s.heap.objs.size f cd :: outer
  ex:=[]
  calm:=true
  fn:=fun _=>true
  pn:=[]
  xe:=fun e s'=>wpAny (model P w) (A.deeper (envOfC qual scope s.heap.objs.size f cd)) (leaving (envOfC qual scope s.heap.objs.size f cd) e) (fun _ s''=>CX outer H s E e s'') (fun e' s''=>CX outer H s E e' s'') s'
theorem ZIR {sc:Scope} {n:Nat} {x:Str} (h:sc.names.lookup x=some .cell):∃ c,(cellsFrom n sc.names []).lookup x=some c:=by
  have q:=PySem.W.cellsFrom_some sc.names n [] (.inl h)
  exact Option.isSome_iff_exists.mp q
theorem ZKh {CX:CXT} {P:Program} {w:World} {K:PySem.W.Frag} {mg:Str→Option Value} {base:Heap} {N ps:List Str} {qual:Str} {scope:Scope} {f:Addr} {cd:Value} {A:Around} {outer:List Env} {s s1:Shared} {H:Hp} {E:XK} {us:List Value} {vs:List V}
    (S:FnScope N ps scope) (hd:A.handled=none) (e0:Env0 P w K mg base A outer s H) (hl:vs.length=ps.length) (r:Vals vs us)
    (x:InCallC s s.heap.objs.size (bindL (envOfC qual scope s.heap.objs.size f cd).kindOf (ps.zip us) fun _=>none) (cellsFrom (s.heap.objs.size+1) scope.names []) (bindC (envOfC qual scope s.heap.objs.size f cd).kindOf (ps.zip us) fun _=>none) s1) :
    Inv (cxOf CX P w K mg base N qual scope f cd A outer s H E) [] (start N vs) H s1:=by
  have hpl:ps.length≤N.length:=by have:=congrArg List.length S.pre;rw [List.length_take] at this;omega
  obtain ⟨h1,tk,rfl,hk⟩:=x.done
  have noA:∀ b:Addr,b∉(cxOf CX P w K mg base N qual scope f cd A outer s H E).ex:=fun b z=>absurd (show b∈([]:List Addr) from z) (by simp)
  refine ⟨⟨e0.mod,S.kind,rfl,rfl,Nat.le_refl _,fun y z c h1 h2=>?_,fun y hy=>?_,fun y c _ h=>?_,fun _=>hd,Around.frames_deeper e0.frames,.inr ⟨rfl,rfl⟩,fun b z=>absurd z (noA b),e0.bs,e0.bsz,fun b _ _=>noA b,fun b z=>absurd z (noA b),e0.funs,e0.frf⟩,
    rfl,e0.bare,Un.kept hk,⟨_,x.toInCall.ns,fun i y v h1 h2 h3=>?_⟩,fun y c h=>⟨_,x.cell y c h⟩,e0.hok.fresh (Nat.le_refl _),fun y c h=>?_,fun p hp=>absurd (show p∈([]:List (Addr×Obj)) from hp) (by simp),e0.hok.kept hk,?_⟩
  · exact name_of_addr x.apart (PySem.mem_of_lookup h1) (PySem.mem_of_lookup h2)
  · have hy:scope.names.lookup y=some .cell∨scope.names.lookup y=some .free:=hy
    rcases hy with hy | hy
    · exact ZIR hy
    · exact absurd rfl (S.nofree _ (PySem.mem_of_lookup hy))
  · exact Nat.le_of_lt (x.above y c (PySem.mem_of_lookup h))
  · have hi:i < vs.length:=by
      unfold start at h2
      by_cases hi:i < vs.length
      · exact hi
      · rw [List.getElem?_append_right (by simpa using hi)] at h2
        rw [List.getElem?_replicate] at h2
        split at h2 <;> cases h2
    have ha:vs[i]?=some v:=by
      unfold start at h2
      rw [List.getElem?_append_left (by simpa using hi),List.getElem?_map] at h2
      cases e:vs[i]? with
      | none=>rw [e] at h2;cases h2
      | some a=>rw [e] at h2;cases h2;rfl
    obtain ⟨u,hu,rv⟩:=r.get ha
    have hp:ps[i]?=some y:=by
      rw [← S.pre,List.getElem?_take_of_lt (by omega)];exact h1
    have ndP:ps.Nodup:=by rw [← S.pre];exact S.nd.sublist (List.take_sublist _ _)
    refine ⟨u,rv,?_⟩
    rcases S.par y (List.mem_of_getElem? hp) with k | k
    · exact .inl ⟨k,ZGD ndP hp hu k⟩
    · obtain ⟨c,e⟩:=ZIR (n:=s.heap.objs.size+1) k
      refine .inr ⟨.inl k,c,e,?_⟩
      have q:=x.cell y c e
      rw [ZGW ndP hp hu (by show scope.names.lookup y≠_;rw [k];decide)] at q
      exact q
  · exact e0.hok.fresh (Nat.le_of_lt (x.above y c (PySem.mem_of_lookup h)))
  · unfold start
    show _=N.length
    rw [List.length_append,List.length_map,List.length_replicate]
    omega
theorem fn_of {CX:CXT} {P:Program} {w:World} {K:PySem.W.Frag} {mg:Str→Option Value} {base:Heap} {k:Nat} {f:Addr} {name qual:Str} {params:Arguments} {body:List Stmt} {scope:Scope} {dV kV doc pm cdv ct oc:Value} {an od:Option Addr}
    {osl:Array (Option Value)} {N ps:List Str} {sp:Sp} (lk:K.lookup f=some ⟨oc,od,.func (PySem.W.fnOf name qual params body scope dV kV doc pm an cdv ct),osl⟩) (hcd:PySem.W.codeIn K cdv qual=true) (S:FnScope N ps scope)
    (len:∀ vs H Q E,sp vs H Q E→vs.length=ps.length)
    (hbody:∀ (A:Around) (outer:List Env) (s:Shared) (H:Hp) (vs:List V) (Q:VK) (E:XK),Room k (A.deeper (envOfC qual scope s.heap.objs.size f cdv))→sp vs H Q E→
      ∃ t,PSs (cxOf CX P w K mg base N qual scope f cdv A outer s H E) body t∧t { nx:=fun _ H'=>Q .non H',rt:=Q } (start N vs) H) :
    FnOk P w K mg base CX (k+1) f (PySem.W.fnOf name qual params body scope dV kV doc pm an cdv ct) ps sp:=by
  refine ⟨len,fun A outer s H args us vs Q E hr e0 hb r hsp=>?_⟩
  have hl:=len _ _ _ _ hsp
  have KX:K.In s.heap:=e0.mod.kin.keeps fun b o e=>(e0.bs b o e).1
  have lim:s.heap.NoLimit:=e0.mod.nolimit.keeps fun b o e=>(e0.bs b o e).1
  have hkind:∀ y∈ps.zip us,scope.names.lookup y.1=some .local∨(scope.names.lookup y.1=some .cell∧((cellsFrom (s.heap.objs.size+1) scope.names []).lookup y.1).isSome=true):=fun ⟨n,v⟩ hy=>by
    rcases S.par n (List.of_mem_zip hy).1 with q | q
    · exact .inl q
    · exact .inr ⟨q,PySem.W.cellsFrom_some _ _ _ (.inl q)⟩
  refine codeAny_call_function hr.depth (KX _ _ lk) rfl S.co S.gen rfl (PySem.W.codeRec_of KX hcd) (hb _ _ _ _ ?_)
  refine wpAny_newFunctionEnv_cells S.kind hkind fun env he s1 x=>?_
  subst he
  refine ⟨lim.keeps x.toInCall.keep,codeAny_func ?_⟩
  obtain ⟨t,ht,hq⟩:=hbody A outer s H vs Q E (hr.deeper _) hsp
  have I:Inv (cxOf CX P w K mg base N qual scope f cdv A outer s H E) [] (start N vs) H s1:=ZKh S hr.hd e0 hl r x
  refine wpAny_mono (ht [] s1 (start N vs) H _ I hq) (fun fl s' hs=>?_) fun e s' hs=>hs
  have fin:∀ {σ':St} {H':Hp} {v:V} {u:Value},Inv (cxOf CX P w K mg base N qual scope f cdv A outer s H E) [] σ' H' s'→RelV v u→Q v H'→CE outer P w H s Q u s':=
    fun {σ' H' v u} J rv q=>⟨v,H',J.os,J.bare,J.base,J.hok,rv,q⟩
  cases fl with
  | ret u=>
    obtain ⟨v,σ',H',J,rv,q⟩:=hs
    exact fin J rv q
  | next=>
    obtain ⟨σ',H',J,q⟩:=hs
    exact fin (v:=V.non) (u:=Value.none) J rfl q
  | brk=>
    obtain ⟨_,_,_,q⟩:=hs
    exact False.elim q
  | cont=>
    obtain ⟨_,_,_,q⟩:=hs
    exact False.elim q
end L2
namespace L2
open PySem PySem.Spec PyProof.Rows
section
variable {X:Cx} {x:Str} {p pos:Pos} {e:Expr} {es:List Expr} {t:TA} {id T:String} {r:List V→Hp→VK→Prop}
def tCB (r:List V→Hp→VK→Prop) (t:TA):TE:=fun σ H Q=>t σ H fun vs H1=>r vs H1 Q
theorem pe_callB (hc:ZBr X (.builtin id) r) (hg:Gl X x) (hm:X.mg x=none) (hv:bootBuiltins x=some (.builtin id)) (ha:PA X (e :: es) t) (hn:x ≠ "__name__" := by decide) (hdb:(x == ("__debug__" : Str))=false:=by decide)
    (he:starEach (e :: es) X.env=(false,eval e X.env) :: starEach es X.env:=by rfl) (hpl:(backTo pos (starEach es X.env)).any (·.1)=false:=by rfl):PE X (.Call (.Name x p) (e :: es) [] pos) (tCB r t):=by
  intro pins s σ H Q I h
  refine wpAny_Call_Name_kw (ZCk I hg hm hv ?_ hn hdb)
  exact PyProof.Rows.callWith_builtin1 (thn (ha pos pins s σ H _ I h) fun us s1 ⟨vs,H1,I1,r1,q1⟩=>hc pins s1 σ H1 vs us Q I1 r1 q1) he hpl
theorem ZKd (hc:ZBr X (.type T) r) (hg:Gl X x) (hm:X.mg x=none) (hv:bootBuiltins x=some (.type T)) (ha:PA X (e :: es) t) (hn:x ≠ "__name__" := by decide) (hdb:(x == ("__debug__" : Str))=false:=by decide)
    (he:starEach (e :: es) X.env=(false,eval e X.env) :: starEach es X.env:=by rfl) (hpl:(backTo pos (starEach es X.env)).any (·.1)=false:=by rfl):PE X (.Call (.Name x p) (e :: es) [] pos) (tCB r t):=by
  intro pins s σ H Q I h
  refine wpAny_Call_Name_kw (ZCk I hg hm hv ?_ hn hdb)
  exact PyProof.Rows.callWith_type1 (thn (ha pos pins s σ H _ I h) fun us s1 ⟨vs,H1,I1,r1,q1⟩=>hc pins s1 σ H1 vs us Q I1 r1 q1) he hpl
end
end L2
namespace HT
open PySem PyProof.Rows
section
open PySem.SeqAt
open PySem.AutoSeq1 (wpAny_loadPart')
open PySem.MeetsSeq PySem.MeetsSeq2 PySem.MeetsSeq3
end
section
variable {prog:Program} {w:World} {A:Around} {E:Value→Shared→Prop} {s:Shared}
theorem cat_tup {t b:Addr} {vs ws:List Value} {Q:Value→Shared→Prop} (ht:IsTup s.heap t vs.toArray) (hb:IsTup s.heap b ws.toArray) (hv:vs≠[])
    (h1:ws=[]→Q (.ref t) s) (h2:ws≠[]→Q (.ref s.heap.objs.size) { s with heap:=s.heap.push { cls:=.type "tuple", data:=.seq (vs++ws).toArray } })
    (hsz:vs.length+ws.length≤sizeLine):wpAny (model prog w) A (binaryOp .Add (.ref t) (.ref b)) Q E s:=by
  obtain ⟨⟨cls,dd,data,sl⟩,ho,hc,n,hd⟩:=id ht
  obtain ⟨⟨cls2,dd2,data2,sl2⟩,ho2,hc2,n2,hd2⟩:=id hb
  simp only at hc hd hc2 hd2
  subst hc hd hc2 hd2
  have e:vs.toArray++ws.toArray=(vs++ws).toArray:=by simp
  by_cases hw:ws=[]
  · exact concat_meets ⟨_,ho,rfl⟩ ⟨_,ho2,rfl⟩ noFill_tuple_add seq_tuple_add PySem.F.slot_tuple_add PySem.F.entry_tuple_add (PySem.F.args_tuple_add_2 _ _)
      (tuple_addW1 t b vs.toArray ws.toArray n n2 dd dd2 sl sl2 (by simpa using hv) (by simp [hw])) ⟨ho,ho2,h1 hw⟩
  · refine concat_meets ⟨_,ho,rfl⟩ ⟨_,ho2,rfl⟩ noFill_tuple_add seq_tuple_add PySem.F.slot_tuple_add PySem.F.entry_tuple_add (PySem.F.args_tuple_add_2 _ _)
      (tuple_addW2 t b vs.toArray ws.toArray n n2 dd dd2 sl sl2 (by simpa using hv) (by simpa using hw) (by rw [List.size_toArray,List.size_toArray];exact hsz)) ⟨ho,ho2,?_⟩
    rw [e]
    exact h2 hw
def sIx (n d:Nat):Option Int→Nat
  | none=>d
  | some v=>if v < 0 then (v+(n:Int)).toNat else min v.toNat n
theorem sIx_none (n d:Nat):sIx n d none=d:=rfl
theorem sIx_nat (n d k:Nat):sIx n d (some (k:Int))=min k n:=by
  show (if (k:Int) < 0 then ((k:Int)+(n:Int)).toNat else min (k:Int).toNat n)=min k n
  rw [if_neg (by omega),Int.toNat_natCast]
theorem sIx_le (n d:Nat) (hd:d≤n) (o:Option Int):sIx n d o≤n:=by
  cases o with
  | none=>exact hd
  | some v=>
    show (if v < 0 then (v+(n:Int)).toNat else min v.toNat n)≤n
    by_cases hv:v < 0
    · rw [if_pos hv];omega
    · rw [if_neg hv];exact Nat.min_le_right _ _
theorem ZJe (v:Int) (n d:Nat):(if v < 0 then max (v+(n:Int)) 0 else min v (n:Int))=((sIx n d (some v):Nat):Int):=by
  show (if v < 0 then max (v+(n:Int)) 0 else min v (n:Int))=(((if v < 0 then (v+(n:Int)).toNat else min v.toNat n):Nat):Int)
  by_cases hv:v < 0
  · simp only [if_pos hv];omega
  · simp only [if_neg hv];omega
theorem ZIp (lo hi:Option Int) (n:Nat):Builtin.Slice.sliceAdjust lo hi 1 (n:Int)=(((sIx n 0 lo:Nat):Int),((sIx n n hi:Nat):Int)):=by
  have h1:¬ ((1:Int) < 0):=by omega
  unfold Builtin.Slice.sliceAdjust
  simp only [h1,if_false]
  refine Prod.ext ?_ ?_
  · cases lo with
    | none=>rfl
    | some v=>exact ZJe v n 0
  · cases hi with
    | none=>rfl
    | some v=>exact ZJe v n n
theorem ZJK (i j:Nat):Builtin.Slice.slicePlaces (i:Int) (j:Int) 1=j - i:=by
  unfold Builtin.Slice.slicePlaces
  have h1:(1:Int) > 0:=by omega
  simp only [h1,if_true,Int.ediv_one]
  split <;> omega
theorem ZFb {v:Value} {o:Option Int} {Q:Option Int→Shared→Prop} (p:IsPart v o) (h:Q o s):wpAny (model prog w) A (Builtin.Slice.slicePartIndex v) Q E s:=by
  cases p with
  | none=>exact slicePart_none h
  | int i t=>exact slicePart_int h
theorem ZCH {sl:Addr} {vl vu:Value} {lo hi:Option Int} {n:Nat} {Q:Int×Int×Nat→Shared→Prop} (hs:s.heap.IsSliceOf sl vl vu .none) (pl:IsPart vl lo) (pu:IsPart vu hi)
    (h:Q (((sIx n 0 lo:Nat):Int),1,sIx n n hi - sIx n 0 lo) s):wpAny (model prog w) A (Builtin.Slice.sliceApplied (.ref sl) (pure (n:Int))) Q E s:=by
  obtain ⟨os,hos,hcs,hds⟩:=id hs
  unfold Builtin.Slice.sliceApplied Builtin.Slice.sliceFields
  refine wpAny_bind (wpAny_bind (wpAny_field hos hds (x:=vl) rfl (wpAny_bind (wpAny_field hos hds (x:=vu) rfl (wpAny_bind (wpAny_field hos hds (x:=.none) rfl (wpAny_pure ?_)))))))
  refine wpAny_bind (slicePart_none ?_)
  show wpAny _ _ (if ((1:Int) == 0)=true then _ else _) _ _ s
  rw [if_neg (by decide)]
  refine wpAny_bind (ZFb pl (wpAny_bind (ZFb pu (wpAny_bind (wpAny_pure ?_)))))
  show wpAny _ _ (match Builtin.Slice.sliceAdjust lo hi 1 (n:Int) with | (lo,hi)=>pure (lo,(1:Int),Builtin.Slice.slicePlaces lo hi 1)) _ _ s
  rw [ZIp lo hi n]
  show wpAny _ _ (pure (((sIx n 0 lo:Nat):Int),(1:Int),Builtin.Slice.slicePlaces ((sIx n 0 lo:Nat):Int) ((sIx n n hi:Nat):Int) 1)) _ _ s
  rw [ZJK]
  exact wpAny_pure h
theorem pick_gen (xs:Array Value) (i k:Nat):((List.range k).filterMap fun (m:Nat)=>xs[((i:Int)+(m:Int) * 1).toNat]?).toArray=((xs.toList.drop i).take k).toArray:=by
  have e:(fun (m:Nat)=>xs[((i:Int)+(m:Int) * 1).toNat]?)=fun m=>xs[i+m]?:=by
    funext m
    have:((i:Int)+(m:Int) * 1).toNat=i+m:=by omega
    rw [this]
  rw [e]
  have:=pick_run xs i k
  rw [List.filterMap_map] at this
  have e2:((fun x=>xs[x]?) ∘ fun x=>i+x)=fun m=>xs[i+m]?:=rfl
  rw [e2] at this
  rw [this]
theorem getItem_tuple_cut {t sl:Addr} {items:Array Value} {vl vu:Value} {lo hi:Option Int} {Q:Value→Shared→Prop} (ht:IsTup s.heap t items) (hs:s.heap.IsSliceOf sl vl vu .none) (pl:IsPart vl lo) (pu:IsPart vu hi)
    (hw:¬ (sIx items.size 0 lo=0∧sIx items.size items.size hi=items.size))
    (h:Q (.ref s.heap.objs.size) { s with heap:=s.heap.push { cls:=.type "tuple", data:=.seq ((items.toList.drop (sIx items.size 0 lo)).take (sIx items.size items.size hi - sIx items.size 0 lo)).toArray } })
    (hsz:items.size≤sizeLine):wpAny (model prog w) A (getItem (.ref t) (.ref sl)) Q E s:=by
  have htake:sizeOk (.seq ((items.toList.drop (sIx items.size 0 lo)).take (sIx items.size items.size hi - sIx items.size 0 lo)).toArray):=by
    show ((items.toList.drop (sIx items.size 0 lo)).take (sIx items.size items.size hi - sIx items.size 0 lo)).toArray.size≤sizeLine
    rw [List.size_toArray,List.length_take,List.length_drop,Array.length_toList]
    omega
  have hj:sIx items.size items.size hi≤items.size:=sIx_le _ _ (Nat.le_refl _) hi
  obtain ⟨os,hos,hcs,hds⟩:=id hs
  have hTs:s.TypeIs (.ref sl) "slice" := ⟨os,hos,hcs⟩
  unfold getItem
  try with_reducible refine wpAny_holding ?_
  first | refine wpAny_bind (wpAny_pure ?_) | skip
  refine wpAny_bind (wpAny_sequenceKey ht.typeIs (by decide) ?_)
  refine wpAny_bind (wpAny_callSpecial?_slot (name:=Str.ofString "__getitem__") ht.typeIs PyProof.Rows.slot_tuple_getitem
    (wpAny_call_entry PyProof.Rows.slot_tuple_getitem ht.typeIs entry_tuple_getitem ?_ (args_tuple_getitem _ _)))
  show wpAny _ _ (Builtin.Tuple.tupleItemsOf (.ref t) >>= _) _ _ s
  refine wpAny_bind (tupleItemsOf_ ht ?_)
  refine wpAny_bind (wpAny_typeOf hTs ?_)
  rw [if_pos (by decide)]
  refine wpAny_bind (ZCH hs pl pu ?_)
  have hno:¬ ((((sIx items.size 0 lo:Nat):Int) == 0 && (1:Int) == 1 && (sIx items.size items.size hi - sIx items.size 0 lo) == items.size)=true):=by
    intro q
    rw [Bool.and_eq_true,Bool.and_eq_true] at q
    have q1:((sIx items.size 0 lo:Nat):Int)=0:=eq_of_beq q.1.1
    have q2:sIx items.size items.size hi - sIx items.size 0 lo=items.size:=eq_of_beq q.2
    exact hw ⟨by omega,by omega⟩
  show wpAny _ _ (if (((sIx items.size 0 lo:Nat):Int) == 0 && (1:Int) == 1 && (sIx items.size items.size hi - sIx items.size 0 lo) == items.size)=true then _ else _) _ _ s
  rw [if_neg hno,pick_gen]
  first
    | exact wpAny_bind (m:=Builtin.Tuple.tupleExact _) (wpAny_newObj_type (wpAny_pure ⟨_,rfl,wpAny_pure h⟩) htake)
    | exact wpAny_bind (m:=Builtin.Tuple.tupleExact _) (wpAny_newObj_type (wpAny_bind (wpAny_pure (wpAny_pure ⟨_,rfl,wpAny_pure h⟩))) htake)
    | exact wpAny_bind (wpAny_bind (m:=Builtin.Tuple.tupleExact _) (wpAny_newObj_type (wpAny_pure (wpAny_pure ⟨_,rfl,wpAny_pure h⟩)) htake))
    | exact wpAny_bind (wpAny_bind (m:=Builtin.Tuple.tupleExact _) (wpAny_newObj_type (wpAny_pure ⟨_,rfl,wpAny_pure h⟩) htake))
end
end HT
namespace L2
open PySem PySem.Spec PyProof.Rows
abbrev TO:=St→Hp→(Option Int→Hp→Prop)→Prop
def PO (X:Cx) (e:Option Expr) (t:TO):Prop:=
  ∀ (pins:List (Addr×Obj)) (s:Shared) (σ:St) (H:Hp) (Q:Option Int→Hp→Prop),Inv X pins σ H s→t σ H Q→
    wpAny (model X.prog X.w) X.A (evalPart e X.env) (fun u s'=>∃ o H',Inv X pins σ H' s'∧IsPart u o∧Q o H') X.xe s
def ZHR:TO:=fun _ H Q=>Q none H
def tPart (t:TE):TO:=fun σ H Q=>t σ H fun x H1=>∃ i,x=.int i∧Q (some i) H1
section
variable {X:Cx} {e:Expr} {te:TE} {lo hi:Option Expr} {tl th:TO} {pos p2:Pos}
theorem po_none:PO X none ZHR:=by
  intro pins s σ H Q I h
  rw [evalPart_none]
  exact wpAny_pure ⟨none,H,I,.none,h⟩
theorem po_some (h:PE X e te):PO X (some e) (tPart te):=by
  intro pins s σ H Q I hw
  rw [evalPart_some]
  refine thn (h pins s σ H _ I hw) fun u s1 ⟨x,H1,I1,r1,q1⟩=>?_
  obtain ⟨i,rfl,q⟩:=q1
  obtain ⟨t,rfl⟩:=r1
  exact ⟨some i,H1,I1,.int i t,q⟩
def SlR (X:Cx) (r:V→Option Int→Option Int→Hp→VK→Prop):Prop:=
  ∀ (pins:List (Addr×Obj)) (s:Shared) (σ:St) (H:Hp) (x:V) (v vl vu:Value) (lo hi:Option Int) (sl:Addr) (Q:VK),Inv X pins σ H s→RelV x v→s.heap.IsSliceOf sl vl vu .none→IsPart vl lo→IsPart vu hi→r x lo hi H Q→
    ∃ T id,typeLookup (.type T) "__getitem__" = pure (some (.builtin id))∧s.TypeIs v T∧wpAny (model X.prog X.w) X.A (getItem v (.ref sl)) (EP X pins σ Q) X.xe s
def tSl (r:V→Option Int→Option Int→Hp→VK→Prop) (te:TE) (tl th:TO):TE:=fun σ H Q=>te σ H fun x H1=>tl σ H1 fun l H2=>th σ H2 fun u H3=>r x l u H3 Q
theorem pe_slice {r:V→Option Int→Option Int→Hp→VK→Prop} (hr:SlR X r) (he:PE X e te) (hl:PO X lo tl) (hu:PO X hi th):PE X (.Subscript e (.Slice lo hi none p2) pos) (tSl r te tl th):=by
  intro pins s σ H Q I h
  refine Subscript_ (thn (he pins s σ H _ I h) fun v s1 ⟨x,H1,I1,r1,q1⟩=>?_)
  refine wpAny_Slice (thn (hl pins s1 σ H1 _ I1 q1) fun vl s2 ⟨l,H2,I2,pl,q2⟩=>thn (hu pins s2 σ H2 _ I2 q2) fun vu s3 ⟨u,H3,I3,pu,q3⟩=>?_)
  rw [evalPart_none]
  refine wpAny_pure ?_
  have I4:Inv X pins σ H3 { s3 with heap:=s3.heap.push { cls:=.type "slice", data:=.fields #[vl,vu,.none] } }:=I3.kept (t':=s3.toks) fun b ob q=>Heap.get?_push_of_some _ q
  obtain ⟨T,id,hT,ht,hg⟩:=hr pins { s3 with heap:=s3.heap.push { cls:=.type "slice", data:=.fields #[vl,vu,.none] } } σ H3 x v vl vu l u s3.heap.objs.size Q I4 r1 (Heap.IsSliceOf.new ..) pl pu q3
  show wpAny (model X.prog X.w) X.A (subscriptTail e (.Slice lo hi none p2) v (.ref s3.heap.objs.size)) (EP X pins σ Q) X.xe { s3 with heap:=s3.heap.push { cls:=.type "slice", data:=.fields #[vl,vu,.none] } }
  exact tail_any (ops:=[.ref s3.heap.objs.size,v]) ht hT hg (by with_unfolding_all rfl)
def ZC4 (xs:List V) (lo hi:Option Int):List V:=(xs.drop (HT.sIx xs.length 0 lo)).take (HT.sIx xs.length xs.length hi - HT.sIx xs.length 0 lo)
theorem ZEK (xs:List V) (lo hi:Option Int):(ZC4 xs lo hi).length≤xs.length:=by
  unfold ZC4
  rw [List.length_take,List.length_drop]
  omega
def rSlT (K:PySem.W.Frag):V→Option Int→Option Int→Hp→VK→Prop:=fun x lo hi H Q=>∃ a xs,x=.ref a∧SqT K H a xs∧
  ¬ (HT.sIx xs.length 0 lo=0∧HT.sIx xs.length xs.length hi=xs.length)∧∀ p,H p=none→Q (.ref p) (upd H p (.tup (ZC4 xs lo hi)))
theorem sl_tup:SlR X (rSlT X.K):=by
  intro pins s σ H x v vl vu lo hi sl Q I rx hs pl pu h
  obtain ⟨a,xs,rfl,hx,hw,q⟩:=h
  cases rx
  obtain ⟨its,r,ht,hz⟩:=I.tuple hx
  have hlen:its.toArray.size=xs.length:=by rw [List.size_toArray];exact r.length.symm
  refine ⟨"tuple", _,PyProof.Rows.slot_tuple_getitem.lookup,ht.typeIs,?_⟩
  refine HT.getItem_tuple_cut ht hs pl pu (by rw [hlen];exact hw) ?_ (by rw [hlen];exact hz)
  rw [hlen]
  refine ⟨.ref s.heap.objs.size,_,I.laid (t':=s.toks) (o:=.tup (ZC4 xs lo hi)) (fun b ob q=>Heap.get?_push_of_some _ q) (Nat.le_refl _) ?_,rfl,q _ (I.hok.fresh (Nat.le_refl _))⟩
  exact ⟨Nat.le_trans (ZEK xs lo hi) hz,_,(r.drop (HT.sIx xs.length 0 lo)).take (HT.sIx xs.length xs.length hi - HT.sIx xs.length 0 lo),⟨IsTup.new _ _,fun ob' e'=>by rw [Heap.get?_push_size _ rfl] at e';cases e';rfl⟩⟩
def rCatT (K:PySem.W.Frag):R2:=fun x y H Q=>∃ a b xs ys,x=.ref a∧y=.ref b∧SqT K H a xs∧SqT K H b ys∧xs≠[]∧xs.length+ys.length≤sizeLine∧
  (ys=[]→Q (.ref a) H)∧(ys≠[]→∀ p,H p=none→Q (.ref p) (upd H p (.tup (xs++ys))))
theorem Vals.nil_iff {xs:List V} {us:List Value} (r:Vals xs us):us=[]↔xs=[]:=by
  cases r with
  | nil=>simp
  | cons _ _=>simp
theorem op_catT:OpR X (binaryOp .Add) (rCatT X.K):=by
  intro pins s σ H x y v u Q I rx ry h
  obtain ⟨a,b,xs,ys,rfl,rfl,ha,hb,hx,hz,q1,q2⟩:=h
  cases rx
  cases ry
  obtain ⟨its,r1,p1,_⟩:=I.tuple ha
  obtain ⟨its2,r2,p2,_⟩:=I.tuple hb
  refine HT.cat_tup p1 p2 (fun z=>hx (r1.nil_iff.mp z)) (fun z=>⟨.ref a,H,I,rfl,q1 (r2.nil_iff.mp z)⟩) (fun z=>?_) (by rw [← r1.length,← r2.length];exact hz)
  refine ⟨.ref s.heap.objs.size,_,I.laid (t':=s.toks) (o:=.tup (xs++ys)) (fun b ob q=>Heap.get?_push_of_some _ q) (Nat.le_refl _) ?_,rfl,q2 (fun w=>z (r2.nil_iff.mpr w)) _ (I.hok.fresh (Nat.le_refl _))⟩
  exact ⟨by rw [List.length_append];exact hz,_,r1.append r2,⟨IsTup.new _ _,fun ob' e'=>by rw [Heap.get?_push_size _ rfl] at e';cases e';rfl⟩⟩
end
end L2
namespace L2
open PySem PySem.Spec PyProof.Rows
def ixN (n:Nat) (i:Int):Option Nat:=if 0≤i then (if i < n then some i.toNat else none) else if -(n:Int)≤i then some (i+n).toNat else none
def atI {α:Type} (xs:List α) (i:Int):Option α:=(ixN xs.length i).bind fun j=>xs[j]?
theorem ZK6 {n:Nat} {i:Int} {j:Nat} (h:ixN n i=some j):seqIndex? i n=some j∧j < n∧-(n:Int)≤i∧i < n:=by
  unfold ixN at h
  by_cases h0:0≤i
  · rw [if_pos h0] at h
    by_cases h1:i < n
    · rw [if_pos h1] at h
      have e:i.toNat=j:=Option.some.inj h
      exact ⟨by rw [seqIndex_of h0 h1,e],by omega,by omega,h1⟩
    · rw [if_neg h1] at h;cases h
  · rw [if_neg h0] at h
    by_cases h1:-(n:Int)≤i
    · rw [if_pos h1] at h
      have e:(i+n).toNat=j:=Option.some.inj h
      exact ⟨by rw [seqIndex_neg (by omega) h1,e],by omega,h1,by omega⟩
    · rw [if_neg h1] at h;cases h
theorem ZHX {α:Type} {xs:List α} {i:Int} {v:α} (h:atI xs i=some v):∃ j,seqIndex? i xs.length=some j∧xs[j]?=some v∧j < xs.length∧-(xs.length:Int)≤i∧i < xs.length:=by
  unfold atI at h
  cases e:ixN xs.length i with
  | none=>rw [e] at h;cases h
  | some j=>
    rw [e] at h
    obtain ⟨h1,h2,h3,h4⟩:=ZK6 e
    exact ⟨j,h1,h,h2,h3,h4⟩
theorem ZJo {α:Type} {xs:List α} {j:Nat} {v:α} (h:xs[j]?=some v):atI xs (j:Int)=some v:=by
  have hj:j < xs.length:=(List.getElem?_eq_some_iff.mp h).1
  have e:ixN xs.length (j:Int)=some j:=by
    unfold ixN
    rw [if_pos (by omega),if_pos (by omega)];simp
  unfold atI;rw [e];exact h
def ZJp (b:Expr):Prop:=∀ o i,subscripted b false o i=operate [o,i] (getItem o i)
def IxR (X:Cx) (r:R2):Prop:=
  ∀ (value slice:Expr) (pins:List (Addr×Obj)) (s:Shared) (σ:St) (H:Hp) (x y:V) (v u:Value) (Q:VK),Inv X pins σ H s→RelV x v→RelV y u→r x y H Q→
    subscripted slice false v u=operate [v,u] (getItem v u)→wpAny (model X.prog X.w) X.A (subscriptTail value slice v u) (EP X pins σ Q) X.xe s
def MtR (X:Cx) (id:String) (r:V→List V→Hp→VK→Prop):Prop:=
  ∀ (pins:List (Addr×Obj)) (s:Shared) (σ:St) (H:Hp) (x:V) (xs:List V) (v:Value) (us:List Value) (Q:VK),Inv X pins σ H s→RelV x v→Vals xs us→r x xs H Q→
    wpAny (model X.prog X.w) X.A (call (.builtin id) (v :: us)) (EP X pins σ Q) X.xe s
section
variable {X:Cx} {a b:Expr} {ta tb:TE} {pos:Pos}
theorem pe_ix {r:R2} (hr:IxR X r) (ha:PE X a ta) (hb:PE X b tb) (hs:ZJp b):PE X (.Subscript a b pos) (tOp r ta tb):=by
  intro pins s σ H Q I h
  exact Subscript_ (binT ha hb I h fun v u s2 x y H2 I2 rx ry q=>hr a b pins s2 σ H2 x y v u Q I2 rx ry q (hs _ _))
def rIxL (K:PySem.W.Frag):R2:=fun x y H Q=>∃ p xs i v,x=.ref p∧y=.int i∧SqL K H p xs∧atI xs i=some v∧Q v H
def rIxT (K:PySem.W.Frag):R2:=fun x y H Q=>∃ p xs i v,x=.ref p∧y=.int i∧SqT K H p xs∧atI xs i=some v∧Q v H
def rIxS:R2:=fun x y H Q=>∃ z i c,x=.str z∧y=.int i∧z.length≤sizeLine∧atI z.cps.toList i=some c∧Q (.str ⟨#[c]⟩) H
theorem ZB2:IxR X (rIxL X.K):=by
  intro value slice pins s σ H x y v u Q I rx ry h hs
  obtain ⟨p,xs,i,z,rfl,rfl,hq,he,q⟩:=h
  cases rx
  obtain ⟨t,rfl⟩:=ry
  obtain ⟨its,r,pl,hz⟩:=I.list hq
  obtain ⟨j,h1,h2,h3,h4,h5⟩:=ZHX he
  obtain ⟨w,ew,rw'⟩:=r.get h2
  have hl:=r.length
  have hn:=ZCN
  have fin:EP X pins σ Q w s:=⟨z,H,I,rw',q⟩
  by_cases h0:0≤i
  · have hj:i.toNat=j:=by
      rw [seqIndex_of h0 h5] at h1
      exact Option.some.inj h1
    exact item_listR pl.isList h0 (by omega) (by rw [hj];simpa using ew) fin hs
  · have hj:(i+(its.toArray.size:Int)).toNat=j:=by
      rw [seqIndex_neg (by omega) h4] at h1
      rw [List.size_toArray,← hl]
      exact Option.some.inj h1
    exact subscriptTail_builtinR (x:=w) pl.isList.typeIs slot_list_getitem.lookup
      (wpAny_getItem_list_neg (Q:=fun r s'=>r=w∧EP X pins σ Q r s') pl.isList (by omega) (by rw [List.size_toArray] <;> omega) (by omega) (by rw [hj];simpa using ew) ⟨rfl,fin⟩) hs
theorem ZA9:IxR X (rIxT X.K):=by
  intro value slice pins s σ H x y v u Q I rx ry h hs
  obtain ⟨p,xs,i,z,rfl,rfl,hq,he,q⟩:=h
  cases rx
  obtain ⟨t,rfl⟩:=ry
  obtain ⟨its,r,pl,hz⟩:=I.tuple hq
  obtain ⟨j,h1,h2,h3,h4,h5⟩:=ZHX he
  obtain ⟨w,ew,rw'⟩:=r.get h2
  have hl:=r.length
  have hn:=ZCN
  have fin:EP X pins σ Q w s:=⟨z,H,I,rw',q⟩
  exact subscriptTail_builtinR (x:=w) pl.typeIs slot_tuple_getitem.lookup
    (getItem_tuple (j:=j) (Q:=fun r s'=>r=w∧EP X pins σ Q r s') pl (by omega) (by omega) (by rw [List.size_toArray,← hl];exact h1) (by simpa using ew) ⟨rfl,fin⟩) hs
theorem ix_str:IxR X rIxS:=by
  intro value slice pins s σ H x y v u Q I rx ry h hs
  obtain ⟨z,i,c,rfl,rfl,hz,he,q⟩:=h
  obtain ⟨t,rfl⟩:=rx
  obtain ⟨t',rfl⟩:=ry
  obtain ⟨j,h1,h2,h3,h4,h5⟩:=ZHX he
  have hl:z.cps.toList.length=z.length:=by simp [Str.length]
  rw [hl] at h1 h4 h5
  have hn:=ZCN
  exact tail_any (typeIs_str s z t) slot_str_getitem.lookup (getItem_str (c:=c) (by
    have e1:decide (i < -(2 ^ 63:Int))=false:=decide_eq_false (by omega)
    have e2:decide (i≥2 ^ 63)=false:=decide_eq_false (by omega)
    rw [e1,e2,Bool.or_false]) (by rw [h1];simpa using h2) ⟨.str ⟨#[c]⟩,H,I.tok _,⟨_,rfl⟩,q⟩) hs
theorem ZJD (its:List Value) (n j:Nat) (u:Value):Obj.mapSeq (·.setIfInBounds j u) { cls:=.type "list", data:=.seq its.toArray n }={ cls:=.type "list", data:=.seq (its.set j u).toArray n }:=by
  simp [Obj.mapSeq]
theorem Inv.lst {pins:List (Addr×Obj)} {σ:St} {H:Hp} {s:Shared} {p:Addr} {xs:List V} (I:Inv X pins σ H s) (h:H p=some (.lst xs)) :
    ∃ (its:List Value) (n:Nat),Vals xs its∧s.heap.get? p=some { cls:=.type "list", data:=.seq its.toArray n }∧xs.length≤sizeLine:=by
  obtain ⟨z,its,n,r,e⟩:=I.hok p _ h
  exact ⟨its,n,r,e,z⟩
theorem Inv.lstUpd {pins:List (Addr×Obj)} {σ:St} {H:Hp} {s:Shared} {p:Addr} {xs ys:List V} {its its':List Value} {n n':Nat} {f:Obj→Obj} (I:Inv X pins σ H s) (h:H p=some (.lst xs))
    (ho:s.heap.get? p=some { cls:=.type "list", data:=.seq its.toArray n }) (hf:f { cls:=.type "list", data:=.seq its.toArray n }={ cls:=.type "list", data:=.seq its'.toArray n' }) (r:Vals ys its') (hz:ys.length≤sizeLine) (t:Nat) :
    Inv X pins σ (upd H p (.lst ys)) { s with heap:=s.heap.update p f,toks:=t }:=by
  have e:(s.heap.update p f).get? p=some { cls:=.type "list", data:=.seq its'.toArray n' }:=by
    rw [Heap.get?_update_self f ho (by rw [hf] <;> rfl),hf]
  refine I.write (x:=p) (e:=p) (by rw [h];trivial) (.inl rfl) (fun b u hb q=>(Heap.get?_update_other _ _ (Ne.symm hb)).trans q) ⟨_,e⟩ ?_
  exact ⟨hz,its',n',r,e⟩
def rSetL:V→V→V→Hp→(Hp→Prop)→Prop:=fun o i v H Q=>∃ p xs k j,o=.ref p∧i=.int k∧H p=some (.lst xs)∧ixN xs.length k=some j∧Q (upd H p (.lst (xs.set j v)))
theorem ZHj:PSet X rSetL:=by
  intro pins s σ H o i v ov iv u Q I ro ri rv h
  obtain ⟨p,xs,k,j,rfl,rfl,hp,hj,q⟩:=h
  cases ro
  obtain ⟨t,rfl⟩:=ri
  obtain ⟨its,n,r,ho,hz⟩:=I.lst hp
  obtain ⟨h1,h2,h3,h4⟩:=ZK6 hj
  have hl:=r.length
  have hn:=ZCN
  have I':Inv X pins σ (upd H p (.lst (xs.set j v))) { s with heap:=s.heap.update p (Obj.mapSeq (·.setIfInBounds j u)) }:=
    I.lstUpd hp ho (ZJD its n j u) (r.set rv j) (by rw [List.length_set];exact hz) s.toks
  by_cases h0:0≤k
  · have hk:k.toNat=j:=by
      rw [seqIndex_of h0 h4] at h1
      exact Option.some.inj h1
    exact PySem.W.ki_setAt ho h0 (by omega) (by rw [List.size_toArray,← hl];exact h4) (by rw [hk];exact ⟨_,I',q⟩)
  · have hk:(k+(its.toArray.size:Int)).toNat=j:=by
      rw [seqIndex_neg (by omega) h3] at h1
      rw [List.size_toArray,← hl]
      exact Option.some.inj h1
    exact PySem.W.ki_setBack ho (by omega) (by rw [List.size_toArray,← hl];exact h3) (by omega) (by rw [hk];exact ⟨_,I',q⟩)
theorem ZHV (lo hi:Option Int) (n:Nat):(sliceBounds lo hi none n).1=((HT.sIx n 0 lo:Nat):Int)∧(sliceBounds lo hi none n).2.1=((HT.sIx n n hi:Nat):Int)∧(sliceBounds lo hi none n).2.2=1:=by
  refine ⟨?_,?_,rfl⟩
  · cases lo with
    | none=>simp [sliceBounds,HT.sIx]
    | some i=>
      simp only [sliceBounds,HT.sIx,Option.getD_none,show (1:Int) > 0 by decide,if_true]
      by_cases h:i < 0
      · simp only [h,if_true] <;> omega
      · simp only [h,if_false] <;> omega
  · cases hi with
    | none=>simp [sliceBounds,HT.sIx]
    | some i=>
      simp only [sliceBounds,HT.sIx,Option.getD_none,show (1:Int) > 0 by decide,if_true]
      by_cases h:i < 0
      · simp only [h,if_true] <;> omega
      · simp only [h,if_false] <;> omega
theorem ZFm (its:List Value) (lo hi:Option Int):slicePick its.toArray lo hi none=((its.drop (HT.sIx its.length 0 lo)).take (HT.sIx its.length its.length hi - HT.sIx its.length 0 lo)).toArray:=by
  obtain ⟨h1,h2,h3⟩:=ZHV lo hi its.toArray.size
  unfold slicePick
  rw [h1,h2,h3]
  simp only [sliceRange_one,pick_run,List.size_toArray] <;> rfl
def rSlL (K:PySem.W.Frag):V→Option Int→Option Int→Hp→VK→Prop:=fun x lo hi H Q=>∃ a xs,x=.ref a∧SqL K H a xs∧∀ p,H p=none→Q (.ref p) (upd H p (.lst (ZC4 xs lo hi)))
theorem sl_list:SlR X (rSlL X.K):=by
  intro pins s σ H x v vl vu lo hi sl Q I rx hs pl pu h
  obtain ⟨a,xs,rfl,hx,q⟩:=h
  cases rx
  obtain ⟨its,r,ht,hz⟩:=I.list hx
  have hlen:=r.length
  refine ⟨"list", _,slot_list_getitem.lookup,ht.isList.typeIs,?_⟩
  refine wpAny_getItem_list_slice ht.isList hs pl pu .none (by simp) ?_ (by rw [List.size_toArray] <;> omega)
  rw [ZFm,← hlen]
  refine ⟨.ref s.heap.objs.size,_,I.laid (t':=s.toks) (o:=.lst (ZC4 xs lo hi)) (fun b ob q=>Heap.get?_push_of_some _ q) (Nat.le_refl _) ?_,rfl,q _ (I.hok.fresh (Nat.le_refl _))⟩
  exact ⟨Nat.le_trans (ZEK xs lo hi) hz,_,0,(r.drop (HT.sIx xs.length 0 lo)).take (HT.sIx xs.length xs.length hi - HT.sIx xs.length 0 lo),Heap.get?_push_size _ rfl⟩
def ZBN:V→Bool
  | .non=>true
  | .bl _=>true
  | .int _=>true
  | .str _=>true
  | _=>false
def eqV:V→V→Bool
  | .non,.non=>true
  | .bl a,.bl b=>a == b
  | .bl a,.int b=>(if a then 1 else 0) == b
  | .int a,.bl b=>a == (if b then 1 else 0)
  | .int a,.int b=>a == b
  | .str a,.str b=>a == b
  | _,_=>false
theorem ZHM {A:Around} {s:Shared} {y x:V} {u v:Value} (ry:RelV y u) (rx:RelV x v) (fy:ZBN y=true) (fx:ZBN x=true):SeqAt.EqAt A s u v (eqV y x):=by
  cases y with
  | non=>
    cases ry
    cases x with
    | non=>cases rx;exact SeqAt.EqAt.same _
    | bl b=>cases rx;exact SeqAt.EqAt.none_bool b
    | int b=>obtain ⟨t,rfl⟩:=rx;exact SeqAt.EqAt.none_int b t
    | str b=>obtain ⟨t,rfl⟩:=rx;exact SeqAt.EqAt.none_str b t
    | _=>exact absurd (show false=true from fx) Bool.false_ne_true
  | bl a=>
    cases ry
    cases x with
    | non=>cases rx;exact SeqAt.EqAt.bool_none a
    | bl b=>cases rx;exact SeqAt.EqAt.bool_bool a b
    | int b=>obtain ⟨t,rfl⟩:=rx;exact SeqAt.EqAt.bool_int a b t
    | str b=>obtain ⟨t,rfl⟩:=rx;exact SeqAt.EqAt.bool_str a b t
    | _=>exact absurd (show false=true from fx) Bool.false_ne_true
  | int a=>
    obtain ⟨t',rfl⟩:=ry
    cases x with
    | non=>cases rx;exact SeqAt.EqAt.int_none a t'
    | bl b=>cases rx;exact SeqAt.EqAt.int_bool a t' b
    | int b=>obtain ⟨t,rfl⟩:=rx;exact SeqAt.EqAt.int_int a t' b t
    | str b=>obtain ⟨t,rfl⟩:=rx;exact SeqAt.EqAt.int_str a t' b t
    | _=>exact absurd (show false=true from fx) Bool.false_ne_true
  | str a=>
    obtain ⟨t',rfl⟩:=ry
    cases x with
    | non=>cases rx;exact SeqAt.EqAt.str_none a t'
    | bl b=>cases rx;exact SeqAt.EqAt.str_bool a t' b
    | int b=>obtain ⟨t,rfl⟩:=rx;exact SeqAt.EqAt.str_int a t' b t
    | str b=>obtain ⟨t,rfl⟩:=rx;exact SeqAt.EqAt.str_str a t' b t
    | _=>exact absurd (show false=true from fx) Bool.false_ne_true
  | _=>exact absurd (show false=true from fy) Bool.false_ne_true
def eqU (x:V) (u:Value):Bool:=match u with
  | .none=>eqV .non x
  | .bool b=>eqV (.bl b) x
  | .int i _=>eqV (.int i) x
  | .str z _=>eqV (.str z) x
  | _=>false
theorem eqU_of {x y:V} {u:Value} (r:RelV y u) (f:ZBN y=true):eqU x u=eqV y x:=by
  cases y with
  | non=>cases r;rfl
  | bl b=>cases r;rfl
  | int i=>obtain ⟨t,rfl⟩:=r;rfl
  | str z=>obtain ⟨t,rfl⟩:=r;rfl
  | _=>exact absurd (show false=true from f) Bool.false_ne_true
theorem ZDQ {x:V}:∀ {xs:List V} {us:List Value},Vals xs us→xs.all ZBN=true→us.any (eqU x)=xs.any fun y=>eqV y x
  | _,_,.nil,_=>rfl
  | y :: xs,u :: us,.cons r t,f=>by
    rw [List.all_cons,Bool.and_eq_true] at f
    rw [List.any_cons,List.any_cons,eqU_of r f.1,ZDQ t f.2]
theorem ZBu {A:Around} {s:Shared} {x:V} {v:Value} (rx:RelV x v) (fx:ZBN x=true):∀ {xs:List V} {us:List Value},Vals xs us→xs.all ZBN=true→∀ u∈us,SeqAt.EqAt A s u v (eqU x u)
  | _,_,.nil,_=>fun u hu=>by cases hu
  | y :: xs,u :: us,.cons r t,f=>fun u' hu=>by
    rw [List.all_cons,Bool.and_eq_true] at f
    rcases List.mem_cons.mp hu with rfl | hu
    · rw [eqU_of r f.1];exact ZHM r rx f.1 fx
    · exact ZBu rx fx t f.2 u' hu
def inV (x:V) (xs:List V):Bool:=xs.any fun y=>eqV y x
def rIn (K:PySem.W.Frag) (neg:Bool):R2:=fun x y H Q=>∃ p xs,y=.ref p∧(SqL K H p xs∨SqT K H p xs)∧ZBN x=true∧xs.all ZBN=true∧Q (.bl (if neg then !inV x xs else inV x xs)) H
theorem ZCC:OpR X (compareOp .In) (rIn X.K false):=by
  intro pins s σ H x y v u Q I rx ry h
  obtain ⟨p,xs,rfl,hq,fx,fs,q⟩:=h
  cases ry
  rcases hq with hq | hq
  · obtain ⟨its,r,pl,hz⟩:=I.list hq
    refine SeqAt.in_listAt (eqU x) pl.isList (fun w hw=>ZBu rx fx r fs w (by simpa using hw)) ⟨.bl _,H,I,rfl,?_⟩
    rw [show its.toArray.any (eqU x)=its.any (eqU x) by simp,ZDQ r fs]
    exact q
  · obtain ⟨its,r,pl,hz⟩:=I.tuple hq
    refine SeqAt.in_tupleAt (eqU x) pl (fun w hw=>ZBu rx fx r fs w (by simpa using hw)) ⟨.bl _,H,I,rfl,?_⟩
    rw [show its.toArray.any (eqU x)=its.any (eqU x) by simp,ZDQ r fs]
    exact q
theorem ZBS:OpR X (compareOp .NotIn) (rIn X.K true):=by
  intro pins s σ H x y v u Q I rx ry h
  obtain ⟨p,xs,rfl,hq,fx,fs,q⟩:=h
  cases ry
  rcases hq with hq | hq
  · obtain ⟨its,r,pl,hz⟩:=I.list hq
    refine SeqAt.notIn_listAt (eqU x) pl.isList (fun w hw=>ZBu rx fx r fs w (by simpa using hw)) ⟨.bl _,H,I,rfl,?_⟩
    rw [show its.toArray.any (eqU x)=its.any (eqU x) by simp,ZDQ r fs]
    exact q
  · obtain ⟨its,r,pl,hz⟩:=I.tuple hq
    refine SeqAt.notIn_tupleAt (eqU x) pl (fun w hw=>ZBu rx fx r fs w (by simpa using hw)) ⟨.bl _,H,I,rfl,?_⟩
    rw [show its.toArray.any (eqU x)=its.any (eqU x) by simp,ZDQ r fs]
    exact q
theorem ZAJ:ZBr X (.builtin "len") (fun xs H Q=>∃ p ys,xs=[.ref p]∧(SqL X.K H p ys∨SqT X.K H p ys)∧Q (.int ys.length) H):=by
  intro pins s σ H xs us Q I r h
  obtain ⟨p,ys,rfl,hq,q⟩:=h
  obtain ⟨u,rfl,rx⟩:=ZCl r
  cases rx
  have hn:=ZCN
  rcases hq with hq | hq
  · obtain ⟨its,r',pl,hz⟩:=I.list hq
    have hlen:=r'.length
    exact Calls.call_len_list pl.isList (by simp only [List.size_toArray] <;> omega) ⟨.int ys.length,H,I.tok _,⟨s.toks+1,by rw [List.size_toArray,hlen]⟩,q⟩
  · obtain ⟨its,r',pl,hz⟩:=I.tuple hq
    have hlen:=r'.length
    exact len_tuple pl (by simp only [List.size_toArray] <;> omega) ⟨.int ys.length,H,I.tok _,⟨s.toks+1,by rw [List.size_toArray,hlen]⟩,q⟩
theorem ZDx:ZBr X (.builtin "len") (fun xs H Q=>∃ z,xs=[.str z]∧z.length≤sizeLine∧Q (.int z.length) H):=by
  intro pins s σ H xs us Q I r h
  obtain ⟨z,rfl,hz,q⟩:=h
  obtain ⟨u,rfl,t,rfl⟩:=ZCl r
  have hn:=ZCN
  exact len_str (by omega) ⟨.int z.length,H,I.tok _,⟨_,rfl⟩,q⟩
theorem ZBQ:ZBr X (.type "list") (fun xs H Q=>∃ p ys,xs=[.ref p]∧(SqL X.K H p ys∨SqT X.K H p ys)∧∀ l,H l=none→Q (.ref l) (upd H l (.lst ys))):=by
  intro pins s σ H xs us Q I r h
  obtain ⟨p,ys,rfl,hq,q⟩:=h
  obtain ⟨u,rfl,rx⟩:=ZCl r
  cases rx
  have fin:∀ (its:List Value),Vals ys its→ys.length≤sizeLine→∀ (h':Heap) (c':Nat),(∀ b o',s.heap.get? b=some o'→h'.get? b=some o')→
      h'.get? s.heap.objs.size=some { cls:=.type "list", dict:=none,data:=.seq its.toArray c',slots:=#[] }→EP X pins σ Q (.ref s.heap.objs.size) { s with heap:=h' }:=fun its r' hz h' c' kp e=>
    ⟨.ref s.heap.objs.size,_,I.laid (t':=s.toks) kp (Nat.le_refl _) (show ObjOk X.prog X.w _ h' _ (.lst ys) from ⟨hz,its,c',r',e⟩),rfl,q _ (I.hok.fresh (Nat.le_refl _))⟩
  rcases hq with hq | hq
  · obtain ⟨its,r',pl,hz⟩:=I.list hq
    have hlen:=r'.length
    obtain ⟨o,ho,hc,n,hd⟩:=pl.isList
    exact call_list_seq p (.inl rfl) ho hc hd (fun h' c' kp e=>fin its r' hz h' c' kp e) (by simp only [List.size_toArray] <;> omega)
  · obtain ⟨its,r',pl,hz⟩:=I.tuple hq
    have hlen:=r'.length
    obtain ⟨o,ho,hc,n,hd⟩:=pl
    exact call_list_seq p (.inr rfl) ho hc hd (fun h' c' kp e=>fin its r' hz h' c' kp e) (by simp only [List.size_toArray] <;> omega)
theorem ZC5:ZBr X (.type "tuple") (fun xs H Q=>∃ p ys,xs=[.ref p]∧((SqL X.K H p ys∧∀ l,H l=none→Q (.ref l) (upd H l (.tup ys)))∨(SqT X.K H p ys∧Q (.ref p) H))):=by
  intro pins s σ H xs us Q I r h
  obtain ⟨p,ys,rfl,h⟩:=h
  obtain ⟨u,rfl,rx⟩:=ZCl r
  cases rx
  rcases h with ⟨hq,q⟩ | ⟨hq,q⟩
  · obtain ⟨its,r',pl,hz⟩:=I.list hq
    have hlen:=r'.length
    refine call_tuple_list pl.isList (fun h' kp=>?_) (by simp only [List.size_toArray] <;> omega)
    have I1:Inv X pins σ H { s with heap:=h' }:=I.kept (t':=s.toks) kp
    have I2:Inv X pins σ (upd H h'.objs.size (.tup ys)) { s with heap:=h'.push { cls:=.type "tuple", data:=.seq its.toArray } }:=
      I1.laid (t':=s.toks) (fun b o e=>Heap.get?_push_of_some _ e) (Nat.le_refl _) (show ObjOk X.prog X.w _ _ _ (.tup ys) from ⟨hz,its,r',⟨IsTup.new _ _,fun ob' e'=>by rw [Heap.get?_push_size _ rfl] at e';cases e';rfl⟩⟩)
    exact ⟨.ref h'.objs.size,_,I2,rfl,q _ (I1.hok.fresh (Nat.le_refl _))⟩
  · obtain ⟨its,r',pl,hz⟩:=I.tuple hq
    exact call_tuple_same pl ⟨.ref p,H,I,rfl,q⟩
def tyV (K:PySem.W.Frag) (T:String) (x:V) (H:Hp):Prop:=match x with
  | .str _=>T = "str"
  | .int _=>T = "int"
  | .ref p=>(T = "list" ∧ ∃ xs,SqL K H p xs)∨(T = "tuple" ∧ ∃ o,K.lookup p=some o∧o.cls=.type "tuple" ∧ o.dict=none)∨
      (T = "dict" ∧ ((∃ kvs,H p=some (.dK kvs))∨∃ kvs,H p=some (.dT kvs)))∨(T = "set" ∧ ∃ S n,H p=some (.set S n))∨(T = "tuple" ∧ ∃ xs,H p=some (.tup xs))
  | _=>False
theorem tyV_is {pins:List (Addr×Obj)} {σ:St} {H:Hp} {s:Shared} {T:String} {x:V} {v:Value} (I:Inv X pins σ H s) (r:RelV x v) (ty:tyV X.K T x H) :
    s.TypeIs v T∧∀ a,v=.ref a→∃ ob,s.heap.get? a=some ob∧ob.dict=none:=by
  cases x with
  | str z=>
    obtain ⟨t,rfl⟩:=r
    cases (show T = "str" from ty)
    exact ⟨typeIs_str s z t,fun _ e=>nomatch e⟩
  | int i=>
    obtain ⟨t,rfl⟩:=r
    cases (show T = "int" from ty)
    exact ⟨typeIs_int s i t,fun _ e=>nomatch e⟩
  | ref p=>
    cases r
    rcases ty with ⟨rfl,xs,hq⟩ | ⟨rfl,o,hk,hc,hd⟩ | ⟨rfl,hk⟩ | ⟨rfl,S,n,hk⟩ | ⟨rfl,xs,hk⟩
    · obtain ⟨its,_,pl,_⟩:=I.list hq
      refine ⟨pl.isList.typeIs,fun a e=>?_⟩
      cases e
      obtain ⟨o,n,e,c,hd,_⟩:=pl
      exact ⟨o,e,hd⟩
    · refine ⟨⟨o,I.kIn p o hk,hc⟩,fun a e=>?_⟩
      cases e
      exact ⟨o,I.kIn _ o hk,hd⟩
    · have z:∃ o,s.heap.get? p=some o∧o.ExactDict:=by
        rcases hk with ⟨kvs,hk⟩ | ⟨kvs,hk⟩
        · obtain ⟨_,_,_,_,o,_,_,e,ex,_⟩:=I.hok p _ hk
          exact ⟨o,e,ex⟩
        · obtain ⟨_,_,_,_,o,_,_,e,ex,_⟩:=I.hok p _ hk
          exact ⟨o,e,ex⟩
      obtain ⟨o,e,ex⟩:=z
      refine ⟨⟨o,e,ex.1⟩,fun a e2=>?_⟩
      cases e2
      exact ⟨o,e,ex.2.1⟩
    · obtain ⟨o,_,_,_,e,ex,_⟩:=I.hok p _ hk
      refine ⟨⟨o,e,ex.1⟩,fun a e2=>?_⟩
      cases e2
      exact ⟨o,e,ex.2.1⟩
    · obtain ⟨_,its,_,⟨o,e,c,_⟩,dn⟩:=I.hok p _ hk
      refine ⟨⟨o,e,c⟩,fun a e2=>?_⟩
      cases e2
      exact ⟨o,e,dn o e⟩
  | _=>exact False.elim ty
def tBM0 (K:PySem.W.Frag) (T:String) (r:V→List V→Hp→VK→Prop) (to:TE):TE:=fun σ H Q=>to σ H fun x H1=>tyV K T x H1∧r x [] H1 Q
def tBM (K:PySem.W.Frag) (T:String) (r:V→List V→Hp→VK→Prop) (to:TE) (t:TA):TE:=fun σ H Q=>to σ H fun x H1=>tyV K T x H1∧t σ H1 fun xs H2=>r x xs H2 Q
variable {o e:Expr} {es:List Expr} {to:TE} {t:TA} {name:Str} {apos cpos:Pos} {T id:String} {r:V→List V→Hp→VK→Prop}
theorem pe_bm (pa:PlainAttrs T) (slot:Slot T name id) (hty:typeOf (.builtin id)=pure (.type "method_descriptor")) (hm:MtR X id r) (ho:PE X o to) (ha:PA X (e :: es) t)
    (hbase:attributeBase o name X.env (eval o X.env)=eval o X.env:=by rfl)
    (hfew:((backTo cpos (starEach (e :: es) X.env)).all (fun x=>!x.1) && (backToKw cpos (keywordEach [] X.env)).all (fun x=>x.1.isSome)
      && decide ((e :: es).length+([]:List Keyword).length+(if ([]:List Keyword).isEmpty then 0 else 1) < 30))=true:=by rfl)
    (hline:(apos.endLine == cpos.line)=true:=by rfl) (hs:starEach (e :: es) X.env=(false,eval e X.env) :: starEach es X.env:=by rfl) (hplain:(backTo cpos (starEach es X.env)).any (·.1)=false:=by rfl) :
    PE X (.Call (.Attribute o name apos) (e :: es) [] cpos) (tBM X.K T r to t):=by
  intro pins s σ H Q I h
  refine wpAny_Call_method_late hbase hfew hline rfl (thn (ho pins s σ H _ I h) fun v s1 ⟨x,H1,I1,r1,ty,q1⟩=>?_)
  obtain ⟨h1,h2⟩:=tyV_is I1 r1 ty
  refine ⟨T,id,pa,slot,hty,h1,h2,?_⟩
  have hA:=ha cpos pins s1 σ H1 _ I1 q1
  rw [hs] at hA ⊢
  refine Calls.callWith_builtin (by show (false || (backTo cpos (starEach es X.env)).any (·.1))=false;rw [hplain] <;> rfl) (Calls.evalArgs_plain ?_)
  exact thn hA fun us s2 ⟨vs,H2,I2,r2,q2⟩=>hm pins s2 σ H2 x vs v us Q I2 r1 r2 q2
end
end L2
namespace L2
open PySem PySem.Spec PyProof.Rows
def MtM (X:Cx) (id:String) (r:V→List V→Hp→VK→Prop):Prop:=
  ∀ (pins:List (Addr×Obj)) (s:Shared) (σ:St) (H:Hp) (x:V) (xs:List V) (v:Value) (us:List Value) (Q:VK),Inv X pins σ H s→RelV x v→Vals xs us→r x xs H Q→
    wpAny (model X.prog X.w) X.A (call (.builtin id) (v :: us)) (EP X pins σ Q) X.xe s
theorem Vals.one:∀ {x:V} {us:List Value},Vals [x] us→∃ u,us=[u]∧RelV x u
  | _,_,.cons r .nil=>⟨_,rfl,r⟩
theorem Vals.eraseIdx:∀ {xs:List V} {us:List Value} (i:Nat),Vals xs us→Vals (xs.eraseIdx i) (us.eraseIdx i)
  | _,_,_,.nil=>.nil
  | _,_,0,.cons _ t=>t
  | _,_,i+1,.cons r t=>.cons r (Vals.eraseIdx i t)
theorem Vals.reverse {xs:List V} {us:List Value} (h:Vals xs us):Vals xs.reverse us.reverse:=by
  induction h with
  | nil=>exact .nil
  | cons r t ih=>rw [List.reverse_cons,List.reverse_cons];exact Vals.append ih (.cons r .nil)
theorem ZGr {α:Type}:∀ (l:List α) (i:Nat),(l.eraseIdx i).length≤l.length
  | [],_=>Nat.le_refl _
  | _ :: _,0=>Nat.le_succ _
  | _ :: r,i+1=>Nat.succ_le_succ (ZGr r i)
section
variable {X:Cx} {pins:List (Addr×Obj)} {σ:St} {H:Hp} {s:Shared} {l b:Addr} {xs ys zs:List V}
theorem Inv.lset {its its':List Value} {n:Nat} {f:Array Value→Array Value} {t':Nat} (I:Inv X pins σ H s) (hH:H l=some (.lst xs))
    (e:s.heap.get? l=some { cls:=.type "list", data:=.seq its.toArray n }) (hf:f its.toArray=its'.toArray) (hv:Vals ys its') (hz:ys.length≤sizeLine) :
    Inv X pins σ (upd H l (.lst ys)) { s with heap:=s.heap.update l (Obj.mapSeq f),toks:=t' }:=by
  have q:=PySem.IsL.update e f
  rw [hf] at q
  refine I.write (x:=l) (e:=l) (by rw [hH];exact trivial) (.inl rfl) (fun b' u hb hu=>(Heap.get?_update_other s.heap (Obj.mapSeq f) (Ne.symm hb)).trans hu) ⟨_,q⟩ ?_
  exact ⟨hz,its',_,hv,q⟩
theorem Inv.lnew {its:List Value} {t':Nat} (I:Inv X pins σ H s) (hv:Vals ys its) (hz:ys.length≤sizeLine) :
    Inv X pins σ (upd H s.heap.objs.size (.lst ys)) { s with heap:=s.heap.push { cls:=.type "list", data:=.seq its.toArray },toks:=t' }:=
  I.laid (fun _ _ q=>Heap.get?_push_of_some _ q) (Nat.le_refl _) ⟨hz,its,0,hv,Heap.get?_push_size _ rfl⟩
theorem Inv.fresh (I:Inv X pins σ H s):H s.heap.objs.size=none:=I.hok.fresh (Nat.le_refl _)
theorem Inv.lstM (I:Inv X pins σ H s) (hH:H l=some (.lst xs)):xs.length≤sizeLine∧∃ (its:List Value) (n:Nat),Vals xs its∧xs.length=its.length∧s.heap.get? l=some { cls:=.type "list", data:=.seq its.toArray n }:=by
  obtain ⟨z,its,n,r,e⟩:=I.hok l _ hH
  exact ⟨z,its,n,r,r.length,e⟩
end
section
variable {X:Cx}
def ZEZ:V→List V→Hp→VK→Prop:=fun x vs H Q=>∃ l xs y,x=.ref l∧vs=[y]∧H l=some (.lst xs)∧xs.length < sizeLine∧Q .non (upd H l (.lst (xs++[y])))
theorem ZGe:MtM X "list.append" ZEZ:=by
  intro pins s σ H x vs v us Q I rx rv h
  obtain ⟨l,xs,y,rfl,rfl,hH,hz,q⟩:=h
  cases rx
  obtain ⟨u,rfl,ru⟩:=rv.one
  obtain ⟨z,its,n,r,hl,e⟩:=I.lstM hH
  refine call_meets F.slot_list_append ⟨_,e,rfl⟩ F.entry_list_append (F.args_list_append_2 _ _) (PySem.list_append l its.toArray n u (by rw [List.size_toArray];omega)) ⟨e,?_⟩
  refine ⟨.non,_,I.lset (its':=its++[u]) hH e (by simp) (r.append (.cons ru .nil)) ?_,rfl,q⟩
  rw [List.length_append,List.length_singleton]
  omega
def rReverse:V→List V→Hp→VK→Prop:=fun x vs H Q=>∃ l xs,x=.ref l∧vs=[]∧H l=some (.lst xs)∧Q .non (upd H l (.lst xs.reverse))
def rCat:R2:=fun x y H Q=>∃ l b xs zs,x=.ref l∧y=.ref b∧H l=some (.lst xs)∧H b=some (.lst zs)∧xs.length+zs.length≤sizeLine∧∀ p,H p=none→Q (.ref p) (upd H p (.lst (xs++zs)))
theorem ZFf:OpR X (binaryOp .Add) rCat:=by
  intro pins s σ H x y v u Q I rx ry h
  obtain ⟨l,b,xs,zs,rfl,rfl,hH,hB,hz,q⟩:=h
  cases rx
  cases ry
  obtain ⟨z,its,n,r,hl,e⟩:=I.lstM hH
  obtain ⟨z2,its2,n2,r2,hl2,e2⟩:=I.lstM hB
  refine PySem.P.add_list e e2 ?_ (by rw [List.size_toArray,List.size_toArray];omega)
  have ea:its.toArray++its2.toArray=(its++its2).toArray:=by simp
  rw [ea]
  exact ⟨.ref _,_,I.lnew (t':=s.toks) (r.append r2) (by rw [List.length_append];omega),rfl,q _ I.fresh⟩
end
section
variable {prog:Program} {w:World} {A:Around} {E:Value→Shared→Prop} {s:Shared}
set_option maxRecDepth 100000 in
end
section
variable {X:Cx}
end
end L2
namespace Att
open PySem PySem.W PySem.Calls PyProof.Rows
theorem ZEU {P:Params} {h:Heap}:∀ (ns:List Int) (vs:List Value),WellAll P h vs (ns.map WData.int)→IntsAre vs ns:=by
  intro ns
  induction ns with
  | nil=>
    intro vs w
    rw [List.map_nil] at w
    cases w
    exact .nil
  | cons n ns ih=>
    intro vs w
    rw [List.map_cons] at w
    cases w with
    | cons a b=>
      cases a
      exact .cons _ _ (ih _ b)
theorem ZKM {l:OpenLaw} {n:Nat} (hn:l.most=some n) {P:Params} {h:Heap} {args:List WData} {vals:List Value}
    (hpre:l.row.toRowW.claim.pre args=true) (hwl:WellAll P h vals args) :
    ∃ a vs ns,vals=[Value.ref a]∧args=[WData.list (ns.map WData.int)]∧h.get? a=some { cls:=.type "list", data:=.seq vs.toArray }∧IntsAre vs ns∧ns.length≤n:=by
  have hsh:WShape.hasAll [] args [.list .int]=true:=(pre_splitW hpre).1
  have hc:l.pre.holds [] { args:=args }=true:=(pre_splitW hpre).2
  obtain ⟨d,r,rfl,h1,h2⟩:=hasAllW_cons hsh
  obtain rfl:=hasAllW_nil h2
  obtain ⟨xs,rfl,h3⟩:=hasW_list h1
  obtain ⟨ns,rfl⟩:=items_int h3
  have hlen:ns.length≤n:=by
    unfold OpenLaw.pre at hc
    have h4:(WTm.not (.lt (.lit (.int (n:Int))) (.len (.arg 0)))).holds [] { args:=[.list (ns.map .int)] }=true:=by
      have h4:=(holds_andW hc).1
      rw [hn] at h4
      exact h4
    have h5:=condW_of h4 (w_not (w_lt w_lit (w_len_list (w_arg rfl))))
    rw [List.length_map] at h5
    refine Nat.le_of_not_lt fun q=>?_
    have q':(n:Int) < ((ns.length:Nat):Int):=by omega
    first
      | (rw [decide_eq_true q'] at h5;exact absurd h5 (by decide))
      | (simp at h5;omega)
  cases hwl with
  | cons w1 w2=>
    cases w2
    cases w1 with
    | list ho hall=>exact ⟨_,_,ns,rfl,rfl,ho,ZEU ns _ hall,hlen⟩
theorem ZKU (l:OpenLaw) (args:List WData):l.row.toRowW.claim.post args (.bool true) args=true:=
  postW_of (r:=l.row.toRowW) (X:=(true == true))
    (show WShape.has [] (.bool true) .bool=true by first | rfl | decide | simp [WShape.has,WShape.arms,WShape.armsAll])
    (show (WTm.eq .res (.lit (.bool true))).value [] { args:=args,res:=some (.bool true),after:=args }=some (.bool (true == true)) from w_eq_bool (w_res rfl) w_lit) rfl
theorem attach_call {l:OpenLaw} {n:Nat} {q:Program} {loose:List Str} {XP:(Str→Option Value)→Heap→Prop} {YP:World→Heap→Prop} {d:DefRec}
    (hn:l.most=some n) (hdf:d.params.defaults=[])
    (call:∀ (w:World) (s₀ s₁:Shared) (mg mb:Str→Option Value) (fa:Addr) (o:Obj) (pm cd doc:Value) (a:Addr) (vs:List Value) (ns:List Int),
      Ground q loose [] XP w s₀ mg mb s₁.heap→YP w s₁.heap→
      s₁.heap.get? fa=some o→o.data=.func (docDef d.name d.params d.body d.scope pm cd doc)→s₁.heap.CodeRec cd d.name→mg d.name=some (.ref fa)→
      s₁.heap.get? a=some { cls:=.type "list", data:=.seq vs.toArray }→IntsAre vs ns→ns.length≤n→s₁.gens=#[]→
      codeAny (model l.prog w) callerA (.call (.ref fa) ⟨[.ref a],[]⟩) (fun r s'=>r=.ok (.ret (.bool true))∧OldK s₁.heap s'.heap∧s'.os=s₁.os∧AllBare s'.gens) s₁) :
    WalkO q loose XP YP l.row.toRowW d [] (fun f vs=>PySem.call f vs):=by
  intro w s₀ s₁ mg mb G Y fa o pm cd doc dV kV ho hd hcd hD hmg hg args vals as hpre hlay hrd hwl hlo
  obtain rfl:dV=.none:=Dflts.none hD hdf
  obtain rfl:kV=.none:=Dflts.noKw hD
  obtain ⟨a,vs,ns,rfl,rfl,hobj,hints,hlen⟩:=ZKM hn hpre hwl
  refine enter_call (codeAny_mono (call w s₀ s₁ mg mb fa o pm cd doc a vs ns G Y ho (fd_plain hd) hcd hmg hobj hints hlen hg) fun r s' hq=>?_)
  obtain ⟨rfl,h2,h3,h4⟩:=hq
  exact ⟨.inl ⟨.bool true,.bool true,[],rfl,fun _=>rfl,.bool true,ZKU l _,fun _=>⟨List.Pairwise.nil,fun _ hm=>(nomatch hm)⟩⟩,h2,h3,h4⟩
section
variable {prog:Program} {w:World} {A:Around} {E:Value→Shared→Prop} {s:Shared} {K:Frag}
end
end Att
namespace L2
open PySem PySem.Spec PyProof.Rows
theorem ZGn:∀ {vs:List Value} {ns:List Int},IntsAre vs ns→Vals (ns.map V.int) vs
  | _,_,.nil=>.nil
  | _,_,.cons n t h=>.cons ⟨t,rfl⟩ (ZGn h)
def Only (H:Hp):Prop:=∀ b,H b=none∨∃ o xs,H b=some (.frz o (.lst xs))
theorem law_call {P:Program} {w:World} {K:PySem.W.Frag} {mg mb:Str→Option Value} {CX:CXT} {k:Nat} {fa a:Addr} {fd:FuncData} {x:Str} {sp:Sp} {s₁:Shared} {vs:List Value} {ns:List Int}
    (KX:K.In s₁.heap) (hns:s₁.heap.Ns mainGlobals mg) (hb:s₁.heap.Ns builtinsNs mb) (hbb:∀ x:Str,x ≠ "__name__" → mb x=bootBuiltins x) (hlim:s₁.heap.NoLimit) (hg:s₁.gens=#[])
    (ha:s₁.heap.get? a=some { cls:=.type "list", data:=.seq vs.toArray }) (hi:IntsAre vs ns) (hl:ns.length≤sizeLine) (hr:Room k callerA)
    (F:∀ base:Heap,K.In base→base.Ns mainGlobals mg→FnOk P w K mg base CX k fa fd [x] sp) (hbind:∀ (s:Shared) (u:Value),BindsTo s fd ⟨[u],[]⟩ [(x,u)])
    (hsp:∀ H:Hp,Only H→SqL K H a (ns.map V.int)→sp [.ref a] H (fun v _=>v=.bl true) fun _ _ _=>False)
    (hCX:∀ H e s',CX [] H s₁ (fun _ _ _=>False) e s'→False) :
    codeAny (model P w) callerA (.call (.ref fa) ⟨[.ref a],[]⟩) (fun r s'=>r=.ok (.ret (.bool true))∧OldK s₁.heap s'.heap∧s'.os=s₁.os∧AllBare s'.gens) s₁:=by
  have rv:=ZGn hi
  have lenV:=hi.length
  -- from an abstract heap in which nothing but the script may be tracked
  have core:∀ H:Hp,Only H→SqL K H a (ns.map V.int)→HOk P w H s₁.heap→(∀ b,H b≠none→b=a)→(H a≠none→K.lookup a=none)→
      codeAny (model P w) callerA (.call (.ref fa) ⟨[.ref a],[]⟩) (fun r s'=>r=.ok (.ret (.bool true))∧OldK s₁.heap s'.heap∧s'.os=s₁.os∧AllBare s'.gens) s₁:=by
    intro H hO hS hok hA hK
    have base_of:∀ {b:Addr} {o:Obj},s₁.heap.get? b=some o→H b=none→(hidT s₁.heap H).get? b=some o:=fun e n=>hidT_get e n
    have noA:∀ {b:Addr} {o:Obj} {es:Array DictEntry} {ep:Nat},s₁.heap.get? b=some o→o.data=.dict es ep→H b=none:=fun {b o es ep} e d=>by
      cases q:H b with
      | none=>rfl
      | some u=>
        have e':b=a:=hA b (by rw [q];simp)
        subst e'
        rw [ha] at e;cases e
        have d':Data.seq vs.toArray _=Data.dict es ep:=d
        cases d'
    have nsK:∀ {b:Addr} {m:Str→Option Value},s₁.heap.Ns b m→(hidT s₁.heap H).Ns b m:=fun {b m} ⟨o,es,ep,e,d,r⟩=>⟨o,es,ep,base_of e (noA e d),d,r⟩
    have hKb:K.In (hidT s₁.heap H):=fun b o e=>base_of (KX b o e) (by
      cases q:H b with
      | none=>rfl
      | some u=>
        have e':b=a:=hA b (by rw [q];simp)
        subst e'
        rw [hK (by rw [q];simp)] at e;cases e)
    have hM:Mod K mg (hidT s₁.heap H):=⟨hKb,nsK hns,⟨mb,nsK hb,hbb⟩,let ⟨mc,h1,h2⟩:=hlim;⟨mc,nsK h1,h2⟩⟩
    have e0:Env0 P w K mg (hidT s₁.heap H) callerA [] s₁ H:=⟨rfl,hM,fun b o e=>of_hidT e,Nat.le_of_eq (ZKE _ _),trivial,fun b hb=>absurd (show b∈([]:List Addr) from hb) (by simp),hok,.of_eq hg⟩
    refine codeAny_mono ((F _ hKb (nsK hns)).run callerA [] s₁ H ⟨[.ref a],[]⟩ [.ref a] [.ref a] _ _ hr e0 (hbind s₁ (.ref a)) (.cons rfl .nil) (hsp H hO hS)) fun r s' h=>?_
    cases r with
    | error e=>exact (hCX H e s' h).elim
    | ok fl=>
      cases fl with
      | next=>exact False.elim h
      | brk=>exact False.elim h
      | cont=>exact False.elim h
      | ret u=>
        obtain ⟨v,H',os,bare,un,hok',r',q⟩:=h
        have q':v=.bl true:=q
        subst q'
        obtain rfl:u=Value.bool true:=r'
        refine ⟨rfl,OldK.of_keep fun b o e=>?_,os,bare⟩
        cases q:H b with
        | none=>exact un.keep b o e q (by intro z;exact absurd (show b∈([]:List Addr) from z) (by simp)) (by simp)
        | some u=>
          rcases hO b with z | ⟨ob,xs,z⟩
          · rw [q] at z;cases z
          · have z2:=un.frzs b ob _ z
            obtain ⟨e1,_⟩:=hok b _ z
            obtain ⟨e2,_⟩:=hok' b _ z2
            rw [e] at e1;cases e1
            exact e2
  cases hk:K.lookup a with
  | some o=>
    -- the script is one of the module's own objects
    have e:=KX a o hk
    rw [ha] at e
    cases e
    refine core (fun _=>none) (fun _=>.inl rfl) (.inr ⟨_,vs.toArray,_,hk,rfl,rfl,rfl,by rw [List.size_toArray,lenV];exact hl,by simpa using rv⟩) (fun b u z=>by have z':(none:Option HO)=some u:=z;cases z') (fun b z=>absurd rfl z) fun z=>absurd rfl z
  | none=>
    refine core (fun b=>if b=a then some (.frz { cls:=.type "list", data:=.seq vs.toArray } (.lst (ns.map V.int))) else none) (fun b=>?_) (.inl (.inr ⟨{ cls:=.type "list", data:=.seq vs.toArray },if_pos rfl⟩)) (fun b u z=>?_) (fun b z=>?_) fun _=>hk
    · by_cases hb:b=a
      · exact .inr ⟨_,_,if_pos hb⟩
      · exact .inl (if_neg hb)
    · by_cases hb:b=a
      · have z':=(if_pos hb).symm.trans z
        cases z'
        subst hb
        exact ⟨ha,by rw [List.length_map];exact hl,vs,_,rv,ha⟩
      · have z':=(if_neg hb).symm.trans z
        cases z'
    · by_cases hb:b=a
      · exact hb
      · exact absurd (if_neg hb) z
end L2
namespace L2
open PySem PySem.Spec PyProof.Rows
theorem walk_of {l:PySem.W.OpenLaw} {n k:Nat} {q:Program} {loose:List Str} {XP:(Str→Option Value)→Heap→Prop} {YP:World→Heap→Prop} {d:DefRec} {K:Params→PySem.W.Frag} {CX:World→CXT} {sp:World→Sp} {x:Str}
    (hn:l.most=some n) (hn2:n≤sizeLine) (hdf:d.params.defaults=[]) (hr:Room k callerA)
    (hY:∀ (w:World) (h:Heap),YP w h→(K w.params).In h)
    (F:∀ (w:World) (mg:Str→Option Value) (fa:Addr) (h:Heap),(K w.params).In h→h.Ns mainGlobals mg→mg d.name=some (.ref fa)→
      ∃ fd:FuncData,(∀ (s:Shared) (u:Value),BindsTo s fd ⟨[u],[]⟩ [(x,u)])∧
        ∀ base:Heap,(K w.params).In base→base.Ns mainGlobals mg→FnOk l.prog w (K w.params) mg base (CX w) k fa fd [x] (sp w))
    (hsp:∀ (w:World) (H:Hp) (a:Addr) (ns:List Int),ns.length≤n→Only H→SqL (K w.params) H a (ns.map V.int)→sp w [.ref a] H (fun v _=>v=.bl true) fun _ _ _=>False)
    (hCX:∀ (w:World) (H:Hp) (s:Shared) (e:Value) (s':Shared),CX w [] H s (fun _ _ _=>False) e s'→False) :
    PySem.W.WalkO q loose XP YP l.row.toRowW d [] (fun f vs=>PySem.call f vs):=by
  refine Att.attach_call hn hdf fun w s₀ s₁ mg mb fa o pm cd doc a vs ns G Y ho hd hcd hmg hobj hints hlen hg=>?_
  have KX:=hY w _ Y
  obtain ⟨fd,hb,hF⟩:=F w mg fa _ KX G.T.g hmg
  exact law_call KX G.T.g G.T.b G.T.builtins G.T.nolimit hg hobj hints (Nat.le_trans hlen hn2) hr hF hb (fun H hO hS=>hsp w H a ns hlen hO hS) fun H e s'=>hCX w H s₁ e s'
end L2
namespace L2
open PySem PySem.Spec PyProof.Rows
def ZAG (s:Stmt):Arguments:=match s with
  | .FunctionDef _ a _ _ _ _ _ _ _ _=>a
  | _=>{ posonlyargs:=[],args:=[],vararg:=none,kwonlyargs:=[],kw_defaults:=[],kwarg:=none,defaults:=[] }
def ZAC (s:Stmt):List Stmt:=match s with
  | .FunctionDef _ _ b _ _ _ _ _ _ _=>b
  | _=>[]
def ZA4 (s:Stmt):Scope:=match s with
  | .FunctionDef _ _ _ _ _ _ sc _ _ _=>sc
  | _=>{ kind:=.function,names:=[],isGenerator:=false,isCoroutine:=false }
abbrev CX0:CXT:=fun _ _ _ _ _ _=>False
abbrev E0:XK:=fun _ _ _=>False
theorem pass0 {X:Cx}:ZJA CX0 X E0:=fun _ _ _ _ _ _ _ h=>h.elim
structure Fun (K:PySem.W.Frag) (x qual:Str) (st:Stmt) (f:Addr) (fd:FuncData):Prop where
  ex:∃ (oc:Value) (od:Option Addr) (kV doc pm:Value) (an:Option Addr) (cdv ct:Value) (osl:Array (Option Value)),
    fd=PySem.W.fnOf x qual (ZAG st) (ZAC st) (ZA4 st) .none kV doc pm an cdv ct∧K.lookup f=some ⟨oc,od,.func fd,osl⟩∧PySem.W.codeIn K cdv qual=true
  kp:PySem.W.keepIn K (.ref f)=true
section
variable {P:Program} {w:World} {K:PySem.W.Frag} {mg:Str→Option Value} {base:Heap}
theorem Fun.ok {x qual:Str} {st:Stmt} {f:Addr} {fd:FuncData} {N ps:List Str} {k:Nat} {sp:Sp} (F:Fun K x qual st f fd) (S:FnScope N ps (ZA4 st)) (len:∀ vs H Q E,sp vs H Q E→vs.length=ps.length)
    (hbody:∀ (cdv:Value) (A:Around) (outer:List Env) (s:Shared) (H:Hp) (vs:List V) (Q:VK) (E:XK),Room k (A.deeper (envOfC qual (ZA4 st) s.heap.objs.size f cdv))→sp vs H Q E→
      ∃ t,PSs (cxOf CX0 P w K mg base N qual (ZA4 st) f cdv A outer s H E).nox (ZAC st) t∧t { nx:=fun _ H'=>Q .non H',rt:=Q } (start N vs) H):FnOk P w K mg base CX0 (k+1) f fd ps sp:=by
  obtain ⟨oc,od,kV,doc,pm,an,cdv,ct,osl,rfl,lk,hcd⟩:=F.ex
  refine fn_of lk hcd S len fun A outer s H vs Q E hr hsp=>?_
  obtain ⟨t,h,q⟩:=hbody cdv A outer s H vs Q E hr hsp
  exact ⟨t,h.nox,q⟩
theorem Fun.binds {x qual:Str} {st:Stmt} {f:Addr} {fd:FuncData} {ps:List Str} (F:Fun K x qual st f fd)
    (h:∀ (kV doc pm:Value) (an:Option Addr) (cdv ct:Value) (us:List Value),us.length=ps.length→bindArgs (PySem.W.fnOf x qual (ZAG st) (ZAC st) (ZA4 st) .none kV doc pm an cdv ct) ⟨us,[]⟩=pure (ps.zip us)):Binds K fd ps []:=by
  obtain ⟨oc,od,kV,doc,pm,an,cdv,ct,osl,rfl,lk,hcd⟩:=F.ex
  exact .all (h kV doc pm an cdv ct)
theorem ZAO {x qual:Str} {st:Stmt} {f:Addr} {oc:Value} {od an:Option Addr} {osl:Array (Option Value)} {kV doc pm cdv ct:Value} (l:K.lookup f=some ⟨oc,od,.func (PySem.W.fnOf x qual (ZAG st) (ZAC st) (ZA4 st) .none kV doc pm an cdv ct),osl⟩)
    (c:PySem.W.codeIn K cdv qual=true) (k:PySem.W.keepIn K (.ref f)=true):Fun K x qual st f (PySem.W.fnOf x qual (ZAG st) (ZAC st) (ZA4 st) .none kV doc pm an cdv ct):=⟨⟨oc,od,kV,doc,pm,an,cdv,ct,osl,rfl,l,c⟩,k⟩
end
theorem ZHm {A:Around} {k:Nat} (hr:Room k A):A.units+1 < cLine:=Nat.lt_of_le_of_lt (Nat.add_le_add_left (by decide:1≤64) _) hr.units
section
variable {X:Cx}
theorem pv (i:Nat) {x:Str} {pos:Pos} (hN:X.N[i]?=some x:=by rfl) (hv:Vis X.env.scope x:=by first | exact Or.inl rfl | exact Or.inr (Or.inl rfl) | exact Or.inr (Or.inr rfl)) (hd:(x == ("__debug__" : Str))=false:=by decide)
    (hcd:(x == ("__classdict__" : Str))=false:=by decide):PE X (.Name x pos) (ZBi i):=pe_var hN hv hd hcd
end
theorem ZD4 {A B:Prop} (h:B):if false=true then A else B:=by
  rw [if_neg Bool.false_ne_true]
  exact h
theorem iteT {A B:Prop} (h:A):if true=true then A else B:=by
  rw [if_pos rfl]
  exact h
theorem ZAg {c A B:Prop} [Decidable c] (h1:c→A) (h2:¬ c→B):if c then A else B:=by
  by_cases h:c
  · rw [if_pos h]
    exact h1 h
  · rw [if_neg h]
    exact h2 h
theorem iteNS {c A B:Prop} [Decidable c] (hc:c) (h:B):if (!decide c)=true then A else B:=by
  rw [decide_eq_true hc]
  exact ZD4 h
def Same (H H':Hp):Prop:=∀ b o,H b=some o→H' b=some o
theorem Same.refl (H:Hp):Same H H:=fun _ _ h=>h
theorem Same.trans {H H1 H2:Hp} (a:Same H H1) (b:Same H1 H2):Same H H2:=fun c o h=>b c o (a c o h)
theorem Same.seq {K:PySem.W.Frag} {H H':Hp} {a:Addr} {xs:List V} (e:Same H H') (h:SqL K H a xs):SqL K H' a xs:=by
  rcases h with (h | ⟨o,h⟩) | h
  · exact .inl (.inl (e _ _ h))
  · exact .inl (.inr ⟨o,e _ _ h⟩)
  · exact .inr h
end L2
set_option Elab.async false
set_option linter.all false
set_option maxRecDepth 100000
set_option maxHeartbeats 4000000
namespace L2
open PySem PySem.Spec PyProof.Rows
section
variable {κ:Type} [DecidableEq κ]
def ZEX (kvs:List (κ×V)) (k:κ):Option V:=(kvs.find? fun kv=>decide (kv.1=k)).map (·.2)
def ZED (kvs:List (κ×V)) (k:κ) (v:V):List (κ×V):=
  if (kvs.any fun kv=>decide (kv.1=k))=true then kvs.map (fun kv=>if kv.1=k then (kv.1,v) else kv) else kvs++[(k,v)]
def dropK (kvs:List (κ×V)) (k:κ):List (κ×V):=kvs.filter fun kv=>decide (kv.1≠k)
theorem ZDW {p:κ×V} {r:List (κ×V)} {k:κ} (e:p.1=k):ZEX (p :: r) k=some p.2:=by simp [ZEX,List.find?_cons,e]
theorem ZDh {p:κ×V} {r:List (κ×V)} {k:κ} (e:¬ p.1=k):ZEX (p :: r) k=ZEX r k:=by simp [ZEX,List.find?_cons,e]
theorem ZIL (k:κ):∀ kvs:List (κ×V),(kvs.any fun kv=>decide (kv.1=k))=(ZEX kvs k).isSome
  | []=>rfl
  | p :: r=>by
    rw [List.any_cons]
    by_cases e:p.1=k
    · simp only [ZDW e,decide_eq_true e,Bool.true_or,Option.isSome_some]
    · rw [ZDh e,decide_eq_false e,Bool.false_or];exact ZIL k r
theorem ZEL (kvs:List (κ×V)) (k:κ) (v:V):(ZED kvs k v).length≤kvs.length+1:=by
  unfold ZED
  split
  · rw [List.length_map];omega
  · rw [List.length_append,List.length_cons,List.length_nil];omega
theorem RelO.isSome_eq {o:Option V} {u:Option Value} (r:RelO o u):o.isSome=u.isSome:=by
  cases o with
  | none=>cases u with
    | none=>rfl
    | some _=>exact (show False from r).elim
  | some _=>cases u with
    | none=>exact (show False from r).elim
    | some _=>rfl
theorem KV.val {kvs:List (κ×V)} {vs:List (κ×Value)} (r:KV kvs vs) (k:κ):RelO (ZEX kvs k) (valueAt vs k):=by
  unfold KV at r
  induction r with
  | nil=>exact True.intro
  | @cons p q ps qs h t ih=>
    obtain ⟨h1,h2⟩:=h
    by_cases e:p.1=k
    · have e':q.1=k:=h1.symm.trans e
      have b:valueAt (q :: qs) k=some q.2:=by simp [valueAt,List.find?_cons,e']
      rw [ZDW e,b];exact h2
    · have e':¬ q.1=k:=fun z=>e (h1.trans z)
      have b:valueAt (q :: qs) k=valueAt qs k:=by simp [valueAt,List.find?_cons,e']
      rw [ZDh e,b];exact ih
theorem KV.any {kvs:List (κ×V)} {vs:List (κ×Value)} (r:KV kvs vs) (k:κ):(kvs.any fun kv=>decide (kv.1=k))=vs.any fun kv=>decide (kv.1=k):=by
  unfold KV at r
  induction r with
  | nil=>rfl
  | cons h t ih=>rw [List.any_cons,List.any_cons,ih,h.1]
theorem KV.repl {kvs:List (κ×V)} {vs:List (κ×Value)} (r:KV kvs vs) (k:κ) {y:V} {u:Value} (ry:RelV y u) :
    KV (kvs.map fun kv=>if kv.1=k then (kv.1,y) else kv) (vs.map fun kv=>if kv.1=k then (kv.1,u) else kv):=by
  unfold KV at r ⊢
  induction r with
  | nil=>exact .nil
  | @cons p q ps qs h t ih=>
    rw [List.map_cons,List.map_cons]
    refine .cons ?_ ih
    obtain ⟨h1,h2⟩:=h
    by_cases e:p.1=k
    · rw [if_pos e,if_pos (h1.symm.trans e)];exact ⟨h1,ry⟩
    · rw [if_neg e,if_neg (fun z=>e (h1.trans z))];exact ⟨h1,h2⟩
theorem KV.put {kvs:List (κ×V)} {vs:List (κ×Value)} (r:KV kvs vs) (k:κ) {y:V} {u:Value} (ry:RelV y u):KV (ZED kvs k y) (stored vs k u):=by
  unfold ZED stored
  rw [r.any k]
  by_cases e:(vs.any fun kv=>decide (kv.1=k))=true
  · rw [if_pos e,if_pos e];exact r.repl k ry
  · rw [if_neg e,if_neg e];exact Paired.snoc r ⟨rfl,ry⟩
theorem KV.drop {kvs:List (κ×V)} {vs:List (κ×Value)} (r:KV kvs vs) (k:κ):KV (dropK kvs k) (without vs k):=by
  unfold KV at r ⊢
  unfold dropK without
  induction r with
  | nil=>exact .nil
  | @cons p q ps qs h t ih=>
    obtain ⟨h1,h2⟩:=h
    rw [List.filter_cons,List.filter_cons]
    by_cases e:p.1=k
    · have a:¬ decide (p.1≠k)=true:=by simp [e]
      have b:¬ decide (q.1≠k)=true:=by simp [h1.symm.trans e]
      rw [if_neg a,if_neg b];exact ih
    · have e':¬ q.1=k:=fun z=>e (h1.trans z)
      have a:decide (p.1≠k)=true:=by simp [e]
      have b:decide (q.1≠k)=true:=by simp [e']
      rw [if_pos a,if_pos b];exact .cons ⟨h1,h2⟩ ih
theorem KV.length {kvs:List (κ×V)} {vs:List (κ×Value)} (r:KV kvs vs):kvs.length=vs.length:=Paired.length r
end
theorem kV_is {P:Program} {w:World} {k:Key} {u:Value} (r:RelV (kV k) u):(ZAx P w).is k u=true:=by
  cases k with
  | inl i=>obtain ⟨t,e⟩:=(show ∃ t,u=Value.int i t from r);subst e;exact ZIO P w i t
  | inr x=>obtain ⟨t,e⟩:=(show ∃ t,u=Value.str x t from r);subst e;exact ZHy P w x t
theorem ZGT {P:Program} {w:World}:∀ {ks:List Key} {us:List Value},Vals (ks.map kV) us→ItemsAre (ZAx P w) ks us
  | [],_,r=>by rw [List.map_nil] at r;cases r;exact .nil
  | k :: ks,_,r=>by
    rw [List.map_cons] at r
    cases r with
    | cons h t=>exact .cons (kV_is h) (ZGT t)
abbrev KT (H:Hp):List (List Key×V)→List (List Key×Addr×Value)→Prop:=Paired fun p q=>p.1=q.1∧H q.2.1=some (.tup (p.1.map kV))∧RelV p.2 q.2.2
theorem KT.val {H:Hp} {kvs:List (List Key×V)} {xs:List (List Key×Addr×Value)} (r:KT H kvs xs) (k:List Key):RelO (ZEX kvs k) ((atKey xs k).map (·.2)):=by
  induction r with
  | nil=>exact True.intro
  | @cons p q ps qs h t ih=>
    obtain ⟨h1,_,h2⟩:=h
    by_cases e:p.1=k
    · have e':q.1=k:=h1.symm.trans e
      have b:atKey (q :: qs) k=some q.2:=by simp [atKey,List.find?_cons,e']
      rw [ZDW e,b];exact h2
    · have e':¬ q.1=k:=fun z=>e (h1.trans z)
      have b:atKey (q :: qs) k=atKey qs k:=by simp [atKey,List.find?_cons,e']
      rw [ZDh e,b];exact ih
theorem KT.repl {H:Hp} {kvs:List (List Key×V)} {xs:List (List Key×Addr×Value)} (r:KT H kvs xs) (k:List Key) {y:V} {u:Value} (ry:RelV y u) :
    KT H (kvs.map fun kv=>if kv.1=k then (kv.1,y) else kv) (xs.map (putAt k u)):=by
  induction r with
  | nil=>exact .nil
  | @cons p q ps qs h t ih=>
    rw [List.map_cons,List.map_cons]
    refine .cons ?_ ih
    obtain ⟨h1,h2,h3⟩:=h
    unfold putAt
    by_cases e:p.1=k
    · rw [if_pos e,if_pos (h1.symm.trans e)];exact ⟨h1,h2,ry⟩
    · rw [if_neg e,if_neg (fun z=>e (h1.trans z))];exact ⟨h1,h2,h3⟩
theorem KT.put {H:Hp} {kvs:List (List Key×V)} {xs:List (List Key×Addr×Value)} (r:KT H kvs xs) (k:List Key) {b:Addr} {y:V} {u:Value} (hb:H b=some (.tup (k.map kV))) (ry:RelV y u) :
    KT H (ZED kvs k y) (storedH xs k b u):=by
  have e:(kvs.any fun kv=>decide (kv.1=k))=(atKey xs k).isSome:=by
    rw [ZIL,(r.val k).isSome_eq,Option.isSome_map]
  unfold ZED storedH
  rw [e]
  by_cases q:(atKey xs k).isSome=true
  · rw [if_pos q,if_pos q];exact r.repl k ry
  · rw [if_neg q,if_neg q];exact Paired.snoc r ⟨rfl,hb,ry⟩
theorem KT.keeps {H H':Hp} {kvs:List (List Key×V)} {xs:List (List Key×Addr×Value)} (r:KT H kvs xs) (ht:∀ b ys,H b=some (.tup ys)→H' b=some (.tup ys)):KT H' kvs xs:=
  Paired.mapP r fun _ _ z=>⟨z.1,ht _ _ z.2.1,z.2.2⟩
section
variable {P:Program} {w:World} {H:Hp} {h:Heap} {a:Addr}
theorem rd_of {u:HO} (ok:HOk P w H h) (e:Rd H a u):ObjOk P w H h a u:=e.ok ok
theorem dk_rd {kvs:List (Key×V)} (ok:HOk P w H h) (e:Rd H a (.dK kvs)):kvs.length≤sizeLine∧(a == sysModules)=false∧∃ vs,KV kvs vs∧h.DictOf (ZAx P w) a vs:=
  show ObjOk P w H h a (.dK kvs) from rd_of ok e
theorem dk_of {kvs:List (Key×V)} (ok:HOk P w H h) (e:H a=some (.dK kvs)):kvs.length≤sizeLine∧(a == sysModules)=false∧∃ vs,KV kvs vs∧h.DictOf (ZAx P w) a vs:=dk_rd ok (.inl e)
theorem ZJE {ks:List Key} (ok:HOk P w H h) (e:H a=some (.tup (ks.map kV))):(tupleKind (ZAx P w)).is h ks a:=by
  obtain ⟨_,its,r,⟨o,h1,h2,n,h3⟩,_⟩:=(show ObjOk P w H h a (.tup (ks.map kV)) from ok a _ e)
  exact ⟨o,its.toArray,n,h1,h2,h3,by simpa using ZGT r⟩
theorem dt_rd {kvs:List (List Key×V)} (ok:HOk P w H h) (e:Rd H a (.dT kvs)):kvs.length≤sizeLine∧(a == sysModules)=false∧
    ∃ xs,KT H kvs xs∧h.DictOfH (tupleKind (ZAx P w)) a xs:=by
  obtain ⟨z,y,xs,r,o,es,ep,h1,h2,h3,h4,h5⟩:=(show ObjOk P w H h a (.dT kvs) from rd_of ok e)
  refine ⟨z,y,xs,r,o,es,ep,h1,h2,h3,h4,fun x hx=>?_,h5⟩
  have all:∀ {l:List (List Key×V)} {m:List (List Key×Addr×Value)},KT H l m→∀ x∈m,(tupleKind (ZAx P w)).is h x.1 x.2.1:=by
    intro l m q
    induction q with
    | nil=>intro x hx;exact nomatch hx
    | @cons p q ps qs hq t ih=>
      intro x hx
      rcases List.mem_cons.mp hx with e | hx
      · subst e
        exact ZJE ok (by rw [← hq.1];exact hq.2.1)
      · exact ih x hx
  exact all r x hx
theorem dt_of {kvs:List (List Key×V)} (ok:HOk P w H h) (e:H a=some (.dT kvs)):kvs.length≤sizeLine∧(a == sysModules)=false∧
    ∃ xs,KT H kvs xs∧h.DictOfH (tupleKind (ZAx P w)) a xs:=dt_rd ok (.inl e)
end
def DGet (H:Hp) (a:Addr) (y:V) (r:Option V):Prop:=
  (∃ kvs k,Rd H a (.dK kvs)∧y=kV k∧r=ZEX kvs k)∨∃ kvs k b,Rd H a (.dT kvs)∧y=.ref b∧H b=some (.tup (k.map kV))∧r=ZEX kvs k
def DPut (H:Hp) (a:Addr) (y v:V) (H':Hp):Prop:=
  (∃ kvs k,H a=some (.dK kvs)∧y=kV k∧kvs.length < sizeLine∧H'=upd H a (.dK (ZED kvs k v)))∨
  ∃ kvs k b,H a=some (.dT kvs)∧y=.ref b∧H b=some (.tup (k.map kV))∧kvs.length < sizeLine∧H'=upd H a (.dT (ZED kvs k v))
theorem DGet.k {H:Hp} {a:Addr} {kvs:List (Key×V)} {k:Key} (e:H a=some (.dK kvs)):DGet H a (kV k) (ZEX kvs k):=.inl ⟨kvs,k,.inl e,rfl,rfl⟩
theorem DPut.k {H:Hp} {a:Addr} {kvs:List (Key×V)} {k:Key} {v:V} (e:H a=some (.dK kvs)) (hl:kvs.length < sizeLine):DPut H a (kV k) v (upd H a (.dK (ZED kvs k v))):=.inl ⟨kvs,k,e,rfl,hl,rfl⟩
section
variable {X:Cx} {pins:List (Addr×Obj)} {σ:St} {H:Hp} {s:Shared} {a:Addr} {y v:V} {u r:Value} {o:Option V} {A:Around} {E:Value→Shared→Prop}
theorem Inv.big (I:Inv X pins σ H s):sysModules < s.heap.objs.size:=by
  have h:mainGlobals < s.heap.objs.size:=(I.mod.glob.keeps I.bk).lt
  exact Nat.lt_trans (by decide) h
theorem ZKo {Q:Value→Shared→Prop} (hu:A.units+1 < cLine) (I:Inv X pins σ H s) (g:DGet H a y (some v)) (ry:RelV y u) (h:∀ w' s',Inv X pins σ H s'→RelV v w'→Q w' s') :
    wpAny (model X.prog X.w) A (getItem (.ref a) u) Q E s:=by
  rcases g with ⟨kvs,k,e,ey,l⟩ | ⟨kvs,k,b,e,ey,eb,l⟩
  · subst ey
    obtain ⟨z,hd,vs,rel,dd⟩:=dk_rd I.hok e
    obtain ⟨w',hw,rw'⟩:=RelO.some_of (v:=v) (o:=valueAt vs k) (by rw [l];exact rel.val k)
    exact wpAny_getItem_of (kV_is ry) dd.mapOf hw (h w' _ (I.tok _) rw')
  · subst ey
    cases (show u=Value.ref b from ry)
    obtain ⟨z,hd,xs,rel,dd⟩:=dt_rd I.hok e
    obtain ⟨w',hw,rw'⟩:=RelO.some_of (v:=v) (o:=(atKey xs k).map (·.2)) (by rw [l];exact rel.val k)
    obtain ⟨p,hp,hp2⟩:=Option.map_eq_some_iff.mp hw
    refine wpAny_getItem_heap (tupleKind_room_in1 hu) (ZJE I.hok eb) dd hp ?_
    rw [hp2]
    exact h w' _ (I.tok _) rw'
theorem ZJk {h':Heap} {t':Nat} {ob:HO} (I:Inv X pins σ H s) (mu:Mut (H a)) (hs:Heap.SameBut a s.heap h') (he:∃ q,h'.get? a=some q) (new:ObjOk X.prog X.w (upd H a ob) h' a ob) :
    Inv X pins σ (upd H a ob) { s with heap:=h',toks:=t' }:=
  I.write (x:=a) (e:=a) mu (.inl rfl) (fun b q hb z=>(hs.2 b hb).trans z) he new
theorem dk_new {P:Program} {w:World} {H':Hp} {h':Heap} {kvs:List (Key×V)} {vs:List (Key×Value)} (z:kvs.length≤sizeLine) (hd:(a == sysModules)=false) (rel:KV kvs vs) (dd:h'.DictOf (ZAx P w) a vs) :
    ObjOk P w H' h' a (.dK kvs):=⟨z,hd,vs,rel,dd⟩
theorem ZKS {H':Hp} {Q:Unit→Shared→Prop} (hu:A.units+1 < cLine) (I:Inv X pins σ H s) (g:DPut H a y v H') (ry:RelV y u) (rv:RelV v r) (h:∀ s',Inv X pins σ H' s'→Q () s') :
    wpAny (model X.prog X.w) A (setItem (.ref a) u r) Q E s:=by
  rcases g with ⟨kvs,k,e,ey,l,eH⟩ | ⟨kvs,k,b,e,ey,eb,l,eH⟩
  · subst ey eH
    obtain ⟨z,hd,vs,rel,dd⟩:=dk_of I.hok e
    have hz:vs.length≤sizeLine:=by rw [← rel.length];exact z
    have hl:(ZED kvs k v).length≤sizeLine:=by have:=ZEL kvs k v;omega
    refine wpAny_setItem_pairs (hsz:=hz) (kV_is ry) dd fun h' dd' hs=>h _ ?_
    have he:∃ q,h'.get? a=some q:=let ⟨q,_,_,hq,_⟩:=dd';⟨q,hq⟩
    exact ZJk I (by rw [e];exact True.intro) hs he (dk_new hl hd (rel.put k rv) dd')
  · subst ey eH
    cases (show u=Value.ref b from ry)
    obtain ⟨z,hd,xs,rel,dd⟩:=dt_of I.hok e
    have hz:xs.length≤sizeLine:=by rw [← Paired.length rel];exact z
    have hl:(ZED kvs k v).length≤sizeLine:=by have:=ZEL kvs k v;omega
    refine wpAny_setItem_heap (hsz:=hz) (tupleKind_room_in1 hu) (ZJE I.hok eb) dd fun h' dd' hs=>h _ ?_
    obtain ⟨q,es,ep,hq,h2,h3,h4,_,h5⟩:=dd'
    refine ZJk I (by rw [e];exact True.intro) hs ⟨q,hq⟩ ⟨hl,hd,_,(rel.put k eb rv).keeps fun c ys ec=>?_,q,es,ep,hq,h2,h3,h4,h5⟩
    rw [ZAE (ne_of ec e (fun z=>nomatch z))]
    exact ec
end
section
variable {X:Cx} {pins:List (Addr×Obj)} {σ:St} {H:Hp} {s:Shared} {a:Addr} {kvs:List (Key×V)} {k:Key} {u:Value} {A:Around} {E:Value→Shared→Prop}
end
def NoSl (i:Expr):Prop:=∀ ov iv,subscripted i false ov iv=operate [ov,iv] (getItem ov iv)
theorem subD_of {prog:Program} {w:World} {A:Around} {E:Value→Shared→Prop} {s:Shared} {env:Env} {value slice:Expr} {pos:Pos} {T id:String} {Q:Value→Shared→Prop}
    (hl:typeLookup (.type T) "__getitem__" = pure (some (.builtin id))) (hs:NoSl slice)
    (h:wpAny (model prog w) A (eval value env) (fun o s₁=>wpAny (model prog w) A (eval slice env) (fun i s₂=>s₂.TypeIs o T∧wpAny (model prog w) A (getItem o i) Q E s₂) E s₁) E s) :
    wpAny (model prog w) A (eval (.Subscript value slice pos) env) Q E s:=by
  refine Subscript_ (wpAny_mono h (fun o s₁ h₁=>wpAny_mono h₁ (fun i s₂ h₂=>?_) fun _ _ x=>x) fun _ _ x=>x)
  obtain ⟨hT,h₂⟩:=h₂
  unfold subscriptTail
  refine wpAny_bind ?_
  rw [getitemInPython_of_ne hT.not_modules]
  refine wpAny_bind (wpAny_specialOf hT hl ?_)
  have fin:wpAny (model prog w) A (subscripted slice false o i) (fun r s₃=>wpAny (model prog w) A (letTemporaryGo value o r >>= fun _=>pure r) Q E s₃) E s₂:=by
    rw [hs o i]
    exact wpAny_operating (wpAny_mono h₂ (fun r s₃ h₃=>wpAny_bind (wpAny_letTemporaryGo (wpAny_pure h₃))) fun _ _ x=>x)
  first
    | exact wpAny_pure (wpAny_bind fin)
    | exact wpAny_bind (wpAny_pure (wpAny_bind fin))
    | exact wpAny_bind fin
theorem ZIS {X:Cx} {pins:List (Addr×Obj)} {σ:St} {H:Hp} {s:Shared} {a:Addr} {y:V} {o:Option V} (I:Inv X pins σ H s) (g:DGet H a y o):s.TypeIs (.ref a) "dict" := by
  rcases g with ⟨kvs,k,e,_,_⟩ | ⟨kvs,k,b,e,_,_,_⟩
  · obtain ⟨_,_,vs,_,dd⟩:=dk_rd I.hok e
    exact dd.typeIs
  · obtain ⟨_,_,xs,_,dd⟩:=dt_rd I.hok e
    exact dd.typeIs
def tDGet (td ty:TE):TE:=fun σ H Q=>td σ H fun x H1=>ty σ H1 fun y H2=>∃ a v,x=.ref a∧DGet H2 a y (some v)∧Q v H2
def sDPut (td ty tv:TE):TS:=fun D σ H=>tv σ H fun v H1=>td σ H1 fun x H2=>ty σ H2 fun y H3=>∃ a H4,x=.ref a∧DPut H3 a y v H4∧D.nx σ H4
section
variable {X:Cx} {o i e value:Expr} {pos pos' tpos:Pos} {td ty tv:TE}
theorem pe_dget (hu:X.A.units+1 < cLine) (ho:PE X o td) (hi:PE X i ty) (hs:NoSl i):PE X (.Subscript o i pos) (tDGet td ty):=by
  intro pins s σ H Q I h
  refine subD_of PySem.F.slot_dict_getitem.lookup hs (thn (ho pins s σ H _ I h) fun u s1 ⟨x,H1,I1,rx,q1⟩=>thn (hi pins s1 σ H1 _ I1 q1) fun iv s2 ⟨y,H2,I2,ry,a,v,ex,g,q2⟩=>?_)
  subst ex
  obtain rfl:u=Value.ref a:=rx
  exact ⟨ZIS I2 g,ZKo hu I2 g ry fun w' s3 I3 rw'=>⟨v,H2,I3,rw',q2⟩⟩
theorem ps_dput (hu:X.A.units+1 < cLine) (ho:PE X o td) (hi:PE X i ty) (hv:PE X value tv) (hs:swapsWith value (some (.Subscript o i pos')) pos.line X.env=pure false) :
    PS X (.Assign [.Subscript o i pos'] value pos) (sDPut td ty tv):=by
  intro pins s σ H D I h
  refine wpAny_Assign_Subscript (thn (hv pins s σ H _ I h) fun r s1 ⟨v,H1,I1,rv,q1⟩=>thn (ho pins s1 σ H1 _ I1 q1) fun u s2 ⟨x,H2,I2,rx,q2⟩=>thn (hi pins s2 σ H2 _ I2 q2) fun iv s3 ⟨y,H3,I3,ry,a,H4,ex,g,q3⟩=>?_) hs
  subst ex
  obtain rfl:u=Value.ref a:=rx
  exact ZKS hu I3 g ry rv fun s4 I4=>⟨σ,H4,I4,q3⟩
end
theorem dk_empty {P:Program} {w:World} {H:Hp} (h:Heap) (hb:sysModules < h.objs.size):ObjOk P w H (h.push { cls:=.type "dict", data:=.dict #[] }) h.objs.size (.dK []):=
  ⟨Nat.zero_le _,beq_eq_false_iff_ne.mpr (Ne.symm (Nat.ne_of_lt hb)),[],.nil,Heap.DictOf.new h⟩
def ZJM:TE:=fun _ H Q=>∀ p,H p=none→Q (.ref p) (upd H p (.dK []))
section
variable {X:Cx} {pos:Pos}
theorem pe_dnewK:PE X (.Dict [] [] pos) ZJM:=fun pins s σ H Q I h=>
  wpAny_Dict_empty ⟨.ref s.heap.objs.size,_,I.laid (a:=s.heap.objs.size) (o:=.dK []) (t':=s.toks) (fun _ _ q=>Heap.get?_push_of_some _ q) (Nat.le_refl _) (dk_empty s.heap I.big),rfl,h _ (I.hok.fresh (Nat.le_refl _))⟩
end
section
variable {X:Cx} {pins:List (Addr×Obj)} {σ:St} {H:Hp} {s:Shared} {a:Addr} {y d:V} {u r:Value} {o:Option V} {A:Around} {E:Value→Shared→Prop}
end
section
variable {X:Cx} {o e f:Expr} {apos cpos:Pos} {td ty tx:TE}
end
section
variable {X:Cx} {pins:List (Addr×Obj)} {σ:St} {H:Hp} {s:Shared} {a:Addr} {kvs:List (Key×V)} {A:Around} {E:Value→Shared→Prop}
end
section
variable {X:Cx} {pins:List (Addr×Obj)} {σ:St} {H:Hp} {s:Shared} {a:Addr} {y:V} {u:Value} {A:Around} {E:Value→Shared→Prop}
end
end L2
set_option Elab.async false
set_option linter.all false
set_option maxRecDepth 100000
set_option maxHeartbeats 4000000
namespace L2
open PySem PySem.Spec PyProof.Rows
theorem ZJC {α β:Type} {l:List α} {f:α→β→Sem (ForInStep β)} (g:β→α→β) (h:∀ x∈l,∀ c,f x c=pure (.yield (g c x))):∀ c,forIn l c f=pure (l.foldl g c):=by
  induction l with
  | nil=>intro c;rfl
  | cons x l ih=>
    intro c
    rw [List.forIn_cons,h x List.mem_cons_self,pure_bind]
    exact ih (fun y hy=>h y (List.mem_cons_of_mem _ hy)) (g c x)
def ZCO (cells:List (Str×Addr)) (cs:List (Str×Addr)) (x:Str×NameKind):List (Str×Addr):=
  if x.2=.free then (x.1,(cells.lookup x.1).getD 0) :: cs else cs
def ZAb (cells:List (Str×Addr)) (names:List (Str×NameKind)):List (Str×Addr):=names.foldl (ZCO cells) []
theorem ZHJ {scope:Scope} {env:Env} (h:∀ x∈scope.names,x.2=.free→(env.cells.lookup x.1).isSome=true):closureFor scope env=pure (ZAb env.cells scope.names):=by
  simp only [closureFor]
  rw [ZJC (ZCO env.cells) (fun x hx c=>by
    obtain ⟨n,k⟩:=x
    unfold ZCO
    by_cases hk:k=NameKind.free
    · subst hk
      have q:=h _ hx rfl
      obtain ⟨a,ha⟩:=Option.isSome_iff_exists.mp q
      have ha':env.cells.lookup n=some a:=ha
      have hc:cellOf env n=pure a:=by unfold cellOf;rw [ha']
      simp [hc,ha']
    · have:(k == NameKind.free)=false:=by simpa using hk
      simp [this,hk])]
  rfl
theorem cap_of {cells:List (Str×Addr)}:∀ (names:List (Str×NameKind)) (acc:List (Str×Addr)),(∀ y∈names,y.2=.free→(cells.lookup y.1).isSome=true)→
    (∀ x c,acc.lookup x=some c→cells.lookup x=some c)→∀ x c,(names.foldl (ZCO cells) acc).lookup x=some c→cells.lookup x=some c
  | [],acc,_,ha,x,c,e=>ha x c e
  | (n,k) :: r,acc,hs,ha,x,c,e=>by
    rw [List.foldl_cons] at e
    refine cap_of r _ (fun y hy=>hs y (List.mem_cons_of_mem _ hy)) (fun x c e=>?_) x c e
    unfold ZCO at e
    by_cases hk:k=NameKind.free
    · rw [if_pos hk] at e
      have q:=hs _ List.mem_cons_self hk
      obtain ⟨a,q⟩:=Option.isSome_iff_exists.mp q
      have q':cells.lookup n=some a:=q
      rw [List.lookup_cons] at e
      by_cases hx:x=n
      · subst hx
        simp only [beq_self_eq_true,q',Option.getD_some] at e
        rw [q',← e]
      · have hb:(x == n)=false:=by simpa using hx
        rw [hb] at e
        exact ha x c e
    · rw [if_neg hk] at e
      exact ha x c e
theorem ZH7 {cells:List (Str×Addr)} {x:Str}:∀ (names:List (Str×NameKind)) (acc:List (Str×Addr)),((acc.lookup x).isSome=true∨(x,NameKind.free)∈names)→
    ((names.foldl (ZCO cells) acc).lookup x).isSome=true
  | [],acc,h=>by
    rcases h with h | h
    · exact h
    · cases h
  | (n,k) :: r,acc,h=>by
    rw [List.foldl_cons]
    refine ZH7 r _ ?_
    unfold ZCO
    rcases h with h | h
    · refine .inl ?_
      split
      · rw [List.lookup_cons]
        split
        · rfl
        · exact h
      · exact h
    · rcases List.mem_cons.mp h with e | h
      · cases e
        refine .inl ?_
        rw [if_pos rfl,List.lookup_cons]
        simp
      · exact .inr h
theorem ZBs {env:Env}:∀ (names:List (Str×NameKind)) (x:Str),
    (names.map fun (n,k)=>if (k == NameKind.free && env.scope.kind == .function && env.kindOf n == some .cell) then (n,NameKind.cell) else (n,k)).lookup x =
      (names.lookup x).map fun k=>if (k == NameKind.free && env.scope.kind == .function && env.kindOf x == some .cell) then NameKind.cell else k
  | [],x=>rfl
  | (n,k) :: r,x=>by
    have ih:=ZBs (env:=env) r x
    rw [List.map_cons]
    by_cases hc:(k == NameKind.free && env.scope.kind == .function && env.kindOf n == some .cell)=true
    · show List.lookup x ((if (k == NameKind.free && env.scope.kind == .function && env.kindOf n == some .cell)=true then (n,NameKind.cell) else (n,k)) :: _)=_
      rw [if_pos hc,List.lookup_cons,List.lookup_cons]
      by_cases hx:x=n
      · subst hx;simp only [beq_self_eq_true,Option.map_some];rw [if_pos hc]
      · have hb:(x == n)=false:=by simpa using hx
        rw [hb];exact ih
    · show List.lookup x ((if (k == NameKind.free && env.scope.kind == .function && env.kindOf n == some .cell)=true then (n,NameKind.cell) else (n,k)) :: _)=_
      rw [if_neg hc,List.lookup_cons,List.lookup_cons]
      by_cases hx:x=n
      · subst hx;simp only [beq_self_eq_true,Option.map_some];rw [if_neg hc]
      · have hb:(x == n)=false:=by simpa using hx
        rw [hb];exact ih
abbrev ZAd (X:Cx) (N:List Str) (scope:Scope) (cl:List (Str×Addr)) (C:Addr) (s:Shared) (H:Hp) (fp:List Addr):Cx:=
  { X with N:=N,s₀:=s,H₀:=H,env:=compEnvC scope cl C X.env,outer:=X.stack,ex:=fp,fn:=fun _=>false,pn:=[],xe:=fun _ _=>False }
def ZAc (js:List Nat) (σ:St):St:=js.map fun j=>(σ[j]?).join
structure CompScope (N:List Str) (outer scope:Scope) (x:Str) (caps:List Str) (js:List Nat):Prop where
  kind:scope.kind=.function
  nocell:∀ y∈scope.names,y.2≠.cell
  loc:∀ y∈scope.names,y.2=.local→scope.names.lookup y.1=some .local
  tgt:scope.names.lookup x=some .local
  at':js.map (fun j=>N[j]?)=caps.map some
  cell:∀ y∈caps,outer.names.lookup y=some .cell
  free:∀ y∈caps,scope.names.lookup y=some .free
  all:∀ y∈scope.names,y.2=.free→outer.names.lookup y.1=some .cell
  nd:(caps++[x]).Nodup
def PIfs (X:Cx) (ifs:List Expr) (t:TT):Prop:=
  ∀ (pins:List (Addr×Obj)) (s:Shared) (σ:St) (H:Hp) (Q:Bool→Hp→Prop),Inv X pins σ H s→t σ H Q→
    wpAny (model X.prog X.w) X.A (forIn ifs true fun c r=>if r=true then do let ok ← isTrue c X.env (eval c X.env);pure (ForInStep.yield ok) else pure (ForInStep.yield r)) (TP X pins σ Q) X.xe s
def tTrue:TT:=fun _ H Q=>Q true H
theorem pif_nil {X:Cx}:PIfs X [] tTrue:=fun pins s σ H Q I h=>by
  rw [List.forIn_nil];exact wpAny_pure ⟨H,I,h⟩
theorem pif_one {X:Cx} {c:Expr} {t:TT} (hc:PT X c t):PIfs X [c] t:=fun pins s σ H Q I h=>by
  rw [List.forIn_cons]
  refine wpAny_bind ?_
  rw [if_pos rfl]
  refine wpAny_bind (thn (hc pins s σ H Q I h) fun b s1 q=>wpAny_pure ?_)
  show wpAny _ _ (forIn [] b _) _ _ s1
  rw [List.forIn_nil]
  exact wpAny_pure q
def ZII (J:It) (js:List Nat) (tt:TT) (te:TE) (σ:St) (H1:Hp) (acc:Addr) (Q:VK):Prop:=
  ∃ W:Nat→Nat→Hp→Prop,(∃ m,W 0 m (upd H1 acc (.lst [])))∧∀ i m H2,W i m H2→
    (J.stop i H2∧Q (.ref acc) H2)∨(J.go i H2∧∀ x H3,J.yld i H2 x H3→tt (ZAc js σ++[some x]) H3 fun b H4=>
      if b=true then te (ZAc js σ++[some x]) H4 fun y H5=>∃ ys,H5 acc=some (.lst ys)∧ys.length < sizeLine∧∃ m',m' < m∧W (i+1) m' (upd H5 acc (.lst (ys++[y])))
      else ∃ m',m' < m∧W (i+1) m' H4)
def ZGo (wi:TI) (js:List Nat) (tt:TT) (te:TE):TE:=fun σ H Q=>wi σ H fun J H1=>∀ acc,H1 acc=none→ZII J js tt te σ H1 acc Q
theorem set_last {α:Type} (l:List α) (a b:α):(l++[a]).set l.length b=l++[b]:=by
  induction l with
  | nil=>rfl
  | cons x l ih=>simp [ih]
section
variable {X:Cx} {pins:List (Addr×Obj)} {σ:St} {H2:Hp} {s2:Shared} {elt iter:Expr} {x:Str} {px pos:Pos} {ifs:List Expr} {scope:Scope} {caps:List Str} {js:List Nat} {tt:TT} {te:TE} {J:It} {fp:List Addr} {it:Addr}
  {tn:Nat→Heap→Prop}
theorem comp_inv (S:CompScope X.N X.env.scope scope x caps js) (I3:Inv X pins σ H2 s2) (f2:∀ b∈fp,ZCm X pins H2 b) (lt2:∀ b∈fp,b < s2.heap.objs.size) {h1:Heap}
    {m:Str→Option Value} (hns:h1.Ns s2.heap.objs.size m) (old:∀ b o,s2.heap.get? b=some o→h1.get? b=some o) {t':Nat} :
    Inv (ZAd X (caps++[x]) scope (ZAb X.env.cells scope.names) s2.heap.objs.size s2 H2 fp) [] (ZAc js σ++[none]) H2 { s2 with heap:=h1,toks:=t' }:=by
  have hsome:∀ y∈scope.names,y.2=.free→(X.env.cells.lookup y.1).isSome=true:=fun y hy hk=>by
    obtain ⟨c,e⟩:=I3.ok.has y.1 (.inl (S.all y hy hk))
    rw [e];rfl
  have cof:∀ y c,(ZAb X.env.cells scope.names).lookup y=some c→X.env.cells.lookup y=some c:=cap_of scope.names [] hsome (fun _ _ e=>by cases e)
  have hrel:∀ y k,(relabel scope X.env).names.lookup y=some k→k=.cell∨k=.free→scope.names.lookup y=some .free:=fun y k e hk=>by
    have e':=(ZBs (env:=X.env) scope.names y).symm.trans e
    cases q:scope.names.lookup y with
    | none=>rw [q] at e';cases e'
    | some k0=>
      rw [q] at e'
      have hne:=S.nocell _ (PySem.mem_of_lookup q)
      cases k0 with
      | free=>rfl
      | cell=>exact absurd rfl hne
      | _=>simp at e';rcases hk with rfl | rfl <;> cases e'
  have hlen:js.length=caps.length:=by have:=congrArg List.length S.at';simpa using this
  have clt:∀ y c,X.env.cells.lookup y=some c→c < s2.heap.objs.size:=fun y c e=>by
    obtain ⟨v,o,ho,_⟩:=I3.cell y c e
    exact Heap.lt_size ho
  have cellK:∀ c v,s2.heap.IsCell c v→h1.IsCell c v:=fun c v ⟨o,ho,hd⟩=>⟨o,old c o ho,hd⟩
  refine ⟨⟨I3.ok.mod,S.kind,I3.ok.glob,I3.ok.blt,Nat.le_refl _,fun y z c e1 e2=>I3.ok.inj y z c (cof y c e1) (cof z c e2),fun y hy=>?_,fun y c hf _=>(by cases hf),I3.ok.hd,I3.ok.frames,.inl rfl,fun b hb=>⟨Nat.ne_of_lt (lt2 b hb),fun y c e=>(f2 b hb).2.2.2.2.1 y c (cof y c e)⟩,
    fun b o e=>I3.bs b o e,Nat.le_trans I3.ok.bsz I3.sz,fun b o e hb=>?_,fun b hb hs=>?_,I3.stack,I3.stkFree⟩,rfl,I3.bare,Un.kept old,⟨m,hns,fun i y v e1 e2 e3=>?_⟩,fun y c e=>?_,I3.hok.fresh (Nat.le_refl _),fun y c e=>I3.freeC y c (cof y c e),fun p hp=>(by cases hp),I3.hok.kept old,?_⟩
  · have hf:scope.names.lookup y=some .free:=by
      rcases hy with hy | hy
      · exact hrel y _ hy (.inl rfl)
      · exact hrel y _ hy (.inr rfl)
    exact Option.isSome_iff_exists.mp (ZH7 scope.names [] (.inr (PySem.mem_of_lookup hf)))
  · rcases (f2 b hb).2.2.2.1 with z | z
    · exact I3.ok.noex b o e z
    · exact absurd (Nat.lt_of_lt_of_le (Nat.lt_of_lt_of_le (Heap.lt_size e) I3.ok.bsz) z) (Nat.lt_irrefl _)
  · rcases List.mem_cons.mp (I3.stkSub b hs) with z | z
    · exact (f2 b hb).2.1 z
    · exact (f2 b hb).2.2.1 z
  · have hcl:(ZAc js σ).length=caps.length:=by unfold ZAc;rw [List.length_map,hlen]
    have hi:i < caps.length:=by
      by_cases hi:i < caps.length
      · exact hi
      · have e2':(ZAc js σ++[none])[i]?=some (some v):=e2
        rw [List.getElem?_append_right (by rw [hcl];omega),hcl] at e2'
        cases hd:i - caps.length with
        | zero=>rw [hd] at e2';cases e2'
        | succ k=>rw [hd] at e2';simp at e2'
    have e1':caps[i]?=some y:=by
      have e1':(caps++[x])[i]?=some y:=e1
      rwa [List.getElem?_append_left hi] at e1'
    have e2':(ZAc js σ)[i]?=some (some v):=by
      have e2':(ZAc js σ++[none])[i]?=some (some v):=e2
      rwa [List.getElem?_append_left (by rw [hcl];exact hi)] at e2'
    have hmem:y∈caps:=List.mem_of_getElem? e1'
    unfold ZAc at e2'
    rw [List.getElem?_map] at e2'
    cases hj:js[i]? with
    | none=>rw [hj] at e2';cases e2'
    | some j=>
      rw [hj] at e2'
      have hN:X.N[j]?=some y:=by
        have q:=congrArg (fun l=>l[i]?) S.at'
        simp only [List.getElem?_map,hj,e1',Option.map_some] at q
        exact Option.some.inj q
      have hσ:σ[j]?=some (some v):=by
        simp only [Option.map_some,Option.some.injEq] at e2'
        cases q:σ[j]? with
        | none=>rw [q] at e2';cases e2'
        | some w=>rw [q] at e2';simp at e2';rw [e2']
      obtain ⟨m0,hn0,hl0⟩:=I3.loc
      obtain ⟨u,r,l⟩:=hl0 j y v hN hσ (.inr (.inl (S.cell y hmem)))
      refine ⟨u,r,?_⟩
      rcases l with ⟨k,_⟩ | ⟨_,c,e,z⟩
      · have k':X.env.scope.names.lookup y=some .local:=k
        rw [S.cell y hmem] at k';cases k'
      · have hkc:X.env.kindOf y=some .cell:=S.cell y hmem
        have hk:(relabel scope X.env).names.lookup y=some .cell:=by
          refine (ZBs (env:=X.env) scope.names y).trans ?_
          rw [S.free y hmem]
          simp [I3.ok.kind,hkc]
        obtain ⟨c',e'⟩:=Option.isSome_iff_exists.mp (ZH7 (cells:=X.env.cells) scope.names [] (.inr (PySem.mem_of_lookup (S.free y hmem))))
        have e'':=cof y c' e'
        rw [e] at e'';cases e''
        exact .inr ⟨.inl hk,c,e',cellK c _ z⟩
  · obtain ⟨v,z⟩:=I3.cell y c (cof y c e)
    exact ⟨v,cellK c v z⟩
  · show (ZAc js σ++[none]).length=(caps++[x]).length
    unfold ZAc
    simp [hlen]
end
end L2
set_option Elab.async false
set_option linter.all false
set_option maxRecDepth 100000
set_option maxHeartbeats 4000000
namespace L2
open PySem PySem.Spec PyProof.Rows
section
variable {X:Cx} {pins:List (Addr×Obj)} {σ:St} {H2:Hp} {s2:Shared} {elt iter:Expr} {x:Str} {px pos:Pos} {ifs:List Expr} {scope:Scope} {caps:List Str} {js:List Nat} {tt:TT} {te:TE} {J:It} {fp:List Addr} {it:Addr}
  {tn:Nat→Heap→Prop}
theorem ZKT {acc C:Addr} {s3:Shared} {H3:Hp} {cl:List (Str×Addr)} {s4:Shared} {w0:Option V} {H4:Hp} {R:Result→Shared→Prop} (hc:X.calm=true) (S:CompScope X.N X.env.scope scope x caps js)
    (hifs:PIfs (ZAd X (caps++[x]) scope cl C s3 H3 fp) ifs tt) (helt:PE (ZAd X (caps++[x]) scope cl C s3 H3 fp) elt te)
    (T:Turn X.prog X.w X.K (.Name x px) J fp it tn) (lt3:∀ b∈fp,(ZAd X (caps++[x]) scope cl C s3 H3 fp).Ok→ZCm (ZAd X (caps++[x]) scope cl C s3 H3 fp) [] (fun _=>none) b)
    (W:Nat→Nat→Hp→Prop) (Q:VK)
    (turn:∀ i m H2,W i m H2→(J.stop i H2∧Q (.ref acc) H2)∨(J.go i H2∧∀ x H3,J.yld i H2 x H3→tt (ZAc js σ++[some x]) H3 fun b H4=>
      if b=true then te (ZAc js σ++[some x]) H4 fun y H5=>∃ ys,H5 acc=some (.lst ys)∧ys.length < sizeLine∧∃ m',m' < m∧W (i+1) m' (upd H5 acc (.lst (ys++[y])))
      else ∃ m',m' < m∧W (i+1) m' H4))
    (I4:Inv (ZAd X (caps++[x]) scope cl C s3 H3 fp) [] (ZAc js σ++[w0]) H4 s4) (st4:tn 0 s4.heap) (fr4:∀ b∈fp,H4 b=none) (m0:Nat) (w4:W 0 m0 H4)
    (hR:∀ H' s' w,Inv (ZAd X (caps++[x]) scope cl C s3 H3 fp) [] (ZAc js σ++[w]) H' s'→Q (.ref acc) H'→R (.ok .next) s') :
    codeAny (model X.prog X.w) X.A (.compLoop (.ListComp elt [⟨.Name x px,iter,ifs,0⟩] scope pos) 0 (.ref it) (.ref acc) (compEnvC scope cl C X.env)) R s4:=by
  have hlen:(ZAc js σ).length=caps.length:=by
    unfold ZAc;rw [List.length_map];have:=congrArg List.length S.at';simpa using this
  have hN:(caps++[x])[(ZAc js σ).length]?=some x:=by rw [hlen];simp
  have hloc:Loc (relabel scope X.env) x:=.inl (lookup_relabel_local S.tgt)
  have hok:=I4.ok
  have stat:∀ {H':Hp},(∀ b∈fp,H' b=none)→∀ b∈fp,ZCm (ZAd X (caps++[x]) scope cl C s3 H3 fp) [] H' b:=fun hn b hb=>⟨hn b hb,(lt3 b hb hok).2⟩
  refine codeAny_compLoop_tests (fun n s'=>∃ i w H',Inv (ZAd X (caps++[x]) scope cl C s3 H3 fp) [] (ZAc js σ++[w]) H' s'∧tn i s'.heap∧(∀ b∈fp,H' b=none)∧W i n H') ?_ m0 ⟨0,w0,H4,I4,st4,fr4,w4⟩
  rintro n s5 ⟨i,w,H5,I5,st5,fr5,w5⟩
  rcases turn i n H5 w5 with ⟨stop,q⟩ | ⟨go,step⟩
  · refine wpAny_mono (T.done (ZAd X (caps++[x]) scope cl C s3 H3 fp) rfl rfl rfl hc i [] s5 _ H5 (fun _ _=>False) I5 (stat fr5) st5 stop) (fun r s6 ⟨hr,I6⟩=>?_) fun _ _ z=>z.elim
    subst hr
    exact hR H5 s6 w I6 q
  · refine wpAny_mono (T.item (ZAd X (caps++[x]) scope cl C s3 H3 fp) rfl rfl rfl hc i [] s5 _ H5 (fun _ _=>False) I5 (stat fr5) st5 go) (fun r s6 ⟨u,hr,h6⟩=>?_) fun _ _ z=>z.elim
    subst hr
    have key:∀ (Q':Unit→Shared→Prop) (E':Value→Shared→Prop) (f:Unit→Sem Unit),wpAny (model X.prog X.w) X.A (letOwnedTupleGo (.Name x px) (.ref it) u >>= f) Q' E' s6→wpAny (model X.prog X.w) X.A (f ()) Q' E' s6:=fun Q' E' f h=>h
    refine key _ _ (fun _=>assign (.Name x px) (compEnvC scope cl C X.env) u) (wpAny_bind (wpAny_mono h6 (fun _ s7 ⟨v,H7,I7,r7,y7,st7,fr7⟩=>?_) fun _ _ z=>z.elim))
    have I7':=I7.pinned (stat fr7) (T.obj _ _ st7)
    refine wpAny_mono (ZK5 (X:=ZAd X (caps++[x]) scope cl C s3 H3 fp) (pos:=px) S.nd hN hloc (.inr (lookup_relabel_local S.tgt)) _ s7 _ H7 v u
      (fun σ8 H8=>σ8=ZAc js σ++[some v]∧H8=H7) I7' r7 ⟨set_last _ _ _,rfl⟩) (fun _ s8 ⟨σ8,H8,I8,e8,e8'⟩=>?_) fun _ _ z=>z.elim
    subst e8;subst e8'
    refine wpAny_mono (hifs _ s8 _ H8 _ I8 (step v H8 y7)) (fun b s9 ⟨H9,I9,q9⟩=>?_) fun _ _ z=>z.elim
    have again:∀ {σa:St} {Ha:Hp} {sa:Shared},Inv (ZAd X (caps++[x]) scope cl C s3 H3 fp) ([]++ZFQ fp s7.heap) σa Ha sa→tn (i+1) sa.heap∧(∀ b∈fp,Ha b=none):=fun {σa Ha sa} Ia=>by
      refine ⟨T.keep _ _ _ st7 fun b hb o e=>(Ia.pin (b,o) (List.mem_append_right _ (List.mem_append_right _ (ZCS hb e)))).1,fun b hb=>?_⟩
      obtain ⟨o,e,d⟩:=T.obj _ _ st7 b hb
      exact (Ia.pin (b,o) (List.mem_append_right _ (List.mem_append_right _ (ZCS hb e)))).2.1
    cases b with
    | false=>
      have q9':∃ m',m' < n∧W (i+1) m' H9:=q9
      obtain ⟨m',hm,w9⟩:=q9'
      rw [if_neg (by decide)]
      exact ⟨m',hm,i+1,_,H9,I9.unpinned,(again I9).1,(again I9).2,w9⟩
    | true=>
      rw [if_pos rfl]
      rw [if_pos rfl] at q9
      refine wpAny_mono (helt _ s9 _ H9 _ I9 q9) (fun yv s10 ⟨y,H10,I10,r10,ys,hacc,hz,m',hm,w10⟩=>?_) fun _ _ z=>z.elim
      refine wpAny_mono (ZGe (X:=ZAd X (caps++[x]) scope cl C s3 H3 fp) _ s10 _ H10 (.ref acc) [y] (.ref acc) [yv] (fun _ H11=>H11=upd H10 acc (.lst (ys++[y]))) I10 rfl (.cons r10 .nil) ⟨acc,ys,y,rfl,rfl,hacc,hz,rfl⟩)
        (fun _ s11 ⟨_,H11,I11,_,e11⟩=>?_) fun _ _ z=>z.elim
      subst e11
      exact ⟨m',hm,i+1,_,_,I11.unpinned,(again I11).1,(again I11).2,w10⟩
theorem ZFd {RR:Value→Addr→Result→Shared→Prop} {E:Value→Shared→Prop} (hc:X.calm=true) (S:CompScope X.N X.env.scope scope x caps js)
    (hifs:∀ C s H,PIfs (ZAd X (caps++[x]) scope (ZAb X.env.cells scope.names) C s H fp) ifs tt) (helt:∀ C s H,PE (ZAd X (caps++[x]) scope (ZAb X.env.cells scope.names) C s H fp) elt te)
    (T:Turn X.prog X.w X.K (.Name x px) J fp it tn) (I2:Inv X pins σ H2 s2) (st2:tn 0 s2.heap) (f2:∀ b∈fp,ZCm X pins H2 b) (Q:VK) (hW:∀ acc,H2 acc=none→ZII J js tt te σ H2 acc Q)
    (hRR:∀ acc C H' s' m,Inv X pins σ H' s'→ZCm X pins H' C→s'.heap.Ns C m→Q (.ref acc) H'→RR (.ref acc) C (.ok .next) s') :
    wpAny (model X.prog X.w) X.A (newList []) (fun acc s3=>wpAny (model X.prog X.w) X.A (newFunctionEnv scope X.env.globals (ZAb X.env.cells scope.names) [] X.env.qual none .none (some X.env)) (fun cenv s4=>
      codeAny (model X.prog X.w) X.A (.compStart (.ListComp elt [⟨.Name x px,iter,ifs,0⟩] scope pos) 0 (.ref it) acc { cenv with scope:=relabel scope X.env }) (RR acc cenv.locals) s4) E s3) E s2:=by
  refine wpAny_newObj_type (wpAny_newFunctionEnv S.nocell (fun y hy=>by cases hy) (fun h1 hns hsb=>?_) S.kind)
  have I3:Inv X pins σ (upd H2 s2.heap.objs.size (.lst [])) { s2 with heap:=s2.heap.push { cls:=.type "list", data:=.seq ([]:List Value).toArray } }:=I2.lnew (t':=s2.toks) .nil (Nat.zero_le _)
  have hlt:∀ b∈fp,b < s2.heap.objs.size:=fun b hb=>by
    obtain ⟨o,e,_⟩:=T.obj _ _ st2 b hb
    exact Heap.lt_size e
  have hsz:(s2.heap.push { cls:=.type "list", data:=.seq ([]:List Value).toArray }).objs.size=s2.heap.objs.size+1:=Heap.size_push ..
  have f3:∀ b∈fp,ZCm X pins (upd H2 s2.heap.objs.size (.lst [])) b:=fun b hb=>⟨by rw [ZAE (Nat.ne_of_lt (hlt b hb))];exact (f2 b hb).1,(f2 b hb).2⟩
  generalize hs3:({ s2 with heap:=s2.heap.push { cls:=.type "list", data:=.seq ([]:List Value).toArray } }:Shared)=s3 at I3 hns hsb ⊢
  have hs3h:s3.heap=s2.heap.push { cls:=.type "list", data:=.seq ([]:List Value).toArray }:=by rw [← hs3]
  have hlt3:∀ b∈fp,b < s3.heap.objs.size:=fun b hb=>by rw [hs3h,hsz];exact Nat.lt_succ_of_lt (hlt b hb)
  have old:∀ b o,s3.heap.get? b=some o→h1.get? b=some o:=fun b o e=>hsb.extBut b o (Nat.ne_of_lt (Heap.lt_size e)) (Heap.get?_push_of_some _ e)
  have old2:∀ b o,s2.heap.get? b=some o→h1.get? b=some o:=fun b o e=>old b o (by rw [hs3h];exact Heap.get?_push_of_some _ e)
  have I4:=comp_inv S I3 f3 hlt3 hns old (t':=s3.toks+([]:List (Str×Value)).length)
  have st4:tn 0 h1:=T.keep _ _ _ st2 fun b _ o e=>old2 b o e
  obtain ⟨W,⟨m0,w0⟩,turn⟩:=hW s2.heap.objs.size (I2.hok.fresh (Nat.le_refl _))
  have loop:codeAny (model X.prog X.w) X.A (.compLoop (.ListComp elt [⟨.Name x px,iter,ifs,0⟩] scope pos) 0 (.ref it) (.ref s2.heap.objs.size) (compEnvC scope (ZAb X.env.cells scope.names) s3.heap.objs.size X.env))
      (RR (.ref s2.heap.objs.size) s3.heap.objs.size) { s3 with heap:=h1,toks:=s3.toks+([]:List (Str×Value)).length }:=by
    refine ZKT (acc:=s2.heap.objs.size) (Q:=Q) hc S (hifs _ _ _) (helt _ _ _) T (fun b hb ok=>⟨rfl,(ok.exf b hb).1,ok.exfs b hb,.inl hb,(ok.exf b hb).2,fun p hp=>by cases hp⟩) W turn I4 st4 (fun b hb=>(f3 b hb).1) m0 w0 fun H' s' w I' q=>?_
    obtain ⟨m,hn,_⟩:=I'.loc
    exact hRR _ _ H' s' m (I3.call' (ch:=fp) I'.os I'.base I'.hok I'.bare fun b hb=>⟨(f3 b hb).2.2.2.1,(f3 b hb).2.1,(f3 b hb).2.2.2.2.1,(f3 b hb).2.2.2.2.2⟩) (I3.fpOk (Nat.le_refl _) I'.free) hn q
  exact codeAny_compStart_list loop (T.self X.A 0 _ _ _ st4 loop)
theorem ZEP {σ:St} {H:Hp} {s:Shared} (S:CompScope X.N X.env.scope scope x caps js) (I:Inv X pins σ H s):closureFor scope X.env=pure (ZAb X.env.cells scope.names):=ZHJ fun y hy hk=>by
  obtain ⟨c,e⟩:=I.ok.has y.1 (.inl (S.all y hy hk))
  rw [e];rfl
theorem pe_comp {wi:TI} (hc:X.calm=true) (S:CompScope X.N X.env.scope scope x caps js) (hi:PI X (.Name x px) iter wi)
    (hifs:∀ fp C s H,PIfs (ZAd X (caps++[x]) scope (ZAb X.env.cells scope.names) C s H fp) ifs tt) (helt:∀ fp C s H,PE (ZAd X (caps++[x]) scope (ZAb X.env.cells scope.names) C s H fp) elt te)
    (hs:∀ v,foldedSetIterable iter X.env v=pure v:=by intro _;rfl):PE X (.ListComp elt [⟨.Name x px,iter,ifs,0⟩] scope pos) (ZGo wi js tt te):=by
  intro pins s σ H Q I h
  rw [eval_ListComp]
  refine wpAny_comprehension_free (use:=none) rfl hs (ZEP S I) S.kind S.loc (thn (hi pins s σ H _ I h) fun v s1 h1=>thn h1 fun itv s2 h2=>?_)
  obtain ⟨it,fp,tn,J,H2,e,I2,T,st2,f2,hW⟩:=h2
  subst e
  refine ZFd (RR:=fun acc C=>compPost (model X.prog X.w) X.A X.xe none (EP X pins σ Q) acc C) hc S (hifs fp) (helt fp) T I2 st2 f2 Q hW fun acc C H' s' m I' fC hn q=>⟨m,hn,fun h' hsb=>?_⟩
  exact ⟨.ref acc,H',I'.turned (t':=s'.toks) (fun b o hb e=>(hsb.2 b hb).trans e) fC.1 fC.2.1 fC.2.2.2.1 fC.2.2.2.2.1 fC.2.2.2.2.2,rfl,q⟩
theorem ps_comp {wi:TI} {i:Nat} {y:Str} {py spos:Pos} (hN:X.N.Nodup) (hi':X.N[i]?=some y) (hy:Loc X.env.scope y) (hc:X.calm=true) (S:CompScope X.N X.env.scope scope x caps js) (hi:PI X (.Name x px) iter wi)
    (hifs:∀ fp C s H,PIfs (ZAd X (caps++[x]) scope (ZAb X.env.cells scope.names) C s H fp) ifs tt) (helt:∀ fp C s H,PE (ZAd X (caps++[x]) scope (ZAb X.env.cells scope.names) C s H fp) elt te)
    (hsw:swapsWith (.ListComp elt [⟨.Name x px,iter,ifs,0⟩] scope pos) (some (.Name y py)) spos.line X.env=pure true:=by rfl)
    (hf:X.fn y=true∨X.env.scope.names.lookup y=some .local:=by first | exact .inl rfl | exact .inr rfl | assumption)
    (hs:∀ v,foldedSetIterable iter X.env v=pure v:=by intro _;rfl):PS X (.Assign [.Name y py] (.ListComp elt [⟨.Name x px,iter,ifs,0⟩] scope pos) spos) (ZFh (ZGo wi js tt te) (ZC9 i)):=by
  intro pins s σ H D I h
  rw [exec_Assign_Name_used _ _ _ _ hsw]
  refine wpAny_bind (wpAny_standAt (wpAny_bind ?_))
  show wpAny _ X.A (do let _ ← comprehension (.ListComp elt [⟨.Name x px,iter,ifs,0⟩] scope pos) scope X.env _ (newList []) false (eval iter X.env) (some (assign (.Name y py) X.env))) _ _ s
  refine wpAny_bind (wpAny_mono (wpAny_comprehension_free (use:=some (assign (.Name y py) X.env)) (Q:=fun _ s'=>SP X pins D .next s') rfl hs (ZEP S I) S.kind S.loc
    (thn (hi pins s σ H _ I h) fun v s1 h1=>thn h1 fun itv s2 h2=>?_)) (fun _ s' hq=>wpAny_pure (wpAny_pure hq)) fun _ _ e=>e)
  obtain ⟨it,fp,tn,J,H2,e,I2,T,st2,f2,hW⟩:=h2
  subst e
  refine ZFd (RR:=fun acc C=>compPost (model X.prog X.w) X.A X.xe (some (assign (.Name y py) X.env)) (fun _ s'=>SP X pins D .next s') acc C) hc S (hifs fp) (helt fp) T I2 st2 f2 _ hW fun acc C H' s' m I' fC hn q=>?_
  show wpAny _ X.A (assign (.Name y py) X.env (.ref acc)) _ _ s'
  refine wpAny_assign_Name (ZGd (v:=.ref acc) I' hN hi' hy rfl (fun s'' I'' ⟨a,hsa,ha⟩=>?_) hf)
  have hne:C≠a:=by
    rcases ha with z | z
    · rw [z];exact fC.2.1
    · exact (fC.2.2.2.2.1 y a z).symm
  refine ⟨m,hn.sameBut hsa hne,fun h' hsb=>?_⟩
  exact ⟨_,H',I''.turned (t':=s''.toks) (fun b o hb e=>(hsb.2 b hb).trans e) fC.1 fC.2.1 fC.2.2.2.1 fC.2.2.2.2.1 fC.2.2.2.2.2,q⟩
end
end L2
set_option Elab.async false
set_option linter.all false
set_option maxRecDepth 100000
set_option maxHeartbeats 4000000
namespace L2
open PySem PySem.Spec PyProof.Rows
def SqB (K:PySem.W.Frag) (tp:Bool) (H:Hp) (a:Addr) (xs:List V):Prop:=match tp with
  | false=>SqL K H a xs
  | true=>SqT K H a xs
theorem SqB.or {K:PySem.W.Frag} {tp:Bool} {H:Hp} {a:Addr} {xs:List V} (h:SqB K tp H a xs):SqL K H a xs∨SqT K H a xs:=by
  cases tp
  · exact .inl h
  · exact .inr h
def Its (K:PySem.W.Frag) (tp:Bool) (a:Addr) (xs:List V):It:=
  ⟨fun i H=>SqB K tp H a xs∧i < xs.length,fun i H x H'=>H'=H∧xs[i]?=some x,fun i H=>SqB K tp H a xs∧xs.length≤i⟩
section
variable {X:Cx} {tg:Expr}
theorem turn_sqL {P:Program} {w:World} {K:PySem.W.Frag} (a it:Addr) (xs:List V):Turn P w K tg (Its K false a xs) [it] it (fun i h=>h.IsListIter it a i) where
  mem:=by simp
  obj:=(ZCA (P:=P) (w:=w) (K:=K) (tg:=tg) a it).obj
  keep:=(ZCA (P:=P) (w:=w) (K:=K) (tg:=tg) a it).keep
  item:=by
    intro X hP hw hK hc i pins s σ H E I hf st hg
    obtain ⟨hq,hi⟩:=hg
    refine thn ((ZCA (P:=P) (w:=w) (K:=K) (tg:=tg) a it).item X hP hw hK hc i pins s σ H E I hf st ⟨xs,xs[i],hq,by simp [hi]⟩) fun r s1 ⟨u,e,h⟩=>⟨u,e,thn h fun _ s2 ⟨x,H',I',rx,y,st',f'⟩=>⟨x,H',I',rx,⟨y.1,y.2 xs hq⟩,st',f'⟩⟩
  done:=by
    intro X hP hw hK hc i pins s σ H E I hf st hg
    exact (ZCA (P:=P) (w:=w) (K:=K) (tg:=tg) a it).done X hP hw hK hc i pins s σ H E I hf st ⟨xs,hg.1,hg.2⟩
  self:=(ZCA (P:=P) (w:=w) (K:=K) (tg:=tg) a it).self
theorem turn_sqT {P:Program} {w:World} {K:PySem.W.Frag} (a it:Addr) (xs:List V):Turn P w K tg (Its K true a xs) [it] it (fun i h=>h.IsTupleIter it a i) where
  mem:=by simp
  obj:=(ZBt (P:=P) (w:=w) (K:=K) (tg:=tg) a it).obj
  keep:=(ZBt (P:=P) (w:=w) (K:=K) (tg:=tg) a it).keep
  item:=by
    intro X hP hw hK hc i pins s σ H E I hf st hg
    obtain ⟨hq,hi⟩:=hg
    refine thn ((ZBt (P:=P) (w:=w) (K:=K) (tg:=tg) a it).item X hP hw hK hc i pins s σ H E I hf st ⟨xs,xs[i],hq,by simp [hi]⟩) fun r s1 ⟨u,e,h⟩=>⟨u,e,thn h fun _ s2 ⟨x,H',I',rx,y,st',f'⟩=>⟨x,H',I',rx,⟨y.1,y.2 xs hq⟩,st',f'⟩⟩
  done:=by
    intro X hP hw hK hc i pins s σ H E I hf st hg
    exact (ZBt (P:=P) (w:=w) (K:=K) (tg:=tg) a it).done X hP hw hK hc i pins s σ H E I hf st ⟨xs,hg.1,hg.2⟩
  self:=(ZBt (P:=P) (w:=w) (K:=K) (tg:=tg) a it).self
def iSq (K:PySem.W.Frag) (tl:TE):TI:=fun σ H R=>tl σ H fun x H1=>∃ tp a xs,x=.ref a∧SqB K tp H1 a xs∧R (Its K tp a xs) H1
theorem pi_sq {l:Expr} {tl:TE} (hl:PE X l tl):PI X tg l (iSq X.K tl):=by
  intro pins s σ H R I h
  refine thn (hl pins s σ H _ I h) fun v s1 ⟨x,H1,I1,r1,q1⟩=>?_
  obtain ⟨tp,a,xs,e,hq,q⟩:=q1
  subst e
  cases r1
  have fin:∀ b∈[s1.heap.objs.size],ZCm X pins H1 b:=fun b hb=>by
    have e:b=s1.heap.objs.size:=by simpa using hb
    subst e
    exact I1.fpOk (Nat.le_refl _) (I1.hok.fresh (Nat.le_refl _))
  cases tp with
  | false=>
    obtain ⟨its,rv,p,hz⟩:=I1.list hq
    refine wpAny_pyIter_list p.isList ?_
    exact ⟨s1.heap.objs.size,[s1.heap.objs.size],_,_,H1,rfl,I1.kept (t':=s1.toks) fun b o e=>Heap.get?_push_of_some _ e,turn_sqL a _ xs,⟨_,Heap.get?_push_size _ rfl,rfl,rfl⟩,fin,q⟩
  | true=>
    obtain ⟨its,rv,p,hz⟩:=I1.tuple hq
    refine wpAny_pyIter_tuple (show s1.heap.IsTuple a its.toArray from p) ?_
    exact ⟨s1.heap.objs.size,[s1.heap.objs.size],_,_,H1,rfl,I1.kept (t':=s1.toks) fun b o e=>Heap.get?_push_of_some _ e,turn_sqT a _ xs,⟨_,Heap.get?_push_size _ rfl,rfl,rfl⟩,fin,q⟩
def Itc (z:Str):It:=⟨fun i _=>i < z.cps.size,fun i H x H'=>H'=H∧∃ c,z.cps[i]?=some c∧x=.str ⟨#[c]⟩,fun i _=>i=z.cps.size⟩
theorem ZHw {P:Program} {w:World} {K:PySem.W.Frag} {it:Addr} {z:Str} {t:Tok} {ty:String}
    (hn:["enumerate", "zip", "dict_itemiterator", "dict_reverseitemiterator", "odict_iterator", "itertools.zip_longest", "itertools.pairwise"].contains ty=false)
    (W:∀ A:Around,A.handled=none→Walks P w A it [it] [it] z.cps.size (SignAt z) (fun i h=>h.IsStrIter it ty z t i))
    (self:∀ (A:Around) (i:Nat) (s:Shared) (Q:Value→Shared→Prop) (E:Value→Shared→Prop),s.heap.IsStrIter it ty z t i→Q (.ref it) s→wpAny (model P w) A (pyIter (.ref it)) Q E s) :
    Turn P w K tg (Itc z) [it] it (fun i h=>h.IsStrIter it ty z t i) where
  mem:=by simp
  obj:=fun i h st b hb=>by
    have e:b=it:=by simpa using hb
    subst e
    obtain ⟨o,e,c,d⟩:=st
    exact ⟨o,e,fun v z=>by rw [d] at z;cases z⟩
  keep:=fun i h h' st k=>let ⟨o,e,r⟩:=st;⟨o,k it (by simp) o e,r⟩
  item:=by
    intro X hP hw hK hc i pins s σ H E I hf st hg
    subst hP hw hK
    obtain ⟨f0,f1,f2,f3,f4,f5⟩:=hf it (by simp)
    refine (W X.A (I.ok.hd hc)).item i s _ _ hg st fun v h' tk ⟨c,u,hcc,hv⟩ st' kp=>?_
    subst hv
    have I1:Inv X pins σ H { s with heap:=h',toks:=tk }:=I.turned (t':=tk) (fun b o hb e=>kp b o (by simpa using hb) e) f0 f1 f3 f4 f5
    obtain ⟨o,e,cl,d⟩:=id st'
    exact ⟨_,rfl,go_of (s:={ s with heap:=h',toks:=tk }) e cl d hn ⟨.str ⟨#[c]⟩,H,I1,⟨u,rfl⟩,⟨rfl,c,hcc,rfl⟩,st',fun b hb=>(hf b hb).1⟩⟩
  done:=by
    intro X hP hw hK hc i pins s σ H E I hf st hg
    subst hP hw hK
    obtain ⟨f0,f1,f2,f3,f4,f5⟩:=hf it (by simp)
    have hg':i=z.cps.size:=hg
    subst hg'
    exact (W X.A (I.ok.hd hc)).done s _ _ st fun h' tk kp=>⟨rfl,I.turned (t':=tk) (fun b o hb e=>kp b o (by simpa using hb) e) f0 f1 f3 f4 f5⟩
  self:=self
def iStr (tl:TE):TI:=fun σ H R=>tl σ H fun x H1=>∃ z,x=.str z∧R (Itc z) H1
theorem pi_str {l:Expr} {tl:TE} (hl:PE X l tl):PI X tg l (iStr tl):=by
  intro pins s σ H R I h
  refine thn (hl pins s σ H _ I h) fun v s1 ⟨x,H1,I1,r1,q1⟩=>?_
  obtain ⟨z,e,q⟩:=q1
  subst e
  obtain ⟨t,rfl⟩:=r1
  have fin:∀ b∈[s1.heap.objs.size],ZCm X pins H1 b:=fun b hb=>by
    have e:b=s1.heap.objs.size:=by simpa using hb
    subst e
    exact I1.fpOk (Nat.le_refl _) (I1.hok.fresh (Nat.le_refl _))
  have kp:∀ (ob:Obj),Inv X pins σ H1 { s1 with heap:=s1.heap.push ob }:=fun ob=>I1.kept (t':=s1.toks) fun b o e=>Heap.get?_push_of_some _ e
  cases ha:z.cps.all (· < 128)
  · refine wpAny_pyIter_wide ha ?_
    exact ⟨s1.heap.objs.size,[s1.heap.objs.size],_,_,H1,rfl,kp _,ZHw (t:=t) (by decide) (fun A' hA=>Walks.strWide hA _ z t) (fun _ _ _ _ _ st h=>wpAny_pyIter_striter_wide st h),⟨_,Heap.get?_push_size _ rfl,rfl,rfl⟩,fin,q⟩
  · refine wpAny_pyIter_ascii ha ?_
    exact ⟨s1.heap.objs.size,[s1.heap.objs.size],_,_,H1,rfl,kp _,ZHw (t:=t) (by decide) (fun A' hA=>Walks.strAscii hA _ z t) (fun _ _ _ _ _ st h=>wpAny_pyIter_striter_ascii st h),⟨_,Heap.get?_push_size _ rfl,rfl,rfl⟩,fin,q⟩
end
theorem ZA5 {H:Hp} {p:Addr} (h:H p=none) (o:HO):Same H (upd H p o):=fun b u q=>by rw [ZAE (ZAT q h)];exact q
theorem Same.sqT {K:PySem.W.Frag} {H H':Hp} {a:Addr} {xs:List V} (e:Same H H') (h:SqT K H a xs):SqT K H' a xs:=by
  rcases h with (h | ⟨o,h⟩) | h
  · exact .inl (.inl (e _ _ h))
  · exact .inl (.inr ⟨o,e _ _ h⟩)
  · exact .inr h
theorem Same.sq {K:PySem.W.Frag} {tp:Bool} {H H':Hp} {a:Addr} {xs:List V} (e:Same H H') (h:SqB K tp H a xs):SqB K tp H' a xs:=by
  cases tp
  · exact Same.seq e h
  · exact Same.sqT e h
theorem ZI7 {J:It} {js:List Nat} {tt:TT} {te:TE} {σ:St} {H1:Hp} {acc:Addr} {Q:VK} (xs:List V) (f:V→Bool) (g:V→V) (hacc:H1 acc=none) (hz:xs.length≤sizeLine)
    (hgo:∀ i H,Same H1 H→i < xs.length→J.go i H) (hst:∀ H,Same H1 H→J.stop xs.length H) (hy:∀ i H x H',J.yld i H x H'→H'=H∧xs[i]?=some x)
    (ht:∀ (i:Nat) (x:V) (H':Hp) (Q':Bool→Hp→Prop),xs[i]?=some x→Same H1 H'→(∀ H'',Same H' H''→Q' (f x) H'')→tt (ZAc js σ++[some x]) H' Q')
    (he:∀ (i:Nat) (x:V) (H':Hp) (Q':VK),xs[i]?=some x→f x=true→Same H1 H'→(∀ H'',Same H' H''→Q' (g x) H'')→te (ZAc js σ++[some x]) H' Q')
    (hd:∀ H',Same H1 H'→H' acc=some (.lst ((xs.filter f).map g))→Q (.ref acc) H'):ZII J js tt te σ H1 acc Q:=by
  refine ⟨fun i m H=>m=xs.length - i∧i≤xs.length∧Same H1 H∧H acc=some (.lst (((xs.take i).filter f).map g)),⟨xs.length,by simp,Nat.zero_le _,ZA5 hacc _,ZA3⟩,?_⟩
  rintro i m H2 ⟨rfl,hi,sm,ha⟩
  by_cases hlt:i < xs.length
  · refine .inr ⟨hgo i H2 sm hlt,fun x H3 y=>?_⟩
    obtain ⟨e,hx⟩:=hy i H2 x H3 y
    subst e
    have htk:(xs.take (i+1))=xs.take i++[x]:=by
      have e2:xs[i]=x:=by
        rw [List.getElem?_eq_getElem hlt] at hx;exact Option.some.inj hx
      rw [List.take_succ_eq_append_getElem hlt,e2]
    have e1:List.filter f (xs.take (i+1))=(xs.take i).filter f++(if f x=true then [x] else []):=by
      rw [htk,List.filter_append];congr 1
      by_cases hf:f x=true <;> simp [hf]
    refine ht i x _ _ hx sm fun H4 s4=>?_
    by_cases hf:f x=true
    · rw [if_pos hf]
      refine he i x H4 _ hx hf (sm.trans s4) fun H5 s5=>?_
      have hlen:(((xs.take i).filter f).map g).length < sizeLine:=by
        rw [List.length_map]
        have:=List.length_filter_le f (xs.take i)
        rw [List.length_take] at this
        omega
      refine ⟨_,s5 _ _ (s4 _ _ ha),hlen,xs.length - (i+1),by omega,rfl,hlt,fun b o q=>?_,?_⟩
      · have hb:b≠acc:=by rintro rfl;rw [hacc] at q;cases q
        rw [ZAE hb];exact s5 _ _ (s4 _ _ (sm b o q))
      · rw [ZA3,e1,if_pos hf,List.map_append];rfl
    · have hf':f x=false:=by simpa using hf
      rw [hf']
      rw [if_neg (by decide)]
      refine ⟨xs.length - (i+1),by omega,rfl,hlt,sm.trans s4,?_⟩
      rw [e1,if_neg hf,List.append_nil]
      exact s4 _ _ ha
  · have e:i=xs.length:=by omega
    subst e
    refine .inl ⟨hst H2 sm,hd H2 sm ?_⟩
    rw [List.take_length] at ha
    exact ha
theorem ZEi {K:PySem.W.Frag} {tp:Bool} {a:Addr} {xs:List V} {js:List Nat} {tt:TT} {te:TE} {σ:St} {H1:Hp} {acc:Addr} {Q:VK} (f:V→Bool) (g:V→V) (hq:SqB K tp H1 a xs) (hacc:H1 acc=none) (hz:xs.length≤sizeLine)
    (ht:∀ (i:Nat) (x:V) (H':Hp) (Q':Bool→Hp→Prop),xs[i]?=some x→Same H1 H'→(∀ H'',Same H' H''→Q' (f x) H'')→tt (ZAc js σ++[some x]) H' Q')
    (he:∀ (i:Nat) (x:V) (H':Hp) (Q':VK),xs[i]?=some x→f x=true→Same H1 H'→(∀ H'',Same H' H''→Q' (g x) H'')→te (ZAc js σ++[some x]) H' Q')
    (hd:∀ H',Same H1 H'→H' acc=some (.lst ((xs.filter f).map g))→Q (.ref acc) H'):ZII (Its K tp a xs) js tt te σ H1 acc Q:=
  ZI7 xs f g hacc hz (fun i H s hi=>⟨s.sq hq,hi⟩) (fun H s=>⟨s.sq hq,Nat.le_refl _⟩) (fun i H x H' y=>y) ht he hd
def ZBh (z:Str):List V:=z.cps.toList.map fun c=>.str ⟨#[c]⟩
theorem ZC8 (z:Str):(ZBh z).length=z.cps.size:=by unfold ZBh;simp
theorem comp_str {z:Str} {js:List Nat} {tt:TT} {te:TE} {σ:St} {H1:Hp} {acc:Addr} {Q:VK} (f:V→Bool) (g:V→V) (hacc:H1 acc=none) (hz:z.cps.size≤sizeLine)
    (ht:∀ (i:Nat) (x:V) (H':Hp) (Q':Bool→Hp→Prop),(ZBh z)[i]?=some x→Same H1 H'→(∀ H'',Same H' H''→Q' (f x) H'')→tt (ZAc js σ++[some x]) H' Q')
    (he:∀ (i:Nat) (x:V) (H':Hp) (Q':VK),(ZBh z)[i]?=some x→f x=true→Same H1 H'→(∀ H'',Same H' H''→Q' (g x) H'')→te (ZAc js σ++[some x]) H' Q')
    (hd:∀ H',Same H1 H'→H' acc=some (.lst (((ZBh z).filter f).map g))→Q (.ref acc) H'):ZII (Itc z) js tt te σ H1 acc Q:=by
  refine ZI7 (ZBh z) f g hacc (by rw [ZC8];exact hz) (fun i H s hi=>?_) (fun H s=>?_) (fun i H x H' y=>?_) ht he hd
  · rw [ZC8] at hi;exact hi
  · show (ZBh z).length=z.cps.size
    exact ZC8 z
  · obtain ⟨e,c,hc,hx⟩:=y
    refine ⟨e,?_⟩
    subst hx
    unfold ZBh
    rw [List.getElem?_map,Array.getElem?_toList,hc]
    rfl
end L2
set_option Elab.async false
set_option linter.all false
set_option maxRecDepth 100000
set_option maxHeartbeats 4000000
namespace L2
open PySem PySem.Spec PyProof.Rows
def ZCc (xs ys:List V):Bool:=xs.length == ys.length && (List.range xs.length).all fun j=>eqV (xs.getD j .non) (ys.getD j .non)
theorem ZC2 {xs:List V} {j:Nat} {x:V} (h:xs[j]?=some x):xs.getD j .non=x:=by rw [List.getD_eq_getElem?_getD,h];rfl
section
variable {X:Cx} {pins:List (Addr×Obj)} {σ:St} {H:Hp} {s:Shared}
theorem ZJU {xs:List V} {j:Nat} {x:V} (h:xs.all ZBN=true) (e:xs[j]?=some x):ZBN x=true:=List.all_eq_true.mp h x (List.mem_of_getElem? e)
theorem ZDf {A:Around} {xs ys:List V} {its its2:List Value} (r1:Vals xs its) (r2:Vals ys its2) (fx:xs.all ZBN=true) (fy:ys.all ZBN=true) :
    ∀ j (h1:j < its.toArray.size) (h2:j < its2.toArray.size),SeqAt.EqAt A s its.toArray[j] its2.toArray[j] (eqV (xs.getD j .non) (ys.getD j .non)):=fun j h1 h2=>by
  have l1:=r1.length
  have l2:=r2.length
  have h1':j < its.length:=by simpa using h1
  have h2':j < its2.length:=by simpa using h2
  have e1:xs[j]?=some (xs[j]'(by omega)):=List.getElem?_eq_getElem _
  have e2:ys[j]?=some (ys[j]'(by omega)):=List.getElem?_eq_getElem _
  obtain ⟨u,hu,ru⟩:=r1.get e1
  obtain ⟨v,hv,rv⟩:=r2.get e2
  rw [List.getElem?_eq_getElem h1'] at hu
  rw [List.getElem?_eq_getElem h2'] at hv
  have hu':its[j]=u:=Option.some.inj hu
  have hv':its2[j]=v:=Option.some.inj hv
  rw [ZC2 e1,ZC2 e2]
  have q:=ZHM (A:=A) (s:=s) ru rv (ZJU fx e1) (ZJU fy e2)
  rw [← hu',← hv'] at q
  simpa using q
def rEqS (K:PySem.W.Frag) (neg:Bool):R2:=fun x y H Q=>∃ p q xs ys,x=.ref p∧y=.ref q∧((SqL K H p xs∧SqL K H q ys)∨(SqT K H p xs∧SqT K H q ys))∧xs.all ZBN=true∧ys.all ZBN=true∧
  Q (.bl (if neg then !ZCc xs ys else ZCc xs ys)) H
theorem ZCR {xs ys:List V} (h:xs.length≠ys.length):ZCc xs ys=false:=by
  unfold ZCc
  have:(xs.length == ys.length)=false:=by simpa using h
  rw [this,Bool.false_and]
theorem ZBY {xs ys:List V} (h:xs.length=ys.length):ZCc xs ys=(List.range xs.length).all fun j=>eqV (xs.getD j .non) (ys.getD j .non):=by
  unfold ZCc
  have:(xs.length == ys.length)=true:=by simpa using h
  rw [this,Bool.true_and]
theorem ZJB (hu:X.A.units < cLine):OpR X (compareOp .Eq) (rEqS X.K false):=by
  intro pins s σ H x y v u Q I rx ry h
  obtain ⟨p,q,xs,ys,rfl,rfl,hq,fx,fy,hQ⟩:=h
  cases rx;cases ry
  have hQ':Q (.bl (ZCc xs ys)) H:=hQ
  rcases hq with ⟨ha,hb⟩ | ⟨ha,hb⟩
  · obtain ⟨its,r1,p1,z1⟩:=I.list ha
    obtain ⟨its2,r2,p2,z2⟩:=I.list hb
    have l1:=r1.length;have l2:=r2.length
    by_cases hl:xs.length=ys.length
    · refine SeqAt.eq_listAt (e:=fun j=>eqV (xs.getD j .non) (ys.getD j .non)) p1.isList p2.isList (by simp;omega) hu (ZDf r1 r2 fx fy) ⟨.bl _,H,I,rfl,?_⟩
      rw [ZBY hl] at hQ'
      simp only [List.size_toArray,← l1]
      exact hQ'
    · rw [ZCR hl] at hQ'
      exact SeqAt.eq_list_lengthsAt p1.isList p2.isList (by simp;omega) hu ⟨.bl false,H,I,rfl,hQ'⟩
  · obtain ⟨its,r1,p1,z1⟩:=I.tuple ha
    obtain ⟨its2,r2,p2,z2⟩:=I.tuple hb
    have l1:=r1.length;have l2:=r2.length
    refine SeqAt.eq_tupleAt (e:=fun j=>eqV (xs.getD j .non) (ys.getD j .non)) p1 p2 hu (ZDf r1 r2 fx fy) ⟨.bl _,H,I,rfl,?_⟩
    simp only [List.size_toArray,← l1,← l2]
    by_cases hl:xs.length=ys.length
    · rw [ZBY hl] at hQ'
      have:(xs.length == ys.length)=true:=by simpa using hl
      rw [this,Bool.and_true,← hl,Nat.min_self]
      exact hQ'
    · rw [ZCR hl] at hQ'
      have:(xs.length == ys.length)=false:=by simpa using hl
      rw [this,Bool.and_false]
      exact hQ'
theorem ZHA (hu:X.A.units < cLine):OpR X (compareOp .NotEq) (rEqS X.K true):=by
  intro pins s σ H x y v u Q I rx ry h
  obtain ⟨p,q,xs,ys,rfl,rfl,hq,fx,fy,hQ⟩:=h
  cases rx;cases ry
  have hQ':Q (.bl (!ZCc xs ys)) H:=hQ
  rcases hq with ⟨ha,hb⟩ | ⟨ha,hb⟩
  · obtain ⟨its,r1,p1,z1⟩:=I.list ha
    obtain ⟨its2,r2,p2,z2⟩:=I.list hb
    have l1:=r1.length;have l2:=r2.length
    by_cases hl:xs.length=ys.length
    · refine SeqAt.RcNeAt.lists (e:=fun j=>eqV (xs.getD j .non) (ys.getD j .non)) p1.isList p2.isList (by simp;omega) hu (ZDf r1 r2 fx fy) _ _ _ _ ⟨.bl _,H,I,rfl,?_⟩
      rw [ZBY hl] at hQ'
      simp only [List.size_toArray,← l1]
      exact hQ'
    · rw [ZCR hl] at hQ'
      exact SeqAt.RcNeAt.lists_lengths p1.isList p2.isList (by simp;omega) hu _ _ _ _ ⟨.bl true,H,I,rfl,hQ'⟩
  · obtain ⟨its,r1,p1,z1⟩:=I.tuple ha
    obtain ⟨its2,r2,p2,z2⟩:=I.tuple hb
    have l1:=r1.length;have l2:=r2.length
    refine SeqAt.RcNeAt.tuples (e:=fun j=>eqV (xs.getD j .non) (ys.getD j .non)) p1 p2 hu (ZDf r1 r2 fx fy) _ _ _ _ ⟨.bl _,H,I,rfl,?_⟩
    simp only [List.size_toArray,← l1,← l2]
    by_cases hl:xs.length=ys.length
    · rw [ZBY hl] at hQ'
      have:(xs.length == ys.length)=true:=by simpa using hl
      rw [this,Bool.and_true,← hl,Nat.min_self]
      exact hQ'
    · rw [ZCR hl] at hQ'
      have:(xs.length == ys.length)=false:=by simpa using hl
      rw [this,Bool.and_false]
      exact hQ'
theorem bools_at {bs:List Bool} {its:List Value} (r:Vals (bs.map V.bl) its) {i:Nat} {v:Value} (e:its[i]?=some v):v=.bool (bs.getD i false):=by
  have hl:=r.length
  rw [List.length_map] at hl
  have hi:i < its.length:=(List.getElem?_eq_some_iff.mp e).1
  have e1:(bs.map V.bl)[i]?=some (.bl (bs[i]'(by omega))):=by rw [List.getElem?_map,List.getElem?_eq_getElem (by omega)];rfl
  obtain ⟨u,hu,ru⟩:=r.get e1
  rw [e] at hu;cases hu
  cases ru
  rw [List.getD_eq_getElem?_getD,List.getElem?_eq_getElem (by omega)];rfl
theorem ZKK (bs:List Bool):(List.range bs.length).all (fun i=>bs.getD i false)=bs.all id:=by
  rw [Bool.eq_iff_iff,List.all_eq_true,List.all_eq_true]
  constructor
  · intro h x hx
    obtain ⟨i,hi,rfl⟩:=List.mem_iff_getElem.mp hx
    have:=h i (List.mem_range.mpr hi)
    rw [List.getD_eq_getElem?_getD,List.getElem?_eq_getElem hi] at this
    exact this
  · intro h i hi
    rw [List.getD_eq_getElem?_getD,List.getElem?_eq_getElem (List.mem_range.mp hi)]
    exact h _ (List.getElem_mem _)
theorem ZHi (hc:X.calm=true):ZBr X (.builtin "all") (fun xs H Q=>∃ (p:Addr) (bs:List Bool),xs=[.ref p]∧SqL X.K H p (bs.map V.bl)∧Q (.bl (bs.all id)) H):=by
  intro pins s σ H xs us Q I r h
  obtain ⟨p,bs,rfl,hq,q⟩:=h
  obtain ⟨u,rfl,rx⟩:=ZCl r
  cases rx
  obtain ⟨its,rv,pl,hz⟩:=I.list hq
  have hl:=rv.length
  rw [List.length_map] at hl
  refine call_all_walk (wpAny_pyIter_list pl.isList ?_)
  obtain ⟨o,n,ho,_⟩:=id pl
  have hne:p≠s.heap.objs.size:=Nat.ne_of_lt (Heap.lt_size ho)
  refine ⟨s.heap.objs.size,_,_,_,_,_,fun i=>bs.getD i false,rfl,Walks.list (by rw [Around.in1_handled];exact I.ok.hd hc) _ p hne its.toArray,⟨⟨_,Heap.get?_push_size _ rfl,rfl,rfl⟩,pl.isList.push _⟩,fun i v s' Q' E' hv hQ'=>?_,fun h' tk kp=>?_⟩
  · have ev:v=.bool (bs.getD i false):=bools_at rv (by simpa using hv)
    rw [ev]
    exact wpAny_truthy_bool hQ'
  · refine ⟨.bl _,H,I.kept (t':=tk) fun b ob e=>kp b ob (by simpa using Nat.ne_of_lt (Heap.lt_size e)) (Heap.get?_push_of_some _ e),rfl,?_⟩
    rw [List.size_toArray,← hl,ZKK]
    exact q
def rInsert:V→List V→Hp→VK→Prop:=fun x vs H Q=>∃ (l:Addr) (xs:List V) (j:Int) (y:V),x=.ref l∧vs=[.int j,y]∧H l=some (.lst xs)∧0≤j∧j≤xs.length∧xs.length < sizeLine∧Q .non (upd H l (.lst (xs.take j.toNat++y :: xs.drop j.toNat)))
def rSlS:V→Option Int→Option Int→Hp→VK→Prop:=fun x lo hi H Q=>∃ z,x=.str z∧z.length≤sizeLine∧Q (.str (Txt.slice z lo hi)) H
theorem ZJi {v:Value} {o:Option Int} (p:IsPart v o):∃ l:Option (Int×Tok),v=partValue l∧l.map (·.1)=o:=by
  cases p with
  | none=>exact ⟨none,rfl,rfl⟩
  | int i t=>exact ⟨some (i,t),rfl,rfl⟩
theorem sl_str:SlR X rSlS:=by
  intro pins s σ H x v vl vu lo hi sl Q I rx hs pl pu h
  obtain ⟨z,rfl,hz,q⟩:=h
  obtain ⟨t,rfl⟩:=rx
  obtain ⟨l,rfl,hl⟩:=ZJi pl
  obtain ⟨u,rfl,hu⟩:=ZJi pu
  subst hl;subst hu
  refine ⟨"str", _,F.slot_str_getitem.lookup,typeIs_str _ _ _,wpAny_getItem_str_slice (l:=l) (u:=u) (st:=none) hs rfl (post_val_or_str ⟨Nat.le_trans (Txt.slice_le z _ _) hz,fun t' k=>?_⟩)⟩
  exact ⟨.str _,H,I.tok k,⟨t',rfl⟩,q⟩
end
end L2
set_option Elab.async false
set_option linter.all false
set_option maxRecDepth 100000
set_option maxHeartbeats 4000000
set_option exponentiation.threshold 5000
namespace L2
open PySem PySem.Spec PyProof.Rows
def Has (P:Program) (w:World) (K:PySem.W.Frag) (mg:Str→Option Value) (base:Heap) (x:Str) (k:Nat) (ps:List Str) (sp:Sp):Prop:=
  ∃ f fd,FnOk P w K mg base CX0 k f fd ps sp∧Binds K fd ps []∧PySem.W.keepIn K (.ref f)=true∧mg x=some (.ref f)
section
variable {P:Program} {w:World} {K:PySem.W.Frag} {mg:Str→Option Value} {base:Heap} {x qual:Str} {k:Nat} {ps:List Str} {sp:Sp} {st:Stmt} {f:Addr} {fd:FuncData}
theorem Has.mk (F:Fun K x qual st f fd) (b:Binds K fd ps []) (m:mg x=some (.ref f)) (h:FnOk P w K mg base CX0 k f fd ps sp):Has P w K mg base x k ps sp:=⟨f,fd,h,b,F.kp,m⟩
end
section
variable {X:Cx} {x:Str} {j k:Nat} {ps:List Str} {sp:Sp} {p pos:Pos} {e:Expr} {es:List Expr} {t:TA}
theorem pe_fn (h:Has X.prog X.w X.K X.mg X.base x k ps sp) (hr:Room j X.A) (hk:k≤j) (ha:PA X (e :: es) t) (hg:Gl X x:=by rfl) (hdb:(x == ("__debug__" : Str))=false:=by decide)
    (he:starEach (e :: es) X.env=(false,eval e X.env) :: starEach es X.env:=by rfl) (hpl:(backTo pos (starEach es X.env)).any (·.1)=false:=by rfl) :
    PE X (.Call (.Name x p) (e :: es) [] pos) (ZAo sp [] E0 t):=by
  obtain ⟨f,fd,F,b,kp,m⟩:=h
  exact pe_call (F.mono hk) hr hg m kp b .nil pass0 ha hdb he hpl
def rLenS (K:PySem.W.Frag):List V→Hp→VK→Prop:=fun xs H Q=>∃ (p:Addr) (ys:List V),xs=[.ref p]∧(SqL K H p ys∨SqT K H p ys)∧Q (.int ys.length) H
theorem ZCt:ZBr X (.builtin "len") (rLenS X.K):=ZAJ
theorem ZEE:MtR X "list.append" ZEZ:=ZGe
def CBit (i j:Int):Prop:=i.natAbs < 2 ^ 1000∧j.natAbs < 2 ^ 1000
theorem log_lt {n:Nat} (h:n < 2 ^ 1000):n.log2 < 1000:=by
  rcases Nat.eq_zero_or_pos n with e | e
  · subst e;exact (show (0:Nat).log2 < 1000 by decide)
  · exact (Nat.log2_lt (Nat.ne_of_gt e)).mpr h
theorem ZJw {i:Int} (h:i.natAbs < 2 ^ 1000):Builtin.Int.intBits i≤2 ^ 20:=by
  unfold Builtin.Int.intBits
  split
  · exact Nat.zero_le _
  · have:=log_lt h
    have e:(2:Nat) ^ 20=1048576:=by decide
    omega
theorem ZCT:OpR X (binaryOp .Mult) (rI CBit fun i j=>.int (i * j)):=opI fun _ _ _ _ _ _ _ hc q=>mul_int q (.of_bits (ZJw hc.1) (ZJw hc.2))
theorem ZFT:OpR X (binaryOp .FloorDiv) (rI (fun _ j=>0 < j∧j.natAbs < 2 ^ 1000) fun i j=>.int (i / j)):=opI fun i j _ _ _ _ _ hc q=>by
  have h1:(0:Int) < j:=hc.1
  have h2:=log_lt hc.2
  exact floordiv_int (by omega) (by rw [Int.fdiv_eq_ediv_of_nonneg i (by omega)];exact q) (.inl (PyProof.noPylong_of_log2 (by omega)))
theorem pss_c {body rest:List Stmt} {st:Stmt} {t u:TS} (e:body=st :: rest) (h:PS X st t) (h2:PSs X rest u):PSs X body (tSeq t u):=by rw [e];exact pss_cons h h2
theorem pss_o {body:List Stmt} {st:Stmt} {t:TS} (e:body=[st]) (h:PS X st t):PSs X body t:=by rw [e];exact pss_one h
def tCut (t:TS):TS:=fun D σ H=>∃ J:St→Hp→Prop,t { D with nx:=J } σ H∧∀ σ' H',J σ' H'→D.nx σ' H'
theorem ps_cut {st:Stmt} {t:TS} (h:PS X st t):PS X st (tCut t):=by
  intro pins s σ H D I hw
  obtain ⟨J,h1,h2⟩:=hw
  refine thn (h pins s σ H _ I h1) fun f s' q=>?_
  cases f with
  | next=>obtain ⟨σ',H',I',q⟩:=q;exact ⟨σ',H',I',h2 σ' H' q⟩
  | ret v=>exact q
  | brk=>exact q
  | cont=>exact q
end
def SameX (p:Addr) (H H':Hp):Prop:=∀ b o,b≠p→H b=some o→H' b=some o
theorem SameX.trans {p:Addr} {H H1 H2:Hp} (a:SameX p H H1) (b:SameX p H1 H2):SameX p H H2:=fun c o hc e=>b c o hc (a c o hc e)
theorem SameX.of {p:Addr} {H H':Hp} (a:Same H H'):SameX p H H':=fun c o _ e=>a c o e
theorem SameX.upd {p:Addr} {H:Hp} {o:HO}:SameX p H (upd H p o):=fun c u hc e=>by rw [ZAE hc];exact e
end L2
set_option Elab.async false
set_option linter.all false
set_option maxRecDepth 100000
set_option maxHeartbeats 8000000
namespace L2
open PySem PySem.Spec PyProof.Rows
def ZBI (acc:List Str) (x:Str):List Str:=if acc.any (· == x) then acc else acc++[x]
def dd (ss:List Str):List Str:=ss.foldl ZBI []
theorem ZIm (acc:List Str) (x k:Str):(ZBI acc x).any (· == k)=(acc.any (· == k) || decide (k=x)):=by
  unfold ZBI
  by_cases h:acc.any (· == x)=true
  · rw [if_pos h]
    by_cases e:k=x
    · subst e;rw [h];simp
    · simp [e]
  · rw [if_neg h,List.any_append]
    by_cases e:k=x
    · subst e;simp
    · have hb:(x == k)=false:=by simpa [beq_iff_eq] using (fun h':x=k=>e h'.symm)
      simp [hb,e]
theorem ZFc (acc:List Str) (x:Str):(ZBI acc x).length=if acc.any (· == x) then acc.length else acc.length+1:=by
  unfold ZBI;split <;> simp
theorem ZJR (ss:List Str) (i:Nat) (h:i < ss.length):dd (ss.take (i+1))=ZBI (dd (ss.take i)) ss[i]:=by
  unfold dd
  rw [List.take_succ_eq_append_getElem h,List.foldl_append];rfl
theorem ZJO (ss:List Str):(dd ss).length≤ss.length:=by
  have:∀ (l acc:List Str),(l.foldl ZBI acc).length≤acc.length+l.length:=by
    intro l
    induction l with
    | nil=>intro acc;simp
    | cons x r ih=>
      intro acc
      rw [List.foldl_cons]
      have h1:=ih (ZBI acc x)
      rw [ZFc] at h1
      simp only [List.length_cons]
      split at h1 <;> omega
  have q:=this ss []
  simp only [List.length_nil,Nat.zero_add] at q
  exact q
section
variable {prog:Program} {w:World} {A:Around} {R:Result→Shared→Prop} {I:Addr} {fp wr:List Addr} {G:Array GenState→Array GenState→Prop} {n:Nat} {P:Nat→Value→Prop} {St:Nat→Shared→Prop} {ss:List Str}
end
section
variable {prog:Program} {w:World} {A:Around} {E:Value→Shared→Prop} {s:Shared} {ss:List Str}
theorem ZFz:isSubtype (.type "tuple") (.type "set")=pure false:=by rw [isSubtype_type];kernel_rfl
theorem ZD0:isSubtype (.type "tuple") (.type "frozenset")=pure false:=by rw [isSubtype_type];kernel_rfl
end
def SetO (P:Program) (w:World) (a:Addr) (f:Str→Bool) (n:Nat):HO:=.ext fun h=>h.SetOf (strKind P w) a f n
section
variable {X:Cx}
theorem ZEa {ss:List Str} {its:List Value} (r:Vals (ss.map V.str) its) {i:Nat} {v:Value} (e:its[i]?=some v):∃ (h:i < ss.length) (t:Tok),v=.str ss[i] t:=by
  have hl:=r.length
  rw [List.length_map] at hl
  have hi:i < its.length:=(List.getElem?_eq_some_iff.mp e).1
  have hi':i < ss.length:=by omega
  have e1:(ss.map V.str)[i]?=some (.str ss[i]):=by rw [List.getElem?_map,List.getElem?_eq_getElem hi'];rfl
  obtain ⟨u,hu,ru⟩:=r.get e1
  rw [e] at hu;cases hu
  obtain ⟨t,q⟩:=ru
  exact ⟨hi',t,q⟩
end
end L2
set_option Elab.async false
set_option linter.all false
set_option maxRecDepth 100000
set_option maxHeartbeats 4000000
namespace L2
open PySem PySem.Spec PyProof.Rows
structure QE (X:Cx) (e:Expr) (t:TE):Prop where h:PE X e t
structure QT (X:Cx) (e:Expr) (t:TT):Prop where h:PT X e t
structure QW (X:Cx) (e:Expr) (t:TT):Prop where h:PW X e t
structure QA (X:Cx) (es:List Expr) (t:TA):Prop where h:PA X es t
structure QS (X:Cx) (st:Stmt) (t:TS):Prop where h:PS X st t
structure QSs (X:Cx) (st:List Stmt) (t:TS):Prop where h:PSs X st t
structure QG (X:Cx) (tg:Expr) (t:TG):Prop where h:PG X tg t
structure QGs (X:Cx) (ts:List Expr) (t:TGs):Prop where h:PGs X ts t
structure QI (X:Cx) (tg iter:Expr) (wi:TI):Prop where h:PI X tg iter wi
structure QIf (X:Cx) (ifs:List Expr) (t:TT):Prop where h:PIfs X ifs t
structure QO (X:Cx) (e:Option Expr) (t:TO):Prop where h:PO X e t
section
variable {X:Cx} {a b c e o:Expr} {es rest:List Expr} {ta tb tc te to:TE} {tA tB':TT} {t:TA} {pos p p2 apos cpos:Pos} {x:Str}
theorem qv (i:Nat) {x:Str} {pos:Pos} (hN:X.N[i]?=some x:=by rfl) (hv:Vis X.env.scope x:=by first | exact Or.inl rfl | exact Or.inr (Or.inl rfl) | exact Or.inr (Or.inr rfl)) (hd:(x == ("__debug__" : Str))=false:=by decide)
    (hcd:(x == ("__classdict__" : Str))=false:=by decide):QE X (.Name x pos) (ZBi i):=⟨pe_var hN hv hd hcd⟩
theorem ZA2 {i j pos}:QE X (.Constant (.int i) j pos) (tC (.int i)):=⟨pe_int⟩
theorem ZI4 {b j pos}:QE X (.Constant (.bool b) j pos) (tC (.bl b)):=⟨pe_bl⟩
theorem ZEr {j pos}:QE X (.Constant .none j pos) (tC .non):=⟨pe_non⟩
theorem ZAM {x j pos}:QE X (.Constant (.str x) j pos) (tC (.str x)):=⟨pe_str⟩
theorem ZDs {v:V} {u:Value} (hg:Gl X x) (hm:X.mg x=some u) (r:RelV v u) (hd:(x == ("__debug__" : Str))=false:=by decide):QE X (.Name x pos) (tC v):=⟨pe_glob hg hm r hd⟩
theorem ZAP {op:Operator} {r:R2} (ho:OpR X (binaryOp op) r) (ha:QE X a ta) (hb:QE X b tb):QE X (.BinOp a op b pos) (tOp r ta tb):=⟨pe_op ho ha.h hb.h⟩
theorem ZC1 {op:CmpOp} {r:R2} (ho:OpR X (compareOp op) r) (ha:QE X a ta) (hb:QE X b tb) (hm:behindInMarks op b=false):QE X (.Compare a [op] [b] pos) (tOp r ta tb):=⟨pe_cmpR ho ha.h hb.h hm⟩
theorem ZA6 {op:CmpOp} {r:R2} (ho:OpR X (compareOp op) r) (ha:QE X a ta) (hb:QE X b tb) (hm:behindInMarks op b=false):QT X (.Compare a [op] [b] pos) (ZID (tOp r ta tb)):=⟨pt_cmpR ho ha.h hb.h hm⟩
theorem ZHc {op op':CmpOp} {r r':R2} (ho:OpR X (compareOp op) r) (ho':OpR X (compareOp op') r') (ha:QE X a ta) (hb:QE X b tb) (hc:QE X c tc)
    (hm:lastMarks [op,op'] [b,c]=false:=by with_unfolding_all rfl):QE X (.Compare a [op,op'] [b,c] pos) (ZFA r r' ta tb tc):=⟨pe_chain ho ho' ha.h hb.h hc.h hm⟩
theorem ZDX {op op':CmpOp} {r r':R2} (ho:OpR X (compareOp op) r) (ho':OpR X (compareOp op') r') (ha:QE X a ta) (hb:QE X b tb) (hc:QE X c tc)
    (hm:lastMarks [op,op'] [b,c]=false:=by with_unfolding_all rfl):QT X (.Compare a [op,op'] [b,c] pos) (ZID (ZFA r r' ta tb tc)):=⟨pt_chain ho ho' ha.h hb.h hc.h hm⟩
theorem ZF4 {op} (h:QE X a ta):QE X (.BoolOp op [a] pos) ta:=⟨pe_one h.h⟩
theorem ZFK (ha:QE X a ta) (hb:QE X (.BoolOp .And (b :: rest) pos) tb):QE X (.BoolOp .And (a :: b :: rest) pos) (tAndV ta tb):=⟨pe_and ha.h hb.h⟩
theorem qe_or (ha:QE X a ta) (hb:QE X (.BoolOp .Or (b :: rest) pos) tb):QE X (.BoolOp .Or (a :: b :: rest) pos) (tOrV ta tb):=⟨pe_or ha.h hb.h⟩
theorem ZBz (ha:QT X a tA):QW X (.BoolOp .And [a] pos) tA:=⟨pw_and1 ha.h⟩
theorem ZF3 (ha:QT X a tA):QW X (.BoolOp .Or [a] pos) tA:=⟨pw_or1 ha.h⟩
theorem ZCP (ha:QT X a tA) (hb:QW X (.BoolOp .And (b :: rest) pos) tB'):QW X (.BoolOp .And (a :: b :: rest) pos) (tAnd tA tB'):=⟨pw_and ha.h hb.h⟩
theorem ZI0 (ha:QT X a tA) (hb:QW X (.BoolOp .Or (b :: rest) pos) tB'):QW X (.BoolOp .Or (a :: b :: rest) pos) (tOr tA tB'):=⟨pw_or ha.h hb.h⟩
theorem QW.pt {e:Expr} {t:TT} (h:QW X e t):QT X e t:=⟨h.h.pt⟩
theorem ZCg (ha:QT X a tA):QT X (.UnaryOp .Not a pos) (tNot tA):=⟨pt_not ha.h⟩
theorem ZFY (h:QE X e te) (he:∀ whole,isTrue e X.env whole=(do let v ← whole;standAt e.pos;holding [v] (truthy v)):=by intro _;rfl):QT X e (tB te):=⟨pt_val h.h he⟩
theorem ZA1:QA X [] ZAa:=⟨pa_nil⟩
theorem ZA0 (ha:QE X e te) (hr:QA X es t) (hs:starEach (e :: es) X.env=(false,eval e X.env) :: starEach es X.env:=by rfl):QA X (e :: es) (ZAA te t):=⟨pa_cons ha.h hr.h hs⟩
theorem ZAv {x1} (h:QA X es t):QE X (.Tuple es x1 pos) (tTup t):=⟨pe_tup h.h⟩
theorem ZBq (h:QA X es t):QE X (.List es pos) (tLst t):=⟨pe_lst h.h⟩
theorem ZC0:QO X none ZHR:=⟨po_none⟩
theorem ZBd (h:QE X e te):QO X (some e) (tPart te):=⟨po_some h.h⟩
theorem ZBO {r:V→Option Int→Option Int→Hp→VK→Prop} {lo hi:Option Expr} {tl th:TO} (hr:SlR X r) (he:QE X e te) (hl:QO X lo tl) (hu:QO X hi th):QE X (.Subscript e (.Slice lo hi none p2) pos) (tSl r te tl th):=⟨pe_slice hr he.h hl.h hu.h⟩
theorem ZAD {r:R2} (hr:IxR X r) (ha:QE X a ta) (hb:QE X b tb) (hs:ZJp b):QE X (.Subscript a b pos) (tOp r ta tb):=⟨pe_ix hr ha.h hb.h hs⟩
theorem ZAB {j k:Nat} {ps:List Str} {sp:Sp} (h:Has X.prog X.w X.K X.mg X.base x k ps sp) (hr:Room j X.A) (hk:k≤j) (ha:QA X (e :: es) t) (hg:Gl X x:=by rfl) (hdb:(x == ("__debug__" : Str))=false:=by decide)
    (he:starEach (e :: es) X.env=(false,eval e X.env) :: starEach es X.env:=by rfl) (hpl:(backTo pos (starEach es X.env)).any (·.1)=false:=by rfl):QE X (.Call (.Name x p) (e :: es) [] pos) (ZAo sp [] E0 t):=⟨pe_fn h hr hk ha.h hg hdb he hpl⟩
theorem ZAK {id:String} {r:List V→Hp→VK→Prop} (hc:ZBr X (.builtin id) r) (hg:Gl X x) (hm:X.mg x=none) (hv:bootBuiltins x=some (.builtin id)) (ha:QA X (e :: es) t) (hn:x ≠ "__name__" := by decide) (hdb:(x == ("__debug__" : Str))=false:=by decide)
    (he:starEach (e :: es) X.env=(false,eval e X.env) :: starEach es X.env:=by rfl) (hpl:(backTo pos (starEach es X.env)).any (·.1)=false:=by rfl):QE X (.Call (.Name x p) (e :: es) [] pos) (tCB r t):=⟨pe_callB hc hg hm hv ha.h hn hdb he hpl⟩
theorem ZB5 {T:String} {r:List V→Hp→VK→Prop} (hc:ZBr X (.type T) r) (hg:Gl X x) (hm:X.mg x=none) (hv:bootBuiltins x=some (.type T)) (ha:QA X (e :: es) t) (hn:x ≠ "__name__" := by decide) (hdb:(x == ("__debug__" : Str))=false:=by decide)
    (he:starEach (e :: es) X.env=(false,eval e X.env) :: starEach es X.env:=by rfl) (hpl:(backTo pos (starEach es X.env)).any (·.1)=false:=by rfl):QE X (.Call (.Name x p) (e :: es) [] pos) (tCB r t):=⟨ZKd hc hg hm hv ha.h hn hdb he hpl⟩
theorem ZGH {name:Str} {T id:String} {r:V→List V→Hp→VK→Prop} (pa:PlainAttrs T) (slot:Slot T name id) (hty:typeOf (.builtin id)=pure (.type "method_descriptor")) (hm:MtR X id r) (ho:QE X o to) (ha:QA X (e :: es) t)
    (hbase:attributeBase o name X.env (eval o X.env)=eval o X.env:=by rfl)
    (hfew:((backTo cpos (starEach (e :: es) X.env)).all (fun x=>!x.1) && (backToKw cpos (keywordEach [] X.env)).all (fun x=>x.1.isSome)
      && decide ((e :: es).length+([]:List Keyword).length+(if ([]:List Keyword).isEmpty then 0 else 1) < 30))=true:=by rfl)
    (hline:(apos.endLine == cpos.line)=true:=by rfl) (hs:starEach (e :: es) X.env=(false,eval e X.env) :: starEach es X.env:=by rfl) (hplain:(backTo cpos (starEach es X.env)).any (·.1)=false:=by rfl) :
    QE X (.Call (.Attribute o name apos) (e :: es) [] cpos) (tBM X.K T r to t):=⟨pe_bm pa slot hty hm ho.h ha.h hbase hfew hline hs hplain⟩
end
section
variable {X:Cx} {elt iter:Expr} {x:Str} {px pos:Pos} {ifs:List Expr} {scope:Scope} {caps:List Str} {js:List Nat} {tt:TT} {te:TE} {wi:TI} {tg:Expr}
theorem ZGZ {l:Expr} {tl:TE} (hl:QE X l tl):QI X tg l (iSq X.K tl):=⟨pi_sq hl.h⟩
theorem qi_str {l:Expr} {tl:TE} (hl:QE X l tl):QI X tg l (iStr tl):=⟨pi_str hl.h⟩
theorem ZGs {a:Expr} {ta:TA} {p pos:Pos} (hg:Gl X "range") (hm:X.mg "range" = none) (ha:QA X [a] ta) (hs:starEach [a] X.env=[(false,eval a X.env)]:=by rfl):QI X tg (.Call (.Name "range" p) [a] [] pos) (iRng1 ta):=⟨ZKW hg hm ha.h hs⟩
theorem ZK3:QIf X [] tTrue:=⟨pif_nil⟩
theorem ZDU {c:Expr} {t:TT} (hc:QT X c t):QIf X [c] t:=⟨pif_one hc.h⟩
theorem ZDV (hc:X.calm=true) (S:CompScope X.N X.env.scope scope x caps js) (hi:QI X (.Name x px) iter wi)
    (hifs:∀ fp C s H,QIf (ZAd X (caps++[x]) scope (ZAb X.env.cells scope.names) C s H fp) ifs tt) (helt:∀ fp C s H,QE (ZAd X (caps++[x]) scope (ZAb X.env.cells scope.names) C s H fp) elt te)
    (hs:∀ v,foldedSetIterable iter X.env v=pure v:=by intro _;rfl):QE X (.ListComp elt [⟨.Name x px,iter,ifs,0⟩] scope pos) (ZGo wi js tt te):=⟨pe_comp hc S hi.h (fun fp C s H=>(hifs fp C s H).h) (fun fp C s H=>(helt fp C s H).h) hs⟩
theorem ZJh {i:Nat} {y:Str} {py spos:Pos} (hN:X.N.Nodup) (hi':X.N[i]?=some y) (hy:Loc X.env.scope y) (hc:X.calm=true) (S:CompScope X.N X.env.scope scope x caps js) (hi:QI X (.Name x px) iter wi)
    (hifs:∀ fp C s H,QIf (ZAd X (caps++[x]) scope (ZAb X.env.cells scope.names) C s H fp) ifs tt) (helt:∀ fp C s H,QE (ZAd X (caps++[x]) scope (ZAb X.env.cells scope.names) C s H fp) elt te)
    (hsw:swapsWith (.ListComp elt [⟨.Name x px,iter,ifs,0⟩] scope pos) (some (.Name y py)) spos.line X.env=pure true:=by rfl)
    (hf:X.fn y=true∨X.env.scope.names.lookup y=some .local:=by first | exact .inl rfl | exact .inr rfl | assumption)
    (hs:∀ v,foldedSetIterable iter X.env v=pure v:=by intro _;rfl):QS X (.Assign [.Name y py] (.ListComp elt [⟨.Name x px,iter,ifs,0⟩] scope pos) spos) (ZFh (ZGo wi js tt te) (ZC9 i)):=
  ⟨ps_comp hN hi' hy hc S hi.h (fun fp C s H=>(hifs fp C s H).h) (fun fp C s H=>(helt fp C s H).h) hsw hf hs⟩
theorem ZC3 {i:Nat} {x:Str} (hN:X.N.Nodup) (hi:X.N[i]?=some x) (hx:Loc X.env.scope x) (hf:X.fn x=true∨X.env.scope.names.lookup x=some .local:=by first | exact .inl rfl | exact .inr rfl | assumption):QG X (.Name x pos) (ZC9 i):=⟨ZK5 hN hi hx hf⟩
theorem ZH0:QGs X [] gNil:=⟨pgs_nil⟩
theorem ZCF {e:Expr} {es:List Expr} {t:TG} {u:TGs} (h1:QG X e t) (h2:QGs X es u)
    (hs:(assignEach (e :: es) X.env).map (·.2)=assign e X.env :: (assignEach es X.env).map (·.2):=by rfl):QGs X (e :: es) (gCons t u):=⟨pgs_cons h1.h h2.h hs⟩
theorem ZIc {es:List Expr} {k:Nat} {t:TGs} {n:Nat} (hc:X.calm=true) (h:QGs X es t) (hn:(assignEach es X.env).length=n:=by rfl) (hst:(assignEach es X.env).findIdx? (·.1)=none:=by rfl):QG X (.Tuple es k pos) (gTup X.K n t):=⟨pg_tup hc h.h hn hst⟩
theorem qg_sub {o i:Expr} {to ti:TE} {t:TSet} (ho:QE X o to) (hi:QE X i ti) (hs:PSet X t)
    (ha:∀ v,assign (.Subscript o i pos) X.env v=(do
      let ov ← holding [v] (eval o X.env)
      let iv ← holding [v,ov] (eval i X.env)
      standAt pos
      holding [v,ov,iv] (setItem ov iv v)
      release [v,ov,iv] []):=by intro _;rfl):QG X (.Subscript o i pos) (gSub to ti t):=⟨pg_sub ho.h hi.h hs ha⟩
end
section
variable {X:Cx} {st:Stmt} {rest:List Stmt} {t u:TS} {e:Expr} {te:TE} {pos:Pos}
theorem ZAI:QSs X [] tNext:=⟨pss_nil⟩
theorem ZA8 {body rest:List Stmt} {st:Stmt} {t u:TS} (e:body=st :: rest) (h:QS X st t) (h2:QSs X rest u):QSs X body (tSeq t u):=⟨pss_c e h.h h2.h⟩
theorem ZA7 {body:List Stmt} {st:Stmt} {t:TS} (e:body=[st]) (h:QS X st t):QSs X body t:=⟨pss_o e h.h⟩
theorem ZBG:QS X st tNever:=⟨ps_never⟩
theorem ZAq (he:QE X e te) (hs:swapsWith e none pos.line X.env=pure false:=by rfl):QS X (.Expr e pos) (ZFi te):=⟨ps_expr he.h hs⟩
theorem ZAH (he:QE X e te):QS X (.Return (some e) pos) (tRet te):=⟨ps_ret he.h⟩
theorem ZAS {c:Expr} {a b:List Stmt} {tc:TT} (hc:QT X c tc) (ha:QSs X a t) (hb:QSs X b u):QS X (.If c a b pos) (tIfS tc t u):=⟨ps_if hc.h ha.h hb.h⟩
theorem ZHB {tg e:Expr} {te:TE} {g:TG} (he:QE X e te) (hg:QG X tg g) (hs:swapsWithSole [tg] e pos.line X.env=pure false:=by rfl) (hw:swappedStores [tg] e X.env=pure none:=by rfl)
    (h1:(assignEach [tg] X.env).map (·.2)=[assign tg X.env]:=by rfl):QS X (.Assign [tg] e pos) (ZFh te g):=⟨ps_asg he.h hg.h hs hw h1⟩
theorem ZAN {i:Nat} {x:Str} {pos':Pos} (hN:X.N.Nodup) (hi:X.N[i]?=some x) (hx:Loc X.env.scope x) (he:QE X e te) (hs:swapsWith e (some (.Name x pos')) pos.line X.env=pure false:=by rfl) (hf:X.fn x=true∨X.env.scope.names.lookup x=some .local:=by first | exact .inl rfl | exact .inr rfl | assumption) :
    QS X (.Assign [.Name x pos'] e pos) (ZFh te (ZC9 i)):=⟨ps_set hN hi hx he.h hs hf⟩
theorem ZF1 {c:Expr} {body:List Stmt} {tc:TT} {tb:TS} (hp:PassesOwn (model X.prog X.w) X.A X.env X.xe) (hc:QT X c tc) (hb:QSs X body tb):QS X (.While c body [] pos) (ZIr tc tb):=⟨ps_while hp hc.h hb.h⟩
theorem ZIv {tg iter:Expr} {body:List Stmt} {wi:TI} {g:TG} {tb:TS} (hp:PassesOwn (model X.prog X.w) X.A X.env X.xe) (hc:X.calm=true) (hi:QI X tg iter wi) (hg:QG X tg g) (hb:QSs X body tb)
    (hs:∀ x,foldedSetIterable iter X.env x=pure x:=by intro _;rfl):QS X (.For tg iter body [] pos) (tFor wi g tb):=⟨ps_for hp hc hi.h hg.h hb.h hs⟩
theorem ZBD (h:QS X st t):QS X st (tCut t):=⟨ps_cut h.h⟩
end
theorem Fun.okq {P:Program} {w:World} {K:PySem.W.Frag} {mg:Str→Option Value} {base:Heap} {x qual:Str} {st:Stmt} {f:Addr} {fd:FuncData} {N ps:List Str} {k:Nat} {sp:Sp} (F:Fun K x qual st f fd) (S:FnScope N ps (ZA4 st)) (len:∀ vs H Q E,sp vs H Q E→vs.length=ps.length)
    (hbody:∀ (cdv:Value) (A:Around) (outer:List Env) (s:Shared) (H:Hp) (vs:List V) (Q:VK) (E:XK),Room k (A.deeper (envOfC qual (ZA4 st) s.heap.objs.size f cdv))→sp vs H Q E→
      ∃ t,QSs (cxOf CX0 P w K mg base N qual (ZA4 st) f cdv A outer s H E).nox (ZAC st) t∧t { nx:=fun _ H'=>Q .non H',rt:=Q } (start N vs) H):FnOk P w K mg base CX0 (k+1) f fd ps sp:=
  F.ok S len fun cdv A outer s H vs Q E hr h=>let ⟨t,q,r⟩:=hbody cdv A outer s H vs Q E hr h;⟨t,q.h,r⟩
end L2
set_option Elab.async false
set_option linter.all false
set_option maxRecDepth 100000
set_option maxHeartbeats 4000000
namespace L2
open PySem PySem.Spec PyProof.Rows
section
variable {X:Cx}
theorem ZEg {x y:Str} {t:Tok}:eqU (.str x) (.str y t)=(y == x):=rfl
theorem ZDG (x:Str):∀ (ss:List Str) (m:Nat) (hm:m < ss.length),m < ss.idxOf x→ss[m]≠x
  | [],_,hm,_=>absurd hm (Nat.not_lt_zero _)
  | a :: r,m,hm,h=>by
    rw [List.idxOf_cons] at h
    by_cases e:a=x
    · have:(a == x)=true:=by simpa using e
      rw [this] at h
      exact absurd h (Nat.not_lt_zero _)
    · have e':(a == x)=false:=by simpa using e
      rw [e'] at h
      cases m with
      | zero=>exact e
      | succ k=>
        have h':k+1 < r.idxOf x+1:=h
        exact ZDG x r k (by simpa using hm) (by omega)
theorem ZIy {ss:List Str} {x:Str} (h:x∈ss):∃ hj:ss.idxOf x < ss.length,ss[ss.idxOf x]=x∧∀ m (hm:m < ss.length),m < ss.idxOf x→ss[m]≠x:=by
  have hj:ss.idxOf x < ss.length:=List.idxOf_lt_length_iff.mpr h
  exact ⟨hj,List.getElem_idxOf hj,fun m hm hlt=>ZDG x ss m hm hlt⟩
def ZK4 (K:PySem.W.Frag):V→List V→Hp→VK→Prop:=fun x vs H Q=>∃ (l:Addr) (ss:List Str) (y:Str),x=.ref l∧vs=[.str y]∧SqL K H l (ss.map V.str)∧y∈ss∧Q (.int (ss.idxOf y:Nat)) H
theorem ZKA:MtR X "list.index" (ZK4 X.K):=by
  intro pins s σ H x vs v us Q I rx rv h
  obtain ⟨l,ss,y,rfl,rfl,hq,hy,q⟩:=h
  cases rx
  obtain ⟨u,rfl,ru⟩:=rv.one
  obtain ⟨its,r,pl,hz⟩:=I.list hq
  obtain ⟨⟨c,d,dt,sl⟩,n,ho,hc,hd,hdt⟩:=id pl
  simp only at hc hd hdt
  subst hc;subst hd;subst hdt
  have hl:=r.length
  rw [List.length_map] at hl
  obtain ⟨hj,hhit,hno⟩:=ZIy hy
  have at':∀ (m:Nat) (hm:m < its.toArray.size),∃ t,its.toArray[m]=.str (ss[m]'(by simp at hm;omega)) t:=fun m hm=>by
    have hm':m < its.length:=by simpa using hm
    obtain ⟨h2,t,e⟩:=ZEa r (List.getElem?_eq_getElem hm')
    exact ⟨t,by simpa using e⟩
  have hjs:ss.idxOf y < its.toArray.size:=by simp;omega
  refine call_meets PySem.F.slot_list_index ⟨_,ho,rfl⟩ PySem.F.entry_list_index (PySem.F.args_list_index_2 _ _) (SeqAt.list_indexAt l its.toArray n none sl u (eqU (.str y)) (ss.idxOf y) hjs ?_ ?_ (fun m hm hlt=>?_)) ⟨ho,fun z hz'=>ZBu ru rfl r (by
      rw [List.all_eq_true];intro w hw;obtain ⟨y',_,rfl⟩:=List.mem_map.mp hw;rfl) z (by simpa using hz'),?_⟩
  · have h1:ss.length≤sizeLine:=by rw [List.length_map] at hz;exact hz
    have h2:=ZCN
    have h3:((sizeLine:Nat):Int) < 2 ^ 63:=by exact_mod_cast h2
    omega
  · obtain ⟨t,e⟩:=at' _ hjs
    rw [e,ZEg];simpa using hhit
  · obtain ⟨t,e⟩:=at' _ hm
    rw [e,ZEg]
    have:=hno m (by simp at hm;omega) hlt
    simpa using this
  · exact ⟨.int _,H,I.tok _,⟨_,rfl⟩,q⟩
theorem ZG1 (l:Addr) (items:Array Value) (n:Nat) (dd:Option Addr) (sl:Array (Option Value)) (x:Value) (e:Value→Bool) (j:Nat) (hj:j < items.size) (hit:e items[j]=true) (hno:∀ m (hm:m < items.size),m < j→e items[m]=false) :
    Meets (Builtin.«tuple.index» ⟨[.ref l,x],[]⟩)
      (fun A R s=>s.heap.get? l=some { cls:=.type "tuple", dict:=dd,data:=.seq items n,slots:=sl }∧(∀ y,y∈items→SeqAt.EqAt A.in1 s y x (e y))∧R (.ok (.ret (.int j s.toks))) { s with toks:=s.toks+1 }):=by
  refine Meets.of_wp fun prog w A R s h=>?_
  obtain ⟨hp,g,d,tk,os⟩:=s
  obtain ⟨hl,he,h⟩:=h
  wp_walk using AutoSeq1.wpAny_loadPart' hl
  show wpAny _ _ (forIn [:min items.size items.size] ((none:Option Fin),()) (fun (i:Nat) (_:Option Fin×Unit)=>match items[i]? with
    | some y=>(do let b ← eqBool y x;if b=true then do let r ← retInt ((i:Nat):Int);pure (ForInStep.done (some r,())) else pure (ForInStep.yield (none,())))
    | _=>pure (ForInStep.yield (none,())))) _ _ _
  rw [Std.Legacy.Range.forIn_eq_forIn_range']
  have hsz:([:min items.size items.size]:Std.Legacy.Range).size=items.size:=by simp [Std.Legacy.Range.size]
  show wpAny _ _ (forIn (List.range' 0 ([:min items.size items.size]:Std.Legacy.Range).size 1) _ _) _ _ _
  rw [hsz]
  refine wpAny_forIn_list _ (fun rest b s'=>b=(none,())∧s'=⟨hp,g,d,tk,os⟩∧∃ i,rest=List.range' i (items.size - i) 1∧i≤j) _ ?_ ?_ _ _ ⟨rfl,rfl,0,rfl,Nat.zero_le _⟩
  · rintro i rest b s' ⟨rfl,rfl,i',hr,hij⟩
    have hlt:i' < items.size:=by omega
    have e1:List.range' i' (items.size - i') 1=i' :: List.range' (i'+1) (items.size - (i'+1)) 1:=by
      have:items.size - i'=(items.size - (i'+1))+1:=by omega
      rw [this,List.range'_succ]
    rw [e1] at hr
    injection hr with hr1 hr2
    subst hr1;subst hr2
    have hi:items[i]?=some items[i]:=by simp [hlt]
    rw [hi]
    refine wpAny_bind (he _ (Array.getElem_mem hlt) prog w _ _ ?_)
    by_cases e2:i=j
    · subst e2
      rw [hit,if_pos rfl]
      wp_walk
      exact ⟨_,rfl,h⟩
    · rw [hno i hlt (by omega),if_neg (by decide)]
      exact wpAny_pure ⟨rfl,rfl,i+1,rfl,by omega⟩
  · rintro b s' ⟨rfl,rfl,i,hr,hij⟩
    have:0 < (List.range' i (items.size - i) 1).length:=by rw [List.length_range'];omega
    rw [← hr] at this
    exact absurd this (by simp)
end
end L2
namespace L2
open PySem PySem.Spec PyProof.Rows
section
variable {X:Cx}
def rIndexT (K:PySem.W.Frag):V→List V→Hp→VK→Prop:=fun x vs H Q=>∃ (l:Addr) (ss:List Str) (y:Str),x=.ref l∧vs=[.str y]∧SqT K H l (ss.map V.str)∧y∈ss∧Q (.int (ss.idxOf y:Nat)) H
theorem ZKC:MtR X "tuple.index" (rIndexT X.K):=by
  intro pins s σ H x vs v us Q I rx rv h
  obtain ⟨l,ss,y,rfl,rfl,hq,hy,q⟩:=h
  cases rx
  obtain ⟨u,rfl,ru⟩:=rv.one
  obtain ⟨its,r,pl,hz⟩:=I.tuple hq
  obtain ⟨⟨c,d,dt,sl⟩,ho,hc,n,hdt⟩:=id pl
  simp only at hc hdt
  subst hc;subst hdt
  have hl:=r.length
  rw [List.length_map] at hl
  obtain ⟨hj,hhit,hno⟩:=ZIy hy
  have at':∀ (m:Nat) (hm:m < its.toArray.size),∃ t,its.toArray[m]=.str (ss[m]'(by simp at hm;omega)) t:=fun m hm=>by
    have hm':m < its.length:=by simpa using hm
    obtain ⟨h2,t,e⟩:=ZEa r (List.getElem?_eq_getElem hm')
    exact ⟨t,by simpa using e⟩
  have hjs:ss.idxOf y < its.toArray.size:=by simp;omega
  refine call_meets PySem.F.slot_tuple_index ⟨_,ho,rfl⟩ PySem.F.entry_tuple_index (PySem.F.args_tuple_index_2 _ _) (ZG1 l its.toArray n d sl u (eqU (.str y)) (ss.idxOf y) hjs ?_ (fun m hm hlt=>?_)) ⟨ho,fun z hz'=>ZBu ru rfl r (by
      rw [List.all_eq_true];intro w hw;obtain ⟨y',_,rfl⟩:=List.mem_map.mp hw;rfl) z (by simpa using hz'),?_⟩
  · obtain ⟨t,e⟩:=at' _ hjs
    rw [e,ZEg];simpa using hhit
  · obtain ⟨t,e⟩:=at' _ hm
    rw [e,ZEg]
    have:=hno m (by simp at hm;omega) hlt
    simpa using this
  · exact ⟨.int _,H,I.tok _,⟨_,rfl⟩,q⟩
def tOr2 (t u:TE):TE:=fun σ H Q=>t σ H Q∨u σ H Q
theorem qe_or2 {e:Expr} {t u:TE} (h:QE X e t) (h2:QE X e u):QE X e (tOr2 t u):=⟨fun pins s σ H Q I q=>q.elim (h.h pins s σ H Q I) (h2.h pins s σ H Q I)⟩
end
end L2
set_option Elab.async false
set_option linter.all false
set_option maxRecDepth 100000
set_option maxHeartbeats 4000000
namespace L2
open PySem PySem.Spec PyProof.Rows
theorem ZKG:typeLookup (.type "list_reverseiterator") "__len__" = pure none:=by rw [typeLookup_type,builtinLookup_eq_fast];kernel_rfl
theorem hint_lri:typeLookup (.type "list_reverseiterator") "__length_hint__" = pure (some (.builtin "list_reverseiterator.__length_hint__")):=by rw [typeLookup_type,builtinLookup_eq_fast];kernel_rfl
section
variable {prog:Program} {w:World} {A:Around} {s:Shared} {R:Result→Shared→Prop}
variable {I:Addr} {fp wr:List Addr} {G:Array GenState→Array GenState→Prop} {n:Nat} {P:Nat→Value→Prop} {St:Nat→Shared→Prop}
theorem ZIe (W:WalksS prog w A.in1 I fp wr G n P St) (hT:∀ i s,St i s→s.TypeIs (.ref I) "list_reverseiterator") (S:Addr) (res:Value) (c₀:Nat) (hst:St 0 s) (hSf:S∉fp) (hI:I∈fp)
    (hS:s.heap.get? S=some { cls:=.type "list", data:=.seq #[] c₀ })
    (hR:∀ s' acc' c',Moved (S :: wr) G s s'→s'.heap.get? S=some { cls:=.type "list", dict:=none,data:=.seq acc' c',slots:=#[] }→ItemsOf P acc' n→R (.ok (.ret res)) s') (hn:n≤sizeLine) :
    wpAny (model prog w) A.in1 (Builtin.List.listExtendWith (.ref S) (.ref I) res)
      (fun fin s'=>match fin with | .done f=>R (.ok f) s' | .again c'=>c'.quiet=true∧codeAny (model prog w) A c' R s') (fun e s'=>R (.error e) s') s:=by
  have hSI:S≠I:=fun e=>hSf (e▸hI)
  unfold Builtin.List.listExtendWith
  refine wpAny_bind (wpAny_typeOf (hT 0 _ hst) ?_)
  have h1:Builtin.List.listSameRef (.ref S) (.ref I)=false:=by simp [Builtin.List.listSameRef,hSI]
  rw [if_neg (by rw [h1];decide)]
  refine wpAny_bind (W.self 0 _ _ _ hst ?_)
  refine wpAny_bind (wpAny_holding ?_)
  unfold Builtin.List.listLengthHint
  refine wpAny_bind (wpAny_specialOf (hT 0 _ hst) ZKG ?_)
  show wpAny _ A.in1 (specialOf (Value.ref I) (Str.ofString "__length_hint__") >>= _) _ _ _
  refine wpAny_bind (wpAny_specialOf (hT 0 _ hst) hint_lri ?_)
  generalize hid:("list_reverseiterator.__length_hint__" : String)=id0
  wp_delta
  rw [show splitId id0=some ("list_reverseiterator", "__length_hint__") from by subst hid;decide +kernel]
  subst hid
  refine wpAny_bind (wpAny_isInstance (b:=true) (hT 0 _ hst) (by rw [isSubtype_type];kernel_rfl) ?_)
  refine wpAny_pure ?_
  rw [if_neg (by decide)]
  refine wpAny_pure ⟨plainId_quiet F.plain_extend_loop _,codeAny_extend_loopS W hn _ hSf _ n 0 _ _ _ rfl (Nat.zero_le _) hst hS (ItemsOf.nil P) fun s' acc' c' hm hS' hacc=>?_⟩
  exact hR s' acc' c' hm hS' hacc
theorem ZFn (W:WalksS prog w A.in1 I fp wr G n P St) (hT:∀ i s,St i s→s.TypeIs (.ref I) "list_reverseiterator") (S:Addr) (hst:St 0 s) (hSf:S∉fp) (hI:I∈fp)
    (hS:s.heap.get? S=some { cls:=.type "list", data:=.seq #[] })
    (hR:∀ s' acc' c',Moved (S :: wr) G s s'→s'.heap.get? S=some { cls:=.type "list", dict:=none,data:=.seq acc' c',slots:=#[] }→ItemsOf P acc' n→R (.ok (.ret .none)) s') (hn:n≤sizeLine) :
    wpAny (model prog w) A.in1 (Builtin.«list.__init__» ⟨[.ref S,.ref I],[]⟩)
      (fun fin s'=>match fin with | .done f=>R (.ok f) s' | .again c'=>c'.quiet=true∧codeAny (model prog w) A c' R s') (fun e s'=>R (.error e) s') s:=by
  show wpAny _ A.in1 (do let old ← Builtin.List.listItems (.ref S);Builtin.List.listUpdate (.ref S) (fun _=>#[]);letGo old.toList.reverse;Builtin.List.listExtendWith (.ref S) (.ref I) .none) _ _ s
  refine wpAny_bind ?_
  unfold Builtin.List.listItems
  refine wpAny_bind (wpAny_seqItems hS rfl (wpAny_pure ?_))
  show wpAny _ A.in1 (updateSeq S (fun _=>#[]) >>= fun _=>letGo (#[]:Array Value).toList.reverse >>= fun _=>Builtin.List.listExtendWith (.ref S) (.ref I) .none) _ _ s
  refine wpAny_bind (wpAny_updateSeq hS rfl ?_)
  have hS₂:=Heap.get?_update_self (Obj.mapSeq (fun _=>(#[]:Array Value))) hS rfl
  have oth:∀ b o,b≠S→s.heap.get? b=some o→(s.heap.update S (Obj.mapSeq (fun _=>(#[]:Array Value)))).get? b=some o:=
    fun b o hb e=>(Heap.get?_update_other _ _ (Ne.symm hb)).trans e
  refine wpAny_bind (wpAny_letGo ?_)
  refine ZIe (hn:=hn) W hT S .none _ (W.frame 0 s _ s.toks hst (Nat.le_refl _) fun b hb o e=>oth b o (fun h=>hSf (h▸hb)) e) hSf hI hS₂ fun s' acc' c' hm hS' hacc=>?_
  exact hR s' acc' c' (Moved.trans W.gtrans ((Moved.refl W.grefl).then_heap (Nat.le_refl _) fun b o hb e=>oth b o (fun h=>hb (h▸List.mem_cons_self)) e) hm) hS' hacc
end
section
variable {prog:Program} {w:World} {A:Around} {E:Value→Shared→Prop} {s:Shared}
variable {I:Addr} {fp wr:List Addr} {G:Array GenState→Array GenState→Prop} {n:Nat} {P:Nat→Value→Prop} {St:Nat→Shared→Prop}
theorem ZG9 {Q:Value→Shared→Prop} (W:WalksS prog w A.in1.in1 I fp wr G n P St) (hT:∀ i s,St i s→s.TypeIs (.ref I) "list_reverseiterator") (hst:St 0 s) (hfp:∀ b∈fp,b < s.heap.objs.size) (hI:I∈fp)
    (hQ:∀ s' acc' c',Moved (s.heap.objs.size :: wr) G { s with heap:=s.heap.push { cls:=.type "list", data:=.seq #[] } } s'→
      s'.heap.get? s.heap.objs.size=some { cls:=.type "list", dict:=none,data:=.seq acc' c',slots:=#[] }→ItemsOf P acc' n→Q (.ref s.heap.objs.size) s') (hn:n≤sizeLine) :
    wpAny (model prog w) A (call (.type "list") [.ref I]) Q E s:=by
  have hSf:s.heap.objs.size∉fp:=fun hm=>Nat.lt_irrefl _ (hfp _ hm)
  refine callType_codes (Q₁:=fun obj s₁=>obj=.ref s.heap.objs.size∧s₁={ s with heap:=s.heap.push { cls:=.type "list", data:=.seq #[] } }) F.called_list (F.typeCall_list_1 _) F.entry_list_init
    (code_list_new _ ⟨rfl,rfl⟩) fun obj s₁ h₁=>?_
  obtain ⟨rfl,rfl⟩:=h₁
  have hS:(s.heap.push { cls:=.type "list", data:=.seq #[] }).get? s.heap.objs.size=some { cls:=.type "list", data:=.seq #[] }:=Heap.get?_push_size _ rfl
  refine ⟨⟨_,hS,rfl⟩,F.args_list_init_2 _ _,ZFn (hn:=hn) W hT _ (W.frame 0 s _ s.toks hst (Nat.le_refl _) fun b _ o e=>Heap.get?_push_of_some _ e) hSf hI hS fun s' acc' c' hm hS' hacc=>?_⟩
  exact ⟨rfl,hQ s' acc' c' hm hS' hacc⟩
end
end L2
set_option Elab.async false
set_option linter.all false
set_option maxRecDepth 100000
set_option maxHeartbeats 4000000
namespace L2
open PySem PySem.Spec PyProof.Rows
theorem ZKp:typeLookup (.type "tuple") "__reversed__" = pure none:=by rw [typeLookup_type,builtinLookup_eq_fast];kernel_rfl
theorem ZKL:typeLookup (.type "reversed") "__len__" = pure none:=by rw [typeLookup_type,builtinLookup_eq_fast];kernel_rfl
theorem hint_rev:typeLookup (.type "reversed") "__length_hint__" = pure (some (.builtin "reversed.__length_hint__")):=by rw [typeLookup_type,builtinLookup_eq_fast];kernel_rfl
theorem ZGw:isSubtype (.type "tuple") (.type "dict")=pure false:=by rw [isSubtype_type];kernel_rfl
theorem ZE5:Manifest.owners.lookup (String.ofList ['d','e','s','r','e','v','e','r'].reverse)=some Manifest.sig_reversed:=by kernel_rfl
theorem slot_rev_next:Slot "reversed" "__next__" "reversed.__next__" :=
  .of (owner := "reversed") (n := "__next__") (by rw [typeLookup_type,builtinLookup_eq_fast];kernel_rfl) (by decide +kernel) (by decide +kernel) (by decide +kernel)
    (by first | exact .inl (by decide +kernel) | exact .inr (by decide +kernel)) (by rw [isSubtype_type];kernel_rfl)
theorem ZCb:entryFor table "reversed.__next__" = some Builtin.«reversed.__next__»:=entryFor_of_tree (by kernel_rfl)
theorem ZD7 (a:Value):argsOk "reversed.__next__" ⟨[a],[]⟩:=by
  unfold argsOk;rw [signature?_of (id := "reversed.__next__") (n:=['_','_','t','x','e','n','_','_']) (o:=['d','e','s','r','e','v','e','r']) (by kernel_rfl) ZE5];kernel_rfl
theorem ZD8:Slot "reversed" "__iter__" "reversed.__iter__" :=
  .of (owner := "reversed") (n := "__iter__") (by rw [typeLookup_type,builtinLookup_eq_fast];kernel_rfl) (by decide +kernel) (by decide +kernel) (by decide +kernel)
    (by first | exact .inl (by decide +kernel) | exact .inr (by decide +kernel)) (by rw [isSubtype_type];kernel_rfl)
theorem ZGA (a:Value):argsOk "reversed.__iter__" ⟨[a],[]⟩:=by
  unfold argsOk;rw [signature?_of (id := "reversed.__iter__") (n:=['_','_','r','e','t','i','_','_']) (o:=['d','e','s','r','e','v','e','r']) (by kernel_rfl) ZE5];kernel_rfl
theorem ZFS:entryFor table "reversed.__iter__" = some Builtin.«dict_keyiterator.__iter__»:=
  entryFor_alias (id' := "dict_keyiterator.__iter__") (by kernel_rfl) (by first | rfl | decide +kernel | (unfold String.splitOn;simp +decide [String.splitOnAux])) (by decide +kernel) (by kernel_rfl)
theorem slot_rev_hint:Slot "reversed" "__length_hint__" "reversed.__length_hint__" :=
  .of (owner := "reversed") (n := "__length_hint__") (by rw [typeLookup_type,builtinLookup_eq_fast];kernel_rfl) (by decide +kernel) (by decide +kernel) (by decide +kernel)
    (by first | exact .inl (by decide +kernel) | exact .inr (by decide +kernel)) (by rw [isSubtype_type];kernel_rfl)
theorem ZF6:entryFor table "reversed.__length_hint__" = some Builtin.«reversed.__length_hint__»:=entryFor_of_tree (by kernel_rfl)
theorem ZFy (a:Value):argsOk "reversed.__length_hint__" ⟨[a],[]⟩:=by
  unfold argsOk;rw [signature?_of (id := "reversed.__length_hint__") (n:=['_','_','t','n','i','h','_','h','t','g','n','e','l','_','_']) (o:=['d','e','s','r','e','v','e','r']) (by kernel_rfl) ZE5];kernel_rfl
theorem ZFp:Slot "reversed" "__init__" "object.__init__" :=
  .of (owner := "object") (n := "__init__") (by rw [typeLookup_type,builtinLookup_eq_fast];kernel_rfl) (by decide +kernel) (by decide +kernel) (by decide +kernel)
    (by first | exact .inl (by decide +kernel) | exact .inr (by decide +kernel)) (by rw [isSubtype_type];kernel_rfl)
theorem ZId:TypeCalled "reversed" "reversed.__new__" "object.__init__" :=
  ⟨by decide +kernel,by decide +kernel,⟨_,_,F.mro_reversed⟩,F.made_reversed,by decide +kernel,by rw [isSubtype_type];kernel_rfl,ZFp⟩
def revT (l:Addr) (i:Int):Obj:={ cls:=.type "reversed", data:=.fields #[.ref l,rawInt i] }
def IsRevT (h:Heap) (a l:Addr) (i:Int):Prop:=∃ o,h.get? a=some o∧o.cls=.type "reversed" ∧ o.data=.fields #[.ref l,rawInt i]
theorem IsRevT.typeIs {s:Shared} {a l:Addr} {i:Int} (x:IsRevT s.heap a l i):s.TypeIs (.ref a) "reversed" := let ⟨o,ho,hc,_⟩:=x;⟨o,ho,hc⟩
theorem IsRevT.at {h h':Heap} {a l:Addr} {i:Int} (x:IsRevT h a l i) (e:∀ o,h.get? a=some o→h'.get? a=some o):IsRevT h' a l i:=let ⟨o,ho,r⟩:=x;⟨o,e _ ho,r⟩
theorem ZFk (l:Addr) (items:Array Value) (hfit:(items.size:Int) < 2 ^ 63) :
    Meets (Builtin.«reversed.__new__» ⟨[.type "reversed", .ref l],[]⟩) (fun _ R s=>IsTup s.heap l items∧
      R (.ok (.ret (.ref s.heap.objs.size))) { s with heap:=s.heap.push (revT l ((items.size:Int) - 1)),toks:=s.toks+1+1 }):=
  .of_wp fun prog w A R s h=>by
    obtain ⟨hl,h⟩:=h
    unfold Builtin.«reversed.__new__»
    refine wpAny_bind (wpAny_of_eq (newClass_reversed _) ?_)
    try dsimp only
    refine wpAny_bind (wpAny_of_eq (a:=()) (by first | rfl | kernel_rfl) ?_)
    refine wpAny_bind (wpAny_of_eq (a:=()) (by first | rfl | kernel_rfl) ?_)
    try dsimp only
    refine wpAny_bind (wpAny_specialOf hl.typeIs ZKp ?_)
    try dsimp only
    refine wpAny_bind ?_
    wp_delta
    refine wpAny_bind (wpAny_isInstance (b:=false) hl.typeIs ZGw ?_)
    rw [if_neg (by decide)]
    refine wpAny_bind (wpAny_specialOf hl.typeIs PyProof.Rows.slot_tuple_getitem.lookup ?_)
    dsimp only
    rw [if_pos (by decide +kernel)]
    refine wpAny_pure ?_
    rw [if_neg (by decide)]
    refine wpAny_bind (len_tuple hl hfit ?_)
    refine wpAny_bind (m:=asInt? _) (wpAny_pure ?_)
    dsimp only
    refine wpAny_bind ?_
    unfold Builtin.SmallTypes.newRecord
    dsimp only
    exact wpAny_newObj_type (wpAny_pure ⟨_,rfl,h⟩)
section
variable {prog:Program} {w:World} {A:Around} {E:Value→Shared→Prop} {s:Shared}
theorem ZHN {l:Addr} {items:Array Value} {Q:Value→Shared→Prop} (hfit:(items.size:Int) < 2 ^ 63) (hl:IsTup s.heap l items)
    (h:Q (.ref s.heap.objs.size) { s with heap:=s.heap.push (revT l ((items.size:Int) - 1)),toks:=s.toks+1+1 }):wpAny (model prog w) A (call (.type "reversed") [.ref l]) Q E s:=by
  refine callType_new ZId (by decide) (F.typeCall_reversed_1 _) (F.newCall_reversed_1 _) (fun obj=>F.args_object_init_2 obj _) F.entry_reversed_new (ZFk l items hfit) ⟨hl,?_⟩
  exact ⟨⟨_,Heap.get?_push_size _ rfl,rfl⟩,h⟩
theorem ZFt {it l:Addr} {i:Nat} {items:Array Value} {x:Value} {Q:Option Value→Shared→Prop} (hit:IsRevT s.heap it l (i:Int)) (hl:IsTup s.heap l items) (hx:items[i]?=some x) (hfit:(items.size:Int) < 2 ^ 63)
    (hQ:∀ h' tk,IsRevT h' it l ((i:Int) - 1)→Heap.SameBut it s.heap h'→s.toks≤tk→Q (some x) { s with heap:=h',toks:=tk }):wpAny (model prog w) A (pyNext (.ref it)) Q E s:=by
  obtain ⟨o,ho,hc,hd⟩:=id hit
  have hi:i < items.size:=(Array.getElem?_eq_some_iff.mp hx).1
  unfold pyNext
  refine wpAny_bind (wpAny_attempt (wpAny_callSpecial?_slot (name:=Str.ofString "__next__") hit.typeIs slot_rev_next
    (wpAny_call_entry slot_rev_next hit.typeIs ZCb ?_ (ZD7 _))))
  unfold Builtin.«reversed.__next__»
  refine wpAny_bind (wpAny_of_eq (a:=(Value.ref it,[])) rfl ?_)
  try dsimp only
  refine wpAny_bind (wpAny_field ho hd (x:=.ref l) rfl ?_)
  refine wpAny_bind (wpAny_field ho hd (x:=rawInt (i:Int)) rfl ?_)
  show wpAny _ _ (if (i:Int) < 0 then _ else _) _ _ s
  rw [if_neg (by omega)]
  refine wpAny_bind (wpAny_specialOf hl.typeIs PyProof.Rows.slot_tuple_getitem.lookup ?_)
  rw [if_neg (by simp)]
  refine wpAny_bind (wpAny_mkInt ?_)
  have hj:seqIndex? (i:Int) items.size=some i:=by
    unfold seqIndex?;simp;omega
  refine wpAny_bind (wpAny_attempt (getItem_tuple (s:={ s with toks:=s.toks+1 }) hl (by omega) (by omega) hj hx ?_))
  dsimp only
  refine wpAny_bind (wpAny_field (s:={ s with toks:=s.toks+1 }) ho hd (x:=rawInt (i:Int)) rfl ?_)
  show wpAny _ _ (setField (.ref it) 1 (rawInt ((i:Int) - 1)) >>= _) _ _ _
  refine wpAny_bind (wpAny_setField (s:={ s with toks:=s.toks+1 }) ho hd (by simp) ?_)
  first
  | refine wpAny_pure ⟨x,rfl,wpAny_pure (hQ _ _ ?_ (Heap.SameBut.update ..) (Nat.le_succ _))⟩
  | refine wpAny_bind (wpAny_pure (wpAny_pure ⟨x,rfl,wpAny_pure (hQ _ _ ?_ (Heap.SameBut.update ..) (Nat.le_succ _))⟩))
  exact ⟨_,Heap.get?_update_self _ ho (Obj.isFreed_of_fields (Obj.data_mapFields hd _)),(Obj.cls_mapFields ..).trans hc,by
    rw [Obj.data_mapFields hd];simp⟩
theorem ZHS {it l:Addr} {Q:Option Value→Shared→Prop} (hh:A.handled=none) (hit:IsRevT s.heap it l (-1))
    (hQ:∀ h',Heap.ExtBut it s.heap h'→Q none { s with heap:=h' }):wpAny (model prog w) A (pyNext (.ref it)) Q E s:=by
  obtain ⟨o,ho,hc,hd⟩:=id hit
  unfold pyNext
  refine wpAny_bind (wpAny_attempt (wpAny_callSpecial?_slot (name:=Str.ofString "__next__") hit.typeIs slot_rev_next
    (wpAny_call_entry slot_rev_next hit.typeIs ZCb ?_ (ZD7 _))))
  unfold Builtin.«reversed.__next__»
  refine wpAny_bind (wpAny_of_eq (a:=(Value.ref it,[])) rfl ?_)
  try dsimp only
  refine wpAny_bind (wpAny_field ho hd (x:=.ref l) rfl ?_)
  refine wpAny_bind (wpAny_field ho hd (x:=rawInt (-1)) rfl ?_)
  show wpAny _ _ (if (-1:Int) < 0 then _ else _) _ _ s
  rw [if_pos (by decide)]
  refine wpAny_bind (wpAny_rule ?_)
  refine wpAny_bind ?_
  wp_delta
  refine wpAny_bind (wpAny_setField ho hd (by simp) ?_)
  have ho2:=Heap.get?_update_self (fun ob=>Obj.mapFields (·.set! 1 (rawInt (-1))) ob) ho (Obj.isFreed_of_fields (Obj.data_mapFields hd _))
  have hd2:=Obj.data_mapFields hd (·.set! 1 (rawInt (-1)))
  refine wpAny_setField (s:={ s with heap:=_ }) ho2 hd2 (by simp) ?_
  refine wpAny_bind ?_
  show wpAny _ _ (newExc (.type "StopIteration") [] >>= _) _ _ _
  refine wpAny_bind ?_
  simp only [newExc,newTuple]
  refine wpAny_bind (wpAny_newObj_type ?_ (by size_fits))
  refine wpAny_bind (m:=firstArgMember _ _) (wpAny_of_eq (a:=Value.none) (by first | rfl | (simp only [firstArgMember];rfl)) ?_)
  refine wpAny_newObj_type ?_ (by size_fits)
  simp only [raiseNew]
  refine wpAny_bind (wpAny_handled ?_)
  first | rw [show A.in1.handled=none from hh] | rw [hh]
  refine wpAny_bind (wpAny_pure (wpAny_throw ?_))
  refine wpAny_bind (wpAny_isInstance (T := "StopIteration") (b:=true) ⟨_,Heap.get?_push_size _ rfl,rfl⟩ isSubtype_stop ?_)
  refine wpAny_pure (hQ _ (fun b ob hb e=>?_))
  exact Heap.get?_push_of_some _ (Heap.get?_push_of_some _ ((Heap.get?_update_other _ _ (Ne.symm hb)).trans ((Heap.get?_update_other _ _ (Ne.symm hb)).trans e)))
theorem ZKO {it l:Addr} {i:Int} {Q:Value→Shared→Prop} (hit:IsRevT s.heap it l i) (h:Q (.ref it) s):wpAny (model prog w) A (pyIter (.ref it)) Q E s:=by
  refine wpAny_pyIter_slot hit.typeIs ZD8 (wpAny_call_entry ZD8 hit.typeIs ZFS ?_ (ZGA _))
  show wpAny _ _ (ret (.ref it)) _ _ s
  exact wpAny_pure ⟨_,rfl, "reversed", _,hit.typeIs,slot_rev_next.lookup,h⟩
end
theorem ZIo {prog:Program} {w:World} {A:Around} (hh:A.handled=none) (I l:Addr) (hne:l≠I) (items:Array Value) (hfit:(items.size:Int) < 2 ^ 63) :
    Walks prog w A I [I,l] [I] items.size (fun i v=>items[items.size - 1 - i]?=some v) (fun i h=>i≤items.size∧IsRevT h I l ((items.size:Int) - 1 - (i:Int))∧IsTup h l items) where
  sub:=fun b hb=>by simp at hb;simp [hb]
  frame:=fun _ _ _ x hk=>⟨x.1,x.2.1.at fun o e=>hk I (by simp) o e,let ⟨o,ho,r⟩:=x.2.2;⟨o,hk l (by simp) o ho,r⟩⟩
  item:=fun i s Q E hi x hQ=>by
    have e:(items.size:Int) - 1 - (i:Int)=((items.size - 1 - i:Nat):Int):=by omega
    have hit:=x.2.1
    rw [e] at hit
    have hx:items[items.size - 1 - i]?=some (items[items.size - 1 - i]'(by omega)):=Array.getElem?_eq_getElem (by omega)
    refine ZFt hit x.2.2 hx hfit fun h' tk hit' hs' htk=>?_
    have e2:((items.size - 1 - i:Nat):Int) - 1=(items.size:Int) - 1 - ((i+1:Nat):Int):=by omega
    rw [e2] at hit'
    exact hQ _ h' tk hx ⟨hi,hit',x.2.2.extBut hs'.extBut hne⟩ fun b o hb eo=>hs'.extBut b o (fun h=>hb (by simp [h])) eo
  done:=fun s Q E x hQ=>by
    have e:(items.size:Int) - 1 - (items.size:Int)=-1:=by omega
    have hit:=x.2.1
    rw [e] at hit
    exact ZHS hh hit fun h' he'=>hQ h' s.toks fun b o hb eo=>he' b o (fun h=>hb (by simp [h])) eo
  self:=fun _ _ _ _ x hQ=>ZKO x.2.1 hQ
end L2
set_option Elab.async false
set_option linter.all false
set_option maxRecDepth 100000
set_option maxHeartbeats 4000000
namespace L2
open PySem PySem.Spec PyProof.Rows
section
variable {prog:Program} {w:World} {A:Around} {E:Value→Shared→Prop} {s:Shared}
theorem ZFl {it l:Addr} {items:Array Value} {Q:Value→Shared→Prop} (hit:IsRevT s.heap it l ((items.size:Int) - 1)) (hl:IsTup s.heap l items) (hfit:(items.size:Int) < 2 ^ 63)
    (h:∀ t tk,s.toks≤tk→Q (.int (items.size:Int) t) { s with toks:=tk }):wpAny (model prog w) A (call (.builtin "reversed.__length_hint__") [.ref it]) Q E s:=by
  obtain ⟨o,ho,hc,hd⟩:=id hit
  refine wpAny_call_entry slot_rev_hint hit.typeIs ZF6 ?_ (ZFy _)
  unfold Builtin.«reversed.__length_hint__»
  refine wpAny_bind (wpAny_of_eq (a:=Value.ref it) rfl ?_)
  refine wpAny_bind (wpAny_field ho hd (x:=.ref l) rfl ?_)
  rw [if_neg (show ¬ ((Value.ref l == Value.none)=true) from Bool.false_ne_true)]
  refine wpAny_bind (len_tuple hl hfit ?_)
  refine wpAny_bind (m:=asInt? _) (wpAny_pure ?_)
  dsimp only
  refine wpAny_bind (wpAny_field (s:={ s with toks:=_ }) ho hd (x:=rawInt ((items.size:Int) - 1)) rfl ?_)
  show wpAny _ _ (if (items.size:Int) < ((items.size:Int) - 1)+1 then _ else _) _ _ _
  rw [if_neg (by omega)]
  show wpAny _ _ (retInt (((items.size:Int) - 1)+1)) _ _ _
  have e:((items.size:Int) - 1)+1=items.size:=by omega
  rw [e]
  exact wpAny_bind (wpAny_mkInt (wpAny_pure ⟨_,rfl,h _ _ (by show s.toks≤s.toks+1+1+1;omega)⟩))
end
section
variable {prog:Program} {w:World} {A:Around} {s:Shared} {R:Result→Shared→Prop}
variable {I:Addr} {l:Addr} {items:Array Value}
theorem ZJN (hh:A.handled=none) (hne:l≠I) (hz:items.size≤sizeLine) (S:Addr) (res:Value) (c₀:Nat) (hit:IsRevT s.heap I l ((items.size:Int) - 1)) (hl:IsTup s.heap l items) (hSI:S≠I) (hSl:S≠l)
    (hS:s.heap.get? S=some { cls:=.type "list", data:=.seq #[] c₀ })
    (hR:∀ s' acc' c',Moved [S,I] (fun a b=>b=a) s s'→s'.heap.get? S=some { cls:=.type "list", dict:=none,data:=.seq acc' c',slots:=#[] }→ItemsOf (fun i v=>items[items.size - 1 - i]?=some v) acc' items.size→R (.ok (.ret res)) s') :
    wpAny (model prog w) A.in1 (Builtin.List.listExtendWith (.ref S) (.ref I) res)
      (fun fin s'=>match fin with | .done f=>R (.ok f) s' | .again c'=>c'.quiet=true∧codeAny (model prog w) A c' R s') (fun e s'=>R (.error e) s') s:=by
  have hfit:(items.size:Int) < 2 ^ 63:=by
    have h1:=ZCN
    have h3:((sizeLine:Nat):Int) < 2 ^ 63:=by exact_mod_cast h1
    omega
  have W:=(ZIo (prog:=prog) (w:=w) (A:=A.in1) hh I l hne items hfit).toS
  have hst:(fun (i:Nat) (s:Shared)=>i≤items.size∧IsRevT s.heap I l ((items.size:Int) - 1 - (i:Int))∧IsTup s.heap l items) 0 s:=⟨Nat.zero_le _,by simpa using hit,hl⟩
  have hSf:S∉[I,l]:=by simp [hSI,hSl]
  unfold Builtin.List.listExtendWith
  refine wpAny_bind (wpAny_typeOf hit.typeIs ?_)
  have h1:Builtin.List.listSameRef (.ref S) (.ref I)=false:=by simp [Builtin.List.listSameRef,hSI]
  rw [if_neg (by rw [h1];decide)]
  refine wpAny_bind (W.self 0 _ _ _ hst ?_)
  refine wpAny_bind (wpAny_holding ?_)
  unfold Builtin.List.listLengthHint
  refine wpAny_bind (wpAny_specialOf hit.typeIs ZKL ?_)
  show wpAny _ A.in1 (specialOf (Value.ref I) (Str.ofString "__length_hint__") >>= _) _ _ _
  refine wpAny_bind (wpAny_specialOf hit.typeIs hint_rev ?_)
  generalize hid:("reversed.__length_hint__" : String)=id0
  wp_delta
  rw [show splitId id0=some ("reversed", "__length_hint__") from by subst hid;decide +kernel]
  subst hid
  refine wpAny_bind (wpAny_isInstance (b:=true) hit.typeIs (by rw [isSubtype_type];kernel_rfl) ?_)
  rw [if_neg (by decide)]
  refine wpAny_ite_split (fun hab=>absurd hab (by decide +kernel)) (fun _=>?_)
  refine wpAny_bind (wpAny_rule ?_)
  refine wpAny_bind (wpAny_of_eq (slot_rev_hint.bind _) ?_)
  dsimp only
  refine wpAny_bind (wpAny_attempt (ZFl hit hl hfit fun t tk htk=>?_))
  dsimp only
  have ea:asInt? (Value.int (items.size:Int) t)=pure (some (items.size:Int)):=rfl
  rw [ea,pure_bind]
  dsimp only
  have htl:Builtin.List.listTooLong ((items.size:Int).toNat)=false:=by
    simp [Builtin.List.listTooLong];exact hz
  have hfi:Builtin.List.listFitsIndex (items.size:Int)=true:=by
    unfold Builtin.List.listFitsIndex
    rw [Bool.and_eq_true]
    exact ⟨decide_eq_true (by omega),decide_eq_true hfit⟩
  rw [if_neg (by rw [hfi];decide),if_neg (by omega),if_neg (by rw [htl];decide)]
  refine wpAny_pure ?_
  have key:∀ (h:Heap) (c₁:Nat),(∀ b o,b≠S→s.heap.get? b=some o→h.get? b=some o)→h.get? S=some { cls:=.type "list", data:=.seq #[] c₁ }→
      codeAny (model prog w) A (.builtin "list.extend.loop" ⟨[.ref S,.ref I,res],[]⟩) R { s with heap:=h,toks:=tk }:=by
    intro h c₁ hk hS₁
    refine codeAny_extend_loopS W hz S hSf res items.size 0 _ #[] c₁ rfl (Nat.zero_le _) ⟨Nat.zero_le _,?_,?_⟩ hS₁ (ItemsOf.nil _) fun s' acc' c' hm hS' hacc=>?_
    · have:=hit.at fun o e=>hk I o (Ne.symm hSI) e
      simpa using this
    · obtain ⟨o,ho,r⟩:=hl
      exact ⟨o,hk l o (Ne.symm hSl) ho,r⟩
    · exact hR s' acc' c' ⟨fun b o hb e=>hm.heap b o hb (hk b o (fun z=>hb (by simp [z])) e),hm.gens,hm.drawn,hm.os,Nat.le_trans htk hm.toks⟩ hS' hacc
  refine wpAny_ite_split (fun _=>?_) (fun _=>wpAny_pure ⟨plainId_quiet F.plain_extend_loop _,key _ c₀ (fun b o _ e=>e) hS⟩)
  refine wpAny_bind (wpAny_rule ?_)
  refine wpAny_bind ?_
  show wpAny _ _ (updateSeq S (·.push .none) >>= fun _=>updateSeq S (·.pop)) _ _ _
  have z0:(#[]:Array Value).size≤sizeLine:=Nat.zero_le _
  have z1:((#[]:Array Value).push Value.none).size≤sizeLine:=by show 1≤sizeLine;decide
  have z2:((#[]:Array Value).push Value.none).size≤sizeLine+1:=Nat.le_succ_of_le z1
  have z3:(((#[]:Array Value).push Value.none).pop).size≤sizeLine+1:=Nat.zero_le _
  refine wpAny_bind (wpAny_updateSeq (s:={ s with toks:=tk }) hS rfl ?_ z0 z2)
  have hS₂:=Heap.get?_update_self (Obj.mapSeq (·.push Value.none)) hS rfl
  refine wpAny_updateSeq hS₂ rfl ?_ z1 z3
  have hS₃:=Heap.get?_update_self (Obj.mapSeq (·.pop)) hS₂ rfl
  refine wpAny_pure ⟨plainId_quiet F.plain_extend_loop _,key _ _ (fun b o hb e=>?_) hS₃⟩
  exact (Heap.get?_update_other _ _ (Ne.symm hb)).trans ((Heap.get?_update_other _ _ (Ne.symm hb)).trans e)
theorem ZFr (hh:A.handled=none) (hne:l≠I) (hz:items.size≤sizeLine) (S:Addr) (hit:IsRevT s.heap I l ((items.size:Int) - 1)) (hl:IsTup s.heap l items) (hSI:S≠I) (hSl:S≠l)
    (hS:s.heap.get? S=some { cls:=.type "list", data:=.seq #[] })
    (hR:∀ s' acc' c',Moved [S,I] (fun a b=>b=a) s s'→s'.heap.get? S=some { cls:=.type "list", dict:=none,data:=.seq acc' c',slots:=#[] }→ItemsOf (fun i v=>items[items.size - 1 - i]?=some v) acc' items.size→R (.ok (.ret .none)) s') :
    wpAny (model prog w) A.in1 (Builtin.«list.__init__» ⟨[.ref S,.ref I],[]⟩)
      (fun fin s'=>match fin with | .done f=>R (.ok f) s' | .again c'=>c'.quiet=true∧codeAny (model prog w) A c' R s') (fun e s'=>R (.error e) s') s:=by
  show wpAny _ A.in1 (do let old ← Builtin.List.listItems (.ref S);Builtin.List.listUpdate (.ref S) (fun _=>#[]);letGo old.toList.reverse;Builtin.List.listExtendWith (.ref S) (.ref I) .none) _ _ s
  refine wpAny_bind ?_
  unfold Builtin.List.listItems
  refine wpAny_bind (wpAny_seqItems hS rfl (wpAny_pure ?_))
  show wpAny _ A.in1 (updateSeq S (fun _=>#[]) >>= fun _=>letGo (#[]:Array Value).toList.reverse >>= fun _=>Builtin.List.listExtendWith (.ref S) (.ref I) .none) _ _ s
  refine wpAny_bind (wpAny_updateSeq hS rfl ?_)
  have hS₂:=Heap.get?_update_self (Obj.mapSeq (fun _=>(#[]:Array Value))) hS rfl
  have oth:∀ b o,b≠S→s.heap.get? b=some o→(s.heap.update S (Obj.mapSeq (fun _=>(#[]:Array Value)))).get? b=some o:=
    fun b o hb e=>(Heap.get?_update_other _ _ (Ne.symm hb)).trans e
  refine wpAny_bind (wpAny_letGo ?_)
  refine ZJN hh hne hz S .none _ (hit.at fun o e=>oth I o (Ne.symm hSI) e) (let ⟨o,ho,r⟩:=hl;⟨o,oth l o (Ne.symm hSl) ho,r⟩) hSI hSl hS₂ fun s' acc' c' hm hS' hacc=>?_
  exact hR s' acc' c' ⟨fun b o hb e=>hm.heap b o hb (oth b o (fun z=>hb (by simp [z])) e),hm.gens,hm.drawn,hm.os,hm.toks⟩ hS' hacc
end
section
variable {prog:Program} {w:World} {A:Around} {E:Value→Shared→Prop} {s:Shared}
theorem ZEy {I l:Addr} {items:Array Value} {Q:Value→Shared→Prop} (hh:A.handled=none) (hne:l≠I) (hz:items.size≤sizeLine) (hit:IsRevT s.heap I l ((items.size:Int) - 1)) (hl:IsTup s.heap l items)
    (hQ:∀ s' acc' c',Moved [s.heap.objs.size,I] (fun a b=>b=a) { s with heap:=s.heap.push { cls:=.type "list", data:=.seq #[] } } s'→
      s'.heap.get? s.heap.objs.size=some { cls:=.type "list", dict:=none,data:=.seq acc' c',slots:=#[] }→ItemsOf (fun i v=>items[items.size - 1 - i]?=some v) acc' items.size→Q (.ref s.heap.objs.size) s') :
    wpAny (model prog w) A (call (.type "list") [.ref I]) Q E s:=by
  have hSI:s.heap.objs.size≠I:=by obtain ⟨o,ho,_⟩:=hit;exact Nat.ne_of_gt (Heap.lt_size ho)
  have hSl:s.heap.objs.size≠l:=Nat.ne_of_gt hl.lt
  refine callType_codes (Q₁:=fun obj s₁=>obj=.ref s.heap.objs.size∧s₁={ s with heap:=s.heap.push { cls:=.type "list", data:=.seq #[] } }) F.called_list (F.typeCall_list_1 _) F.entry_list_init
    (code_list_new _ ⟨rfl,rfl⟩) fun obj s₁ h₁=>?_
  obtain ⟨rfl,rfl⟩:=h₁
  have hS:(s.heap.push { cls:=.type "list", data:=.seq #[] }).get? s.heap.objs.size=some { cls:=.type "list", data:=.seq #[] }:=Heap.get?_push_size _ rfl
  refine ⟨⟨_,hS,rfl⟩,F.args_list_init_2 _ _,ZFr (A:=A.in1) hh hne hz _ (hit.at fun o e=>Heap.get?_push_of_some _ e) (hl.push _) hSI hSl hS fun s' acc' c' hm hS' hacc=>?_⟩
  exact ⟨rfl,hQ s' acc' c' hm hS' hacc⟩
end
end L2
set_option Elab.async false
set_option linter.all false
set_option maxRecDepth 100000
set_option maxHeartbeats 4000000
namespace HT
open PySem PyProof.Rows
section
variable {prog:Program} {w:World} {A:Around} {E:Value→Shared→Prop} {s:Shared}
theorem getItem_tuple_all {t sl:Addr} {items:Array Value} {vl vu:Value} {lo hi:Option Int} {Q:Value→Shared→Prop} (ht:IsTup s.heap t items) (hs:s.heap.IsSliceOf sl vl vu .none) (pl:IsPart vl lo) (pu:IsPart vu hi)
    (hw:sIx items.size 0 lo=0∧sIx items.size items.size hi=items.size) (h:Q (.ref t) s):wpAny (model prog w) A (getItem (.ref t) (.ref sl)) Q E s:=by
  obtain ⟨os,hos,hcs,hds⟩:=id hs
  have hTs:s.TypeIs (.ref sl) "slice" := ⟨os,hos,hcs⟩
  unfold getItem
  try with_reducible refine wpAny_holding ?_
  first | refine wpAny_bind (wpAny_pure ?_) | skip
  refine wpAny_bind (wpAny_sequenceKey ht.typeIs (by decide) ?_)
  refine wpAny_bind (wpAny_callSpecial?_slot (name:=Str.ofString "__getitem__") ht.typeIs PyProof.Rows.slot_tuple_getitem
    (wpAny_call_entry PyProof.Rows.slot_tuple_getitem ht.typeIs entry_tuple_getitem ?_ (args_tuple_getitem _ _)))
  show wpAny _ _ (Builtin.Tuple.tupleItemsOf (.ref t) >>= _) _ _ s
  refine wpAny_bind (tupleItemsOf_ ht ?_)
  refine wpAny_bind (wpAny_typeOf hTs ?_)
  rw [if_pos (by decide)]
  refine wpAny_bind (ZCH hs pl pu ?_)
  have hyes:((((sIx items.size 0 lo:Nat):Int) == 0 && (1:Int) == 1 && (sIx items.size items.size hi - sIx items.size 0 lo) == items.size)=true):=by
    rw [hw.1,hw.2];simp
  first
  | rw [if_pos hyes]
  | simp only [hyes,if_true]
  refine wpAny_bind ?_
  unfold Builtin.Tuple.tupleIsExact
  refine wpAny_bind (wpAny_typeOf ht.typeIs (wpAny_pure ?_))
  rw [if_pos (by decide)]
  exact wpAny_bind (wpAny_rule (wpAny_pure ⟨_,rfl,wpAny_pure h⟩))
end
end HT
namespace L2
open PySem PySem.Spec PyProof.Rows
section
variable {X:Cx}
def rSlA (K:PySem.W.Frag):V→Option Int→Option Int→Hp→VK→Prop:=fun x lo hi H Q=>∃ a xs,x=.ref a∧SqT K H a xs∧
  ((HT.sIx xs.length 0 lo=0∧HT.sIx xs.length xs.length hi=xs.length)→Q (.ref a) H)∧(¬ (HT.sIx xs.length 0 lo=0∧HT.sIx xs.length xs.length hi=xs.length)→∀ p,H p=none→Q (.ref p) (upd H p (.tup (ZC4 xs lo hi))))
theorem sl_tupA:SlR X (rSlA X.K):=by
  intro pins s σ H x v vl vu lo hi sl Q I rx hs pl pu h
  obtain ⟨a,xs,rfl,hx,q1,q2⟩:=h
  by_cases hw:HT.sIx xs.length 0 lo=0∧HT.sIx xs.length xs.length hi=xs.length
  · cases rx
    obtain ⟨its,r,ht,hz⟩:=I.tuple hx
    have hlen:its.toArray.size=xs.length:=by rw [List.size_toArray];exact r.length.symm
    refine ⟨"tuple", _,PyProof.Rows.slot_tuple_getitem.lookup,ht.typeIs,?_⟩
    exact HT.getItem_tuple_all ht hs pl pu (by rw [hlen];exact hw) ⟨.ref a,H,I,rfl,q1 hw⟩
  · exact sl_tup pins s σ H _ v vl vu lo hi sl Q I rx hs pl pu ⟨a,xs,rfl,hx,hw,q2 hw⟩
def rSlQ (K:PySem.W.Frag):V→Option Int→Option Int→Hp→VK→Prop:=fun x lo hi H Q=>∃ a tp xs,x=.ref a∧SqB K tp H a xs∧∀ p H',Same H H'→SqB K tp H' p (ZC4 xs lo hi)→Q (.ref p) H'
theorem ZJP {xs:List V} {lo hi:Option Int} (h:HT.sIx xs.length 0 lo=0∧HT.sIx xs.length xs.length hi=xs.length):ZC4 xs lo hi=xs:=by
  unfold ZC4
  rw [h.1,h.2];simp
theorem ZDI:SlR X (rSlQ X.K):=by
  intro pins s σ H x v vl vu lo hi sl Q I rx hs pl pu h
  obtain ⟨a,tp,xs,rfl,hx,q⟩:=h
  cases tp with
  | false=>exact sl_list pins s σ H _ v vl vu lo hi sl Q I rx hs pl pu ⟨a,xs,rfl,hx,fun p hp=>q p _ (ZA5 hp _) (SqL.of ZA3)⟩
  | true=>exact sl_tupA pins s σ H _ v vl vu lo hi sl Q I rx hs pl pu ⟨a,xs,rfl,hx,fun hw=>q a H (Same.refl _) (by rw [ZJP hw];exact hx),fun _ p hp=>q p _ (ZA5 hp _) (SqT.of ZA3)⟩
end
end L2
set_option Elab.async false
set_option linter.all false
set_option maxRecDepth 100000
set_option maxHeartbeats 4000000
namespace L2
open PySem PySem.Spec PyProof.Rows
section
variable {X:Cx}
theorem vals_rev {ys:List V} {its:List Value} (r:Vals ys its) {acc:Array Value} (h:ItemsOf (fun i v=>its.toArray[its.toArray.size - 1 - i]?=some v) acc its.toArray.size):∃ us:List Value,Vals ys.reverse us∧acc=us.toArray:=by
  have e:acc=its.reverse.toArray:=by
    apply Array.toList_inj.mp
    rw [List.toList_toArray]
    apply List.ext_getElem?
    intro i
    have hs:acc.size=its.length:=by rw [h.1];simp
    by_cases hi:i < its.length
    · have h1:acc.toList[i]?=some (acc[i]'(by omega)):=by simp
      have h2:=h.2 i (acc[i]'(by omega)) (by simp)
      rw [h1,List.getElem?_reverse hi]
      simp at h2
      rw [← h2]
    · have h1:acc.toList[i]?=none:=List.getElem?_eq_none (by simp;omega)
      have h2:its.reverse[i]?=none:=List.getElem?_eq_none (by simp;omega)
      rw [h1,h2]
  exact ⟨its.reverse,r.reverse,e⟩
def tRev (K:PySem.W.Frag) (t:TA):TE:=fun σ H Q=>t σ H fun vs H1=>∃ a tp ys,vs=[.ref a]∧SqB K tp H1 a ys∧∀ l,H1 l=none→Q (.ref l) (upd H1 l (.lst ys.reverse))
theorem pe_rev {p1 p2 pos1 pos2:Pos} {e:Expr} {t:TA} (hc:X.calm=true) (hg1:Gl X "list") (hm1:X.mg "list" = none) (hg2:Gl X "reversed") (hm2:X.mg "reversed" = none) (ha:PA X [e] t)
    (he:starEach [e] X.env=[(false,eval e X.env)]:=by rfl) (he2:starEach [.Call (.Name "reversed" p2) [e] [] pos2] X.env=[(false,eval (.Call (.Name "reversed" p2) [e] [] pos2) X.env)]:=by rfl) :
    PE X (.Call (.Name "list" p1) [.Call (.Name "reversed" p2) [e] [] pos2] [] pos1) (tRev X.K t):=by
  intro pins s σ H Q I h
  refine wpAny_Call_Name_kw (ZCk I hg1 hm1 (show bootBuiltins "list" = some (.type "list") by decide +kernel) ?_ (by decide) (by decide))
  refine PyProof.Rows.callWith_type1 ?_ he2 rfl
  rw [he2]
  show wpAny _ _ (spliced ((false,eval (.Call (.Name "reversed" p2) [e] [] pos2) X.env) :: [])) _ _ s
  refine Calls.spliced_cons ?_
  refine wpAny_Call_Name_kw (ZCk I hg2 hm2 (show bootBuiltins "reversed" = some (.type "reversed") by decide +kernel) ?_ (by decide) (by decide))
  refine PyProof.Rows.callWith_type1 (thn (ha pos2 pins s σ H _ I h) fun us s1 ⟨vs,H1,I1,r1,q1⟩=>?_) he rfl
  obtain ⟨a,tp,ys,rfl,hq,q⟩:=q1
  obtain ⟨u,rfl,rx⟩:=ZCl r1
  cases rx
  have fin:∀ (its:List Value) (D:Addr) (s2 s':Shared) (acc:Array Value) (c:Nat) (tk:Nat) (ob:Obj),Vals ys its→ys.length≤sizeLine→D=s1.heap.objs.size→s2={ s1 with heap:=s1.heap.push ob,toks:=tk }→
      Moved [s2.heap.objs.size,D] (fun a b=>b=a) { s2 with heap:=s2.heap.push { cls:=.type "list", data:=.seq #[] } } s'→s'.heap.get? s2.heap.objs.size=some { cls:=.type "list", dict:=none,data:=.seq acc c,slots:=#[] }→
      ItemsOf (fun i v=>its.toArray[its.toArray.size - 1 - i]?=some v) acc its.toArray.size→EP X pins σ Q (.ref s2.heap.objs.size) s':=by
    intro its D s2 s' acc c tk ob r hz eD e2 hm hS hacc
    subst eD;subst e2
    obtain ⟨us,rv,rfl⟩:=vals_rev r hacc
    obtain ⟨h',g',d',tk',os'⟩:=s'
    have eg:g'=s1.gens:=hm.gens
    have ed:d'=s1.drawn:=hm.drawn
    have eo:os'=s1.os:=hm.os
    subst eg;subst ed;subst eo
    have hsz:(s1.heap.push ob).objs.size=s1.heap.objs.size+1:=Heap.size_push ..
    have kp:∀ b o,s1.heap.get? b=some o→h'.get? b=some o:=fun b o e=>by
      have hb:=Heap.lt_size e
      refine hm.heap b o ?_ (Heap.get?_push_of_some _ (Heap.get?_push_of_some _ e))
      show b∉[(s1.heap.push ob).objs.size,s1.heap.objs.size]
      rw [hsz]
      simp only [List.mem_cons,List.not_mem_nil,or_false,not_or]
      exact ⟨Nat.ne_of_lt (Nat.lt_succ_of_lt hb),Nat.ne_of_lt hb⟩
    refine ⟨.ref _,_,I1.laid (a:=(s1.heap.push ob).objs.size) (t':=tk') kp (by rw [hsz];exact Nat.le_succ _) (show ObjOk X.prog X.w _ h' _ (.lst ys.reverse) from ⟨by rw [List.length_reverse];exact hz,us,c,rv,hS⟩),rfl,q _ (I1.hok.fresh (by show _≤_;rw [hsz];exact Nat.le_succ _))⟩
  have hh:X.A.handled=none:=I1.ok.hd hc
  cases tp with
  | false=>
    obtain ⟨its,r,pl,hz⟩:=I1.list hq
    have hlen:=r.length
    refine call_reversed_list pl.isList ?_
    refine Calls.spliced_nil ?_
    obtain ⟨o,n,ho,_⟩:=id pl
    have hlt:=Heap.lt_size ho
    have hne:a≠s1.heap.objs.size:=Nat.ne_of_lt hlt
    have hst:0≤its.toArray.size∧Heap.IsRevIter (s1.heap.push (revObj a ((its.toArray.size:Int) - 1))) s1.heap.objs.size a ((its.toArray.size:Int) - 1 - ((0:Nat):Int))∧Heap.IsList (s1.heap.push (revObj a ((its.toArray.size:Int) - 1))) a its.toArray:=
      ⟨Nat.zero_le _,⟨_,Heap.get?_push_size _ rfl,rfl,by simp [revObj]⟩,pl.isList.push _⟩
    refine ZG9 (I:=s1.heap.objs.size) (s:={ s1 with heap:=s1.heap.push (revObj a ((its.toArray.size:Int) - 1)) }) (Walks.listRev (prog:=X.prog) (w:=X.w) (A:=X.A.in1.in1) hh s1.heap.objs.size a hne its.toArray).toS (fun i s st=>st.2.1.typeIs) hst ?_ (by simp) ?_ (by simp;omega)
    · intro b hb
      show b < (s1.heap.push _).objs.size
      rw [Heap.size_push]
      rcases List.mem_cons.mp hb with h | h
      · rw [h];exact Nat.lt_succ_self _
      · have:b=a:=by simpa using h
        rw [this];exact Nat.lt_succ_of_lt hlt
    · intro s' acc c hm hS hacc
      exact fin its s1.heap.objs.size { s1 with heap:=s1.heap.push (revObj a ((its.toArray.size:Int) - 1)) } s' acc c s1.toks (revObj a ((its.toArray.size:Int) - 1)) r hz rfl rfl hm hS hacc
  | true=>
    obtain ⟨its,r,pl,hz⟩:=I1.tuple hq
    have hlen:=r.length
    have hn:=ZCN
    have hfit:(its.toArray.size:Int) < 2 ^ 63:=by simp only [List.size_toArray];omega
    refine ZHN hfit pl ?_
    refine Calls.spliced_nil ?_
    have hne:a≠s1.heap.objs.size:=Nat.ne_of_lt pl.lt
    refine ZEy (I:=s1.heap.objs.size) (s:={ s1 with heap:=s1.heap.push (revT a ((its.toArray.size:Int) - 1)),toks:=s1.toks+1+1 }) hh hne (by simp;omega) ⟨_,Heap.get?_push_size _ rfl,rfl,rfl⟩ (pl.push _) ?_
    intro s' acc c hm hS hacc
    exact fin its s1.heap.objs.size { s1 with heap:=s1.heap.push (revT a ((its.toArray.size:Int) - 1)),toks:=s1.toks+1+1 } s' acc c (s1.toks+1+1) (revT a ((its.toArray.size:Int) - 1)) r hz rfl rfl hm hS hacc
theorem qe_rev {p1 p2 pos1 pos2:Pos} {e:Expr} {t:TA} (hc:X.calm=true) (hg1:Gl X "list") (hm1:X.mg "list" = none) (hg2:Gl X "reversed") (hm2:X.mg "reversed" = none) (ha:QA X [e] t)
    (he:starEach [e] X.env=[(false,eval e X.env)]:=by rfl) (he2:starEach [.Call (.Name "reversed" p2) [e] [] pos2] X.env=[(false,eval (.Call (.Name "reversed" p2) [e] [] pos2) X.env)]:=by rfl) :
    QE X (.Call (.Name "list" p1) [.Call (.Name "reversed" p2) [e] [] pos2] [] pos1) (tRev X.K t):=⟨pe_rev hc hg1 hm1 hg2 hm2 ha.h he he2⟩
end
end L2
set_option Elab.async false
set_option linter.all false
set_option maxRecDepth 100000
set_option maxHeartbeats 4000000
namespace L2
open PySem PySem.Spec PyProof.Rows
section
variable {X:Cx}
theorem Inv.turnL {pins:List (Addr×Obj)} {σ:St} {H:Hp} {s:Shared} {h':Heap} {t':Nat} {fp:List Addr} (I:Inv X pins σ H s) (hf:∀ b∈fp,ZCm X pins H b) (k:∀ b o,b∉fp→s.heap.get? b=some o→h'.get? b=some o) :
    Inv X pins σ H { s with heap:=h',toks:=t' }:=by
  have nit:∀ b u,H b=some u→b∉fp:=fun b u e z=>by rw [(hf b z).1] at e;cases e
  refine I.step (g':=s.gens) (d':=s.drawn) (ch:=fp) (fun b hb=>?_) (fun b o _ _ hc e _=>k b o hc e) (fun b o _ _ hc e _=>⟨o.slots,k b o hc e⟩) (fun _ _ _ _ n=>n)
    (fun b o hc e=>⟨o,k b o hc e⟩) (fun _ _ e=>e) (fun _ _ _ e=>e) (fun b ps e=>⟨#[],by rw [e];simp⟩) (fun m hm=>?_) (fun b u e=>?_) I.bare
  · obtain ⟨_,h1,_,h3,h4,h5⟩:=hf b hb
    exact ⟨h3,h1,h4,h5⟩
  · obtain ⟨o,es,ep,ho,r⟩:=hm
    exact ⟨o,es,ep,k _ o (fun z=>(hf _ z).2.1 rfl) ho,r⟩
  · refine (I.hok b u e).stay (fun c v hc q=>k c v ?_ q) (fun _ q=>q) fun _ _ q=>q
    rcases hc with z | z
    · rw [z];exact nit b u e
    · exact nit c _ z
theorem Inv.turnLaid {pins:List (Addr×Obj)} {σ:St} {H:Hp} {s:Shared} {h':Heap} {t':Nat} {fp:List Addr} {a:Addr} {o:HO} (I:Inv X pins σ H s) (hf:∀ b∈fp,ZCm X pins H b) (k:∀ b o,b∉fp→s.heap.get? b=some o→h'.get? b=some o)
    (ha:s.heap.objs.size≤a) (new:ObjOk X.prog X.w (upd H a o) h' a o):Inv X pins σ (upd H a o) { s with heap:=h',toks:=t' }:=by
  have hn:H a=none:=I.hok.fresh ha
  have nit:∀ b u,H b=some u→b∉fp:=fun b u e z=>by rw [(hf b z).1] at e;cases e
  have ne:∀ b u,H b=some u→b≠a:=fun b u e=>ZAT e hn
  have ne2:∀ b u,s.heap.get? b=some u→b≠a:=fun b u e=>Nat.ne_of_lt (Nat.lt_of_lt_of_le (Heap.lt_size e) ha)
  refine I.step (g':=s.gens) (d':=s.drawn) (ch:=fp) (fun b hb=>?_) (fun b o _ _ hc e _=>k b o hc e) (fun b o _ _ hc e _=>⟨o.slots,k b o hc e⟩) (fun b o _ e n=>by rw [ZAE (ne2 b o e)];exact n)
    (fun b o hc e=>⟨o,k b o hc e⟩) (fun b _ e=>by rw [ZAE (ne b _ e)];exact e) (fun b _ _ e=>by rw [ZAE (ne b _ e)];exact e) (fun b ps e=>⟨#[],by rw [ZAE (ne b _ e),e];simp⟩) (fun m hm=>?_) (fun b u e=>?_) I.bare
  · obtain ⟨_,h1,_,h3,h4,h5⟩:=hf b hb
    exact ⟨h3,h1,h4,h5⟩
  · obtain ⟨o,es,ep,ho,r⟩:=hm
    exact ⟨o,es,ep,k _ o (fun z=>(hf _ z).2.1 rfl) ho,r⟩
  · by_cases hb:b=a
    · subst hb
      rw [ZA3] at e;cases e
      exact new
    · rw [ZAE hb] at e
      refine (I.hok b u e).stay (fun c v hc q=>k c v ?_ q) (fun c q=>by rw [ZAE (ne c _ q)];exact q) fun c _ q=>by rw [ZAE (ne c _ q)];exact q
      rcases hc with z | z
      · rw [z];exact nit b u e
      · exact nit c _ z
def Ien (K:PySem.W.Frag) (a:Addr) (xs:List V):It:=
  ⟨fun i H=>SqL K H a xs∧i < xs.length,fun i H x H'=>∃ p y,xs[i]?=some y∧x=.ref p∧H p=none∧H'=upd H p (.tup [.int i,y]),fun i H=>SqL K H a xs∧xs.length≤i⟩
theorem ZKD {P:Program} {w:World} {K:PySem.W.Frag} {es:List Expr} {k1:Nat} {p1:Pos} (a e it:Addr) (xs:List V) (hei:e≠it) :
    Turn P w K (.Tuple es k1 p1) (Ien K a xs) [e,it] e (fun i h=>(∃ old,IsEnum h e it i old)∧h.IsListIter it a i) where
  mem:=by simp
  obj:=fun i h st b hb=>by
    obtain ⟨⟨old,h1⟩,o,h2,_,d⟩:=st
    rcases List.mem_cons.mp hb with z | z
    · subst z;exact ⟨_,h1,fun v z=>by cases z⟩
    · have:b=it:=by simpa using z
      subst this
      exact ⟨o,h2,fun v z=>by rw [d] at z;cases z⟩
  keep:=fun i h h' st k=>⟨let ⟨old,h1⟩:=st.1;⟨old,k e (by simp) _ h1⟩,st.2.at fun o q=>k it (by simp) o q⟩
  item:=by
    intro X hP hw hK hc i pins s σ H E I hf st hg
    subst hP hw hK
    obtain ⟨hq,hi⟩:=hg
    obtain ⟨⟨old,he⟩,hit⟩:=st
    obtain ⟨its,rv,p,hz⟩:=I.list hq
    obtain ⟨u,hu,ru⟩:=rv.get (List.getElem?_eq_getElem hi)
    refine wpAny_pyNext_enum_item he hit p.isList (x:=u) (by simpa using hu) hei fun h1 heo hit1 ht1 hz1 hk1=>⟨_,rfl,?_⟩
    refine wpAny_letOwnedTupleGo_enum heo fun h2 he2 hs2=>?_
    have hlt:e < s.heap.objs.size:=Heap.lt_size he
    have ht2:h2.get? s.heap.objs.size=some { cls:=.type "tuple", data:=.seq #[.int i s.toks,u] }:=(hs2.2 _ (Nat.ne_of_gt hlt)).trans ht1
    have kp:∀ b o,b∉[e,it]→s.heap.get? b=some o→h2.get? b=some o:=fun b o hb q=>by
      have hb':b≠e∧b≠it:=by simpa using hb
      exact (hs2.2 b hb'.1).trans (hk1 b o hb'.1 hb'.2 q)
    refine ⟨.ref s.heap.objs.size,_,I.turnLaid (t':=s.toks+1) (a:=s.heap.objs.size) (o:=.tup [.int i,xs[i]]) hf kp (Nat.le_refl _) ?_,rfl,⟨_,_,List.getElem?_eq_getElem hi,rfl,I.hok.fresh (Nat.le_refl _),rfl⟩,⟨⟨_,he2⟩,hit1.at fun o q=>(hs2.2 it (Ne.symm hei)).trans q⟩,fun b hb=>?_⟩
    · exact ⟨(by show 2≤sizeLine;decide),[.int i s.toks,u],.cons ⟨_,rfl⟩ (.cons ru .nil),⟨_,ht2,rfl,_,rfl⟩,fun ob q=>by rw [ht2] at q;cases q;rfl⟩
    · have hb2:b < s.heap.objs.size:=by
        rcases List.mem_cons.mp hb with z | z
        · rw [z];exact hlt
        · have:b=it:=by simpa using z
          obtain ⟨o,q,_⟩:=hit
          rw [this];exact Heap.lt_size q
      rw [ZAE (Nat.ne_of_lt hb2)]
      exact (hf b hb).1
  done:=by
    intro X hP hw hK hc i pins s σ H E I hf st hg
    subst hP hw hK
    obtain ⟨hq,hx⟩:=hg
    obtain ⟨⟨old,he⟩,hit⟩:=st
    obtain ⟨its,rv,p,hz⟩:=I.list hq
    have hl:=rv.length
    exact wpAny_pyNext_enum_end (I.ok.hd hc) he hit p.isList (by simp;omega) fun h' eb=>⟨rfl,I.turnL (t':=s.toks) hf fun b o hb q=>eb b o (fun z=>hb (by simp [z])) q⟩
  self:=fun _ _ _ _ _ st h=>let ⟨⟨_,he⟩,_⟩:=st;wpAny_pyIter_enum he h
end
end L2
set_option Elab.async false
set_option linter.all false
set_option maxRecDepth 100000
set_option maxHeartbeats 4000000
namespace L2
open PySem PySem.Spec PyProof.Rows
theorem ZIn (t:SetTable) (n:Nat):(t.orStandIn n).led=t.led:=by unfold SetTable.orStandIn;split <;> rfl
theorem ZKl (t:SetTable) (es:Array (Int×Value)) (h:Int) (x:Value):(layNew t es h x).2.1.led=t.led:=by
  unfold layNew
  split
  · show (SetTable.orStandIn (t.put _).1 _).led=t.led
    rw [ZIn];rfl
  · rfl
theorem tb_laid {mask finger moves:Nat} {led plain:Bool} {hs:Array Int} {p:SetTable×Array Nat} (h:SetTable.laid mask finger moves led plain hs=some p):p.1.led=led∧p.1.plain=plain:=by
  unfold SetTable.laid at h
  cases hc:SetTable.layClean mask hs with
  | none=>rw [hc] at h;cases h
  | some ow=>rw [hc] at h;cases h;exact ⟨rfl,rfl⟩
theorem tb_relay (t:SetTable) (es:Array (Int×Value)) (n:Nat) (hp:t.plain=false):(relayAll t es n).2.1.led=t.led∧(relayAll t es n).2.1.plain=false:=by
  unfold relayAll
  split
  · next t' order hr=>
    have q:=tb_laid (p:=(t',order)) hr
    dsimp only at q ⊢
    split
    · exact ⟨q.1,q.2.trans hp⟩
    · exact ⟨rfl,rfl⟩
  · exact ⟨rfl,rfl⟩
def byT (w:World):Bool:=w.params.followText "set-order"
def SetT (prog:Program) (w:World) (h:Heap) (a:Addr) (S:Str→Bool) (n:Nat):Prop:=
  ∃ o es ep t,h.get? a=some o∧o.ExactSet∧o.data=.set es ep t∧ElemsOf (PySem.strKind prog w) es.toList∧(∀ k,S k=true↔∃ e∈es.toList,(PySem.strKind prog w).is k e.2=true)∧
    es.size < scanBound∧t.fits es.size=true∧es.size=n∧(t.led=!byT w)∧(0 < es.size→t.plain=false)
theorem SetT.keep {prog:Program} {w:World} {h h':Heap} {a:Addr} {S:Str→Bool} {n:Nat} (x:SetT prog w h a S n) (k:∀ o,h.get? a=some o→h'.get? a=some o):SetT prog w h' a S n:=by
  obtain ⟨o,es,ep,t,ho,r⟩:=x
  exact ⟨o,es,ep,t,k o ho,r⟩
theorem SetT.congr {prog:Program} {w:World} {h:Heap} {a:Addr} {S S':Str→Bool} {n n':Nat} (x:SetT prog w h a S n) (e:∀ k,S k=S' k) (en:n=n'):SetT prog w h a S' n':=by
  obtain ⟨o,es,ep,t,h1,h2,h3,h4,h5,h6,h7,h8,h9⟩:=x
  exact ⟨o,es,ep,t,h1,h2,h3,h4,fun k=>by rw [← e k];exact h5 k,h6,h7,h8.trans en,h9⟩
section
variable {prog:Program} {w:World} {A:Around} {E:Value→Shared→Prop} {s:Shared}
theorem storeT {h:Heap} {a:Addr} {o:Obj} {es:Array (Int×Value)} {ep:Nat} {t:SetTable} (ho:h.get? a=some o) (hd:o.data=.set es ep t) (es':Array (Int×Value)) (t':SetTable) :
    (h.update a (Obj.putSet es' t')).get? a=some { o with data:=.set es' (ep+1) t' }:=by
  have q:=Heap.get?_update_self (Obj.putSet es' t') ho (by rw [putSet_of es' t' hd];rfl)
  rw [q,putSet_of es' t' hd]
theorem SetT.put {a:Addr} {S:Str→Bool} {n:Nat} {k:Str} {tk:Tok} {Q:Bool→Shared→Prop} (hS:SetT prog w s.heap a S n) (hroom:n+1 < scanBound)
    (h:∀ h',Heap.SameBut a s.heap h'→SetT prog w h' a (fun k'=>S k' || decide (k'=k)) (if S k then n else n+1)→Q (!S k) { s with heap:=h' }) :
    wpAny (model prog w) A (setAddHashed a (.str k tk) ((PySem.strKind prog w).hash k)) Q E s:=by
  obtain ⟨o,es,ep,t,ho,hex,hd,hel,hmem,hb,hf,hn,hled,hpl⟩:=hS
  have hkey:(PySem.strKind prog w).is k (.str k tk)=true:=PySem.strKind_is prog w k tk
  have hsc:(Value.str k tk).scannable=true:=rfl
  have rm:es.size+1 < scanBound:=by rw [hn];exact hroom
  have gw:∀ (b:Bool) (s1:Shared) (Q1:Unit→Shared→Prop),Q1 () s1→wpAny (model prog w) A (match b with | true=>rule "set.scan.the-table-gave-way" | false=>pure ()) Q1 E s1:=by
    intro b s1 Q1 q;cases b
    · exact wpAny_pure q
    · exact wpAny_rule q
  unfold setAddHashed setAddHashedIn
  refine wpAny_holding ?_
  refine wpAny_bind (wpAny_setState_of ho hd hf ?_)
  dsimp only
  rw [byScan_of hsc hb hel]
  simp only [↓reduceIte]
  unfold setAddByScan
  refine wpAny_bind ?_
  refine wpAny_bind (wpAny_rule ?_)
  refine wpAny_bind (wpAny_setScan_of hkey ho hd hf hel ?_)
  cases hr:List.findIdx? (fun e=>(PySem.strKind prog w).is k e.2) es.toList with
  | some j=>
    dsimp only
    obtain ⟨hj,hpj,_⟩:=List.findIdx?_eq_some_iff_getElem.mp hr
    have hk:S k=true:=(hmem k).mpr ⟨es.toList[j],List.getElem_mem hj,hpj⟩
    refine wpAny_pure ?_
    refine wpAny_pure ?_
    have q:=h s.heap (Heap.SameBut.refl a s.heap) ⟨o,es,ep,t,ho,hex,hd,hel,fun k'=>by
      rw [← hmem k',Bool.or_eq_true,decide_eq_true_eq]
      exact ⟨fun z=>z.elim id fun e=>e▸hk,Or.inl⟩,hb,hf,by rw [if_pos hk];exact hn,hled,hpl⟩
    rw [hk] at q
    exact q
  | none=>
    dsimp only
    have hk:S k=false:=by
      cases e:S k with
      | false=>rfl
      | true=>
        obtain ⟨x,hx,hp⟩:=(hmem k).mp e
        have q:=List.findIdx?_eq_none_iff.mp hr x hx
        rw [hp] at q;exact Bool.noConfusion q
    have p1:=layNew_perm t es ((PySem.strKind prog w).hash k) (.str k tk)
    have f1:=layNew_fits t es ((PySem.strKind prog w).hash k) (.str k tk)
    have l1:=ZKl t es ((PySem.strKind prog w).hash k) (.str k tk)
    generalize layNew t es ((PySem.strKind prog w).hash k) (.str k tk)=L at p1 f1 l1 ⊢
    obtain ⟨es1,t1,wd,gv⟩:=L
    dsimp only at p1 f1 l1 ⊢
    rw [Array.toList_push] at p1
    have el1:ElemsOf (PySem.strKind prog w) es1.toList:=(hel.push hkey hsc).perm p1
    have m1:∀ k',(S k' || decide (k'=k))=true↔∃ e∈es1.toList,(PySem.strKind prog w).is k' e.2=true:=mem_push_iff hkey hmem p1
    have z1:es1.size=n+1:=by rw [← Array.length_toList,p1.length_eq,List.length_append,Array.length_toList,hn];rfl
    have b1:es1.size < scanBound:=by rw [z1];exact hroom
    have fin:∀ (h':Heap) (o':Obj) (es':Array (Int×Value)) (ep':Nat) (t':SetTable),Heap.SameBut a s.heap h'→h'.get? a=some o'→o'.ExactSet→o'.data=.set es' ep' t'→es'.toList.Perm es1.toList→t'.fits es'.size=true→t'.led=t.led→t'.plain=false→
        Q true { s with heap:=h' }:=by
      intro h' o' es' ep' t' sb go xo d' pp ff ll pf
      have zz:es'.size=n+1:=by rw [← z1,← Array.length_toList,pp.length_eq,Array.length_toList]
      have q:=h h' sb ⟨o',es',ep',t',go,xo,d',el1.perm pp,fun k'=>(m1 k').trans ⟨fun ⟨e,he,q⟩=>⟨e,pp.mem_iff.mpr he,q⟩,fun ⟨e,he,q⟩=>⟨e,pp.mem_iff.mp he,q⟩⟩,by rw [zz];exact hroom,ff,by rw [hk];exact zz,ll.trans hled,fun _=>pf⟩
      rw [hk] at q
      exact q
    have tail:∀ (t2:SetTable),t2.fits es1.size=true→t2.led=t.led→t2.plain=false→wpAny (model prog w) A (do
        storeSet a es1 t2
        if (!wd && t2.tooFull)=true then do
            (match (relayAll t2 es1 (SetTable.grown es1.size)).2.2 with | true=>rule "set.scan.the-table-gave-way" | false=>pure ())
            storeSet a (relayAll t2 es1 (SetTable.grown es1.size)).1 (relayAll t2 es1 (SetTable.grown es1.size)).2.1
            pure (some true)
          else pure (some true)) (fun r s'=>match r with | some b=>Q b s' | none=>False) E s:=by
      intro t2 f2 l2 pl2
      refine wpAny_bind (wpAny_storeSet_of ho hd ?_ (fits_of_scanBound b1))
      have o1:=storeT ho hd es1 t2
      have sb1:=Heap.SameBut.update s.heap a (Obj.putSet es1 t2)
      split
      · have p3:=relayAll_perm t2 es1 (SetTable.grown es1.size)
        have f3:=relayAll_fits t2 es1 (SetTable.grown es1.size)
        have l3:=tb_relay t2 es1 (SetTable.grown es1.size) pl2
        generalize relayAll t2 es1 (SetTable.grown es1.size)=Rl at p3 f3 l3 ⊢
        obtain ⟨es2,t3,g3⟩:=Rl
        dsimp only at p3 f3 l3 ⊢
        have z3:es2.size=es1.size:=by rw [← Array.length_toList,p3.length_eq,Array.length_toList]
        refine wpAny_bind (gw _ _ _ ?_)
        refine wpAny_bind (wpAny_storeSet_of o1 rfl ?_ (fits_of_scanBound (by rw [z3];exact b1)))
        refine wpAny_pure ?_
        exact fin _ _ es2 _ t3 (sb1.trans (Heap.SameBut.update _ a _)) (storeT o1 rfl es2 t3) hex rfl p3 f3 (l3.1.trans l2) l3.2
      · exact wpAny_pure (fin _ _ es1 _ t2 sb1 o1 hex rfl (List.Perm.refl _) f2 l2 pl2)
    refine wpAny_bind (gw _ _ _ ?_)
    split
    · next hp1=>
      refine wpAny_bind ?_
      rw [hashByValue_scannable 8 hsc]
      refine wpAny_pure ?_
      refine wpAny_mono (tail { t1 with plain:=false } (SetTable.fits_plain_off f1) l1 rfl) (fun r s' q=>?_) fun _ _ e=>e
      cases r with
      | none=>exact q.elim
      | some b=>exact wpAny_pure q
    · next hp1=>
      refine wpAny_bind (wpAny_pure ?_)
      simp only [↓reduceIte]
      refine wpAny_mono (tail t1 f1 l1 (by simpa using hp1)) (fun r s' q=>?_) fun _ _ e=>e
      cases r with
      | none=>exact q.elim
      | some b=>exact wpAny_pure q
end
end L2
set_option Elab.async false
set_option linter.all false
set_option maxRecDepth 100000
set_option maxHeartbeats 4000000
namespace L2
open PySem PySem.Spec PyProof.Rows
theorem ZDM {α:Type}:∀ (l:List α) (i:Nat) (h:i < l.length),(l[i] :: l.eraseIdx i).Perm l
  | _ :: _,0,_=>List.Perm.refl _
  | x :: r,i+1,h=>(List.Perm.swap x (r[i]'(by simpa using h)) (r.eraseIdx i)).trans ((ZDM r i (by simpa using h)).cons x)
theorem go_perm {α:Type} (nx:Nat→Nat):∀ (n k:Nat) (l:List α) (out:Array α),l.length=n→(pickOrder.go nx n k l out).toList.Perm (out.toList++l):=by
  intro n
  induction n with
  | zero=>
    intro k l out hl
    rw [List.length_eq_zero_iff.mp hl]
    unfold pickOrder.go
    simp
  | succ n ih=>
    intro k l out hl
    have hlt:nx k % l.length < l.length:=Nat.mod_lt _ (by omega)
    unfold pickOrder.go
    rw [List.getElem?_eq_getElem hlt]
    dsimp only
    refine (ih _ _ _ (by rw [List.length_eraseIdx_of_lt hlt];omega)).trans ?_
    rw [Array.toList_push,List.append_assoc]
    exact List.Perm.append_left _ (ZDM l _ hlt)
theorem ZEB {α:Type} (nx:Nat→Nat) (xs:Array α):(pickOrder nx xs).toList.Perm xs.toList:=by
  have q:=go_perm nx xs.size 0 xs.toList #[] (by simp)
  simpa [pickOrder] using q
section
variable {prog:Program} {w:World} {A:Around} {E:Value→Shared→Prop} {s:Shared}
theorem ZJ6 {src:Source} {n:Nat} {Q:Nat→Shared→Prop} (hn:n≠0) (h:∀ k d,k < n→Q k { s with drawn:=d }):wpAny (model prog w) A (choose src n) Q E s:=by
  intro Γ p hΓ
  show Sem.wp _ _ (.choose src n .pure) _ _ _ _
  rw [Sem.wp_choose]
  refine ⟨hn,?_⟩
  rw [Sem.wp_pure]
  exact h _ _ (Nat.mod_lt _ (Nat.pos_of_ne_zero hn))
theorem ZEY {α:Type}:∀ (n:Nat) (xs:List α) (s:Shared) (Q:List α→Shared→Prop),xs.length≤n→(∀ ys d,ys.Perm xs→Q ys { s with drawn:=d })→wpAny (model prog w) A (drawOrder n xs) Q E s:=by
  intro n
  induction n with
  | zero=>
    intro xs s Q hl h
    rw [List.length_eq_zero_iff.mp (Nat.le_zero.mp hl)] at h ⊢
    exact wpAny_pure (h [] s.drawn (List.Perm.refl _))
  | succ n ih=>
    intro xs s Q hl h
    cases xs with
    | nil=>exact wpAny_pure (h [] s.drawn (List.Perm.refl _))
    | cons x r=>
      unfold drawOrder
      refine wpAny_bind (ZJ6 (by simp) fun k d hk=>?_)
      rw [List.getElem?_eq_getElem hk]
      dsimp only
      refine wpAny_bind (ih _ _ _ (by rw [List.length_eraseIdx_of_lt hk];simp only [List.length_cons] at hl ⊢;omega) fun ys d' hp=>?_)
      exact wpAny_pure (h _ d' ((hp.cons _).trans (ZDM (x :: r) _ hk)))
theorem ZEp {a:Addr} {o:Obj} {es:Array (Int×Value)} {ep:Nat} {t:SetTable} {Q:Bool→Shared→Prop} (ho:s.heap.get? a=some o) (hd:o.data=.set es ep t) (hf:t.fits es.size=true)
    (h:Q (!byT w && (!t.plain && decide (es.size > 1))) s):wpAny (model prog w) A (setDrawn a) Q E s:=by
  unfold setDrawn
  refine wpAny_bind (wpAny_setState_of ho hd hf ?_)
  dsimp only
  unfold setsByText
  refine wpAny_bind (wpAny_bind (wpAny_askSetting (wpAny_pure ?_)))
  exact wpAny_pure h
theorem ZDR {a:Addr} {o:Obj} {es:Array (Int×Value)} {ep:Nat} {t:SetTable} {sl i:Nat} {Q:Option (Value×Nat)→Shared→Prop} (hb:byT w=true) (ho:s.heap.get? a=some o) (hd:o.data=.set es ep t) (hf:t.fits es.size=true)
    (h:Q (((pickOrder (w.params.setOrder a ep) es)[i]?).map fun e=>(e.2,sl)) s):wpAny (model prog w) A (setNext a sl i ep) Q E s:=by
  have hb':w.params.followText "set-order" = true:=hb
  unfold setNext
  refine wpAny_bind (wpAny_setState_of ho hd hf ?_)
  dsimp only
  unfold setsByText
  refine wpAny_bind (wpAny_bind (wpAny_askSetting (wpAny_pure ?_)))
  show wpAny _ _ (if w.params.followText "set-order" = true then _ else _) _ _ _
  rw [if_pos hb',if_neg (by simp)]
  refine wpAny_bind ?_
  unfold setWalk setsByText
  refine wpAny_bind (wpAny_setState_of ho hd hf ?_)
  dsimp only
  refine wpAny_bind (wpAny_bind (wpAny_askSetting (wpAny_pure ?_)))
  show wpAny _ _ (if w.params.followText "set-order" = true then _ else _) _ _ _
  rw [if_pos hb']
  exact wpAny_bind (wpAny_askSetting (wpAny_pure (wpAny_pure h)))
theorem ZEM {a:Addr} {o:Obj} {es:Array (Int×Value)} {ep:Nat} {t:SetTable} {sl i:Nat} {Q:Option (Value×Nat)→Shared→Prop} (hb:byT w=false) (ho:s.heap.get? a=some o) (hd:o.data=.set es ep t) (hf:t.fits es.size=true)
    (h1:es.size≤1) (hl:t.led=true)
    (h:Q (match es[SetTable.below t.place sl]?,t.place[SetTable.below t.place sl]? with | some (_,x),some j=>some (x,j+1) | _,_=>none) s):wpAny (model prog w) A (setNext a sl i ep) Q E s:=by
  have hb':w.params.followText "set-order" = false:=hb
  unfold setNext
  refine wpAny_bind (wpAny_setState_of ho hd hf ?_)
  dsimp only
  unfold setsByText
  refine wpAny_bind (wpAny_bind (wpAny_askSetting (wpAny_pure ?_)))
  show wpAny _ _ (if w.params.followText "set-order" = true then _ else _) _ _ _
  rw [if_neg (by rw [hb'];decide)]
  show wpAny _ _ (if (!t.plain && decide (es.size > 1))=true then _ else _) _ _ _
  rw [if_neg (by rw [decide_eq_false (by omega)];simp)]
  refine wpAny_bind (m:=_) ?_
  wp_delta
  rw [hl]
  exact wpAny_pure (wpAny_pure h)
theorem ZG7 {a:Addr} {o:Obj} {es:Array (Int×Value)} {ep pl:Nat} {t:SetTable} {e:Int×Value} {Q:Value→Shared→Prop} (ho:s.heap.get? a=some o) (hd:o.data=.set es ep t) (hf:t.fits es.size=true) (he:es[pl]?=some e)
    (h:Q e.2 s):wpAny (model prog w) A (setNextDrawn a pl ep) Q E s:=by
  unfold setNextDrawn
  refine wpAny_bind (wpAny_setState_of ho hd hf ?_)
  dsimp only
  rw [if_neg (by simp),he]
  exact wpAny_pure h
end
theorem ZEN:Manifest.owners.lookup (String.ofList ['r','o','t','a','r','e','t','i','_','t','e','s'].reverse)=some Manifest.sig_set_iterator:=by kernel_rfl
theorem slot_setit_next:Slot "set_iterator" "__next__" "set_iterator.__next__" :=
  .of (owner := "set_iterator") (n := "__next__") (by rw [typeLookup_type,builtinLookup_eq_fast];kernel_rfl) (by decide +kernel) (by decide +kernel) (by decide +kernel)
    (by first | exact .inl (by decide +kernel) | exact .inr (by decide +kernel)) (by rw [isSubtype_type];kernel_rfl)
theorem ZB7:entryFor table "set_iterator.__next__" = some Builtin.«set_iterator.__next__»:=entryFor_of_tree (by kernel_rfl)
theorem ZBH (a:Value):argsOk "set_iterator.__next__" ⟨[a],[]⟩:=by
  unfold argsOk;rw [signature?_of (id := "set_iterator.__next__") (n:=['_','_','t','x','e','n','_','_']) (o:=['r','o','t','a','r','e','t','i','_','t','e','s']) (by kernel_rfl) ZEN];kernel_rfl
theorem ZCV:Slot "set_iterator" "__iter__" "set_iterator.__iter__" :=
  .of (owner := "set_iterator") (n := "__iter__") (by rw [typeLookup_type,builtinLookup_eq_fast];kernel_rfl) (by decide +kernel) (by decide +kernel) (by decide +kernel)
    (by first | exact .inl (by decide +kernel) | exact .inr (by decide +kernel)) (by rw [isSubtype_type];kernel_rfl)
theorem ZET (a:Value):argsOk "set_iterator.__iter__" ⟨[a],[]⟩:=by
  unfold argsOk;rw [signature?_of (id := "set_iterator.__iter__") (n:=['_','_','r','e','t','i','_','_']) (o:=['r','o','t','a','r','e','t','i','_','t','e','s']) (by kernel_rfl) ZEN];kernel_rfl
theorem ZDz:entryFor table "set_iterator.__iter__" = some Builtin.«dict_keyiterator.__iter__»:=
  entryFor_alias (id' := "dict_keyiterator.__iter__") (by kernel_rfl) (by first | rfl | decide +kernel | (unfold String.splitOn;simp +decide [String.splitOnAux])) (by decide +kernel) (by kernel_rfl)
theorem ZEW:entryFor table "set.__iter__" = some Builtin.«frozenset.__iter__»:=
  entryFor_alias (id' := "frozenset.__iter__") (by kernel_rfl) (by first | rfl | decide +kernel | (unfold String.splitOn;simp +decide [String.splitOnAux])) (by decide +kernel) (by kernel_rfl)
def ZDy (f:Value) (i:Nat) (S:Addr) (n ep:Nat):Array Value:=#[f,rawInt (i:Int),.ref S,rawInt (n:Int),rawInt (ep:Int)]
def IsSetIt (h:Heap) (I:Addr) (f:Value) (i:Nat) (S:Addr) (n ep:Nat):Prop:=∃ o,h.get? I=some o∧o.cls=.type "set_iterator" ∧ o.data=.fields (ZDy f i S n ep)
theorem IsSetIt.typeIs {s:Shared} {I:Addr} {f:Value} {i:Nat} {S:Addr} {n ep:Nat} (x:IsSetIt s.heap I f i S n ep):s.TypeIs (.ref I) "set_iterator" := let ⟨o,ho,hc,_⟩:=x;⟨o,ho,hc⟩
theorem IsSetIt.at {h h':Heap} {I:Addr} {f:Value} {i:Nat} {S:Addr} {n ep:Nat} (x:IsSetIt h I f i S n ep) (e:∀ o,h.get? I=some o→h'.get? I=some o):IsSetIt h' I f i S n ep:=let ⟨o,ho,r⟩:=x;⟨o,e _ ho,r⟩
section
variable {prog:Program} {w:World} {A:Around} {E:Value→Shared→Prop} {s:Shared}
theorem ZFH {α:Type} {Q:α→Shared→Prop} {F:Value→Shared→Prop} (hh:A.handled=none)
    (hF:∀ e h',(∀ b o,s.heap.get? b=some o→h'.get? b=some o)→(Shared.TypeIs { s with heap:=h' } e "StopIteration")→F e { s with heap:=h' }) :
    wpAny (model prog w) A (newExc (.type "StopIteration") [] >>= fun e=>raiseNew e) Q F s:=by
  refine wpAny_bind ?_
  simp only [newExc,newTuple]
  refine wpAny_bind (wpAny_newObj_type ?_ (by size_fits))
  refine wpAny_bind (m:=firstArgMember _ _) (wpAny_of_eq (a:=Value.none) (by first | rfl | (simp only [firstArgMember];rfl)) ?_)
  refine wpAny_newObj_type ?_ (by size_fits)
  simp only [raiseNew]
  refine wpAny_bind (wpAny_handled ?_)
  rw [hh]
  refine wpAny_bind (wpAny_pure (wpAny_throw ?_))
  exact hF _ _ (fun b o e=>Heap.get?_push_of_some _ (Heap.get?_push_of_some _ e)) ⟨_,Heap.get?_push_size _ rfl,rfl⟩
theorem ZGS {it S:Addr} {sl i n ep nx:Nat} {o:Obj} {es:Array (Int×Value)} {t:SetTable} {x:Value} {Q:Option Value→Shared→Prop} (hit:IsSetIt s.heap it (rawInt (sl:Int)) i S n ep)
    (ho:s.heap.get? S=some o) (hd:o.data=.set es ep t) (hf:t.fits es.size=true) (hn:es.size=n)
    (hnx:∀ (A1:Around) (E1:Value→Shared→Prop) (Q1:Option (Value×Nat)→Shared→Prop),Q1 (some (x,nx)) s→wpAny (model prog w) A1 (setNext S sl i ep) Q1 E1 s)
    (hQ:∀ h',IsSetIt h' it (rawInt (nx:Int)) (i+1) S n ep→Heap.SameBut it s.heap h'→Q (some x) { s with heap:=h' }):wpAny (model prog w) A (pyNext (.ref it)) Q E s:=by
  obtain ⟨oi,hoi,hc,hdi⟩:=id hit
  subst hn
  unfold pyNext
  refine wpAny_bind (wpAny_attempt (wpAny_callSpecial?_slot (name:=Str.ofString "__next__") hit.typeIs slot_setit_next
    (wpAny_call_entry slot_setit_next hit.typeIs ZB7 ?_ (ZBH _))))
  unfold Builtin.«set_iterator.__next__»
  refine wpAny_bind (wpAny_of_eq (a:=(Value.ref it,[])) rfl ?_)
  try dsimp only
  refine wpAny_bind (wpAny_fieldsOf hoi hdi ?_)
  show wpAny _ _ (setEntries S >>= _) _ _ s
  refine wpAny_bind (wpAny_setEntries_of ho hd hf ?_)
  rw [if_neg (by simp)]
  show wpAny _ _ (setNext S sl i ep >>= _) _ _ s
  refine wpAny_bind (hnx _ _ _ ?_)
  dsimp only
  refine wpAny_bind (wpAny_setField hoi hdi (by simp [ZDy]) ?_)
  have o1:=Heap.get?_update_self (fun ob=>Obj.mapFields (·.setIfInBounds 0 (rawInt (nx:Int))) ob) hoi (Obj.isFreed_of_fields (Obj.data_mapFields hdi _))
  have d1:=Obj.data_mapFields hdi (·.setIfInBounds 0 (rawInt (nx:Int)))
  refine wpAny_bind (wpAny_setField (s:={ s with heap:=_ }) o1 d1 (by simp [ZDy]) ?_)
  refine wpAny_pure ⟨x,rfl,wpAny_pure (hQ _ ⟨_,Heap.get?_update_self _ o1 (Obj.isFreed_of_fields (Obj.data_mapFields d1 _)),?_,?_⟩ ((Heap.SameBut.update ..).trans (Heap.SameBut.update ..)))⟩
  · exact (Obj.cls_mapFields ..).trans ((Obj.cls_mapFields ..).trans hc)
  · rw [Obj.data_mapFields d1];simp [ZDy]
theorem ZD9 {it S:Addr} {sl i n ep:Nat} {o:Obj} {es:Array (Int×Value)} {t:SetTable} {Q:Option Value→Shared→Prop} (hh:A.handled=none) (hit:IsSetIt s.heap it (rawInt (sl:Int)) i S n ep)
    (ho:s.heap.get? S=some o) (hd:o.data=.set es ep t) (hf:t.fits es.size=true) (hn:es.size=n)
    (hnx:∀ (A1:Around) (E1:Value→Shared→Prop) (Q1:Option (Value×Nat)→Shared→Prop),Q1 none s→wpAny (model prog w) A1 (setNext S sl i ep) Q1 E1 s)
    (hQ:∀ h',Heap.ExtBut it s.heap h'→Q none { s with heap:=h' }):wpAny (model prog w) A (pyNext (.ref it)) Q E s:=by
  obtain ⟨oi,hoi,hc,hdi⟩:=id hit
  subst hn
  unfold pyNext
  refine wpAny_bind (wpAny_attempt (wpAny_callSpecial?_slot (name:=Str.ofString "__next__") hit.typeIs slot_setit_next
    (wpAny_call_entry slot_setit_next hit.typeIs ZB7 ?_ (ZBH _))))
  unfold Builtin.«set_iterator.__next__»
  refine wpAny_bind (wpAny_of_eq (a:=(Value.ref it,[])) rfl ?_)
  try dsimp only
  refine wpAny_bind (wpAny_fieldsOf hoi hdi ?_)
  show wpAny _ _ (setEntries S >>= _) _ _ s
  refine wpAny_bind (wpAny_setEntries_of ho hd hf ?_)
  rw [if_neg (by simp)]
  show wpAny _ _ (setNext S sl i ep >>= _) _ _ s
  refine wpAny_bind (hnx _ _ _ ?_)
  dsimp only
  refine wpAny_bind (wpAny_setField hoi hdi (by simp [ZDy]) ?_)
  refine ZFH (A:=A.in1) hh fun e h' k hT=>?_
  refine wpAny_bind (wpAny_isInstance (T := "StopIteration") (b:=true) hT isSubtype_stop ?_)
  refine wpAny_pure (hQ _ (fun b ob hb e=>?_))
  exact k b ob ((Heap.get?_update_other _ _ (Ne.symm hb)).trans e)
theorem ZIw {it S T:Addr} {i n ep pl:Nat} {o oT:Obj} {es:Array (Int×Value)} {t:SetTable} {ps:Array Value} {nT:Nat} {e:Int×Value} {Q:Option Value→Shared→Prop} (hit:IsSetIt s.heap it (.ref T) i S n ep)
    (ho:s.heap.get? S=some o) (hd:o.data=.set es ep t) (hf:t.fits es.size=true) (hn:es.size=n) (hT:s.heap.get? T=some oT) (hTd:oT.data=.seq ps nT) (hp:ps[i]?=some (rawInt (pl:Int))) (he:es[pl]?=some e)
    (hQ:∀ h',IsSetIt h' it (.ref T) (i+1) S n ep→Heap.SameBut it s.heap h'→Q (some e.2) { s with heap:=h' }):wpAny (model prog w) A (pyNext (.ref it)) Q E s:=by
  obtain ⟨oi,hoi,hc,hdi⟩:=id hit
  subst hn
  unfold pyNext
  refine wpAny_bind (wpAny_attempt (wpAny_callSpecial?_slot (name:=Str.ofString "__next__") hit.typeIs slot_setit_next
    (wpAny_call_entry slot_setit_next hit.typeIs ZB7 ?_ (ZBH _))))
  unfold Builtin.«set_iterator.__next__»
  refine wpAny_bind (wpAny_of_eq (a:=(Value.ref it,[])) rfl ?_)
  try dsimp only
  refine wpAny_bind (wpAny_fieldsOf hoi hdi ?_)
  show wpAny _ _ (setEntries S >>= _) _ _ s
  refine wpAny_bind (wpAny_setEntries_of ho hd hf ?_)
  rw [if_neg (by simp)]
  show wpAny _ _ (seqItems? (.ref T) >>= _) _ _ s
  refine wpAny_bind ?_
  unfold seqItems?
  refine wpAny_bind (wpAny_load hT ?_)
  rw [hTd]
  refine wpAny_pure ?_
  show wpAny _ _ (match ps[i]? with | some (.int place _)=>_ | some _=>_ | none=>_) _ _ s
  rw [hp]
  show wpAny _ _ (setNextDrawn S pl ep >>= _) _ _ s
  refine wpAny_bind (ZG7 ho hd hf he ?_)
  refine wpAny_bind (wpAny_setField hoi hdi (by simp [ZDy]) ?_)
  refine wpAny_pure ⟨e.2,rfl,wpAny_pure (hQ _ ⟨_,Heap.get?_update_self _ hoi (Obj.isFreed_of_fields (Obj.data_mapFields hdi _)),?_,?_⟩ (Heap.SameBut.update ..))⟩
  · exact (Obj.cls_mapFields ..).trans hc
  · rw [Obj.data_mapFields hdi];simp [ZDy]
theorem ZEv {it S T:Addr} {i n ep:Nat} {o oT:Obj} {es:Array (Int×Value)} {t:SetTable} {ps:Array Value} {nT:Nat} {Q:Option Value→Shared→Prop} (hh:A.handled=none) (hit:IsSetIt s.heap it (.ref T) i S n ep)
    (ho:s.heap.get? S=some o) (hd:o.data=.set es ep t) (hf:t.fits es.size=true) (hn:es.size=n) (hT:s.heap.get? T=some oT) (hTd:oT.data=.seq ps nT) (hp:ps[i]?=none)
    (hQ:∀ h',Heap.ExtBut it s.heap h'→Q none { s with heap:=h' }):wpAny (model prog w) A (pyNext (.ref it)) Q E s:=by
  obtain ⟨oi,hoi,hc,hdi⟩:=id hit
  subst hn
  unfold pyNext
  refine wpAny_bind (wpAny_attempt (wpAny_callSpecial?_slot (name:=Str.ofString "__next__") hit.typeIs slot_setit_next
    (wpAny_call_entry slot_setit_next hit.typeIs ZB7 ?_ (ZBH _))))
  unfold Builtin.«set_iterator.__next__»
  refine wpAny_bind (wpAny_of_eq (a:=(Value.ref it,[])) rfl ?_)
  try dsimp only
  refine wpAny_bind (wpAny_fieldsOf hoi hdi ?_)
  show wpAny _ _ (setEntries S >>= _) _ _ s
  refine wpAny_bind (wpAny_setEntries_of ho hd hf ?_)
  rw [if_neg (by simp)]
  show wpAny _ _ (seqItems? (.ref T) >>= _) _ _ s
  refine wpAny_bind ?_
  unfold seqItems?
  refine wpAny_bind (wpAny_load hT ?_)
  rw [hTd]
  refine wpAny_pure ?_
  show wpAny _ _ (match ps[i]? with | some (.int place _)=>_ | some _=>_ | none=>_) _ _ s
  rw [hp]
  dsimp only
  refine wpAny_bind (wpAny_setField hoi hdi (by simp [ZDy]) ?_)
  have o1:=Heap.get?_update_self (fun ob=>Obj.mapFields (·.setIfInBounds 0 (rawInt 0)) ob) hoi (Obj.isFreed_of_fields (Obj.data_mapFields hdi _))
  have d1:=Obj.data_mapFields hdi (·.setIfInBounds 0 (rawInt 0))
  refine wpAny_bind (wpAny_setField (s:={ s with heap:=_ }) o1 d1 (by simp [ZDy]) ?_)
  refine ZFH (A:=A.in1) hh fun e h' k hT=>?_
  refine wpAny_bind (wpAny_isInstance (T := "StopIteration") (b:=true) hT isSubtype_stop ?_)
  refine wpAny_pure (hQ _ (fun b ob hb e=>?_))
  exact k b ob ((Heap.get?_update_other _ _ (Ne.symm hb)).trans ((Heap.get?_update_other _ _ (Ne.symm hb)).trans e))
theorem ZDC {it S:Addr} {f:Value} {i n ep:Nat} {Q:Value→Shared→Prop} (hit:IsSetIt s.heap it f i S n ep) (h:Q (.ref it) s):wpAny (model prog w) A (pyIter (.ref it)) Q E s:=by
  refine wpAny_pyIter_slot hit.typeIs ZCV (wpAny_call_entry ZCV hit.typeIs ZDz ?_ (ZET _))
  show wpAny _ _ (ret (.ref it)) _ _ s
  exact wpAny_pure ⟨_,rfl, "set_iterator", _,hit.typeIs,slot_setit_next.lookup,h⟩
end
end L2
set_option Elab.async false
set_option linter.all false
set_option maxRecDepth 100000
set_option maxHeartbeats 4000000
namespace L2
open PySem PySem.Spec PyProof.Rows
section
variable {prog:Program} {w:World} {A:Around}
theorem ZIf (hb:byT w=true) (hh:A.handled=none) (I S:Addr) (hne:S≠I) {o:Obj} {es:Array (Int×Value)} {ep:Nat} {t:SetTable} (hd:o.data=.set es ep t) (hf:t.fits es.size=true) :
    Walks prog w A I [I,S] [I] es.size (fun i v=>((pickOrder (w.params.setOrder S ep) es).toList.map (·.2))[i]?=some v) (fun i h=>IsSetIt h I (rawInt ((0:Nat):Int)) i S es.size ep∧h.get? S=some o) where
  sub:=fun b hb=>by simp at hb;simp [hb]
  frame:=fun _ _ _ x hk=>⟨x.1.at fun o e=>hk I (by simp) o e,hk S (by simp) _ x.2⟩
  item:=fun i s Q E hi x hQ=>by
    have hl:(pickOrder (w.params.setOrder S ep) es).size=es.size:=by
      have q:=(ZEB (w.params.setOrder S ep) es).length_eq
      simpa using q
    have hi2:i < (pickOrder (w.params.setOrder S ep) es).size:=by omega
    refine ZGS (x:=((pickOrder (w.params.setOrder S ep) es)[i]).2) (nx:=0) x.1 x.2 hd hf rfl (fun A1 E1 Q1 q=>ZDR hb x.2 hd hf (by rw [Array.getElem?_eq_getElem hi2];exact q)) fun h' hit' sb=>?_
    exact hQ _ h' s.toks (by rw [List.getElem?_map,Array.getElem?_toList,Array.getElem?_eq_getElem hi2];rfl) ⟨hit',sb.extBut S o hne x.2⟩ fun b ob hb eo=>sb.extBut b ob (fun h=>hb (by simp [h])) eo
  done:=fun s Q E x hQ=>by
    have hl:(pickOrder (w.params.setOrder S ep) es).size=es.size:=by
      have q:=(ZEB (w.params.setOrder S ep) es).length_eq
      simpa using q
    refine ZD9 hh x.1 x.2 hd hf rfl (fun A1 E1 Q1 q=>ZDR hb x.2 hd hf (by rw [Array.getElem?_eq_none (by omega)];exact q)) fun h' eb=>?_
    exact hQ h' s.toks fun b ob hb eo=>eb b ob (fun h=>hb (by simp [h])) eo
  self:=fun _ _ _ _ x hQ=>ZDC x.1 hQ
theorem ZHP {α:Type}:∀ (a:Array α),a.size=1→∃ x,a=#[x]
  | ⟨[x]⟩,_=>⟨x,rfl⟩
  | ⟨[]⟩,h=>by simp at h
  | ⟨_ :: _ :: _⟩,h=>by simp at h
theorem below_0 (p:Nat):SetTable.below #[p] 0=0:=by simp [SetTable.below,SetTable.below.go]
theorem below_1 (p:Nat):SetTable.below #[p] (p+1)=1:=by simp [SetTable.below,SetTable.below.go]
theorem ZGi {t:SetTable} {n:Nat} (h:t.fits n=true):t.place.size=n:=by
  simp only [SetTable.fits,Bool.and_eq_true,beq_iff_eq] at h
  exact h.1
theorem ZKQ (hb:byT w=false) (hh:A.handled=none) (I S:Addr) (hne:S≠I) {o:Obj} {es:Array (Int×Value)} {ep:Nat} {t:SetTable} (hd:o.data=.set es ep t) (hf:t.fits es.size=true) (h1:es.size≤1) (hl:t.led=true) :
    Walks prog w A I [I,S] [I] es.size (fun i v=>(es.toList.map (·.2))[i]?=some v) (fun i h=>IsSetIt h I (rawInt (((if i=0 then 0 else t.place.getD 0 0+1:Nat)):Int)) i S es.size ep∧h.get? S=some o) where
  sub:=fun b hb=>by simp at hb;simp [hb]
  frame:=fun _ _ _ x hk=>⟨x.1.at fun o e=>hk I (by simp) o e,hk S (by simp) _ x.2⟩
  item:=fun i s Q E hi x hQ=>by
    obtain rfl:i=0:=by omega
    have z:es.size=1:=by omega
    have zp:t.place.size=1:=(ZGi hf).trans z
    obtain ⟨e,rfl⟩:=ZHP es z
    obtain ⟨p,hp⟩:=ZHP t.place zp
    have hit:=x.1
    refine ZGS (x:=e.2) (nx:=p+1) hit x.2 hd hf rfl (fun A1 E1 Q1 q=>ZEM hb x.2 hd hf h1 hl (by rw [hp,if_pos rfl,below_0];exact q)) fun h' hit' sb=>?_
    refine hQ _ h' s.toks rfl ⟨?_,sb.extBut S o hne x.2⟩ fun b ob hb eo=>sb.extBut b ob (fun h=>hb (by simp [h])) eo
    rw [if_neg (by omega),hp]
    exact hit'
  done:=fun s Q E x hQ=>by
    refine ZD9 hh x.1 x.2 hd hf rfl (fun A1 E1 Q1 q=>ZEM hb x.2 hd hf h1 hl ?_) fun h' eb=>?_
    · by_cases z:es.size=0
      · rw [Array.getElem?_eq_none (by omega)];exact q
      · have z1:es.size=1:=by omega
        have zp:t.place.size=1:=(ZGi hf).trans z1
        obtain ⟨p,hp⟩:=ZHP t.place zp
        rw [if_neg z,hp]
        show Q1 (match es[SetTable.below #[p] (p+1)]?,(#[p]:Array Nat)[SetTable.below #[p] (p+1)]? with | some (_,x),some j=>some (x,j+1) | _,_=>none) s
        rw [below_1,Array.getElem?_eq_none (by omega)]
        exact q
    · exact hQ h' s.toks fun b ob hb eo=>eb b ob (fun h=>hb (by simp [h])) eo
  self:=fun _ _ _ _ x hQ=>ZDC x.1 hQ
theorem ZIH (hh:A.handled=none) (I S T:Addr) (hne:S≠I) (hnT:T≠I) {o oT:Obj} {es:Array (Int×Value)} {ep nT:Nat} {t:SetTable} (hd:o.data=.set es ep t) (hf:t.fits es.size=true) {ps:List Nat} (hp:ps.Perm (List.range es.size)) (hT:oT.data=.seq (ps.map fun i:Nat=>rawInt i).toArray nT) :
    Walks prog w A I [I,S,T] [I] es.size (fun i v=>(ps.map fun p=>(es[p]?.map (·.2)).getD .none)[i]?=some v) (fun i h=>IsSetIt h I (.ref T) i S es.size ep∧h.get? S=some o∧h.get? T=some oT) where
  sub:=fun b hb=>by simp at hb;simp [hb]
  frame:=fun _ _ _ x hk=>⟨x.1.at fun o e=>hk I (by simp) o e,hk S (by simp) _ x.2.1,hk T (by simp) _ x.2.2⟩
  item:=fun i s Q E hi x hQ=>by
    have hl:ps.length=es.size:=by have q:=hp.length_eq;simpa using q
    have hi2:i < ps.length:=by omega
    have hpi:ps[i] < es.size:=by
      have q:=hp.mem_iff.mp (List.getElem_mem hi2)
      simpa using q
    have he:es[ps[i]]?=some es[ps[i]]:=Array.getElem?_eq_getElem hpi
    refine ZIw (pl:=ps[i]) (e:=es[ps[i]]) x.1 x.2.1 hd hf rfl x.2.2 hT (by rw [List.getElem?_toArray,List.getElem?_map,List.getElem?_eq_getElem hi2];rfl) he fun h' hit' sb=>?_
    exact hQ _ h' s.toks (by rw [List.getElem?_map,List.getElem?_eq_getElem hi2];simp only [Option.map_some,he,Option.getD_some]) ⟨hit',sb.extBut S o hne x.2.1,sb.extBut T oT hnT x.2.2⟩ fun b ob hb eo=>sb.extBut b ob (fun h=>hb (by simp [h])) eo
  done:=fun s Q E x hQ=>by
    have hl:ps.length=es.size:=by have q:=hp.length_eq;simpa using q
    refine ZEv hh x.1 x.2.1 hd hf rfl x.2.2 hT (by rw [List.getElem?_toArray,List.getElem?_map,List.getElem?_eq_none (by omega)];rfl) fun h' eb=>?_
    exact hQ h' s.toks fun b ob hb eo=>eb b ob (fun h=>hb (by simp [h])) eo
  self:=fun _ _ _ _ x hQ=>ZDC x.1 hQ
end
theorem ZJI (es:Array (Int×Value)):(List.range es.size).map (fun p=>(es[p]?.map (·.2)).getD Value.none)=es.toList.map (·.2):=by
  refine List.ext_getElem (by simp) fun i h1 h2=>?_
  have hi:i < es.size:=by simpa using h1
  simp [Array.getElem?_eq_getElem hi]
theorem strs_of {prog:Program} {w:World} {l:List (Int×Value)} (h:ElemsOf (PySem.strKind prog w) l):∃ ts,StrsAre (l.map (·.2)) ts∧∀ k,k∈ts↔∃ e∈l,(PySem.strKind prog w).is k e.2=true:=by
  induction l with
  | nil=>exact ⟨[],.nil,fun k=>by simp⟩
  | cons e r ih=>
    obtain ⟨ts,h1,h2⟩:=ih h.tail
    obtain ⟨⟨k,hk,_⟩,_⟩:=h.head
    obtain ⟨tk,he⟩:=Value.isStrOf_shape hk
    refine ⟨k :: ts,?_,fun k'=>?_⟩
    · rw [List.map_cons,he];exact .cons k tk h1
    · rw [List.mem_cons,h2 k']
      constructor
      · rintro (rfl | ⟨x,hx,q⟩)
        · exact ⟨e,List.mem_cons_self,hk⟩
        · exact ⟨x,List.mem_cons_of_mem _ hx,q⟩
      · rintro ⟨x,hx,q⟩
        rcases List.mem_cons.mp hx with rfl | hx
        · exact .inl ((PySem.strKind prog w).inj x.2 k' k q hk)
        · exact .inr ⟨x,hx,q⟩
theorem StrsAre.len:∀ {vs:List Value} {ss:List Str},StrsAre vs ss→vs.length=ss.length
  | _,_,.nil=>rfl
  | _,_,.cons _ _ h=>by rw [List.length_cons,List.length_cons,StrsAre.len h]
theorem StrsAre.perm {vs vs':List Value} {ss:List Str} (h:StrsAre vs ss) (p:vs'.Perm vs):∃ ss',StrsAre vs' ss'∧ss'.Perm ss:=by
  refine ⟨vs'.map strOf,strsAre_map vs' fun v hv=>h.all v (p.mem_iff.mp hv),?_⟩
  rw [← h.strs]
  exact p.map strOf
section
variable {prog:Program} {w:World} {A:Around} {E:Value→Shared→Prop} {s:Shared}
theorem iter_set {S:Addr} {f:Str→Bool} {n:Nat} {Q:Value→Shared→Prop} (hS:SetT prog w s.heap S f n)
    (h:∀ (I:Addr) (h1:Heap) (d:_) (fp:List Addr) (vs:List Value) (ts:List Str) (St:Nat→Heap→Prop),(∀ A2:Around,A2.handled=none→Walks prog w A2 I fp [I] n (fun i v=>vs[i]?=some v) St)→St 0 h1→(∀ b∈fp,b=S∨s.heap.objs.size≤b∧b < h1.objs.size)→s.heap.objs.size≤I→s.heap.objs.size≤h1.objs.size→
      (∀ b o,s.heap.get? b=some o→h1.get? b=some o)→StrsAre vs ts→ts.length=n→(∀ k,f k=true↔k∈ts)→Q (.ref I) { s with heap:=h1,drawn:=d }):wpAny (model prog w) A (pyIter (.ref S)) Q E s:=by
  obtain ⟨o,es,ep,t,ho,hex,hd,hel,hmem,hb,hf,hn,hled,hpl⟩:=hS
  subst hn
  have hT:s.TypeIs (.ref S) "set" := ⟨o,ho,hex.1⟩
  have hlt:S < s.heap.objs.size:=Heap.lt_size ho
  obtain ⟨ts0,t1,t2⟩:=strs_of hel
  have fin:∀ (I:Addr) (h1:Heap) (d:_) (fp:List Addr) (vs:List Value) (St:Nat→Heap→Prop),(∀ A2:Around,A2.handled=none→Walks prog w A2 I fp [I] es.size (fun i v=>vs[i]?=some v) St)→St 0 h1→(∀ b∈fp,b=S∨s.heap.objs.size≤b∧b < h1.objs.size)→s.heap.objs.size≤I→s.heap.objs.size≤h1.objs.size→
      (∀ b o,s.heap.get? b=some o→h1.get? b=some o)→vs.Perm (es.toList.map (·.2))→Q (.ref I) { s with heap:=h1,drawn:=d }:=by
    intro I h1 d fp vs St a1 a2 a3 a4 a5 a6 a7
    obtain ⟨ts,q1,q2⟩:=StrsAre.perm t1 a7
    refine h I h1 d fp vs ts St a1 a2 a3 a4 a5 a6 q1 ?_ fun k=>?_
    · rw [q2.length_eq,← StrsAre.len t1];simp
    · rw [hmem k,← t2 k];exact q2.mem_iff.symm
  refine wpAny_pyIter_slot hT F.slot_set_iter (wpAny_call_entry F.slot_set_iter hT ZEW ?_ (F.args_set_iter_1 _))
  unfold Builtin.«frozenset.__iter__»
  refine wpAny_bind (wpAny_of_eq (a:=S) rfl ?_)
  refine wpAny_bind ?_
  unfold Builtin.Frozenset.sizeOf
  refine wpAny_bind (wpAny_setEntries_of ho hd hf (wpAny_pure ?_))
  refine wpAny_bind (ZEp ho hd hf ?_)
  by_cases hdr:(!byT w && (!t.plain && decide (es.size > 1)))=true
  · rw [if_pos hdr]
    refine wpAny_bind ?_
    refine ZEY es.size (List.range es.size) _ _ (by rw [List.length_range];exact Nat.le_refl _) fun ps d hp=>?_
    have pz:(ps.map fun i:Nat=>rawInt i).length≤sizeLine:=by rw [List.length_map,hp.length_eq,List.length_range];exact fits_of_scanBound hb
    refine wpAny_bind (wpAny_newTuple ?_ pz)
    dsimp only
    refine wpAny_bind (wpAny_setEpoch_of (s:={ s with heap:=_,drawn:=d }) (Heap.get?_push_of_some _ ho) hd hf ?_)
    refine wpAny_bind (wpAny_newObj_type ?_)
    have g:∀ (q:Obj) (b:Addr) (ob:Obj),s.heap.get? b=some ob→((s.heap.push (seqObj "tuple" (ps.map fun i:Nat=>rawInt i).toArray 0)).push q).get? b=some ob:=fun q b ob e=>Heap.get?_push_of_some _ (Heap.get?_push_of_some _ e)
    have sz1:(s.heap.push (seqObj "tuple" (ps.map fun i:Nat=>rawInt i).toArray 0)).objs.size=s.heap.objs.size+1:=Heap.size_push ..
    refine wpAny_pure ⟨_,rfl, "set_iterator", _,⟨_,Heap.get?_push_size _ rfl,rfl⟩,slot_setit_next.lookup,?_⟩
    refine fin _ _ d [(s.heap.push (seqObj "tuple" (ps.map fun i:Nat=>rawInt i).toArray 0)).objs.size,S,s.heap.objs.size] _ _ (fun A2 hh=>ZIH hh _ S s.heap.objs.size (by rw [sz1];exact Nat.ne_of_lt (Nat.lt_succ_of_lt hlt)) (by rw [sz1];exact Nat.ne_of_lt (Nat.lt_succ_self _)) hd hf hp (oT:=seqObj "tuple" (ps.map fun i:Nat=>rawInt i).toArray 0) rfl) ⟨⟨_,Heap.get?_push_size _ rfl,rfl,rfl⟩,g _ _ _ ho,Heap.get?_push_of_some _ (Heap.get?_push_size _ rfl)⟩ ?_ (by show s.heap.objs.size≤(s.heap.push (seqObj "tuple" (ps.map fun i:Nat=>rawInt i).toArray 0)).objs.size;rw [sz1];exact Nat.le_succ _) ?_ (g _) ?_
    · intro b hb'
      simp only [List.mem_cons,List.not_mem_nil,or_false] at hb'
      rw [Heap.size_push,sz1]
      rcases hb' with rfl | rfl | rfl
      · right;rw [sz1];exact ⟨Nat.le_succ _,Nat.lt_succ_self _⟩
      · left;rfl
      · right;exact ⟨Nat.le_refl _,Nat.lt_succ_of_lt (Nat.lt_succ_self _)⟩
    · rw [Heap.size_push,sz1];exact Nat.le_succ_of_le (Nat.le_succ _)
    · rw [← ZJI];exact hp.map _
  · rw [if_neg hdr]
    refine wpAny_bind (wpAny_pure ?_)
    refine wpAny_bind (wpAny_setEpoch_of ho hd hf ?_)
    refine wpAny_bind (wpAny_newObj_type ?_)
    have g:∀ (q:Obj) (b:Addr) (ob:Obj),s.heap.get? b=some ob→(s.heap.push q).get? b=some ob:=fun q b ob e=>Heap.get?_push_of_some _ e
    refine wpAny_pure ⟨_,rfl, "set_iterator", _,⟨_,Heap.get?_push_size _ rfl,rfl⟩,slot_setit_next.lookup,?_⟩
    have hfp:∀ (q:Obj),∀ b∈[s.heap.objs.size,S],b=S∨s.heap.objs.size≤b∧b < (s.heap.push q).objs.size:=by
      intro q b hb'
      simp only [List.mem_cons,List.not_mem_nil,or_false] at hb'
      rw [Heap.size_push]
      rcases hb' with rfl | rfl
      · right;omega
      · left;rfl
    cases hbt:byT w with
    | true=>
      refine fin _ _ s.drawn [s.heap.objs.size,S] _ _ (fun A2 hh=>ZIf hbt hh _ S (Nat.ne_of_lt hlt) hd hf) ⟨⟨_,Heap.get?_push_size _ rfl,rfl,rfl⟩,g _ _ _ ho⟩ (hfp _) (Nat.le_refl _) (by rw [Heap.size_push];omega) (g _) ?_
      exact (ZEB _ _).map _
    | false=>
      have h1:es.size≤1:=by
        rw [hbt] at hdr
        by_cases z:es.size≤1
        · exact z
        · rw [hpl (by omega),decide_eq_true (by omega:es.size > 1)] at hdr
          exact absurd rfl hdr
      refine fin _ _ s.drawn [s.heap.objs.size,S] _ _ (fun A2 hh=>ZKQ hbt hh _ S (Nat.ne_of_lt hlt) hd hf h1 (by rw [hled,hbt];rfl)) ⟨⟨_,Heap.get?_push_size _ rfl,rfl,rfl⟩,g _ _ _ ho⟩ (hfp _) (Nat.le_refl _) (by rw [Heap.size_push];omega) (g _) (List.Perm.refl _)
theorem ZKJ:typeLookup (.type "set") "__len__" = pure (some (.builtin "set.__len__")):=by rw [typeLookup_type,builtinLookup_eq_fast];kernel_rfl
theorem ZHx {S:Addr} {f:Str→Bool} {n:Nat} {Q:List Value→Shared→Prop} (hh:A.handled=none) (hS:SetT prog w s.heap S f n) (hn:n≤sizeLine)
    (h:∀ (s':Shared) (vs:List Value) (ts:List Str),(∀ b o,s.heap.get? b=some o→s'.heap.get? b=some o)→s.heap.objs.size≤s'.heap.objs.size→s'.gens=s.gens→s'.os=s.os→StrsAre vs ts→ts.length=n→(∀ k,f k=true↔k∈ts)→Q vs s') :
    wpAny (model prog w) A (collect (.ref S)) Q E s:=by
  have hlt:S < s.heap.objs.size:=by obtain ⟨o,_,_,_,ho,_⟩:=hS;exact Heap.lt_size ho
  have hLS:s.heap.objs.size≠S:=Nat.ne_of_gt hlt
  unfold collect
  refine wpAny_bind (wpAny_runValue (codeAny_builtin F.entry_proto_collect ?_))
  rw [Around.under_plainId F.plain_proto_collect _]
  show wpAny _ A.in1 (newList [] >>= fun l=>again (.builtin "list.__iadd__" ⟨[l,.ref S],[]⟩)) _ _ s
  refine wpAny_bind (wpAny_newObj_type ?_)
  refine wpAny_pure ⟨plainId_quiet F.plain_list_iadd _,codeAny_builtin F.entry_list_iadd ?_⟩
  rw [Around.under_plainId F.plain_list_iadd _]
  generalize hso:({ cls:=.type "list", data:=.seq ([]:List Value).toArray }:Obj)=so
  have hS1:SetT prog w (s.heap.push so) S f n:=hS.keep fun o e=>Heap.get?_push_of_some _ e
  have hL1:(s.heap.push so).get? s.heap.objs.size=some so:=Heap.get?_push_size _ (by rw [← hso];rfl)
  have sz:(s.heap.push so).objs.size=s.heap.objs.size+1:=Heap.size_push ..
  have hT1:Shared.TypeIs { s with heap:=s.heap.push so } (.ref S) "set" := by obtain ⟨o,_,_,_,ho,hex,_⟩:=hS1;exact ⟨o,ho,hex.1⟩
  have h1:Builtin.List.listSameRef (.ref s.heap.objs.size) (.ref S)=false:=by simp [Builtin.List.listSameRef,hLS]
  show wpAny _ A.in1 (Builtin.List.listExtendWith (.ref s.heap.objs.size) (.ref S) (.ref s.heap.objs.size)) _ _ { s with heap:=s.heap.push so }
  unfold Builtin.List.listExtendWith
  refine wpAny_bind (wpAny_typeOf hT1 ?_)
  rw [if_neg (by rw [h1];decide)]
  refine wpAny_bind (iter_set (s:={ s with heap:=s.heap.push so }) hS1 fun I h2 d fp vs ts St W st0 hfp hI hsz2 kp vts tl tm=>?_)
  have hSf:s.heap.objs.size∉fp:=fun hm=>by
    rcases hfp _ hm with z | ⟨z,_⟩
    · exact hLS z
    · have z':(s.heap.push so).objs.size≤s.heap.objs.size:=z
      rw [sz] at z'
      omega
  have hT2:Shared.TypeIs { s with heap:=h2,drawn:=d } (.ref S) "set" := by obtain ⟨o,ho,hc⟩:=hT1;exact ⟨o,kp _ _ ho,hc⟩
  refine wpAny_bind (wpAny_holding ?_)
  unfold Builtin.List.listLengthHint
  refine wpAny_bind (wpAny_specialOf hT2 ZKJ ?_)
  generalize hid:("set.__len__" : String)=id0
  wp_delta
  rw [show splitId id0=some ("set", "__len__") from by subst hid;decide +kernel]
  subst hid
  refine wpAny_bind (wpAny_isInstance (b:=true) hT2 (by rw [isSubtype_type];kernel_rfl) ?_)
  rw [if_neg (by decide)]
  refine wpAny_ite_split (fun _=>?_) (fun hab=>absurd (by decide +kernel) hab)
  refine wpAny_bind (wpAny_typeOf hT2 ?_)
  refine wpAny_pure ?_
  refine wpAny_ite_split (fun _=>?_) (fun hab=>absurd (by decide +kernel) hab)
  refine wpAny_bind (wpAny_rule ?_)
  refine wpAny_bind ?_
  show wpAny _ _ (updateSeq s.heap.objs.size (·.push .none) >>= fun _=>updateSeq s.heap.objs.size (·.pop)) _ _ _
  have z0:(#[]:Array Value).size≤sizeLine:=Nat.zero_le _
  have z1:((#[]:Array Value).push Value.none).size≤sizeLine:=by show 1≤sizeLine;decide
  have z2:((#[]:Array Value).push Value.none).size≤sizeLine+1:=Nat.le_succ_of_le z1
  have z3:(((#[]:Array Value).push Value.none).pop).size≤sizeLine+1:=Nat.zero_le _
  have hL2:=kp _ _ hL1
  subst hso
  refine wpAny_bind (wpAny_updateSeq (s:={ s with heap:=h2,drawn:=d }) hL2 rfl ?_ z0 z2)
  have q2:=Heap.get?_update_self (Obj.mapSeq (·.push Value.none)) hL2 rfl
  refine wpAny_updateSeq q2 rfl ?_ z1 z3
  have q3:=Heap.get?_update_self (Obj.mapSeq (·.pop)) q2 rfl
  have oth:∀ b o,b≠s.heap.objs.size→h2.get? b=some o→((h2.update s.heap.objs.size (Obj.mapSeq (·.push Value.none))).update s.heap.objs.size (Obj.mapSeq (·.pop))).get? b=some o:=
    fun b o hb e=>(Heap.get?_update_other _ _ (Ne.symm hb)).trans ((Heap.get?_update_other _ _ (Ne.symm hb)).trans e)
  refine wpAny_pure ⟨plainId_quiet PySem.F.plain_extend_loop _,codeAny_extend_loopS (W A.in1 hh).toS hn _ hSf _ n 0 _ #[] _ rfl (Nat.zero_le _) ?_ q3 (ItemsOf.nil _) fun s' acc' c' hm hS' hacc=>?_⟩
  · exact (W A.in1 hh).frame 0 h2 _ st0 fun b hb o e=>oth b o (fun z=>hSf (z▸hb)) e
  · show wpAny _ A (load s.heap.objs.size >>= _) _ _ s'
    refine wpAny_bind (wpAny_load hS' ?_)
    have ev:acc'.toList=vs:=by
      have hvl:vs.length=n:=(StrsAre.len vts).trans tl
      refine List.ext_getElem? fun i=>?_
      by_cases hi:i < n
      · have h1:acc'[i]?=some (acc'[i]'(by rw [hacc.1];exact hi)):=Array.getElem?_eq_getElem _
        rw [Array.getElem?_toList,h1]
        exact (hacc.2 i _ h1).symm
      · rw [List.getElem?_eq_none (by rw [Array.length_toList,hacc.1];omega),List.getElem?_eq_none (by omega)]
    refine wpAny_pure ?_
    rw [← ev] at vts
    refine h s' acc'.toList ts (fun b o e=>?_) (Nat.le_of_lt (Heap.lt_size hS')) hm.gens hm.os vts tl tm
    have hb:b < s.heap.objs.size:=Heap.lt_size e
    refine hm.heap b o ?_ (oth b o (Nat.ne_of_lt hb) (kp b o (Heap.get?_push_of_some _ e)))
    simp only [List.mem_cons,List.not_mem_nil,or_false,not_or]
    refine ⟨Nat.ne_of_lt hb,?_⟩
    have hI':s.heap.objs.size+1≤I:=by rw [← sz];exact hI
    exact Nat.ne_of_lt (Nat.lt_of_lt_of_le hb (Nat.le_of_succ_le hI'))
end
end L2
set_option Elab.async false
set_option linter.all false
set_option maxRecDepth 100000
set_option maxHeartbeats 4000000
namespace L2
open PySem PySem.Spec PyProof.Rows
section
variable {prog:Program} {w:World} {A:Around} {R:Result→Shared→Prop} {I:Addr} {fp wr:List Addr} {G:Array GenState→Array GenState→Prop} {n:Nat} {P:Nat→Value→Prop} {St:Nat→Shared→Prop} {ss:List Str}
theorem ZJF (W:WalksS prog w A.in1 I fp wr G ss.length P St) (S:Addr) (hSf:S∉fp) (hval:∀ i v,P i v→∃ (h:i < ss.length) (t:Tok),v=.str ss[i] t) (hb:ss.length+1 < scanBound) :
    ∀ (k i:Nat) (s:Shared),ss.length - i=k→i≤ss.length→St i s→SetT prog w s.heap S (fun k'=>(dd (ss.take i)).any (· == k')) (dd (ss.take i)).length→
      (∀ s',Moved (S :: wr) G s s'→SetT prog w s'.heap S (fun k'=>(dd ss).any (· == k')) (dd ss).length→R (.ok (.ret .none)) s')→
      codeAny (model prog w) A (.builtin "set.update.loop" ⟨[.ref S,.ref I],[]⟩) R s:=by
  have hSw:S∉wr:=fun h=>hSf (W.sub _ h)
  have keepS:∀ {s s':Shared} {f:Str→Bool} {m:Nat},Moved wr G s s'→SetT prog w s.heap S f m→SetT prog w s'.heap S f m:=fun hm hS=>hS.keep fun o ho=>hm.heap S _ hSw ho
  intro k
  induction k with
  | zero=>
    intro i s hk hi hst hS fin
    have e:i=ss.length:=by omega
    subst e
    refine codeAny_builtin PyProof.Rows.F.entry_set_update_loop ?_
    rw [Around.under_plainId PyProof.Rows.F.plain_set_update_loop _]
    show wpAny _ A.in1 (pyNext (.ref I) >>= _) _ _ s
    refine wpAny_bind (W.done s _ _ hst fun s' hm=>?_)
    show wpAny _ A.in1 (ret Value.none) _ _ s'
    rw [List.take_length] at hS
    exact wpAny_pure (fin s' (hm.mono fun b hb=>List.mem_cons_of_mem _ hb) (keepS hm hS))
  | succ k ih=>
    intro i s hk hi hst hS fin
    have hlt:i < ss.length:=by omega
    refine codeAny_builtin PyProof.Rows.F.entry_set_update_loop ?_
    rw [Around.under_plainId PyProof.Rows.F.plain_set_update_loop _]
    show wpAny _ A.in1 (pyNext (.ref I) >>= _) _ _ s
    refine wpAny_bind (W.item i s _ _ hlt hst fun v s' hP hst' hm=>?_)
    obtain ⟨_,t,rfl⟩:=hval i v hP
    have hS':=keepS hm hS
    show wpAny _ A.in1 (holding [Value.str ss[i] t] (setAdd S (.str ss[i] t)) >>= _) _ _ s'
    refine wpAny_bind (wpAny_holding ?_)
    unfold setAdd
    have his:(PySem.strKind prog w).is ss[i] (.str ss[i] t)=true:=PySem.strKind_is prog w ss[i] t
    refine wpAny_holding (wpAny_bind ((PySem.strKind prog w).pyHash his ?_))
    have hroom:(dd (ss.take i)).length+1 < scanBound:=by
      have:=ZJO (ss.take i)
      rw [List.length_take] at this
      omega
    refine SetT.put (s:={ s' with toks:=s'.toks+1 }) hS' hroom fun h' hsb hS2=>?_
    have hSi:SetT prog w h' S (fun k'=>(dd (ss.take (i+1))).any (· == k')) (dd (ss.take (i+1))).length:=
      hS2.congr (fun k'=>by rw [ZJR ss i hlt,ZIm]) (by rw [ZJR ss i hlt,ZFc])
    refine wpAny_pure ⟨plainId_quiet PyProof.Rows.F.plain_set_update_loop _,ih (i+1) _ (by omega) hlt (W.frame _ s' _ _ hst' (Nat.le_succ _) fun b hb o e=>?_) hSi fun s'' hm'' hS''=>?_⟩
    · rw [hsb.2 b (by rintro rfl;exact hSf hb)];exact e
    · refine fin s'' (Moved.trans W.gtrans ((hm.mono fun b hb=>List.mem_cons_of_mem _ hb).then_heap (Nat.le_succ _) fun b o hb e=>?_) hm'') hS''
      rw [hsb.2 b (by rintro rfl;exact hb List.mem_cons_self)];exact e
end
section
variable {prog:Program} {w:World} {A:Around} {E:Value→Shared→Prop} {s:Shared} {ss:List Str}
theorem ZFu (a:Value) {Q₁:Value→Shared→Prop}
    (h:Q₁ (.ref s.heap.objs.size) { s with heap:=s.heap.push { cls:=.type "set", dict:=none,data:=.set #[] 0 (.fresh 0 0 (!byT w)) } }) :
    codeAny (model prog w) A (.call (.builtin "set.__new__") ⟨[.type "set", a],[]⟩) (wants Q₁ E) s:=by
  refine codeAny_of_tree ?_
  show wpAny _ A.in1 (do checkBuiltinCall "set.__new__" ⟨[.type "set", a],[]⟩;again (.builtin "set.__new__" ⟨[.type "set", a],[]⟩)) _ _ s
  refine wpAny_bind (wpAny_of_eq (PySem.F.newCall_set_1 a) ?_)
  refine wpAny_pure ⟨plainId_quiet PySem.F.plain_set_new _,codeAny_builtin PySem.F.entry_set_new ?_⟩
  rw [Around.under_plainId PySem.F.plain_set_new _]
  unfold Builtin.«set.__new__» Builtin.Frozenset.newClass
  have hsub:isSubtype (.type "set") (.type "set")=pure true:=by rw [isSubtype_type];kernel_rfl
  obtain ⟨hp,g,d,tk,os⟩:=s
  dsimp only
  wp_walk
  refine wpAny_askSetting (wpAny_pure ?_)
  dsimp only
  simp only [newObj]
  refine wpAny_bind (wpAny_alloc (wpAny_pure ?_))
  exact wpAny_pure h
theorem ZEQ {l:Addr} {T:String} {items:Array Value} {nl:Nat} {od:Option Addr} {osl:Array (Option Value)} {Q:Value→Shared→Prop} (ho:s.heap.get? l=some { cls:=.type T,dict:=od,data:=.seq items nl,slots:=osl })
    (hs1:isSubtype (.type T) (.type "set")=pure false) (hs2:isSubtype (.type T) (.type "frozenset")=pure false) (hne:(Value.type T == Value.type "dict")=false) (hb:ss.length+1 < scanBound)
    (hit:∀ (s1:Shared) (A1:Around) (Q1:Value→Shared→Prop),A1.handled=A.handled→s1.heap.get? l=s.heap.get? l→l < s1.heap.objs.size→
      (∀ ob St P,WalksS prog w A1.in1 s1.heap.objs.size [s1.heap.objs.size,l] [s1.heap.objs.size] (fun a b=>b=a) ss.length P St→(∀ i v,P i v→∃ (h:i < ss.length) (t:Tok),v=.str ss[i] t)→St 0 { s1 with heap:=s1.heap.push ob }→Q1 (.ref s1.heap.objs.size) { s1 with heap:=s1.heap.push ob })→
      wpAny (model prog w) A1 (pyIter (.ref l)) Q1 E s1)
    (h:∀ (h':Heap) (tk:Nat),SetT prog w h' s.heap.objs.size (fun k'=>(dd ss).any (· == k')) (dd ss).length→(∀ b o,b < s.heap.objs.size→s.heap.get? b=some o→h'.get? b=some o)→Q (.ref s.heap.objs.size) { s with heap:=h',toks:=tk }) :
    wpAny (model prog w) A (call (.type "set") [.ref l]) Q E s:=by
  have hlt:l < s.heap.objs.size:=Heap.lt_size ho
  obtain ⟨c,tl,hmro⟩:=PySem.F.called_set.mro
  have hmade:=PySem.F.called_set.made;have hsub:=PySem.F.called_set.sub
  refine wpAny_call (codeAny_of_tree (by
    show wpAny _ _ (callAny (.type "set") _) _ _ _
    refine wpAny_pure ⟨Code.quiet_builtin _ (by decide +kernel),codeAny_builtin PySem.F.entry_type_call ?_⟩
    rw [Around.under_plain (weight_type_call_type "set" [.ref l] []) rfl]
    have h1:=PySem.F.called_set.notType;have h2:=PySem.F.called_set.canCreate;have hct:=PySem.F.typeCall_set_1 (.ref l)
    repeat (any_goals (first | assumption | wp_step))
    refine codeAny_mono (ZFu (.ref l) (E:=E) (Q₁:=fun obj s₁=>obj=.ref s.heap.objs.size∧s₁={ s with heap:=s.heap.push { cls:=.type "set", dict:=none,data:=.set #[] 0 (.fresh 0 0 (!byT w)) } }) ⟨rfl,rfl⟩) fun r s₁ hr=>?_
    cases r with
    | error e=>exact hr
    | ok fl=>
      cases fl with
      | ret obj=>
        obtain ⟨rfl,rfl⟩:=hr
        generalize hSo:({ cls:=.type "set", dict:=none,data:=.set #[] 0 (.fresh 0 0 (!byT w)) }:Obj)=so
        have hsz:(s.heap.push so).objs.size=s.heap.objs.size+1:=Heap.size_push ..
        have hS:(s.heap.push so).get? s.heap.objs.size=some so:=Heap.get?_push_size _ (by rw [← hSo];rfl)
        have hT:Shared.TypeIs { s with heap:=s.heap.push so } (.ref s.heap.objs.size) "set" := ⟨_,hS,by rw [← hSo]⟩
        have hli:=PySem.F.called_set.init.lookup;have hbi:=PySem.F.called_set.init.bind (.ref s.heap.objs.size)
        repeat (any_goals (first | assumption | wp_step))
        refine codeAny_mono (codeAny_call_builtin (R:=wants (fun r s₂=>r=.none∧∃ h' tk,s₂={ s with heap:=h',toks:=tk }∧SetT prog w h' s.heap.objs.size (fun k'=>(dd ss).any (· == k')) (dd ss).length∧
            (∀ b o,b < s.heap.objs.size→s.heap.get? b=some o→h'.get? b=some o)) E) PySem.F.called_set.init.plain PySem.F.entry_set_init (check_set_init_1 hT ?_)) fun r₂ s₂ hr₂=>?_
        · have ho':(s.heap.push so).get? l=some { cls:=.type T,dict:=od,data:=.seq items nl,slots:=osl }:=Heap.get?_push_of_some _ ho
          subst hSo
          unfold Builtin.«set.__init__» noKeywords Builtin.Frozenset.updateFrom
          generalize hPI:pyIter=PI
          wp_walk
          subst hPI
          refine hit { s with heap:=s.heap.push _ } _ _ rfl (ho'.trans ho.symm) (Nat.lt_of_lt_of_eq (Nat.lt_succ_of_lt hlt) hsz.symm) fun ob St P W hval st0=>?_
          refine wpAny_bind (wpAny_runValue ?_)
          have hSf:s.heap.objs.size∉[(s.heap.push { cls:=.type "set", dict:=none,data:=.set #[] 0 (.fresh 0 0 (!byT w)) }).objs.size,l]:=by
            rw [hsz];simp only [List.mem_cons,List.not_mem_nil,or_false,not_or]
            exact ⟨Nat.ne_of_lt (Nat.lt_succ_self _),Nat.ne_of_gt hlt⟩
          refine ZJF W s.heap.objs.size hSf hval hb (ss.length - 0) 0 _ rfl (Nat.zero_le _) st0 ?_ ?_
          · have hg:=Heap.get?_push_of_some ob hS
            exact ⟨_,#[],0,_,hg,⟨rfl,rfl,rfl⟩,rfl,fun e he=>by simp at he,fun k=>by simp [dd],by decide,by rfl,rfl,rfl,fun h=>absurd h (by simp)⟩
          · intro s' hm hS'
            obtain ⟨h',g',d',tk',os'⟩:=s'
            have eg:g'=s.gens:=hm.gens
            have ed:d'=s.drawn:=hm.drawn
            have eo:os'=s.os:=hm.os
            subst eg;subst ed;subst eo
            show wpAny _ _ _ _ _ _
            refine wpAny_pure ?_
            show wpAny _ _ (ret Value.none) _ _ _
            refine wpAny_pure ⟨rfl,h',tk',rfl,hS',fun b o hb' e=>?_⟩
            refine hm.heap b o ?_ (Heap.get?_push_of_some _ (Heap.get?_push_of_some _ e))
            rw [hsz];simp only [List.mem_cons,List.not_mem_nil,or_false,not_or]
            exact ⟨Nat.ne_of_lt hb',Nat.ne_of_lt (Nat.lt_succ_of_lt hb')⟩
        · cases r₂ with
          | error e=>exact hr₂
          | ok fl₂=>
            cases fl₂ with
            | ret r=>
              obtain ⟨rfl,h',tk,rfl,hS',hk'⟩:=hr₂
              repeat (any_goals (first | assumption | wp_step))
              exact h _ _ hS' hk'
            | _=>exact hr₂.elim
      | _=>exact hr.elim))
end
def ZGY (P:Program) (w:World) (a:Addr) (f:Str→Bool) (n:Nat):HO:=.ext fun h=>SetT P w h a f n
section
variable {X:Cx}
theorem ZKm (hc:X.calm=true):ZBr X (.type "set") (fun xs H Q=>∃ (p:Addr) (tp:Bool) (ss:List Str),xs=[.ref p]∧SqB X.K tp H p (ss.map V.str)∧ss.length < 4000∧
    ∀ l,H l=none→Q (.ref l) (upd H l (ZGY X.prog X.w l (fun k'=>(dd ss).any (· == k')) (dd ss).length))):=by
  intro pins s σ H xs us Q I r h
  obtain ⟨p,tp,ss,rfl,hq,hz,q⟩:=h
  obtain ⟨u,rfl,rx⟩:=ZCl r
  cases rx
  have hb:ss.length+1 < scanBound:=by unfold scanBound;omega
  have fin:∀ (h':Heap) (tk:Nat),SetT X.prog X.w h' s.heap.objs.size (fun k'=>(dd ss).any (· == k')) (dd ss).length→(∀ b o,b < s.heap.objs.size→s.heap.get? b=some o→h'.get? b=some o)→
      EP X pins σ Q (.ref s.heap.objs.size) { s with heap:=h',toks:=tk }:=fun h' tk hS kp=>by
    refine ⟨.ref s.heap.objs.size,_,I.laid (t':=tk) (fun b o e=>kp b o (Heap.lt_size e) e) (Nat.le_refl _) (show ObjOk X.prog X.w _ h' _ (ZGY X.prog X.w s.heap.objs.size _ _) from ⟨hS,?_,fun h1 h2 hS1 kp1=>?_⟩),rfl,q _ (I.hok.fresh (Nat.le_refl _))⟩
    · obtain ⟨o,_,_,_,ho,_⟩:=hS
      exact ⟨o,ho⟩
    · exact hS1.keep kp1
  cases tp with
  | false=>
    obtain ⟨its,rv,pl,hz'⟩:=I.list hq
    have hl:=rv.length
    rw [List.length_map] at hl
    obtain ⟨⟨c,d,dt,sl⟩,n,ho,hcl,hd,hdt⟩:=id pl
    simp only at hcl hd hdt
    subst hcl;subst hd;subst hdt
    refine ZEQ ho PySem.F.sub_list_set PySem.F.sub_list_frozenset (by decide) hb (fun s1 A1 Q1 hA e1 l1 hQ1=>?_) fin
    have hl1:s1.heap.IsList p its.toArray:=⟨_,e1.trans ho,rfl,n,rfl⟩
    have hsz':its.toArray.size=ss.length:=List.size_toArray.trans hl.symm
    refine wpAny_pyIter_list hl1 (hQ1 _ (fun i s=>s.heap.IsListIter s1.heap.objs.size p i∧s.heap.IsList p its.toArray) (fun i v=>its.toArray[i]?=some v) (by
      have W:=(Walks.list (prog:=X.prog) (w:=X.w) (A:=A1.in1) (by rw [Around.in1_handled,hA];exact I.ok.hd hc) s1.heap.objs.size p (Nat.ne_of_lt l1) its.toArray).toS
      rw [hsz'] at W
      exact W) (fun i v e=>ZEa rv (by simpa using e)) ⟨⟨_,Heap.get?_push_size _ rfl,rfl,rfl⟩,hl1.push _⟩)
  | true=>
    obtain ⟨its,rv,pl,hz'⟩:=I.tuple hq
    have hl:=rv.length
    rw [List.length_map] at hl
    obtain ⟨⟨c,d,dt,sl⟩,ho,hcl,n,hdt⟩:=id pl
    simp only at hcl hdt
    subst hcl;subst hdt
    refine ZEQ ho ZFz ZD0 (by decide) hb (fun s1 A1 Q1 hA e1 l1 hQ1=>?_) fin
    have hl1:s1.heap.IsTuple p its.toArray:=⟨_,e1.trans ho,rfl,n,rfl⟩
    have hsz':its.toArray.size=ss.length:=List.size_toArray.trans hl.symm
    refine wpAny_pyIter_tuple hl1 (hQ1 _ (fun i s=>s.heap.IsTupleIter s1.heap.objs.size p i∧s.heap.IsTuple p its.toArray) (fun i v=>its.toArray[i]?=some v) (by
      have W:=(Walks.tuple (prog:=X.prog) (w:=X.w) (A:=A1.in1) (by rw [Around.in1_handled,hA];exact I.ok.hd hc) s1.heap.objs.size p (Nat.ne_of_lt l1) its.toArray).toS
      rw [hsz'] at W
      exact W) (fun i v e=>ZEa rv (by simpa using e)) ⟨⟨_,Heap.get?_push_size _ rfl,rfl,rfl⟩,?_⟩)
    exact ⟨_,Heap.get?_push_of_some _ (e1.trans ho),rfl,n,rfl⟩
theorem Inv.drew {pins:List (Addr×Obj)} {σ:St} {H:Hp} {s:Shared} (I:Inv X pins σ H s) (d:Drawn):Inv X pins σ H { s with drawn:=d }:=
  I.step (h':=s.heap) (g':=s.gens) (t':=s.toks) (d':=d) (ch:=[]) (fun _ z=>nomatch z) (fun b o _ _ _ e _=>e) (fun b o _ _ _ e _=>⟨o.slots,e⟩) (fun _ _ _ _ n=>n) (fun b o _ e=>⟨o,e⟩) (fun _ _ e=>e) (fun _ _ _ e=>e) (fun b ps e=>⟨#[],by rw [e];simp⟩) (fun m hm=>hm) I.hok I.bare
end
section
variable {prog:Program} {w:World} {A:Around} {E:Value→Shared→Prop} {s:Shared}
theorem ZI5 {l:Addr} {vs:List Value} {Q:List Value→Shared→Prop} (hl:IsTup s.heap l vs.toArray) (h:Q vs { s with heap:=(s.heap.push (seqObj "list" #[] 0)).update s.heap.objs.size (Obj.mapSeq (·++vs.toArray)) }) (hsz:vs.length≤sizeLine) :
    wpAny (model prog w) A (collect (.ref l)) Q E s:=by
  obtain ⟨o,ho,hc,n,hd⟩:=id hl
  unfold collect
  refine wpAny_bind (wpAny_runValue (codeAny_builtin entry_proto_collect' ?_))
  show wpAny _ _ (newList [] >>= fun x=>again (.builtin "list.__iadd__" ⟨[x,.ref l],[]⟩)) _ _ s
  refine wpAny_bind (wpAny_newList ?_)
  refine wpAny_pure ⟨Code.quiet_builtin _ (by decide +kernel),codeAny_builtin entry_list_iadd' ?_⟩
  show wpAny _ _ (Builtin.List.listExtendWith (.ref s.heap.objs.size) (.ref l) (.ref s.heap.objs.size)) _ _ { s with heap:=s.heap.push (seqObj "list" #[] 0) }
  unfold Builtin.List.listExtendWith
  have g:(s.heap.push (seqObj "list" #[] 0)).get? l=some o:=Heap.get?_push_of_some _ ho
  refine wpAny_bind (wpAny_typeOf (T := "tuple") ⟨o,g,hc⟩ ?_)
  rw [if_pos (by simp)]
  refine wpAny_bind (listItems_at g hd ?_)
  refine wpAny_bind (listItems_at (xs:=#[]) (n:=0) (Heap.get?_push_size _ rfl) rfl ?_)
  rw [if_neg (by simp)]
  refine wpAny_bind (listUpdate_at (xs:=#[]) (n:=0) (Heap.get?_push_size _ rfl) rfl ?_ (Nat.zero_le _) (by show (#[]++vs.toArray).size≤sizeLine+1;simp only [Array.size_append,List.size_toArray,List.length_nil];omega))
  refine wpAny_pure ?_
  show wpAny (model prog w) A (load s.heap.objs.size >>= fun o=>(match o.data with | .seq xs _=>pure xs.toList | _=>unsupported "internal:collect")) Q E _
  refine wpAny_bind (wpAny_load (get?_update_seq (Heap.get?_push_size _ rfl) _) ?_)
  show wpAny _ _ (pure ((#[]:Array Value)++vs.toArray).toList) Q E _
  have e:((#[]:Array Value)++vs.toArray).toList=vs:=by simp
  rw [e]
  exact wpAny_pure h
theorem ZFR {v:Value} {Pc:List Value→Shared→Prop} {Q:Value→Shared→Prop}
    (hc:∀ (A1:Around) (E1:Value→Shared→Prop) (Q1:List Value→Shared→Prop),A1.handled=A.handled→(∀ vs s1,Pc vs s1→Q1 vs s1)→wpAny (model prog w) A1 (collect v) Q1 E1 s)
    (h:∀ vs s1,Pc vs s1→vs.length < 64∧∃ ss,StrsAre vs ss∧∀ out ss' e h',(∀ b o,s1.heap.get? b=some o→h'.get? b=some o)→h'.get? s1.heap.objs.size=some (seqObj "list" out e)→StrsAre out.toList ss'→ss'.Perm ss→sortedS ss'=true→Q (.ref s1.heap.objs.size) { s1 with heap:=h' }) :
    wpAny (model prog w) A (call (.builtin "sorted") [v]) Q E s:=by
  refine Calls.call_function_entry kind_sorted plain_sorted entry_sorted (args_sorted1 _) ?_
  unfold Builtin.«sorted»
  refine wpAny_bind (m:=checkCount "sorted" 1 1 _) (wpAny_pure ?_)
  refine wpAny_bind (hc _ _ _ rfl fun vs s1 hp=>?_)
  obtain ⟨h64,ss,hss,k⟩:=h vs s1 hp
  refine wpAny_bind (wpAny_newList ?_)
  have hoL:(s1.heap.push (seqObj "list" vs.toArray 0)).get? s1.heap.objs.size=some (seqObj "list" vs.toArray 0):=Heap.get?_push_size _ rfl
  refine wpAny_bind (wpAny_holding (wpAny_call_entry slot_list_sort ⟨_,hoL,rfl⟩ entry_list_sort (list_sort_treeK (s:={ s1 with heap:=s1.heap.push (seqObj "list" vs.toArray 0) }) strKind_oneLt hoL hss.keysOf (fun v₁ v₂ rest e=>keyKind_strs (by rw [← e];exact hss)) h64 fun st' a1 a2=>⟨_,rfl,?_⟩) (args_list_sort _)))
  obtain ⟨ss',b1,b2,b3⟩:=sorted_out_str hss a1 a2
  obtain ⟨e,he⟩:=sortedHeap_at (out:=(arrOf st').map (·.2)) hoL
  refine wpAny_pure ⟨_,rfl,k _ ss' e _ (fun b o hb=>?_) he b1 b2 b3⟩
  have hlt:=Heap.lt_size hb
  rw [sortedHeap_old (Nat.ne_of_lt hlt) (by rw [Heap.size_push];exact Nat.lt_succ_of_lt hlt)]
  exact Heap.get?_push_of_some _ hb
end
theorem ZDT:∀ {ss:List Str} {us:List Value},Vals (ss.map V.str) us→StrsAre us ss
  | [],_,.nil=>.nil
  | x :: r,_,.cons ⟨t,e⟩ h=>by rw [e];exact .cons x t (ZDT h)
theorem ZDv:∀ {ss:List Str} {us:List Value},StrsAre us ss→Vals (ss.map V.str) us
  | _,_,.nil=>.nil
  | _,_,.cons x t h=>.cons ⟨t,rfl⟩ (ZDv h)
section
variable {X:Cx}
theorem ZEq {pins:List (Addr×Obj)} {σ:St} {H:Hp} {s s1:Shared} {Q:VK} (I:Inv X pins σ H s) (hg:s1.gens=s.gens) (ho:s1.os=s.os) (hk:∀ b o,s.heap.get? b=some o→s1.heap.get? b=some o) (hs:s.heap.objs.size≤s1.heap.objs.size)
    {out:Array Value} {ss':List Str} {e:Nat} {h':Heap} (kp:∀ b o,s1.heap.get? b=some o→h'.get? b=some o) (he:h'.get? s1.heap.objs.size=some (seqObj "list" out e)) (hS:StrsAre out.toList ss') (h64:ss'.length < 64)
    (q:∀ l,H l=none→Q (.ref l) (upd H l (.lst (ss'.map V.str)))):EP X pins σ Q (.ref s1.heap.objs.size) { s1 with heap:=h' }:=by
  obtain ⟨h1,g1,d1,t1,o1⟩:=s1
  simp only at hg ho hk hs kp he
  subst hg;subst ho
  refine ⟨.ref _,_,(I.drew d1).laid (a:=h1.objs.size) (h':=h') (t':=t1) (o:=.lst (ss'.map V.str)) (fun b o q=>kp b o (hk b o q)) hs ?_,rfl,q _ (I.hok.fresh hs)⟩
  refine ⟨?_,out.toList,e,ZDv hS,by simpa [seqObj] using he⟩
  rw [List.length_map]
  exact Nat.le_trans (Nat.le_of_lt h64) (by decide +kernel)
def ZJy (K:PySem.W.Frag):List V→Hp→VK→Prop:=fun xs H Q=>∃ (p:Addr) (tp:Bool) (ss:List Str),xs=[.ref p]∧SqB K tp H p (ss.map V.str)∧ss.length < 64∧∀ l ss',H l=none→ss'.Perm ss→sortedS ss'=true→Q (.ref l) (upd H l (.lst (ss'.map V.str)))
theorem ZDd:ZBr X (.builtin "sorted") (ZJy X.K):=by
  intro pins s σ H xs us Q I r h
  obtain ⟨p,tp,ss,rfl,hq,h64,q⟩:=h
  obtain ⟨u,rfl,rx⟩:=ZCl r
  cases rx
  have key:∀ its:List Value,Vals (ss.map V.str) its→(∀ (A1:Around) (E1:Value→Shared→Prop) (Q1:List Value→Shared→Prop),Q1 its { s with heap:=(s.heap.push (seqObj "list" #[] 0)).update s.heap.objs.size (Obj.mapSeq (·++its.toArray)) }→wpAny (model X.prog X.w) A1 (collect (.ref p)) Q1 E1 s)→
      wpAny (model X.prog X.w) X.A (call (.builtin "sorted") [.ref p]) (EP X pins σ Q) X.xe s:=by
    intro its rv hcol
    have hlen:=rv.length
    rw [List.length_map] at hlen
    refine ZFR (Pc:=fun vs s1=>vs=its∧s1={ s with heap:=(s.heap.push (seqObj "list" #[] 0)).update s.heap.objs.size (Obj.mapSeq (·++its.toArray)) }) (fun A1 E1 Q1 _ k=>hcol A1 E1 Q1 (k _ _ ⟨rfl,rfl⟩)) ?_
    rintro vs s1 ⟨rfl,rfl⟩
    refine ⟨by omega,ss,ZDT rv,fun out ss' e h' kp he hS hp hs=>?_⟩
    refine ZEq (s1:={ s with heap:=(s.heap.push (seqObj "list" #[] 0)).update s.heap.objs.size (Obj.mapSeq (·++vs.toArray)) }) I rfl rfl (fun b o hb=>?_) (by show s.heap.objs.size≤((s.heap.push (seqObj "list" #[] 0)).update s.heap.objs.size (Obj.mapSeq (·++vs.toArray))).objs.size;rw [Heap.size_update,Heap.size_push];exact Nat.le_succ _) kp he hS (by rw [hp.length_eq];exact h64) fun l hl=>q l ss' hl hp hs
    show ((s.heap.push _).update _ _).get? b=some o
    rw [Heap.get?_update_ne _ _ _ _ (Nat.ne_of_lt (Heap.lt_size hb))]
    exact Heap.get?_push_of_some _ hb
  cases tp with
  | false=>
    obtain ⟨its,rv,pl,hz⟩:=I.list hq
    have hlen:=rv.length
    exact key its rv fun A1 E1 Q1 k=>collect_list pl.isList k (by omega)
  | true=>
    obtain ⟨its,rv,pl,hz⟩:=I.tuple hq
    have hlen:=rv.length
    exact key its rv fun A1 E1 Q1 k=>ZI5 pl k (by omega)
def ZI1 (P:Program) (w:World):List V→Hp→VK→Prop:=fun xs H Q=>∃ (p:Addr) (f:Str→Bool) (n:Nat),xs=[.ref p]∧H p=some (ZGY P w p f n)∧n < 64∧∀ l ts,H l=none→ts.length=n→(∀ k,f k=true↔k∈ts)→sortedS ts=true→Q (.ref l) (upd H l (.lst (ts.map V.str)))
theorem ZGz (hc:X.calm=true):ZBr X (.builtin "sorted") (ZI1 X.prog X.w):=by
  intro pins s σ H xs us Q I r h
  obtain ⟨p,f,n,rfl,hH,h64,q⟩:=h
  obtain ⟨u,rfl,rx⟩:=ZCl r
  cases rx
  have hS:SetT X.prog X.w s.heap p f n:=(I.hok p _ hH).1
  have hh:X.A.handled=none:=I.ok.hd hc
  refine ZFR (Pc:=fun vs s1=>∃ ts,(∀ b o,s.heap.get? b=some o→s1.heap.get? b=some o)∧s.heap.objs.size≤s1.heap.objs.size∧s1.gens=s.gens∧s1.os=s.os∧StrsAre vs ts∧ts.length=n∧(∀ k,f k=true↔k∈ts)) (fun A1 E1 Q1 hA k=>?_) ?_
  · exact ZHx (hA.trans hh) hS (Nat.le_trans (Nat.le_of_lt h64) (by decide +kernel)) fun s' vs ts a1 a2 a3 a4 a5 a6 a7=>k vs s' ⟨ts,a1,a2,a3,a4,a5,a6,a7⟩
  · rintro vs s1 ⟨ts,a1,a2,a3,a4,a5,a6,a7⟩
    refine ⟨by rw [StrsAre.len a5,a6];exact h64,ts,a5,fun out ss' e h' kp he hS' hp hs=>?_⟩
    exact ZEq I a3 a4 a1 a2 kp he hS' (by rw [hp.length_eq,a6];exact h64) fun l hl=>q l ss' hl (hp.length_eq.trans a6) (fun k=>(a7 k).trans hp.mem_iff.symm) hs
end
end L2
set_option Elab.async false
set_option linter.all false
set_option maxRecDepth 100000
set_option maxHeartbeats 4000000
namespace L2
open PySem PySem.Spec PyProof.Rows
section
variable {prog:Program} {w:World} {A:Around} {E:Value→Shared→Prop} {s:Shared}
end
section
variable {X:Cx}
end
end L2
set_option Elab.async false
set_option linter.all false
set_option maxRecDepth 100000
set_option maxHeartbeats 4000000
namespace L2
open PySem PySem.Spec PyProof.Rows
section
variable {X:Cx}
def isI (y:Int):Value→Bool
  | .int a _=>a == y
  | _=>false
theorem idx_int {y:Int}:∀ {ns:List Int},y∈ns→∃ h:ns.idxOf y < ns.length,ns[ns.idxOf y]=y∧∀ m (hm:m < ns.length),m < ns.idxOf y→ns[m]≠y:=fun {ns} h=>by
  have hj:ns.idxOf y < ns.length:=List.idxOf_lt_length_iff.mpr h
  refine ⟨hj,List.getElem_idxOf hj,fun m hm hlt e=>?_⟩
  have:=List.not_of_lt_findIdx (p:=(· == y)) (xs:=ns) (i:=m) hlt
  simp [e] at this
theorem ints_at {ns:List Int} {its:List Value} (r:Vals (ns.map V.int) its) {m:Nat} {u:Value} (h:its[m]?=some u):∃ (hm:m < ns.length) (t:Tok),u=.int ns[m] t:=by
  have hl:=r.length
  rw [List.length_map] at hl
  have hi:m < its.length:=(List.getElem?_eq_some_iff.mp h).1
  have hi':m < ns.length:=by omega
  obtain ⟨w,h1,h2⟩:=r.get (i:=m) (x:=.int ns[m]) (by rw [List.getElem?_map,List.getElem?_eq_getElem hi'];rfl)
  rw [h1] at h
  cases h
  obtain ⟨t,rfl⟩:=h2
  exact ⟨hi',t,rfl⟩
theorem ZD6:∀ (ns:List Int) (j:Nat),(ns.map V.int).eraseIdx j=(ns.eraseIdx j).map V.int
  | [],_=>rfl
  | _ :: _,0=>rfl
  | x :: t,j+1=>by rw [List.map_cons,List.eraseIdx_cons_succ,ZD6 t j];rfl
def rRemI:V→List V→Hp→VK→Prop:=fun x vs H Q=>∃ (l:Addr) (ns:List Int) (y:Int),x=.ref l∧vs=[.int y]∧H l=some (.lst (ns.map V.int))∧y∈ns∧Q .non (upd H l (.lst ((ns.eraseIdx (ns.idxOf y)).map V.int)))
theorem mr_remI:MtR X "list.remove" rRemI:=by
  intro pins s σ H x vs v us Q I rx rv h
  obtain ⟨l,ns,y,rfl,rfl,hH,hy,q⟩:=h
  cases rx
  obtain ⟨u,rfl,ru⟩:=rv.one
  obtain ⟨t,rfl⟩:=ru
  obtain ⟨z,its,n,r,hl,e⟩:=I.lstM hH
  obtain ⟨hj,hhit,hno⟩:=idx_int hy
  have hll:ns.length=its.length:=by rw [← hl,List.length_map]
  have at':∀ (m:Nat) (hm:m < its.toArray.size),∃ (hm2:m < ns.length) (t:Tok),its.toArray[m]=.int ns[m] t:=fun m hm=>by
    have hm':m < its.length:=by simpa using hm
    obtain ⟨h2,t,e⟩:=ints_at r (List.getElem?_eq_getElem hm')
    exact ⟨h2,t,by simpa using e⟩
  have hjs:ns.idxOf y < its.toArray.size:=by simp;omega
  refine call_meets PySem.F.slot_list_remove ⟨_,e,rfl⟩ PySem.F.entry_list_remove (PySem.F.args_list_remove_2 _ _) (MeetsSeq.list_remove l its.toArray n (.int y t) (isI y) (fun w hw=>?_) (ns.idxOf y) hjs ?_ (fun m hm hlt=>?_) (by rw [List.size_toArray];omega)) ⟨e,?_⟩
  · obtain ⟨m,hm,rfl⟩:=Array.mem_iff_getElem.mp hw
    obtain ⟨h2,t2,e2⟩:=at' m hm
    rw [e2]
    exact MeetsSeq.EqGives.int _ _ _ _
  · obtain ⟨h2,t2,e2⟩:=at' _ hjs
    rw [e2]
    show (_ == _)=true
    rw [hhit];simp
  · obtain ⟨h2,t2,e2⟩:=at' m hm
    rw [e2]
    show (_ == _)=false
    simpa using hno m h2 hlt
  · refine ⟨.non,_,I.lset (its':=its.eraseIdx (ns.idxOf y)) hH e ?_ ?_ ?_,rfl,q⟩
    · show its.toArray.eraseIdxIfInBounds _=_
      rw [List.eraseIdxIfInBounds_toArray]
    · rw [← ZD6];exact r.eraseIdx _
    · have:=ZGr ns (ns.idxOf y)
      rw [List.length_map] at z ⊢
      omega
end
end L2
set_option Elab.async false
set_option linter.all false
set_option maxRecDepth 100000
set_option maxHeartbeats 4000000
namespace HT
open PySem PySem.Spec PyProof.Rows
open AutoSeq1 (wpAny_loadPart')
theorem newEnumT (tu:Addr) (vals:Array Value) (k:Nat) (dc:Option Addr) (slo:Array (Option Value)) :
    Meets (Builtin.«enumerate.__new__» ⟨[.type "enumerate", .ref tu],[]⟩) (fun _ R s=>s.heap.get? tu=some { cls:=.type "tuple", dict:=dc,data:=.seq vals k,slots:=slo }∧R (.ok (.ret (.ref (s.heap.push { cls:=.type "tuple_iterator", data:=.fields #[.ref tu,.int 0 0] }).objs.size)))
        { s with heap:=(s.heap.push { cls:=.type "tuple_iterator", data:=.fields #[.ref tu,.int 0 0] }).push { cls:=.type "enumerate", data:=.fields #[.none,.bool false,.ref s.heap.objs.size,rawInt 0,.none,.none] } }):=.of_wp fun prog w A R s h=>by
  obtain ⟨hp,g,d,tk,os⟩:=s;obtain ⟨ho,h⟩:=h;have sb:=sub_enumerate
  have hT:Heap.IsTuple (Shared.heap ⟨hp,g,d,tk,os⟩) tu vals:=⟨_,ho,rfl,k,rfl⟩
  wp_walk using wpAny_loadPart' ho
  refine wpAny_stack_any fun fr=>wpAny_pure ?_
  split
  · rename_i c _ _ _ _ _
    cases (c == Value.type "enumerate") <;> (wp_walk using wpAny_loadPart' ho,wpAny_pyIter_tuple hT;exact ⟨_,rfl,h⟩)
  · wp_walk using wpAny_loadPart' ho,wpAny_pyIter_tuple hT
    exact ⟨_,rfl,h⟩
section
variable {prog:Program} {w:World} {A:Around} {E:Value→Shared→Prop} {s:Shared}
theorem callEnumT {tu:Addr} {vals:Array Value} {Q:Value→Shared→Prop} (hT:s.heap.IsTuple tu vals)
    (q:∀ h',IsEnum h' (s.heap.objs.size+1) s.heap.objs.size 0 .none→h'.IsTupleIter s.heap.objs.size tu 0→h'.objs.size=s.heap.objs.size+2→(∀ b o,s.heap.get? b=some o→h'.get? b=some o)→Q (.ref (s.heap.objs.size+1)) { s with heap:=h' }) :
    wpAny (model prog w) A (call (.type "enumerate") [.ref tu]) Q E s:=by
  obtain ⟨⟨c,dc,dt,slo⟩,ho,hc,k,hd⟩:=hT
  replace hc:c=.type "tuple" := hc;replace hd:dt=.seq vals k:=hd;subst hc hd
  refine callType_new F.called_enumerate (by decide) (F.typeCall_enumerate_1 _) (F.newCall_enumerate_1 _) (fun ob=>F.args_object_init_2 ob _) F.entry_enumerate_new (newEnumT tu vals k dc slo) ⟨ho,?_⟩
  have z:(s.heap.push { cls:=.type "tuple_iterator", data:=.fields #[.ref tu,.int 0 0] }).objs.size=s.heap.objs.size+1:=Heap.size_push ..
  show _∧_
  rw [z]
  have he:IsEnum ((s.heap.push { cls:=.type "tuple_iterator", data:=.fields #[.ref tu,.int 0 0] }).push { cls:=.type "enumerate", data:=.fields #[.none,.bool false,.ref s.heap.objs.size,rawInt 0,.none,.none] }) (s.heap.objs.size+1) s.heap.objs.size 0 .none:=by
    have y:=Heap.get?_push_size (s.heap.push { cls:=.type "tuple_iterator", data:=.fields #[.ref tu,.int 0 0] }) (o:={ cls:=.type "enumerate", data:=.fields #[.none,.bool false,.ref s.heap.objs.size,rawInt 0,.none,.none] }) rfl
    rw [z] at y;exact y
  exact ⟨⟨_,he,rfl⟩,q _ he ⟨_,Heap.get?_push_of_some _ (Heap.get?_push_size _ rfl),rfl,rfl⟩ (by rw [Heap.size_push,z]) fun b o y=>Heap.get?_push_of_some _ (Heap.get?_push_of_some _ y)⟩
theorem ZJ1 {it tu:Addr} {i:Nat} {vals:Array Value} {v:Value} {Q:Value→Shared→Prop} (hi:s.heap.IsTupleIter it tu i) (ht:s.heap.IsTuple tu vals) (hv:vals[i]?=some v)
    (q:∀ h',h'.IsTupleIter it tu (i+1)→Heap.SameBut it s.heap h'→Q v { s with heap:=h' }):wpAny (model prog w) A (Builtin.SmallTypes.nextOf (.ref it)) Q E s:=by
  obtain ⟨o,ho,hc,hd⟩:=id hi;obtain ⟨o2,ho2,_,k,hd2⟩:=ht;unfold Builtin.SmallTypes.nextOf
  refine wpAny_bind (wpAny_callSpecial?_slot (name:=Str.ofString "__next__") hi.typeIs F.slot_tuple_iterator_next (wpAny_call_entry F.slot_tuple_iterator_next hi.typeIs F.entry_tuple_iterator_next ?_ (F.args_tuple_iterator_next_1 _)))
  show wpAny _ _ (field (.ref it) 0 >>= _) _ _ s;refine wpAny_bind (wpAny_field ho hd (x:=.ref tu) rfl ?_)
  show wpAny _ _ (if (Value.ref tu == Value.none)=true then _ else _) _ _ s;rw [if_neg (show ¬ ((Value.ref tu == Value.none)=true) from Bool.false_ne_true)]
  show wpAny _ _ (field (.ref it) 1 >>= _) _ _ s;refine wpAny_bind (wpAny_field ho hd (x:=.int i 0) rfl ?_)
  show wpAny _ _ (seqItems? (.ref tu) >>= _) _ _ s;refine wpAny_bind (wpAny_seqItems ho2 hd2 ?_);simp only [Int.toNat_natCast,hv]
  refine wpAny_bind (wpAny_setField ho hd (by simp) (wpAny_pure ⟨v,rfl,wpAny_pure (q _ ?_ (Heap.SameBut.update ..))⟩))
  exact ⟨_,Heap.get?_update_self _ ho (Obj.isFreed_of_fields (Obj.data_mapFields hd _)),(Obj.cls_mapFields ..).trans hc,by rw [Obj.data_mapFields hd];simp [rawInt]⟩
theorem ZGb {it tu:Addr} {i:Nat} {vals:Array Value} {Q:Value→Shared→Prop} (hh:A.handled=none) (hi:s.heap.IsTupleIter it tu i) (ht:s.heap.IsTuple tu vals) (hv:vals[i]?=none)
    (q:∀ h' e,Heap.ExtBut it s.heap h'→(∃ o,h'.get? e=some o∧o.cls=.type "StopIteration")→E (.ref e) { s with heap:=h' }):wpAny (model prog w) A (Builtin.SmallTypes.nextOf (.ref it)) Q E s:=by
  obtain ⟨o,ho,hc,hd⟩:=id hi;obtain ⟨o2,ho2,_,k,hd2⟩:=ht;unfold Builtin.SmallTypes.nextOf
  refine wpAny_bind (wpAny_callSpecial?_slot (name:=Str.ofString "__next__") hi.typeIs F.slot_tuple_iterator_next (wpAny_call_entry F.slot_tuple_iterator_next hi.typeIs F.entry_tuple_iterator_next ?_ (F.args_tuple_iterator_next_1 _)))
  show wpAny _ _ (field (.ref it) 0 >>= _) _ _ s;refine wpAny_bind (wpAny_field ho hd (x:=.ref tu) rfl ?_)
  show wpAny _ _ (if (Value.ref tu == Value.none)=true then _ else _) _ _ s;rw [if_neg (show ¬ ((Value.ref tu == Value.none)=true) from Bool.false_ne_true)]
  show wpAny _ _ (field (.ref it) 1 >>= _) _ _ s;refine wpAny_bind (wpAny_field ho hd (x:=.int i 0) rfl ?_)
  show wpAny _ _ (seqItems? (.ref tu) >>= _) _ _ s;refine wpAny_bind (wpAny_seqItems ho2 hd2 ?_);simp only [Int.toNat_natCast,hv]
  refine wpAny_bind (wpAny_rule (wpAny_bind (wpAny_setField ho hd (by simp) ?_)));show wpAny _ _ (newExc (.type "StopIteration") [] >>= _) _ _ _
  refine wpAny_bind ?_;simp only [newExc,newTuple];refine wpAny_bind (wpAny_newObj_type ?_ (by size_fits))
  refine wpAny_bind (m:=firstArgMember _ _) (wpAny_of_eq (a:=Value.none) (by first | rfl | (simp only [firstArgMember];rfl)) ?_);refine wpAny_newObj_type ?_ (by size_fits)
  simp only [raiseNew];refine wpAny_bind (wpAny_handled ?_);first | rw [show A.in1.handled=none from hh] | rw [hh]
  refine wpAny_bind (wpAny_pure (wpAny_throw ?_));exact q _ _ (((Heap.SameBut.update ..).extBut.push _).push _) ⟨_,Heap.get?_push_size _ rfl,rfl⟩
theorem enumEndT {e it tu:Addr} {vals:Array Value} {i:Nat} {j:Int} {old:Value} {Q:Option Value→Shared→Prop} (hh:A.handled=none) (he:IsEnum s.heap e it j old) (hi:s.heap.IsTupleIter it tu i) (ht:s.heap.IsTuple tu vals) (hv:vals[i]?=none)
    (q:∀ h',Heap.ExtBut it s.heap h'→Q none { s with heap:=h' }):wpAny (model prog w) A (pyNext (.ref e)) Q E s:=by
  have ty:s.TypeIs (.ref e) "enumerate" := ⟨_,he,rfl⟩
  unfold pyNext;refine wpAny_bind (wpAny_attempt (wpAny_callSpecial?_slot (name:=Str.ofString "__next__") ty F.slot_enumerate_next (wpAny_call_entry F.slot_enumerate_next ty F.entry_enumerate_next ?_ (F.args_enumerate_next_1 _))))
  show wpAny _ _ (field (.ref e) 2 >>= _) _ _ _;refine wpAny_bind (wpAny_field he rfl (x:=.ref it) rfl ?_);refine wpAny_bind (ZGb (show A.in1.handled=none from hh) hi ht hv fun h' x eb hx=>?_)
  obtain ⟨o,ho,hc⟩:=hx
  exact wpAny_bind (wpAny_isInstance (T := "StopIteration") (b:=true) ⟨o,ho,hc⟩ isSubtype_stop (wpAny_pure (q _ eb)))
end
theorem drawsT {prog:Program} {w:World} {A:Around} (hh:A.handled=none) (it tu:Addr) (hne:tu≠it) (vals:Array Value) :
    Draws prog w A it [it,tu] vals.size (fun i v=>vals[i]?=some v) (fun i h=>h.IsTupleIter it tu i∧h.IsTuple tu vals) where
  live:=fun _ _ st=>by obtain ⟨o,ho,_⟩:=st.1;exact ⟨o,ho⟩
  frame:=fun _ _ _ st hk=>by
    obtain ⟨⟨o,ho,r⟩,o2,ho2,r2⟩:=st
    exact ⟨⟨o,hk it (by simp) o ho,r⟩,o2,hk tu (by simp) o2 ho2,r2⟩
  item:=fun i s Q E hi st hQ=>ZJ1 st.1 st.2 (v:=vals[i]) (by simp [hi]) fun h' a b=>hQ _ h' s.toks (by simp [hi]) ⟨a,st.2.extBut b.extBut hne⟩ b
  done:=fun s Q E st hE=>ZGb hh st.1 st.2 (by simp) hE
end HT
namespace L2
open PySem PySem.Spec PyProof.Rows
section
variable {X:Cx}
def Ien2 (K:PySem.W.Frag) (tp:Bool) (a:Addr) (xs:List V):It:=
  ⟨fun i H=>SqB K tp H a xs∧i < xs.length,fun i H x H'=>∃ p y,xs[i]?=some y∧x=.ref p∧H p=none∧H'=upd H p (.tup [.int i,y]),fun i H=>SqB K tp H a xs∧xs.length≤i⟩
theorem ZIi {P:Program} {w:World} {K:PySem.W.Frag} {es:List Expr} {k1:Nat} {p1:Pos} (a e it:Addr) (xs:List V) (hei:e≠it) :
    Turn P w K (.Tuple es k1 p1) (Ien2 K true a xs) [e,it] e (fun i h=>(∃ old,IsEnum h e it i old)∧h.IsTupleIter it a i) where
  mem:=by simp
  obj:=fun i h st b hb=>by
    obtain ⟨⟨old,h1⟩,o,h2,_,d⟩:=st
    rcases List.mem_cons.mp hb with z | z
    · subst z;exact ⟨_,h1,fun v z=>by cases z⟩
    · have y:b=it:=by simpa using z
      subst y;exact ⟨o,h2,fun v z=>by rw [d] at z;cases z⟩
  keep:=fun i h h' st k=>⟨let ⟨old,h1⟩:=st.1;⟨old,k e (by simp) _ h1⟩,let ⟨o,h2,r⟩:=st.2;⟨o,k it (by simp) o h2,r⟩⟩
  item:=by
    intro X hP hw hK hc i pins s σ H E I hf st hg
    subst hP hw hK
    obtain ⟨hq,hi⟩:=hg;obtain ⟨⟨old,he⟩,hit⟩:=st
    obtain ⟨its,rv,ht,hz⟩:=I.tuple hq
    obtain ⟨u,hu,ru⟩:=rv.get (List.getElem?_eq_getElem hi)
    have hu':its.toArray[i]?=some u:=by simpa using hu
    have hla:a < s.heap.objs.size:=ht.lt
    have ha:a≠it:=by
      rintro rfl
      obtain ⟨o,q1,q2,_⟩:=hit;obtain ⟨o2,q3,q4,_⟩:=ht
      rw [q1] at q3;cases q3;rw [q2] at q4;exact absurd q4 (by decide)
    have hea:e≠a:=by
      rintro rfl
      obtain ⟨o2,q3,q4,_⟩:=ht
      have q1:=he
      unfold IsEnum at q1
      rw [q1] at q3;cases q3;exact absurd (show Value.type "enumerate" = Value.type "tuple" from q4) (by decide)
    have hlt:e < s.heap.objs.size:=Heap.lt_size he
    refine wpAny_pyNext_enum_itemD (n:=its.toArray.size) (HT.drawsT (show X.A.in1.handled=none from I.ok.hd hc) it a ha its.toArray) he ⟨hit,ht⟩ (by rw [List.size_toArray,← rv.length];exact hi) hei (by simp [hei,hea]) fun v h1 tk1 pv heo st1 ht1 hz1 hk1=>⟨_,rfl,?_⟩
    have ev:v=u:=by rw [hu'] at pv;exact (Option.some.inj pv).symm
    subst ev
    refine wpAny_letOwnedTupleGo_enum heo fun h2 he2 hs2=>?_
    have ht2:h2.get? s.heap.objs.size=some { cls:=.type "tuple", data:=.seq #[.int i tk1,v] }:=(hs2.2 _ (Nat.ne_of_gt hlt)).trans ht1
    have kp:∀ b o,b∉[e,it]→s.heap.get? b=some o→h2.get? b=some o:=fun b o hb q=>by
      have y:b≠e∧b≠it:=by simpa using hb
      exact (hs2.2 b y.1).trans (hk1 b o y.1 y.2 q)
    refine ⟨.ref s.heap.objs.size,_,I.turnLaid (t':=tk1+1) (a:=s.heap.objs.size) (o:=.tup [.int i,xs[i]]) hf kp (Nat.le_refl _) ?_,rfl,⟨_,_,List.getElem?_eq_getElem hi,rfl,I.hok.fresh (Nat.le_refl _),rfl⟩,⟨⟨_,he2⟩,?_⟩,fun b hb=>?_⟩
    · exact ⟨(by show 2≤sizeLine;decide),[.int i tk1,v],.cons ⟨_,rfl⟩ (.cons ru .nil),⟨_,ht2,rfl,_,rfl⟩,fun ob q=>by rw [ht2] at q;cases q;rfl⟩
    · obtain ⟨o,q,r⟩:=st1.1
      exact ⟨o,(hs2.2 it (Ne.symm hei)).trans q,r⟩
    · have y:b < s.heap.objs.size:=by
        rcases List.mem_cons.mp hb with z | z
        · rw [z];exact hlt
        · have z':b=it:=by simpa using z
          obtain ⟨o,q,_⟩:=hit
          rw [z'];exact Heap.lt_size q
      rw [ZAE (Nat.ne_of_lt y)]
      exact (hf b hb).1
  done:=by
    intro X hP hw hK hc i pins s σ H E I hf st hg
    subst hP hw hK
    obtain ⟨hq,hx⟩:=hg;obtain ⟨⟨old,he⟩,hit⟩:=st
    obtain ⟨its,rv,ht,hz⟩:=I.tuple hq
    have hl:=rv.length
    exact HT.enumEndT (I.ok.hd hc) he hit ht (by simp;omega) fun h' eb=>⟨rfl,I.turnL (t':=s.toks) hf fun b o hb q=>eb b o (fun z=>hb (by simp [z])) q⟩
  self:=fun _ _ _ _ _ st h=>let ⟨⟨_,he⟩,_⟩:=st;wpAny_pyIter_enum he h
def ZJ3 (K:PySem.W.Frag) (t:TA):TI:=fun σ H R=>t σ H fun vs H1=>∃ a tp xs,vs=[.ref a]∧SqB K tp H1 a xs∧R (Ien2 K tp a xs) H1
theorem pi_enum2 {es:List Expr} {k1:Nat} {p1 p pos:Pos} {l:Expr} {t:TA} (hg:Gl X "enumerate") (hm:X.mg "enumerate" = none) (ha:PA X [l] t) (hs:starEach [l] X.env=[(false,eval l X.env)]:=by rfl) :
    PI X (.Tuple es k1 p1) (.Call (.Name "enumerate" p) [l] [] pos) (ZJ3 X.K t):=by
  intro pins s σ H R I h
  refine wpAny_Call_Name_kw (ZCk I hg hm (show bootBuiltins "enumerate" = some (.type "enumerate") by decide +kernel) ?_ (by decide) (by decide))
  refine PyProof.Rows.callWith_type1 (thn (ha pos pins s σ H _ I h) fun us s1 ⟨vs,H1,I1,r1,q1⟩=>?_) hs rfl
  obtain ⟨a,tp,xs,rfl,hq,q⟩:=q1
  obtain ⟨u,rfl,rx⟩:=ZCl r1
  cases rx
  have hne:s1.heap.objs.size+1≠s1.heap.objs.size:=Nat.succ_ne_self _
  have fp:∀ b∈[s1.heap.objs.size+1,s1.heap.objs.size],ZCm X pins H1 b:=fun b hb=>by
    have y:s1.heap.objs.size≤b:=by
      rcases List.mem_cons.mp hb with z | z
      · rw [z];exact Nat.le_succ _
      · have z':b=s1.heap.objs.size:=by simpa using z
        rw [z'];exact Nat.le_refl _
    exact I1.fpOk y (I1.hok.fresh y)
  cases tp with
  | false=>
    obtain ⟨its,rv,p,hz⟩:=I1.list hq
    refine call_enumerate_list p.isList fun h' he hit hsz kp=>wpAny_pyIter_enum he ?_
    exact ⟨s1.heap.objs.size+1,[s1.heap.objs.size+1,s1.heap.objs.size],_,_,H1,rfl,I1.kept (t':=s1.toks) kp,ZKD a _ _ xs hne,⟨⟨_,he⟩,hit⟩,fp,q⟩
  | true=>
    obtain ⟨its,rv,ht,hz⟩:=I1.tuple hq
    refine HT.callEnumT ht fun h' he hit hsz kp=>wpAny_pyIter_enum he ?_
    exact ⟨s1.heap.objs.size+1,[s1.heap.objs.size+1,s1.heap.objs.size],_,_,H1,rfl,I1.kept (t':=s1.toks) kp,ZIi a _ _ xs hne,⟨⟨_,he⟩,hit⟩,fp,q⟩
theorem qi_enum2 {es:List Expr} {k1:Nat} {p1 p pos:Pos} {l:Expr} {t:TA} (hg:Gl X "enumerate") (hm:X.mg "enumerate" = none) (ha:QA X [l] t) (hs:starEach [l] X.env=[(false,eval l X.env)]:=by rfl) :
    QI X (.Tuple es k1 p1) (.Call (.Name "enumerate" p) [l] [] pos) (ZJ3 X.K t):=⟨pi_enum2 hg hm ha.h hs⟩
end
end L2
set_option Elab.async false
set_option linter.all false
set_option maxRecDepth 100000
set_option maxHeartbeats 4000000
namespace L2
open PySem PySem.Spec PyProof.Rows
section
variable {X:Cx}
end
end L2
set_option Elab.async false
set_option linter.all false
set_option maxRecDepth 100000
set_option maxHeartbeats 4000000
namespace L2
open PySem PySem.Spec PyProof.Rows
inductive EqT (K:PySem.W.Frag) (H:Hp):Nat→V→V→Prop where
  | flat {d:Nat} {x y:V}:ZBN x=true→ZBN y=true→eqV x y=true→EqT K H d x y
  | same {d:Nat} {p:Addr}:EqT K H d (.ref p) (.ref p)
  | tup {d:Nat} {p q:Addr} {xs ys:List V}:SqT K H p xs→SqT K H q ys→xs.length=ys.length→(∀ (j:Nat) (x y:V),xs[j]?=some x→ys[j]?=some y→EqT K H d x y)→EqT K H (d+1) (.ref p) (.ref q)
theorem EqT.mono {K:PySem.W.Frag} {H H':Hp} (s:Same H H') {d:Nat} {x y:V} (h:EqT K H d x y):EqT K H' d x y:=by
  induction h with
  | flat a b c=>exact .flat a b c
  | same=>exact .same
  | tup a b c _ ih=>exact .tup (s.sqT a) (s.sqT b) c ih
section
variable {X:Cx} {pins:List (Addr×Obj)} {σ:St} {H:Hp} {s:Shared}
def rEqT (K:PySem.W.Frag) (neg:Bool):R2:=fun x y H Q=>∃ p q xs ys,x=.ref p∧y=.ref q∧SqT K H p xs∧SqT K H q ys∧xs.length=ys.length∧(∀ (j:Nat) (x y:V),xs[j]?=some x→ys[j]?=some y→EqT K H 8 x y)∧Q (.bl (!neg)) H
end
end L2
set_option linter.all false
namespace MA
def lets (n:Nat):List Nat:=if h:n < 26 then [97+n] else (97+n % 26) :: lets (n / 26)
termination_by n
decreasing_by omega
def vals:List Nat→Nat
  | []=>0
  | c :: r=>(c - 97)+26 * vals r
theorem lets_small {n:Nat} (h:n < 26):lets n=[97+n]:=by unfold lets;simp [h]
theorem lets_big {n:Nat} (h:¬ n < 26):lets n=(97+n % 26) :: lets (n / 26):=by rw [lets];simp [h]
theorem ZGt:∀ n,vals (lets n)=n:=by
  intro n
  induction n using Nat.strongRecOn with
  | _ n ih=>
    by_cases h:n < 26
    · rw [lets_small h];simp [vals]
    · rw [lets_big h]
      have:=ih (n / 26) (by omega)
      simp only [vals,this]
      omega
theorem lets_inj {a b:Nat} (h:lets a=lets b):a=b:=by rw [← ZGt a,h,ZGt]
theorem lets_pos (n:Nat):1≤(lets n).length:=by
  by_cases h:n < 26
  · rw [lets_small h];simp
  · rw [lets_big h];simp
theorem lets_len:∀ (k n:Nat),n < 26 ^ (k+1)→(lets n).length≤k+1
  | 0,n,h=>by rw [lets_small (by simpa using h)];simp
  | k+1,n,h=>by
    by_cases h1:n < 26
    · rw [lets_small h1];simp
    · rw [lets_big h1]
      have:=lets_len k (n / 26) (by rw [Nat.pow_succ] at h;exact Nat.div_lt_of_lt_mul (by rw [Nat.mul_comm];exact h))
      simp only [List.length_cons];omega
theorem lets_abc:∀ n,∀ c∈lets n,97≤c∧c≤122:=by
  intro n
  induction n using Nat.strongRecOn with
  | _ n ih=>
    by_cases h:n < 26
    · rw [lets_small h];intro c hc;simp at hc;omega
    · rw [lets_big h]
      intro c hc
      rcases List.mem_cons.mp hc with e | e
      · omega
      · exact ih (n / 26) (by omega) c e
theorem pigeon {α:Type} [DecidableEq α]:∀ (k:Nat) (f:Nat→α) (l:List α),(∀ i j,i < k→j < k→f i=f j→i=j)→(∀ i,i < k→f i∈l)→k≤l.length
  | 0,_,_,_,_=>Nat.zero_le _
  | k+1,f,l,hi,hm=>by
    have h1:=hm k (Nat.lt_succ_self k)
    have:=pigeon k f (l.erase (f k)) (fun i j a b e=>hi i j (by omega) (by omega) e) (fun i a=>by
      have hne:f i≠f k:=fun e=>by have:=hi i k (by omega) (by omega) e;omega
      exact (List.mem_erase_of_ne hne).mpr (hm i (by omega)))
    rw [List.length_erase_of_mem h1] at this
    have hp:=List.length_pos_of_mem h1
    omega
end MA
set_option Elab.async false
set_option linter.all false
set_option maxRecDepth 100000
set_option maxHeartbeats 4000000
set_option exponentiation.threshold 5000
namespace Lw
open PySem PySem.Spec PyProof.Rows L2
def Pot (H:Hp) (p:Addr):Prop:=∃ a b:Int,H p=some (.lst [.int a,.int b])∧0≤a∧a < 10 ^ 256∧0≤b∧b < 2147483647
structure PStep (p:Addr) (H H':Hp):Prop where
  pot:Pot H' p
  same:SameX p H H'
theorem PStep.trans {p:Addr} {H H1 H2:Hp} (a:PStep p H H1) (b:PStep p H1 H2):PStep p H H2:=⟨b.pot,a.same.trans b.same⟩
theorem PStep.of {p:Addr} {H H':Hp} (h:Pot H p) (s:Same H H'):PStep p H H':=by
  obtain ⟨a,b,e,r⟩:=h
  exact ⟨⟨a,b,s _ _ e,r⟩,SameX.of s⟩
theorem PStep.sqL {K:PySem.W.Frag} {p a:Addr} {H H':Hp} {xs:List V} (s:PStep p H H') (h:SqL K H a xs) (hne:a≠p):SqL K H' a xs:=by
  rcases h with (h | ⟨o,h⟩) | h
  · exact .inl (.inl (s.same _ _ hne h))
  · exact .inl (.inr ⟨o,s.same _ _ hne h⟩)
  · exact .inr h
theorem PStep.at' {p a:Addr} {H H':Hp} {o:HO} (s:PStep p H H') (h:H a=some o) (hne:a≠p):H' a=some o:=s.same _ _ hne h
theorem ZBm {a:Int} (h0:-(10 ^ 20) < a) (h1:a < 10 ^ 20):a.natAbs < 2 ^ 1000:=by
  have h4:a.natAbs < 10 ^ 20:=by omega
  exact Nat.lt_trans h4 (by decide +kernel)
def spPot (K:PySem.W.Frag):Sp:=fun vs H Q _=>∃ (a:Addr) (ns:List Int) (k:Int),vs=[.ref a,.int k]∧SqL K H a (ns.map V.int)∧0≤k∧k≤1000∧∀ p H',H p=none→Same H H'→Pot H' p→Q (.ref p) H'
def ZEJ:Sp:=fun vs H Q _=>∃ (p:Addr) (m:Int),vs=[.ref p,.int m]∧Pot H p∧0 < m∧m < 10 ^ 18∧∀ r H',0≤r→r < m→PStep p H H'→Q (.int r) H'
def ZBy (l:List Nat):Str:=⟨l.toArray⟩
def ZGp:Sp:=fun vs H Q _=>∃ r:Int,vs=[.int r]∧0≤r∧r < 26 ^ 8∧Q (.str (ZBy (MA.lets r.toNat))) H
end Lw
namespace Lw
open PySem PySem.Spec PyProof.Rows L2
theorem ZF9 {α:Type} {xs:List α} {k:Int} {v:α} (h0:0≤k) (h:xs[k.toNat]?=some v):atI xs k=some v:=by
  have ek:k=((k.toNat:Nat):Int):=by omega
  have q:=ZJo h
  rw [← ek] at q
  exact q
end Lw
namespace Lw
open PySem PySem.Spec PyProof.Rows L2
abbrev abc:Str := "abcdefghijklmnopqrstuvwxyz"
theorem abc_nth:∀ j,j < 26→abc.cps.toList[j]?=some (97+j):=by decide +kernel
theorem abc_at {k:Int} (h0:0≤k) (h1:k < 26):atI abc.cps.toList k=some (97+k.toNat):=ZF9 h0 (abc_nth _ (by omega))
theorem ZGC (l:List Nat) (c:Nat):ZBy l++(⟨#[c]⟩:Str)=ZBy (l++[c]):=by
  show (⟨l.toArray++#[c]⟩:Str)=⟨(l++[c]).toArray⟩
  simp
theorem ZDS (l:List Nat):(ZBy l).length=l.length:=by simp [ZBy,Str.length]
theorem strL_empty {l:List Nat}:(V.str (ZBy l)=V.str (Str.ofString ""))↔l=[]:=by
  constructor
  · intro h
    injection h with h
    have h2:=congrArg (fun x=>x.cps.toList) h
    have e:(Str.ofString "").cps.toList=[]:=by decide +kernel
    rw [e] at h2
    simpa [ZBy] using h2
  · rintro rfl;rfl
theorem small {n:Nat} (h:n≤100000):n≤sizeLine:=Nat.le_trans h (by decide +kernel)
theorem ZGO {n k:Nat} {pre:List Nat} (h:pre++MA.lets k=MA.lets n):(0 < k / 26→(pre++[97+k % 26])++MA.lets (k / 26)=MA.lets n)∧(k / 26=0→pre++[97+k % 26]=MA.lets n):=by
  constructor
  · intro h1
    rw [MA.lets_big (by omega)] at h
    rw [← h,List.append_assoc];rfl
  · intro h1
    have h2:k < 26:=by omega
    rw [MA.lets_small h2] at h
    rw [← h,Nat.mod_eq_of_lt h2]
end Lw
namespace Lw
open PySem PySem.Spec PyProof.Rows L2
def Nm (x:Str):Prop:=1≤x.length∧x.length≤8∧∀ c∈x.cps.toList,97≤c∧c≤122
instance (x:Str):Decidable (Nm x):=by unfold Nm;exact inferInstance
theorem ZBc (x:Str):x.length=x.cps.toList.length:=by simp [Str.length]
theorem ZHW {n:Nat} (h:n < 26 ^ 8):Nm (ZBy (MA.lets n)):=by
  refine ⟨by rw [ZDS];exact MA.lets_pos n,by rw [ZDS];exact MA.lets_len 7 n h,fun c hc=>MA.lets_abc n c (by simpa [ZBy] using hc)⟩
def menu:List Str:=["put", "take", "none", "ahead", "all", "over", "next", "a", "ab", "abc", "abcdefgh", "b", "step"]
theorem menu_nm:∀ x∈menu,Nm x:=by decide +kernel
def menuV:List V:=[.str "put", .str "take", .str "none", .str "ahead", .str "all", .str "over", .str "next", .str "a", .str "ab", .str "abc", .str "abcdefgh", .str "b", .str "step"]
theorem menu_at {i:Int} (h0:0≤i) (h1:i < 13):∃ x,atI menuV i=some (.str x)∧Nm x:=by
  have hl:menu.length=13:=rfl
  have hi:i.toNat < menu.length:=by omega
  have e:menuV=menu.map V.str:=rfl
  refine ⟨menu[i.toNat],ZF9 h0 ?_,menu_nm _ (List.getElem_mem hi)⟩
  rw [e,List.getElem?_map,List.getElem?_eq_getElem hi];rfl
theorem ZDb {ns:List Str} {i:Int} (h0:0≤i) (h1:i < ns.length):∃ x,atI (ns.map V.str) i=some (.str x)∧x∈ns∧ns[i.toNat]?=some x:=by
  have hi:i.toNat < ns.length:=by omega
  exact ⟨ns[i.toNat],ZF9 h0 (by rw [List.getElem?_map,List.getElem?_eq_getElem hi];rfl),List.getElem_mem hi,List.getElem?_eq_getElem hi⟩
theorem ZAV (ns:List Str):(ns.map V.str).all ZBN=true:=by
  rw [List.all_eq_true];intro x hx
  obtain ⟨y,_,rfl⟩:=List.mem_map.mp hx;rfl
theorem ZBg (x:Str) (ns:List Str):inV (.str x) (ns.map V.str)=decide (x∈ns):=by
  unfold inV
  rw [Bool.eq_iff_iff,List.any_eq_true,decide_eq_true_iff]
  constructor
  · rintro ⟨v,hv,h⟩
    obtain ⟨y,hy,rfl⟩:=List.mem_map.mp hv
    have h':(y == x)=true:=h
    have:y=x:=by simpa using h'
    rw [← this];exact hy
  · intro h
    exact ⟨.str x,List.mem_map.mpr ⟨x,h,rfl⟩,by show (x == x)=true;simp⟩
theorem ZCn (xs:List V):ZCc xs []=decide (xs=[]):=by
  cases xs with
  | nil=>rfl
  | cons x r=>rw [ZCR (by simp)];simp
theorem str_ext {x y:Str} (h:x.cps.toList=y.cps.toList):x=y:=by
  cases x;cases y;simp only [Str.mk.injEq];exact Array.toList_inj.mp h
theorem ZKN (z:Str) {a b:Nat} {lo hi:Option Int} (hab:a≤b) (hb:b≤z.length) (e:Builtin.Str.strSliceIndices lo hi 1 z.length=Builtin.Str.strSliceIndices (some (a:Int)) (some (b:Int)) 1 z.length) :
    (Txt.slice z lo hi).cps.toList=(z.cps.toList.drop a).take (b - a):=by
  have q:=StrLaws.sliced_plain z hab hb
  rw [← e] at q
  unfold Txt.slice
  split
  · rename_i h
    have hl:(Builtin.Str.strSliceIndices lo hi 1 z.length).length=z.length:=by simpa using h
    rw [e,StrLaws.strSliceIndices_plain hab hb,List.length_map,List.length_range] at hl
    have h1:a=0:=by omega
    have h2:b=z.length:=by omega
    subst h1;subst h2
    rw [List.drop_zero,Nat.sub_zero,ZBc,List.take_length]
  · rw [← q]
theorem ZIz (z:Str) {j:Int} (h:0≤j):(Txt.slice z none (some j)).cps.toList=z.cps.toList.take j.toNat:=by
  have e:=ZKN z (a:=0) (b:=min j.toNat z.length) (lo:=none) (hi:=some j) (Nat.zero_le _) (Nat.min_le_right _ _) (by
    have h1:¬ j < 0:=by omega
    have h2:¬ (((min j.toNat z.length:Nat):Int) < 0):=by omega
    have h3:max (0:Int) (min j (z.length:Int))=max 0 (min ((min j.toNat z.length:Nat):Int) (z.length:Int)):=by omega
    simp only [Builtin.Str.strSliceIndices,h1,h2,if_false,h3]
    rfl)
  rw [e,List.drop_zero,Nat.sub_zero]
  rcases Nat.le_total j.toNat z.length with h1 | h1
  · rw [Nat.min_eq_left h1]
  · rw [Nat.min_eq_right h1,ZBc,List.take_length,List.take_of_length_le (by rw [← ZBc];exact h1)]
theorem ZHr {z:Str} {j:Int} (h:1≤j) (hj:j≤8) (hz:1≤z.length) (hc:∀ c∈z.cps.toList,97≤c∧c≤122):Nm (Txt.slice z none (some j)):=by
  have e:=ZIz z (j:=j) (by omega)
  refine ⟨?_,?_,fun c hc'=>hc c ?_⟩
  · rw [ZBc,e,List.length_take,← ZBc];omega
  · rw [ZBc,e,List.length_take];omega
  · rw [e] at hc';exact List.mem_of_mem_take hc'
theorem ZFN (x y:Str):(x++y).cps.toList=x.cps.toList++y.cps.toList:=by
  show (x.cps++y.cps).toList=_
  simp
theorem ZFg (x y:Str):(x++y).length=x.length+y.length:=by rw [ZBc,ZFN,List.length_append,← ZBc,← ZBc]
def ZH4 (K:PySem.W.Frag):Sp:=fun vs H Q _=>∃ (p q:Addr) (ns:List Str),vs=[.ref p,.ref q]∧Pot H p∧SqL K H q (ns.map V.str)∧q≠p∧(∀ x∈ns,Nm x)∧ns.length≤1000∧∀ x H',Nm x→x∉ns→PStep p H H'→Q (.str x) H'
theorem ZKa {ns:List Str} {k:Nat} (h:∀ j,j < k→ZBy (MA.lets j)∈ns):k≤ns.length:=
  MA.pigeon k (fun j=>ZBy (MA.lets j)) ns (fun i j _ _ e=>MA.lets_inj (by
    have:=congrArg (fun x=>x.cps.toList) e
    simpa [ZBy] using this)) h
end Lw
namespace Lw
theorem lt268:1000 < 26 ^ 8:=by decide +kernel
theorem lt268i:(1000:Int) < 26 ^ 8:=by decide +kernel
theorem lt268j:(26:Int) ^ (8:Int).toNat - 26 < 26 ^ 8:=by decide +kernel
theorem lt268k:(26:Int) < 26 ^ 8:=by decide +kernel
theorem lt268a:(0:Int) < 26 ^ (8:Int).toNat - 26:=by decide +kernel
theorem lt268b:(26:Int) ^ (8:Int).toNat - 26 < 10 ^ 18:=by decide +kernel
theorem lt268n {r:Int} (h0:0≤r) (h:r < 26 ^ 8):r.toNat < 26 ^ 8:=by omega
end Lw
namespace Lw
open PySem PySem.Spec PyProof.Rows L2
theorem PStep.upd {p l:Addr} {H H2:Hp} {o:HO} (s:PStep p H H2) (h:H l=none) (hne:l≠p):PStep p H (upd H2 l o):=by
  obtain ⟨a,b,e,r⟩:=s.pot
  refine ⟨⟨a,b,by rw [ZAE (Ne.symm hne)];exact e,r⟩,fun c u hc q=>?_⟩
  rw [ZAE (ZAT q h)]
  exact s.same c u hc q
theorem PStep.none {p l:Addr} {H H2:Hp} (s:PStep p H H2) (h:H2 l=none):H l=none:=by
  cases q:H l with
  | none=>rfl
  | some o=>
    by_cases e:l=p
    · obtain ⟨a,b,e2,_⟩:=s.pot
      rw [← e,h] at e2;cases e2
    · rw [s.same l o e q] at h;cases h
theorem Pot.ne {p l:Addr} {H:Hp} (h:Pot H p) (hl:H l=none):l≠p:=by
  obtain ⟨_,_,e,_⟩:=h
  exact (ZAT e hl).symm
theorem Same.none {l:Addr} {H H2:Hp} (s:Same H H2) (h:H2 l=none):H l=none:=by
  cases q:H l with
  | none=>rfl
  | some o=>rw [s l o q] at h;cases h
def ZJY:Sp:=fun vs H Q _=>∃ (p:Addr) (m:Int),vs=[.ref p,.int m]∧Pot H p∧0≤m∧m≤100∧
  ∀ l H' (ns:List Str),H l=none→PStep p H H'→H' l=some (.lst (ns.map V.str))→(ns.length:Int)=m→(∀ x∈ns,Nm x)→ns.Nodup→Q (.ref l) H'
def spRow:Sp:=fun vs H Q _=>∃ (p:Addr) (m:Int),vs=[.ref p,.int m]∧Pot H p∧1≤m∧m≤100∧
  ∀ l H' (ns:List Str),H l=none→PStep p H H'→H' l=some (.lst (ns.map V.str))→(ns.length:Int)≤m→(∀ x∈ns,Nm x)→ns.Nodup→Q (.ref l) H'
theorem ZDA {α:Type} {l:List α} {x:α} (h:l.Nodup) (hx:x∉l):(l++[x]).Nodup:=by
  rw [List.nodup_append]
  exact ⟨h,by simp,fun a ha b hb=>by
    have:b=x:=by simpa using hb
    subst this
    rintro rfl
    exact hx ha⟩
theorem pick3 {m j:Int} (h0:0≤j) (h1:j < 3) (hm:1≤m):∃ k:Int,atI [V.int 0,V.int 1,V.int m] j=some (.int k)∧0≤k∧k≤m:=by
  have:j=0∨j=1∨j=2:=by omega
  rcases this with rfl | rfl | rfl
  · exact ⟨0,rfl,by omega,by omega⟩
  · exact ⟨1,rfl,by omega,by omega⟩
  · exact ⟨m,rfl,by omega,by omega⟩
def inAbc (c:Nat):Bool:=!(Builtin.Str.occurrences abc ⟨#[c]⟩ 0 abc.length 1).isEmpty
def isNm (x:Str):Bool:=decide ((1:Int)≤x.length) && (decide ((x.length:Int)≤8) && x.cps.toList.all inAbc)
def ZHa:Sp:=fun vs H Q _=>∃ x:Str,vs=[.str x]∧x.length≤1000∧∀ H',Same H H'→Q (.bl (isNm x)) H'
end Lw
namespace Lw
open PySem PySem.Spec PyProof.Rows L2
theorem ZGB {α:Type} (l:List α):l.filter (fun _=>true)=l:=List.filter_eq_self.mpr fun _ _=>rfl
def inV1:V→V
  | .str y=>.bl (!(Builtin.Str.occurrences abc y 0 abc.length 1).isEmpty)
  | _=>.bl false
theorem signs_in (x:Str):((ZBh x).filter (fun _=>true)).map inV1=(x.cps.toList.map inAbc).map V.bl:=by
  unfold ZBh
  rw [ZGB,List.map_map,List.map_map]
  rfl
theorem ZKV {x:Str} {i:Nat} {v:V} (h:(ZBh x)[i]?=some v):∃ c,v=.str ⟨#[c]⟩:=by
  unfold ZBh at h
  rw [List.getElem?_map] at h
  cases q:x.cps.toList[i]? with
  | none=>rw [q] at h;cases h
  | some c=>rw [q] at h;simp at h;exact ⟨c,h.symm⟩
theorem all_map {α:Type} (f:α→Bool) (l:List α):(l.map f).all id=l.all f:=by rw [List.all_map];rfl
theorem ZDm {ss:List Str} {i:Nat} {v:V} (h:(ss.map V.str)[i]?=some v):∃ x,v=.str x∧x∈ss:=by
  rw [List.getElem?_map] at h
  cases q:ss[i]? with
  | none=>rw [q] at h;cases h
  | some x=>rw [q] at h;simp at h;exact ⟨x,h.symm,List.mem_of_getElem? q⟩
end Lw
namespace Lw
open PySem PySem.Spec PyProof.Rows L2
end Lw
namespace Lw
open PySem PySem.Spec PyProof.Rows L2
theorem ZKR (xs:List Str):ZCc (xs.map V.str) (xs.map V.str)=true:=by
  rw [ZBY rfl,List.all_eq_true]
  intro j hj
  have hj':j < xs.length:=by simpa using hj
  have e:(xs.map V.str)[j]?=some (.str xs[j]):=by rw [List.getElem?_map,List.getElem?_eq_getElem hj'];rfl
  rw [ZC2 e];show (xs[j] == xs[j])=true;simp
def ZHh (K:PySem.W.Frag):Sp:=fun vs H Q _=>∃ (a:Addr) (ns:List Int),vs=[.ref a]∧SqL K H a (ns.map V.int)∧ns.length≤63∧∀ H',Q (.bl true) H'
end Lw
set_option Elab.async false
set_option linter.all false
set_option maxRecDepth 100000
set_option maxHeartbeats 4000000
namespace Lw
open PySem PySem.Spec PyProof.Rows L2
inductive Deed where
  | put (x:Str) (i:Nat) | take (x:Str) | move (x:Str) (i:Nat) | turn (lo hi:Nat)
def Deed.vals:Deed→List V
  | .put x i=>[.str "put", .str x,.int i]
  | .take x=>[.str "take", .str x]
  | .move x i=>[.str "move", .str x,.int i]
  | .turn lo hi=>[.str "turn", .int lo,.int hi]
def Deed.Ok (m:Nat) (ns:List Str):Deed→Prop
  | .put x i=>Nm x∧x∉ns∧i≤ns.length∧ns.length < m
  | .take x=>x∈ns
  | .move x i=>x∈ns∧i < ns.length
  | .turn lo hi=>lo≤hi∧hi≤ns.length
def ins (ns:List Str) (x:Str) (i:Nat):List Str:=ns.take i++x :: ns.drop i
def wo (ns:List Str) (x:Str):List Str:=ns.filter fun y=>!decide (y=x)
def trn (ns:List Str) (lo hi:Nat):List Str:=ns.take lo++((ns.drop lo).take (hi - lo)).reverse++ns.drop hi
def Deed.done (ns:List Str):Deed→List Str
  | .put x i=>ins ns x i
  | .take x=>wo ns x
  | .move x i=>ins (wo ns x) x i
  | .turn lo hi=>trn ns lo hi
def Deed.back (ns:List Str):Deed→Deed
  | .put x _=>.take x
  | .take x=>.put x (ns.idxOf x)
  | .move x _=>.move x (ns.idxOf x)
  | .turn lo hi=>.turn lo hi
theorem ZDY {ns:List Str} {x:Str} (h:x∉ns):wo ns x=ns:=by
  unfold wo
  rw [List.filter_eq_self]
  intro y hy
  have:y≠x:=fun e=>h (e▸hy)
  simp [this]
theorem wo_mem {ns:List Str} {x y:Str}:y∈wo ns x↔y∈ns∧y≠x:=by
  unfold wo
  rw [List.mem_filter]
  simp
theorem ZIQ {ns:List Str} {x:Str} (h:ns.Nodup):(wo ns x).Nodup:=h.filter _
theorem ZGm (as bs:List Str) (x:Str):wo (as++bs) x=wo as x++wo bs x:=by unfold wo;rw [List.filter_append]
theorem ZDp (bs:List Str) (x:Str):wo (x :: bs) x=wo bs x:=by unfold wo;rw [List.filter_cons];simp
theorem ZIY {ns:List Str} {x:Str} (h:x∈ns):ns=ns.take (ns.idxOf x)++x :: ns.drop (ns.idxOf x+1):=by
  have hj:ns.idxOf x < ns.length:=List.idxOf_lt_length_iff.mpr h
  have e:ns[ns.idxOf x]=x:=List.getElem_idxOf hj
  conv=>lhs;rw [← List.take_append_drop (ns.idxOf x) ns,List.drop_eq_getElem_cons hj,e]
theorem ZF2 {ns:List Str} {x:Str} (h:x∈ns):x∉ns.take (ns.idxOf x):=by
  intro hm
  obtain ⟨m,hm1,e⟩:=List.mem_iff_getElem.mp hm
  rw [List.length_take] at hm1
  rw [List.getElem_take] at e
  exact ZDG x ns m (by omega) (by omega) e
theorem ZFa {ns:List Str} {x:Str} (h:x∈ns) (nd:ns.Nodup):x∉ns.drop (ns.idxOf x+1):=by
  rw [ZIY h] at nd
  have h2:=(List.nodup_append.mp nd).2.1
  exact (List.nodup_cons.mp h2).1
theorem wo_eq {ns:List Str} {x:Str} (h:x∈ns) (nd:ns.Nodup):wo ns x=ns.take (ns.idxOf x)++ns.drop (ns.idxOf x+1):=by
  conv=>lhs;rw [ZIY h]
  rw [ZGm,ZDp,ZDY (ZF2 h),ZDY (ZFa h nd)]
theorem ZCx {ns:List Str} {x:Str} (h:x∈ns) (nd:ns.Nodup):(wo ns x).length+1=ns.length:=by
  have hj:ns.idxOf x < ns.length:=List.idxOf_lt_length_iff.mpr h
  rw [wo_eq h nd,List.length_append,List.length_take,List.length_drop]
  omega
theorem ZCQ {ns:List Str} {x:Str} {i:Nat}:(ins ns x i).length=ns.length+1:=by
  unfold ins
  rw [List.length_append,List.length_cons,List.length_take,List.length_drop]
  omega
theorem ins_mem {ns:List Str} {x y:Str} {i:Nat}:y∈ins ns x i↔y=x∨y∈ns:=by
  unfold ins
  rw [List.mem_append,List.mem_cons]
  have:y∈ns↔y∈ns.take i∨y∈ns.drop i:=by rw [← List.mem_append,List.take_append_drop]
  rw [this]
  constructor
  · rintro (h | h | h)
    · exact .inr (.inl h)
    · exact .inl h
    · exact .inr (.inr h)
  · rintro (h | h | h)
    · exact .inr (.inl h)
    · exact .inl h
    · exact .inr (.inr h)
theorem ZEF {ns:List Str} {x:Str} {i:Nat} (h:ns.Nodup) (hx:x∉ns):(ins ns x i).Nodup:=by
  unfold ins
  have e:(ns.take i++ns.drop i).Nodup:=by rw [List.take_append_drop];exact h
  obtain ⟨h1,h2,h3⟩:=List.nodup_append.mp e
  rw [List.nodup_append]
  refine ⟨h1,List.nodup_cons.mpr ⟨fun z=>hx (List.mem_of_mem_drop z),h2⟩,fun a ha b hb=>?_⟩
  rcases List.mem_cons.mp hb with z | z
  · rw [z];rintro rfl;exact hx (List.mem_of_mem_take ha)
  · exact h3 a ha b z
theorem ZK2 {ns:List Str} {lo hi:Nat} (h1:lo≤hi) (h2:hi≤ns.length):(trn ns lo hi).length=ns.length:=by
  unfold trn
  rw [List.length_append,List.length_append,List.length_reverse,List.length_take,List.length_take,List.length_drop,List.length_drop]
  omega
theorem ZGq {ns:List Str} {lo hi:Nat} (h1:lo≤hi):ns=ns.take lo++(ns.drop lo).take (hi - lo)++ns.drop hi:=by
  have:ns.drop hi=(ns.drop lo).drop (hi - lo):=by rw [List.drop_drop];congr 1;omega
  rw [this,List.append_assoc,List.take_append_drop,List.take_append_drop]
theorem ZHG {ns:List Str} {lo hi:Nat} (h1:lo≤hi) {y:Str}:y∈trn ns lo hi↔y∈ns:=by
  conv=>rhs;rw [ZGq (ns:=ns) h1]
  unfold trn
  simp only [List.mem_append,List.mem_reverse]
theorem ZKb {ns:List Str} {lo hi:Nat} (h1:lo≤hi) (nd:ns.Nodup):(trn ns lo hi).Nodup:=by
  have p:List.Perm (trn ns lo hi) ns:=by
    conv=>rhs;rw [ZGq (ns:=ns) h1]
    unfold trn
    exact ((List.reverse_perm _).append_left _).append_right _
  exact p.nodup_iff.mpr nd
theorem Deed.step {m:Nat} {ns:List Str} {d:Deed} (h:d.Ok m ns) (nd:ns.Nodup) (hN:∀ x∈ns,Nm x) (hm:ns.length≤m) :
    (d.done ns).Nodup∧(∀ x∈d.done ns,Nm x)∧(d.done ns).length≤m:=by
  cases d with
  | put x i=>
    obtain ⟨h1,h2,h3,h4⟩:=h
    refine ⟨ZEF nd h2,fun y hy=>?_,?_⟩
    · rcases ins_mem.mp hy with e | e
      · rw [e];exact h1
      · exact hN y e
    · show (ins ns x i).length≤m
      rw [ZCQ];omega
  | take x=>
    refine ⟨ZIQ nd,fun y hy=>hN y (wo_mem.mp hy).1,?_⟩
    have:=ZCx h nd
    show (wo ns x).length≤m
    omega
  | move x i=>
    obtain ⟨h1,h2⟩:=h
    refine ⟨ZEF (ZIQ nd) (fun z=>(wo_mem.mp z).2 rfl),fun y hy=>?_,?_⟩
    · rcases ins_mem.mp hy with e | e
      · rw [e];exact hN x h1
      · exact hN y (wo_mem.mp e).1
    · have:=ZCx h1 nd
      show (ins (wo ns x) x i).length≤m
      rw [ZCQ];omega
  | turn lo hi=>
    obtain ⟨h1,h2⟩:=h
    exact ⟨ZKb h1 nd,fun y hy=>hN y ((ZHG h1).mp hy),by show (trn ns lo hi).length≤m;rw [ZK2 h1 h2];exact hm⟩
theorem ZJH (xs:List V) (i:Nat):ZC4 xs none (some (i:Int))=xs.take i:=by
  unfold ZC4
  rw [HT.sIx_none,HT.sIx_nat,List.drop_zero,Nat.sub_zero]
  rcases Nat.le_total i xs.length with h | h
  · rw [Nat.min_eq_left h]
  · rw [Nat.min_eq_right h,List.take_length,List.take_of_length_le h]
theorem ZFD (xs:List V) (i:Nat):ZC4 xs (some (i:Int)) none=xs.drop i:=by
  unfold ZC4
  rw [HT.sIx_none,HT.sIx_nat]
  rcases Nat.le_total i xs.length with h | h
  · rw [Nat.min_eq_left h,List.take_of_length_le (by rw [List.length_drop];omega)]
  · rw [Nat.min_eq_right h,Nat.sub_self,List.take_zero,List.drop_of_length_le h]
theorem cut_mid (xs:List V) {i j:Nat} (hi:i≤j) (hj:j≤xs.length):ZC4 xs (some (i:Int)) (some (j:Int))=(xs.drop i).take (j - i):=by
  unfold ZC4
  rw [HT.sIx_nat,HT.sIx_nat,Nat.min_eq_left hj,Nat.min_eq_left (Nat.le_trans hi hj)]
def HOq (tp:Bool) (xs:List V):HO:=match tp with
  | false=>.lst xs
  | true=>.tup xs
theorem HOq.sq {K:PySem.W.Frag} {tp:Bool} {H:Hp} {a:Addr} {xs:List V} (h:H a=some (HOq tp xs)):SqB K tp H a xs:=by
  cases tp
  · exact SqL.of h
  · exact SqT.of h
def ZCu:Sp:=fun vs H Q _=>∃ (a:Addr) (tp:Bool) (ns:List Str) (x:Str),vs=[.ref a,.str x]∧H a=some (HOq tp (ns.map V.str))∧x∈ns∧Q (.int (ns.idxOf x:Nat)) H
def ZIU:Sp:=fun vs H Q _=>∃ (a:Addr) (tp:Bool) (ns:List Str) (x:Str) (i:Nat),vs=[.ref a,.str x,.int i]∧H a=some (HOq tp (ns.map V.str))∧(Deed.put x i).Ok 40 ns∧∀ H',Same H H'→Q .non H'
def ZGG:Sp:=fun vs H Q _=>∃ (a:Addr) (tp:Bool) (ns:List Str) (x:Str) (i:Nat),vs=[.ref a,.str x,.int i]∧H a=some (HOq tp (ns.map V.str))∧(Deed.move x i).Ok 40 ns∧Q .non H
def ZGc:Sp:=fun vs H Q _=>∃ (a:Addr) (tp:Bool) (ns:List Str) (lo hi:Nat),vs=[.ref a,.int lo,.int hi]∧H a=some (HOq tp (ns.map V.str))∧(Deed.turn lo hi).Ok 40 ns∧Q .non H
def spChk:Sp:=fun vs H Q _=>∃ (a t:Addr) (tp:Bool) (ns:List Str) (d:Deed),vs=[.ref a,.ref t]∧H a=some (HOq tp (ns.map V.str))∧H t=some (.tup d.vals)∧d.Ok 40 ns∧∀ H',Same H H'→Q .non H'
def ZCU (H:Hp) (Q:VK) (ns:List Str):Prop:=∀ l H',H l=none→Same H H'→H' l=some (.lst (ns.map V.str))→Q (.ref l) H'
def spWith:Sp:=fun vs H Q _=>∃ (a:Addr) (tp:Bool) (ns:List Str) (x:Str) (i:Nat),vs=[.ref a,.str x,.int i]∧H a=some (HOq tp (ns.map V.str))∧ns.length≤1000∧ZCU H Q (ins ns x i)
def ZGu:Sp:=fun vs H Q _=>∃ (a:Addr) (tp:Bool) (ns:List Str) (x:Str),vs=[.ref a,.str x]∧H a=some (HOq tp (ns.map V.str))∧ns.length≤1000∧ZCU H Q (wo ns x)
def ZIX:Sp:=fun vs H Q _=>∃ (a:Addr) (tp:Bool) (ns:List Str) (lo hi:Nat),vs=[.ref a,.int lo,.int hi]∧H a=some (HOq tp (ns.map V.str))∧ns.length≤1000∧lo≤hi∧hi≤ns.length∧ZCU H Q (trn ns lo hi)
def ZJ0:Sp:=fun vs H Q _=>∃ (a t:Addr) (tp:Bool) (ns:List Str) (d:Deed),vs=[.ref a,.ref t]∧H a=some (HOq tp (ns.map V.str))∧H t=some (.tup d.vals)∧d.Ok 40 ns∧ns.length≤40∧ZCU H Q (d.done ns)
def spLDone:Sp:=fun vs H Q _=>∃ (a t:Addr) (ns:List Str) (d:Deed),vs=[.ref a,.ref t]∧H a=some (.lst (ns.map V.str))∧H t=some (.tup d.vals)∧d.Ok 40 ns∧ns.length≤40∧ns.Nodup∧ZCU H Q (d.done ns)
def spUndo:Sp:=fun vs H Q _=>∃ (a t:Addr) (tp:Bool) (ns:List Str) (d:Deed),vs=[.ref a,.ref t]∧H a=some (HOq tp (ns.map V.str))∧H t=some (.tup d.vals)∧d.Ok 40 ns∧∀ l H',H l=none→Same H H'→H' l=some (.tup (d.back ns).vals)→Q (.ref l) H'
def ZJG:Sp:=fun vs H Q _=>∃ (p a:Addr) (m:Nat) (ns:List Str),vs=[.ref p,.ref a,.int m]∧Pot H p∧H a=some (.lst (ns.map V.str))∧a≠p∧(∀ x∈ns,Nm x)∧ns.length≤m∧1≤m∧m≤100∧
  ∀ (d:Deed) t H',H t=none→PStep p H H'→H' t=some (.tup d.vals)→d.Ok m ns→Q (.ref t) H'
end Lw
namespace Lw
open PySem PySem.Spec PyProof.Rows L2
theorem iteP {c A B:Prop} [Decidable c] (h:c) (a:A):if c then A else B:=by rw [if_pos h];exact a
theorem ZB0 {c A B:Prop} [Decidable c] (h:¬ c) (b:B):if c then A else B:=by rw [if_neg h];exact b
theorem abc_all:∀ j,j < 26→inAbc (97+j)=true:=by decide +kernel
theorem nm_isNm {x:Str} (h:Nm x):isNm x=true:=by
  obtain ⟨h1,h2,h3⟩:=h
  unfold isNm
  rw [decide_eq_true (by omega),decide_eq_true (by omega),Bool.true_and,Bool.true_and,List.all_eq_true]
  intro c hc
  obtain ⟨a,b⟩:=h3 c hc
  have:=abc_all (c - 97) (by omega)
  have e:97+(c - 97)=c:=by omega
  rw [e] at this
  exact this
theorem ZE3 (ns:List Str):(ns.map V.str).length=ns.length:=List.length_map _
def neqV (y:V):V→Bool:=fun v=>!decide (v=y)
theorem wo_map (ns:List Str) (x:Str):((ns.map V.str).filter (neqV (.str x))).map (fun v=>v)=(wo ns x).map V.str:=by
  unfold wo neqV
  rw [List.map_id',List.filter_map]
  congr 1
  apply List.filter_congr
  intro y _
  simp
end Lw
namespace Lw
open PySem PySem.Spec PyProof.Rows L2
end Lw
namespace Lw
open PySem PySem.Spec PyProof.Rows L2
end Lw
set_option Elab.async false
set_option linter.all false
set_option maxRecDepth 100000
set_option maxHeartbeats 4000000
namespace Fz
open PySem PySem.Spec PyProof.Rows L2 Lw
inductive PV where
  | non | bl (b:Bool) | int (i:Int) | str (x:Str) | lst (xs:List PV) | tup (xs:List PV)
  | dct (ks:List Key) (xs:List PV) | obj (C:Addr) (ns:List Str) (xs:List PV) | exc (C:Addr) (ns:List Str) (xs:List PV) | con (a:Addr) (xs:List PV)
def excO (a C:Addr) (dx:Option Addr):HO:=.ext fun h=>∃ ob vs,h.get? a=some ob∧ob.cls=.ref C∧ob.dict=dx∧ob.data=.fields vs
mutual
inductive Rep (F:Hp):V→PV→Prop where
  | non:Rep F .non .non
  | bl (b:Bool):Rep F (.bl b) (.bl b)
  | int (i:Int):Rep F (.int i) (.int i)
  | str (x:Str):Rep F (.str x) (.str x)
  | lst {a:Addr} {vs:List V} {xs:List PV}:F a=some (.lst vs)→Reps F vs xs→Rep F (.ref a) (.lst xs)
  | tup {a:Addr} {vs:List V} {xs:List PV}:F a=some (.tup vs)→Reps F vs xs→Rep F (.ref a) (.tup xs)
  | dct {a:Addr} {ks:List Key} {vs:List V} {xs:List PV}:F a=some (.dK (ks.zip vs))→ks.length=vs.length→Reps F vs xs→Rep F (.ref a) (.dct ks xs)
  | obj {a C dx:Addr} {ns:List Str} {vs:List V} {xs:List PV}:F a=some (.ins C dx (ns.zip vs))→F dx=some (.own a)→ns.length=vs.length→Reps F vs xs→Rep F (.ref a) (.obj C ns xs)
  | con {a:Addr} {xs:List PV}:Rep F (.ref a) (.con a xs)
  | exc0 {a C:Addr}:F a=some (excO a C none)→Rep F (.ref a) (.exc C [] [])
  | exc {a C dx:Addr} {ns:List Str} {vs:List V} {xs:List PV}:F a=some (excO a C (some dx))→F dx=some (.xd (ns.zip vs))→ns.length=vs.length→Reps F vs xs→Rep F (.ref a) (.exc C ns xs)
inductive Reps (F:Hp):List V→List PV→Prop where
  | nil:Reps F [] []
  | cons {v:V} {p:PV} {vs:List V} {ps:List PV}:Rep F v p→Reps F vs ps→Reps F (v :: vs) (p :: ps)
end
mutual
theorem Rep.mono {F F':Hp} (s:Same F F'):∀ {v:V} {p:PV},Rep F v p→Rep F' v p
  | _,_,.non=>.non
  | _,_,.bl b=>.bl b
  | _,_,.int i=>.int i
  | _,_,.str x=>.str x
  | _,_,.lst h r=>.lst (s _ _ h) (Reps.mono s r)
  | _,_,.tup h r=>.tup (s _ _ h) (Reps.mono s r)
  | _,_,.dct h e r=>.dct (s _ _ h) e (Reps.mono s r)
  | _,_,.obj h h2 e r=>.obj (s _ _ h) (s _ _ h2) e (Reps.mono s r)
  | _,_,.con=>.con
  | _,_,.exc0 h=>.exc0 (s _ _ h)
  | _,_,.exc h h2 e r=>.exc (s _ _ h) (s _ _ h2) e (Reps.mono s r)
theorem Reps.mono {F F':Hp} (s:Same F F'):∀ {vs:List V} {ps:List PV},Reps F vs ps→Reps F' vs ps
  | _,_,.nil=>.nil
  | _,_,.cons r t=>.cons (Rep.mono s r) (Reps.mono s t)
end
theorem Reps.length {F:Hp}:∀ {vs:List V} {ps:List PV},Reps F vs ps→vs.length=ps.length
  | [],_,.nil=>rfl
  | _ :: _,_,.cons _ t=>by rw [List.length_cons,List.length_cons,Reps.length t]
theorem Reps.get {F:Hp}:∀ {vs:List V} {ps:List PV} {i:Nat} {p:PV},Reps F vs ps→ps[i]?=some p→∃ v,vs[i]?=some v∧Rep F v p
  | _,_,_,_,.nil,e=>by simp at e
  | _,_,0,_,.cons r _,e=>by simp at e;subst e;exact ⟨_,rfl,r⟩
  | _,_,i+1,p,.cons _ t,e=>by
    obtain ⟨u,h1,h2⟩:=Reps.get (i:=i) (p:=p) t (by simpa using e)
    exact ⟨u,by simpa using h1,h2⟩
theorem Reps.get' {F:Hp}:∀ {vs:List V} {ps:List PV} {i:Nat} {v:V},Reps F vs ps→vs[i]?=some v→∃ p,ps[i]?=some p∧Rep F v p
  | _,_,_,_,.nil,e=>by simp at e
  | _,_,0,_,.cons r _,e=>by simp at e;subst e;exact ⟨_,rfl,r⟩
  | _,_,i+1,p,.cons _ t,e=>by
    obtain ⟨u,h1,h2⟩:=Reps.get' (i:=i) (v:=p) t (by simpa using e)
    exact ⟨u,by simpa using h1,h2⟩
theorem Reps.append {F:Hp}:∀ {vs ws:List V} {ps qs:List PV},Reps F vs ps→Reps F ws qs→Reps F (vs++ws) (ps++qs)
  | _,_,_,_,.nil,s=>s
  | _,_,_,_,.cons r t,s=>.cons r (Reps.append t s)
theorem Reps.take {F:Hp}:∀ {vs:List V} {ps:List PV} (n:Nat),Reps F vs ps→Reps F (vs.take n) (ps.take n)
  | _,_,0,_=>by simp only [List.take_zero];exact .nil
  | _,_,_+1,.nil=>.nil
  | _,_,n+1,.cons r t=>.cons r (Reps.take n t)
theorem Reps.drop {F:Hp}:∀ {vs:List V} {ps:List PV} (n:Nat),Reps F vs ps→Reps F (vs.drop n) (ps.drop n)
  | _,_,0,r=>r
  | _,_,_+1,.nil=>.nil
  | _,_,n+1,.cons _ t=>Reps.drop n t
theorem Reps.one {F:Hp} {v:V} {p:PV} (r:Rep F v p):Reps F [v] [p]:=.cons r .nil
theorem Reps.reverse {F:Hp}:∀ {vs:List V} {ps:List PV},Reps F vs ps→Reps F vs.reverse ps.reverse
  | _,_,.nil=>.nil
  | _,_,.cons r t=>by rw [List.reverse_cons,List.reverse_cons];exact (Reps.reverse t).append (.one r)
def flat:PV→Bool
  | .lst _=>false
  | .tup _=>false
  | .dct _ _=>false
  | .obj _ _ _=>false
  | .exc _ _ _=>false
  | .con _ _=>false
  | _=>true
def enc:PV→V
  | .bl b=>.bl b
  | .int i=>.int i
  | .str x=>.str x
  | _=>.non
theorem Rep.enc {F:Hp} {v:V} {p:PV} (h:flat p=true) (r:Rep F v p):v=enc p:=by
  cases r <;> first | rfl | cases h
theorem rep_enc {F:Hp} {p:PV} (h:flat p=true):Rep F (enc p) p:=by
  cases p with
  | non=>exact .non
  | bl b=>exact .bl b
  | int i=>exact .int i
  | str x=>exact .str x
  | lst xs=>cases h
  | tup xs=>cases h
  | dct ks xs=>cases h
  | obj C ns xs=>cases h
  | exc C ns xs=>cases h
  | con a xs=>cases h
theorem Reps.enc {F:Hp}:∀ {vs:List V} {ps:List PV},ps.all flat=true→Reps F vs ps→vs=ps.map enc
  | _,_,_,.nil=>rfl
  | _,_,h,.cons r t=>by
    rw [List.all_cons,Bool.and_eq_true] at h
    rw [List.map_cons,← Rep.enc h.1 r,← Reps.enc h.2 t]
theorem ZDc {F:Hp}:∀ {ps:List PV},ps.all flat=true→Reps F (ps.map enc) ps
  | [],_=>.nil
  | p :: r,h=>by
    rw [List.all_cons,Bool.and_eq_true] at h
    exact .cons (rep_enc h.1) (ZDc h.2)
theorem ZCJ {p:PV} (h:flat p=true):ZBN (Fz.enc p)=true:=by cases p <;> first | rfl | cases h
theorem ZGK (ns:List Str):(ns.map PV.str).all flat=true:=by
  rw [List.all_eq_true];intro x hx
  obtain ⟨y,_,rfl⟩:=List.mem_map.mp hx;rfl
theorem ZGQ (ns:List Int):(ns.map PV.int).all flat=true:=by
  rw [List.all_eq_true];intro x hx
  obtain ⟨y,_,rfl⟩:=List.mem_map.mp hx;rfl
theorem bls_flat (ns:List Bool):(ns.map PV.bl).all flat=true:=by
  rw [List.all_eq_true];intro x hx
  obtain ⟨y,_,rfl⟩:=List.mem_map.mp hx;rfl
theorem ZHb (ns:List Str):(ns.map PV.str).map Fz.enc=ns.map V.str:=by rw [List.map_map];rfl
theorem enc_bls (ns:List Bool):(ns.map PV.bl).map Fz.enc=ns.map V.bl:=by rw [List.map_map];rfl
theorem ZIF (ns:List Int):(ns.map PV.int).map Fz.enc=ns.map V.int:=by rw [List.map_map];rfl
theorem Reps.strs {F:Hp} {vs:List V} {ns:List Str} (r:Reps F vs (ns.map PV.str)):vs=ns.map V.str:=(r.enc (ZGK ns)).trans (ZHb ns)
theorem ZB6 {F:Hp} (ns:List Str):Reps F (ns.map V.str) (ns.map PV.str):=by rw [← ZHb];exact ZDc (ZGK ns)
theorem Reps.bls {F:Hp} {vs:List V} {ns:List Bool} (r:Reps F vs (ns.map PV.bl)):vs=ns.map V.bl:=(r.enc (bls_flat ns)).trans (enc_bls ns)
theorem Reps.ints {F:Hp} {vs:List V} {ns:List Int} (r:Reps F vs (ns.map PV.int)):vs=ns.map V.int:=(r.enc (ZGQ ns)).trans (ZIF ns)
inductive NK where
  | lst | dct (ks:List Key) | obj (C dx:Addr) (ns:List Str)
def NK.ho:NK→List V→HO
  | .lst,vs=>.lst vs
  | .dct ks,vs=>.dK (ks.zip vs)
  | .obj C dx ns,vs=>.ins C dx (ns.zip vs)
def NK.more:NK→List Addr
  | .obj _ dx _=>[dx]
  | _=>[]
def NK.side (k:NK) (a:Addr) (H:Hp):Prop:=match k with
  | .obj _ dx _=>H dx=some (.own a)
  | _=>True
def NK.fit (k:NK) (n:Nat):Prop:=match k with
  | .dct ks=>ks.length=n
  | .obj _ _ ns=>ns.length=n
  | _=>True
inductive OV where
  | fz (p:PV)
  | tp (xs:List OV)
  | nd (k:NK) (a:Addr) (xs:List OV)
mutual
def OV.addrs:OV→List Addr
  | .fz _=>[]
  | .tp xs=>OV.addrsL xs
  | .nd k a xs=>a :: (k.more++OV.addrsL xs)
def OV.addrsL:List OV→List Addr
  | []=>[]
  | x :: r=>x.addrs++OV.addrsL r
end
mutual
def OV.pv:OV→PV
  | .fz p=>p
  | .tp xs=>.tup (OV.pvL xs)
  | .nd .lst _ xs=>.lst (OV.pvL xs)
  | .nd (.dct ks) _ xs=>.dct ks (OV.pvL xs)
  | .nd (.obj C _ ns) _ xs=>.obj C ns (OV.pvL xs)
def OV.pvL:List OV→List PV
  | []=>[]
  | x :: r=>x.pv :: OV.pvL r
end
mutual
inductive Orep (F H:Hp):V→OV→Prop where
  | fz {v:V} {p:PV}:Rep F v p→Orep F H v (.fz p)
  | tp {a:Addr} {vs:List V} {xs:List OV}:F a=some (.tup vs)→Oreps F H vs xs→Orep F H (.ref a) (.tp xs)
  | nd {k:NK} {a:Addr} {vs:List V} {xs:List OV}:H a=some (k.ho vs)→k.side a H→k.fit vs.length→Oreps F H vs xs→Orep F H (.ref a) (.nd k a xs)
inductive Oreps (F H:Hp):List V→List OV→Prop where
  | nil:Oreps F H [] []
  | cons {v:V} {t:OV} {vs:List V} {ts:List OV}:Orep F H v t→Oreps F H vs ts→Oreps F H (v :: vs) (t :: ts)
end
theorem OV.addrs_nd {k:NK} {a:Addr} {xs:List OV}:(OV.nd k a xs).addrs=a :: (k.more++OV.addrsL xs):=by rw [OV.addrs]
theorem OV.addrs_tp {xs:List OV}:(OV.tp xs).addrs=OV.addrsL xs:=by rw [OV.addrs]
theorem OV.addrs_fz {p:PV}:(OV.fz p).addrs=[]:=by rw [OV.addrs]
theorem OV.addrsL_cons {x:OV} {r:List OV}:OV.addrsL (x :: r)=x.addrs++OV.addrsL r:=by rw [OV.addrsL]
theorem OV.addrsL_nil:OV.addrsL []=[]:=by rw [OV.addrsL]
theorem NK.side_mono {k:NK} {a:Addr} {H H':Hp} (h:k.side a H) (s:∀ b∈k.more,∀ o,H b=some o→H' b=some o):k.side a H':=by
  cases k with
  | obj C dx ns=>exact s dx (by simp [NK.more]) _ h
  | _=>trivial
mutual
theorem Orep.mono {F F' H H':Hp} (f:Same F F'):∀ {v:V} {t:OV},Orep F H v t→(∀ a∈t.addrs,∀ o,H a=some o→H' a=some o)→Orep F' H' v t
  | _,_,.fz r,_=>.fz (r.mono f)
  | _,_,.tp h r,s=>by
    rw [OV.addrs_tp] at s
    exact .tp (f _ _ h) (Oreps.mono f r s)
  | _,_,.nd h sd ft r,s=>by
    rw [OV.addrs_nd] at s
    exact .nd (s _ (by simp) _ h) (NK.side_mono sd fun b hb=>s b (by simp [hb])) ft (Oreps.mono f r fun a ha=>s a (by simp [ha]))
theorem Oreps.mono {F F' H H':Hp} (f:Same F F'):∀ {vs:List V} {ts:List OV},Oreps F H vs ts→(∀ a∈OV.addrsL ts,∀ o,H a=some o→H' a=some o)→Oreps F' H' vs ts
  | _,_,.nil,_=>.nil
  | _,_,.cons r t,s=>by
    rw [OV.addrsL_cons] at s
    exact .cons (Orep.mono f r fun a ha=>s a (by simp [ha])) (Oreps.mono f t fun a ha=>s a (by simp [ha]))
end
mutual
theorem Orep.there {F H:Hp}:∀ {v:V} {t:OV},Orep F H v t→∀ a∈t.addrs,H a≠none
  | _,_,.fz _,a,ha=>by rw [OV.addrs] at ha;cases ha
  | _,_,.tp _ r,a,ha=>by rw [OV.addrs_tp] at ha;exact Oreps.there r a ha
  | _,_,@Orep.nd _ _ k b vs xs h sd ft r,a,ha=>by
    rw [OV.addrs_nd,List.mem_cons,List.mem_append] at ha
    rcases ha with rfl | ha | ha
    · rw [h];simp
    · cases k with
      | obj C dx ns=>
        have e:a=dx:=by simpa [NK.more] using ha
        subst e
        have sd':H a=some (.own b):=sd
        rw [sd'];simp
      | _=>simp [NK.more] at ha
    · exact Oreps.there r a ha
theorem Oreps.there {F H:Hp}:∀ {vs:List V} {ts:List OV},Oreps F H vs ts→∀ a∈OV.addrsL ts,H a≠none
  | _,_,.nil,a,ha=>by rw [OV.addrsL_nil] at ha;cases ha
  | _,_,.cons r t,a,ha=>by
    rw [OV.addrsL_cons,List.mem_append] at ha
    rcases ha with ha | ha
    · exact Orep.there r a ha
    · exact Oreps.there t a ha
end
theorem Oreps.length {F H:Hp}:∀ {vs:List V} {ts:List OV},Oreps F H vs ts→vs.length=ts.length
  | [],_,.nil=>rfl
  | _ :: _,_,.cons _ t=>by rw [List.length_cons,List.length_cons,Oreps.length t]
inductive Slot where
  | any | is (p:PV) | own (xs:List PV) | pot | sq (tp:Bool) (xs:List PV) | raw (P:Hp→V→Prop) | ow (lt:Bool) (t:OV)
structure Ent0 where
  A:List Addr
  F0:Hp
  H0:Hp
  B:List Addr
abbrev E3 (A:List Addr) (F H:Hp):Ent0:=⟨A,F,H,[]⟩
def Ok (E:Ent0) (F H:Hp):Slot→Option (Option V)→Prop
  | .any,_=>True
  | .is p,o=>∃ v,o=some (some v)∧Rep F v p
  | .own xs,o=>∃ l vs,o=some (some (.ref l))∧F l=none∧E.H0 l=none∧H l=some (.lst vs)∧Reps F vs xs
  | .pot,o=>∃ l,o=some (some (.ref l))∧F l=none∧(E.H0 l=none∨l∈E.A)∧Pot H l
  | .sq true xs,o=>∃ v,o=some (some v)∧Rep F v (.tup xs)
  | .sq false xs,o=>∃ l vs,o=some (some (.ref l))∧(l∉E.A∧l∉E.B)∧E.H0 l=some (.lst vs)∧Reps F vs xs
  | .raw P,o=>∃ v,o=some (some v)∧P F v∧∀ F F',Same F F'→P F v→P F' v
  | .ow lt t,o=>∃ v,o=some (some v)∧Orep F H v t∧t.addrs.Nodup∧∀ a∈t.addrs,F a=none∧(E.H0 a=none∨(lt=true∧a∈E.B))
def ZBR:Slot→Option (Option V)→Addr→Prop
  | .own _,o,l=>o=some (some (.ref l))
  | .pot,o,l=>o=some (some (.ref l))
  | .ow _ t,_,l=>l∈t.addrs
  | _,_,_=>False
structure Fin (E:Ent0) (F H:Hp):Prop where
  fh:Same F H
  f0:Same E.F0 F
  keep:∀ a o,(a∉E.A∧a∉E.B)→E.H0 a=some o→H a=some o
  fresh:∀ a o,F a=some o→E.F0 a=some o∨E.H0 a=none
  pots:∀ a,a∈E.A→Pot H a
  potF:∀ a,a∈E.A→F a=none
  a0:∀ a,a∈E.A→E.H0 a≠none
  bF:∀ a,a∈E.B→F a=none
  bH:∀ a,a∈E.B→H a≠none
  b0:∀ a,a∈E.B→E.H0 a≠none∧a∉E.A
structure Sg (E:Ent0) (ss:List Slot) (σ:L2.St) (F H:Hp):Prop extends Fin E F H where
  len:ss.length=σ.length
  ok:∀ (i:Nat) s,ss[i]?=some s→Ok E F H s σ[i]?
  dis:∀ (i j:Nat) s u l,i≠j→ss[i]?=some s→ss[j]?=some u→ZBR s σ[i]? l→¬ ZBR u σ[j]? l
structure Ex where
  C:Addr
  ns:List Str
  xs:List PV
def Ex.at (x:Ex) (F:Hp) (C:Value) (dx:Option Addr):Prop:=
  C=.ref x.C∧((x.ns=[]∧x.xs=[]∧dx=none)∨∃ a vs,dx=some a∧F a=some (.xd (x.ns.zip vs))∧x.ns.length=vs.length∧Reps F vs x.xs)
class Xw where
  e:L2.St→XK
  J:List Slot→Prop
  D:Ex→Prop
structure Ent [Xw] extends Ent0 where
  hx:∀ (ss:List Slot) (σ:L2.St) (F H:Hp) (x:Ex) (C:Value) (dx:Option Addr),Xw.J ss→Sg toEnt0 ss σ F H→Xw.D x→x.at F C dx→Xw.e σ C dx H
instance [Xw]:CoeOut Ent Ent0:=⟨Ent.toEnt0⟩
instance noX:Xw:=⟨fun _=>E0,fun _=>True,fun _=>False⟩
def ZCW (ss:List Slot) (σ:L2.St) (a:Addr):Prop:=∀ i:Nat,ss[i]?=some .pot→σ[i]?≠some (some (.ref a))
structure Mv (E:Ent0) (ss:List Slot) (σ:L2.St) (F H F' H':Hp):Prop where
  st:Sg E ss σ F' H'
  ff:Same F F'
  hh:∀ a o,ZCW ss σ a→H a=some o→H' a=some o
  nn:∀ a o,F' a=some o→F a=some o∨H a=none
theorem Sg.npotN {E:Ent0} {ss:List Slot} {σ:L2.St} {F H:Hp} (S:Sg E ss σ F H) {l:Addr} (h:H l=none):ZCW ss σ l:=fun i hi e=>by
  obtain ⟨l',e1,_,_,_,_,e2,_⟩:=S.ok i _ hi
  rw [e] at e1
  cases e1
  rw [h] at e2;cases e2
theorem Mv.none {E:Ent0} {ss:List Slot} {σ:L2.St} {F H F' H':Hp} (m:Mv E ss σ F H F' H') {a:Addr} (h:H' a=none):H a=none:=by
  cases e:H a with
  | none=>rfl
  | some o=>rw [m.hh a o (m.st.npotN h) e] at h;cases h
theorem Mv.refl {E:Ent0} {ss:List Slot} {σ:L2.St} {F H:Hp} (S:Sg E ss σ F H):Mv E ss σ F H F H:=⟨S,Same.refl _,fun _ _ _ e=>e,fun _ _ e=>.inl e⟩
theorem Mv.trans {E:Ent0} {ss:List Slot} {σ:L2.St} {F H F1 H1 F2 H2:Hp} (a:Mv E ss σ F H F1 H1) (b:Mv E ss σ F1 H1 F2 H2):Mv E ss σ F H F2 H2:=
  ⟨b.st,a.ff.trans b.ff,fun c o n e=>b.hh c o n (a.hh c o n e),fun c o e=>(b.nn c o e).elim (fun e=>a.nn c o e) fun e=>.inr (a.none e)⟩
section
variable {E:Ent0} {ss:List Slot} {σ:L2.St} {F H F' H':Hp}
theorem Sg.new0 (S:Sg E ss σ F H) {p:Addr} (h:H p=none):E.H0 p=none:=by
  cases e:E.H0 p with
  | none=>rfl
  | some o=>
    by_cases q:p∈E.A
    · obtain ⟨_,_,e1,_⟩:=S.pots p q
      rw [h] at e1;cases e1
    · by_cases qb:p∈E.B
      · exact absurd h (S.bH p qb)
      · rw [S.keep p o ⟨q,qb⟩ e] at h;cases h
theorem Sg.newF (S:Sg E ss σ F H) {p:Addr} (h:H p=none):F p=none:=Same.none S.fh h
theorem Pot.keep {H H':Hp} {l:Addr} (h:Pot H l) (k:∀ o,H l=some o→H' l=some o):Pot H' l:=by
  obtain ⟨a,b,e,r⟩:=h
  exact ⟨a,b,k _ e,r⟩
theorem Sg.npotF (S:Sg E ss σ F H) {l:Addr} {o:HO} (h:F l=some o):ZCW ss σ l:=fun i hi e=>by
  obtain ⟨l',e1,e2,_⟩:=S.ok i _ hi
  rw [e] at e1
  cases e1
  rw [h] at e2;cases e2
theorem Sg.npot0 (S:Sg E ss σ F H) {l:Addr} {o:HO} (hA:l∉E.A) (h:E.H0 l=some o):ZCW ss σ l:=fun i hi e=>by
  obtain ⟨l',e1,_,q,_⟩:=S.ok i _ hi
  rw [e] at e1
  cases e1
  rcases q with q | q
  · rw [h] at q;cases q
  · exact hA q
theorem Sg.npotB (S:Sg E ss σ F H) {l:Addr} (h:l∈E.B):ZCW ss σ l:=fun i hi e=>by
  obtain ⟨l',e1,_,q,_⟩:=S.ok i _ hi
  rw [e] at e1
  cases e1
  obtain ⟨h0,hA⟩:=S.b0 l h
  rcases q with q | q
  · exact h0 q
  · exact hA q
theorem Sg.own_there (S:Sg E ss σ F H) {i:Nat} {s:Slot} {l:Addr} (h:ss[i]?=some s) (m:ZBR s σ[i]? l):H l≠none:=by
  have k:=S.ok i s h
  cases s with
  | own xs=>obtain ⟨l',vs,e1,_,_,e2,_⟩:=k;rw [show σ[i]?=some (some (.ref l)) from m] at e1;cases e1;rw [e2];simp
  | pot=>obtain ⟨l',e1,_,_,_,_,e2,_⟩:=k;rw [show σ[i]?=some (some (.ref l)) from m] at e1;cases e1;rw [e2];simp
  | ow lt t=>obtain ⟨v,_,r,_⟩:=k;exact r.there l m
  | _=>cases m
theorem Sg.newAddr (S:Sg E ss σ F H) {i:Nat} {s:Slot} {l:Addr} (h:ss[i]?=some s) (hl:H l=none):¬ ZBR s σ[i]? l:=fun m=>S.own_there h m hl
theorem Sg.own_npot (S:Sg E ss σ F H) {i:Nat} {s:Slot} {l:Addr} (h:ss[i]?=some s) (m:ZBR s σ[i]? l) (np:s≠.pot):ZCW ss σ l:=fun j hj ej=>
  S.dis i j s _ l (by rintro rfl;rw [h] at hj;exact np (Option.some.inj hj)) h hj m ej
theorem Ok.go (S:Sg E ss σ F H) {i:Nat} {s:Slot} (hi:ss[i]?=some s) (ff:Same F F') (hk:∀ a o,ZBR s σ[i]? a→H a=some o→H' a=some o) (newF:∀ a,H a≠none→F a=none→F' a=none) (np:s≠.pot):Ok E F' H' s σ[i]?:=by
  have k:=S.ok i s hi
  cases s with
  | any=>trivial
  | is p=>obtain ⟨v,e,r⟩:=k;exact ⟨v,e,r.mono ff⟩
  | own xs=>
    obtain ⟨l,vs,e,e1,e2,e3,r⟩:=k
    exact ⟨l,vs,e,newF l (by rw [e3];simp) e1,e2,hk l _ e e3,r.mono ff⟩
  | pot=>exact absurd rfl np
  | sq tp xs=>
    cases tp with
    | true=>obtain ⟨v,e,r⟩:=k;exact ⟨v,e,r.mono ff⟩
    | false=>obtain ⟨l,vs,e,e1,e2,r⟩:=k;exact ⟨l,vs,e,e1,e2,r.mono ff⟩
  | raw P=>obtain ⟨v,e,r,st⟩:=k;exact ⟨v,e,st _ _ ff r,st⟩
  | ow lt t=>
    obtain ⟨v,e,r,nd,q⟩:=k
    exact ⟨v,e,r.mono ff fun a ha o=>hk a o ha,nd,fun a ha=>⟨newF a (r.there a ha) (q a ha).1,(q a ha).2⟩⟩
theorem Sg.step (S:Sg E ss σ F H) (ff:Same F F') (fh:Same F' H') (hk:∀ a o,ZCW ss σ a→H a=some o→H' a=some o) (hn:∀ a o,F' a=some o→F a=some o∨H a=none)
    (hp:∀ (i:Nat) l,ss[i]?=some .pot→σ[i]?=some (some (.ref l))→Pot H' l):Mv E ss σ F H F' H':=by
  have newF:∀ a,H a≠none→F a=none→F' a=none:=fun a h1 h2=>by
    cases e:F' a with
    | none=>rfl
    | some o=>
      rcases hn a o e with q | q
      · rw [h2] at q;cases q
      · exact absurd q h1
  have potk:∀ a,Pot H a→ZCW ss σ a→Pot H' a:=fun a p n=>Pot.keep p fun o e=>hk a o n e
  refine ⟨⟨⟨fh,S.f0.trans ff,fun a o hA e=>?_,fun a o e=>?_,fun a hA=>?_,fun a hA=>?_,S.a0,fun a hB=>newF a (S.bH a hB) (S.bF a hB),fun a hB=>?_,S.b0⟩,S.len,fun i s hi=>?_,S.dis⟩,ff,hk,hn⟩
  · exact hk a o (S.npot0 hA.1 e) (S.keep a o hA e)
  · rcases hn a o e with q | q
    · exact S.fresh a o q
    · exact .inr (S.new0 q)
  · by_cases q:∃ i:Nat,ss[i]?=some .pot∧σ[i]?=some (some (.ref a))
    · obtain ⟨i,q1,q2⟩:=q
      exact hp i a q1 q2
    · exact potk a (S.pots a hA) fun i h1 h2=>q ⟨i,h1,h2⟩
  · refine newF a ?_ (S.potF a hA)
    obtain ⟨_,_,e1,_⟩:=S.pots a hA
    rw [e1];simp
  · obtain ⟨o,e⟩:=Option.ne_none_iff_exists'.mp (S.bH a hB)
    rw [hk a o (S.npotB hB) e];simp
  · by_cases np:s=.pot
    · subst np
      obtain ⟨l,e,e1,e2,e3⟩:=S.ok i _ hi
      have e3':=e3
      obtain ⟨_,_,e4,_⟩:=e3'
      exact ⟨l,e,newF l (by rw [e4];simp) e1,e2,hp i l hi e⟩
    · exact Ok.go S hi ff (fun a o m=>hk a o (S.own_npot hi m np)) newF np
theorem Sg.potAt (S:Sg E ss σ F H) {i:Nat} {l:Addr} (hi:ss[i]?=some .pot) (e:σ[i]?=some (some (.ref l))):Pot H l:=by
  obtain ⟨l',e1,_,_,p⟩:=S.ok i _ hi
  rw [e] at e1;cases e1;exact p
theorem Sg.alloc (S:Sg E ss σ F H) {p:Addr} (h:H p=none) (o:HO):Mv E ss σ F H (upd F p o) (upd H p o):=by
  refine S.step (ZA5 (S.newF h) _) (fun a u e=>?_) (fun a u _ e=>ZA5 h o a u e) (fun a u e=>?_) fun i l hi e=>Pot.keep (S.potAt hi e) fun u e=>ZA5 h o l u e
  · by_cases q:a=p
    · subst q;rw [ZA3] at e ⊢;exact e
    · rw [ZAE q] at e ⊢;exact S.fh a u e
  · by_cases q:a=p
    · subst q;exact .inr h
    · rw [ZAE q] at e;exact .inl e
theorem Sg.make (S:Sg E ss σ F H) {p:Addr} (h:H p=none) (o:HO):Mv E ss σ F H F (upd H p o):=
  S.step (Same.refl _) (S.fh.trans (ZA5 h o)) (fun a u _ e=>ZA5 h o a u e) (fun a u e=>.inl e) fun i l hi e=>Pot.keep (S.potAt hi e) fun u e=>ZA5 h o l u e
theorem Sg.grow (S:Sg E ss σ F H) (s:Same H H'):Mv E ss σ F H F H':=
  S.step (Same.refl _) (S.fh.trans s) (fun a u _ e=>s a u e) (fun a u e=>.inl e) fun i l hi e=>Pot.keep (S.potAt hi e) fun u e=>s l u e
theorem Sg.setG (S:Sg E ss σ F H) {j:Nat} {s:Slot} {v:V} (hok:Ok E F H s (some (some v))) (hdis:∀ l,ZBR s (some (some v)) l→∀ (i:Nat) u,i≠j→ss[i]?=some u→¬ ZBR u σ[i]? l):Sg E (ss.set j s) (σ.set j (some v)) F H:=by
  refine ⟨S.toFin,by rw [List.length_set,List.length_set];exact S.len,fun i u hi=>?_,fun i k u w l hik hi hk mu mw=>?_⟩
  · by_cases q:i=j
    · subst q
      have hlt:i < ss.length:=by have:=(List.getElem?_eq_some_iff.mp hi).1;simpa using this
      rw [List.getElem?_set_self hlt] at hi
      cases hi
      rw [List.getElem?_set_self (by rw [← S.len];exact hlt)]
      exact hok
    · rw [List.getElem?_set_ne (Ne.symm q)] at hi ⊢
      exact S.ok i u hi
  · by_cases q:i=j
    · subst q
      have hlt:i < ss.length:=by have:=(List.getElem?_eq_some_iff.mp hi).1;simpa using this
      rw [List.getElem?_set_self hlt] at hi
      rw [List.getElem?_set_self (by rw [← S.len];exact hlt)] at mu
      cases hi
      rw [List.getElem?_set_ne hik] at hk mw
      exact hdis l mu k w (Ne.symm hik) hk mw
    · rw [List.getElem?_set_ne (Ne.symm q)] at hi mu
      by_cases q2:k=j
      · subst q2
        have hlt:k < ss.length:=by have:=(List.getElem?_eq_some_iff.mp hk).1;simpa using this
        rw [List.getElem?_set_self hlt] at hk
        cases hk
        rw [List.getElem?_set_self (by rw [← S.len];exact hlt)] at mw
        exact hdis l mw i u hik hi mu
      · rw [List.getElem?_set_ne (Ne.symm q2)] at hk mw
        exact S.dis i k u w l hik hi hk mu mw
theorem Sg.setIs (S:Sg E ss σ F H) {j:Nat} {v:V} {p:PV} (r:Rep F v p):Sg E (ss.set j (.is p)) (σ.set j (some v)) F H:=S.setG ⟨v,rfl,r⟩ fun _ h=>by cases h
end
end Fz
set_option Elab.async false
set_option linter.all false
set_option maxRecDepth 100000
set_option maxHeartbeats 4000000
namespace Fz
open PySem PySem.Spec PyProof.Rows L2 Lw
def Sv (ss:List Slot) (σ:L2.St) (F H:Hp) (v:V):Bool→List PV→Prop
  | true,xs=>Rep F v (.tup xs)
  | false,xs=>∃ l vs,v=.ref l∧ZCW ss σ l∧H l=some (.lst vs)∧Reps F vs xs
def Fv (E:Ent0) (F:Hp) (v:V):Bool→List PV→Prop
  | true,xs=>Rep F v (.tup xs)
  | false,xs=>∃ l vs,v=.ref l∧(F l=some (.lst vs)∨((l∉E.A∧l∉E.B)∧E.H0 l=some (.lst vs)))∧Reps F vs xs
structure Wp [Xw] (ss:List Slot) (t:TE) (k:PV→Prop):Prop where
  go:∀ (E:Ent) (σ:L2.St) (F H:Hp) (Q:VK),Sg E ss σ F H→(∀ v p F' H',Mv E ss σ F H F' H'→Rep F' v p→k p→Q v H')→t σ H Q
structure Wn [Xw] (ss:List Slot) (t:TE) (k:List PV→Prop):Prop where
  go:∀ (E:Ent) (σ:L2.St) (F H:Hp) (Q:VK),Sg E ss σ F H→(∀ l vs xs F' H',Mv E ss σ F H F' H'→F' l=none→H l=none→H' l=some (.lst vs)→Reps F' vs xs→k xs→Q (.ref l) H')→t σ H Q
structure Wq [Xw] (ss:List Slot) (t:TE) (k:Bool→List PV→Prop):Prop where
  go:∀ (E:Ent) (σ:L2.St) (F H:Hp) (Q:VK),Sg E ss σ F H→(∀ v tp xs F' H',Mv E ss σ F H F' H'→Sv ss σ F' H' v tp xs→k tp xs→Q v H')→t σ H Q
structure Wz [Xw] (ss:List Slot) (t:TE) (k:Bool→List PV→Prop):Prop where
  go:∀ (E:Ent) (σ:L2.St) (F H:Hp) (Q:VK),Sg E ss σ F H→(∀ v tp xs F' H',Mv E ss σ F H F' H'→Fv E F' v tp xs→k tp xs→Q v H')→t σ H Q
structure Wt [Xw] (ss:List Slot) (t:TT) (k:Bool→Prop):Prop where
  go:∀ (E:Ent) (σ:L2.St) (F H:Hp) (Q:Bool→Hp→Prop),Sg E ss σ F H→(∀ b F' H',Mv E ss σ F H F' H'→k b→Q b H')→t σ H Q
inductive Ret where
  | is (k:PV→Prop) | new (k:List PV→Prop) | pot | ow (k:OV→Prop) | mt (k:PV→OV→Prop)
def OV.val:OV→V
  | .nd _ a _=>.ref a
  | _=>.non
def Ret.ok (R:Ret) (E:Ent0) (F' H':Hp) (v:V):Prop:=match R with
  | .is k=>∃ p,Rep F' v p∧k p
  | .new k=>∃ l vs xs,v=.ref l∧F' l=none∧E.H0 l=none∧H' l=some (.lst vs)∧Reps F' vs xs∧k xs
  | .pot=>∃ l,v=.ref l∧F' l=none∧E.H0 l=none∧Pot H' l
  | .ow k=>∃ t,Orep F' H' v t∧t.addrs.Nodup∧(∀ a∈t.addrs,F' a=none∧E.H0 a=none)∧k t
  | .mt k=>∃ p t,Rep F' v p∧Orep F' H' t.val t∧t.addrs.Nodup∧(∀ a∈t.addrs,F' a=none∧(E.H0 a=none∨a∈E.B))∧k p t
structure Ws [Xw] (ss:List Slot) (t:TS) (nx:List Slot→Prop) (R:Ret):Prop where
  go:∀ (E:Ent) (D:Ends) (σ:L2.St) (F H:Hp),Sg E ss σ F H→(∀ ss' σ' F' H',nx ss'→Sg E ss' σ' F' H'→Same F F'→D.nx σ' H')→(∀ v F' H',Fin E F' H'→R.ok E F' H' v→D.rt v H')→t D σ H
section
variable [Xw]
variable {E:Ent0} {ss:List Slot} {σ:L2.St} {F H F' H':Hp} {K:PySem.W.Frag} {ta tb tc te:TE} {k:PV→Prop} {v:V} {tp:Bool} {xs:List PV} {nx:List Slot→Prop} {R:Ret}
theorem Sv.mv (h:Sv ss σ F H v tp xs) (m:Mv E ss σ F H F' H'):Sv ss σ F' H' v tp xs:=by
  cases tp with
  | true=>exact Rep.mono m.ff h
  | false=>
    obtain ⟨l,vs,e,n,r,q⟩:=h
    exact ⟨l,vs,e,n,m.hh l _ n r,q.mono m.ff⟩
theorem Sv.seq (S:Sg E ss σ F H) (h:Sv ss σ F H v tp xs):∃ l vs,v=.ref l∧H l=some (HOq tp vs)∧Reps F vs xs:=by
  cases tp with
  | true=>cases h with | tup e r=>exact ⟨_,_,rfl,S.fh _ _ e,r⟩
  | false=>obtain ⟨l,vs,e,_,r,q⟩:=h;exact ⟨l,vs,e,r,q⟩
theorem Fv.sv (S:Sg E ss σ F H) (h:Fv E F v tp xs):Sv ss σ F H v tp xs:=by
  cases tp with
  | true=>exact h
  | false=>
    obtain ⟨l,vs,e,h1 | ⟨hA,h1⟩,r⟩:=h
    · exact ⟨l,vs,e,S.npotF h1,S.fh _ _ h1,r⟩
    · exact ⟨l,vs,e,S.npot0 hA.1 h1,S.keep _ _ hA h1,r⟩
theorem Fv.mono (h:Fv E F v tp xs) (s:Same F F'):Fv E F' v tp xs:=by
  cases tp with
  | true=>exact Rep.mono s h
  | false=>
    obtain ⟨l,vs,e,h1,r⟩:=h
    exact ⟨l,vs,e,h1.imp (fun h=>s _ _ h) id,r.mono s⟩
theorem Wp.mono {k':PV→Prop} (h:Wp ss te k) (i:∀ p,k p→k' p):Wp ss te k':=⟨fun E σ F H Q S q=>h.go E σ F H Q S fun v p F' H' m r kk=>q v p F' H' m r (i p kk)⟩
theorem ZAL {i:Nat} {p:PV} (h:ss[i]?=some (.is p)) (hk:k p):Wp ss (ZBi i) k:=⟨fun E σ F H Q S q=>by
  obtain ⟨v,hv,r⟩:=S.ok i _ h
  exact ⟨v,hv,q v p F H (.refl S) r hk⟩⟩
theorem wp_int {i:Int} (hk:k (.int i)):Wp ss (tC (.int i)) k:=⟨fun E σ F H Q S q=>q _ _ F H (.refl S) (.int i) hk⟩
theorem ZJL {x:Str} (hk:k (.str x)):Wp ss (tC (.str x)) k:=⟨fun E σ F H Q S q=>q _ _ F H (.refl S) (.str x) hk⟩
theorem wp_bl {b:Bool} (hk:k (.bl b)):Wp ss (tC (.bl b)) k:=⟨fun E σ F H Q S q=>q _ _ F H (.refl S) (.bl b) hk⟩
theorem ZDE (hk:k .non):Wp ss (tC .non) k:=⟨fun E σ F H Q S q=>q _ _ F H (.refl S) .non hk⟩
theorem ZCj (h:Wn ss te (fun xs=>k (.lst xs))):Wp ss te k:=⟨fun E σ F H Q S q=>h.go E σ F H Q S fun l vs xs F' H' m fl hl hl' r kk=>by
  have S':=m.st
  have fr:Mv E ss σ F H (upd F' l (.lst vs)) H':=by
    have nF:∀ a,H' a≠none→a≠l→F' a=none→upd F' l (.lst vs) a=none:=fun a _ h1 h2=>by rw [ZAE h1];exact h2
    refine ⟨⟨⟨fun a u e=>?_,S'.f0.trans (ZA5 fl _),S'.keep,fun a u e=>?_,S'.pots,fun a hA=>?_,S'.a0,fun a hB=>?_,S'.bH,S'.b0⟩,S'.len,fun i s hi=>?_,S'.dis⟩,m.ff.trans (ZA5 fl _),m.hh,fun a u e=>?_⟩
    · by_cases q:a=l
      · subst q;rw [ZA3] at e;rw [← e];exact hl'
      · rw [ZAE q] at e;exact S'.fh a u e
    · by_cases q:a=l
      · subst q;exact .inr (S.new0 hl)
      · rw [ZAE q] at e;exact S'.fresh a u e
    · by_cases q:a=l
      · subst q
        obtain ⟨_,_,e,_⟩:=S.pots _ hA
        rw [hl] at e;cases e
      · rw [ZAE q];exact S'.potF a hA
    · by_cases q:a=l
      · subst q;exact absurd hl (S.bH _ hB)
      · rw [ZAE q];exact S'.bF a hB
    · have own_ne:∀ a,ZBR s σ[i]? a→a≠l:=by
        rintro a m rfl;exact S.newAddr hi hl m
      have kk:=S'.ok i s hi
      cases s with
      | any=>trivial
      | is p=>obtain ⟨v,e,r⟩:=kk;exact ⟨v,e,r.mono (ZA5 fl _)⟩
      | own ys=>
        obtain ⟨l',ws,e,e1,e2,e3,r⟩:=kk
        exact ⟨l',ws,e,by rw [ZAE (own_ne l' e)];exact e1,e2,e3,r.mono (ZA5 fl _)⟩
      | pot=>
        obtain ⟨l',e,e1,e2,e3⟩:=kk
        exact ⟨l',e,by rw [ZAE (own_ne l' e)];exact e1,e2,e3⟩
      | sq tp ys=>
        cases tp with
        | true=>obtain ⟨v,e,r⟩:=kk;exact ⟨v,e,r.mono (ZA5 fl _)⟩
        | false=>obtain ⟨l',ws,e,e1,e2,r⟩:=kk;exact ⟨l',ws,e,e1,e2,r.mono (ZA5 fl _)⟩
      | raw P=>obtain ⟨v,e,r,st⟩:=kk;exact ⟨v,e,st _ _ (ZA5 fl _) r,st⟩
      | ow lt t=>
        obtain ⟨v,e,r,nd,q⟩:=kk
        exact ⟨v,e,r.mono (ZA5 fl _) fun a _ o h=>h,nd,fun a ha=>⟨by rw [ZAE (own_ne a ha)];exact (q a ha).1,(q a ha).2⟩⟩
    · by_cases q:a=l
      · subst q;exact .inr hl
      · rw [ZAE q] at e;exact m.nn a u e
  exact q _ _ _ _ fr (.lst ZA3 (r.mono (ZA5 fl _))) kk⟩
theorem ZCK {k:Bool→List PV→Prop} (h:Wp ss te (fun p=>∃ xs,(p=.lst xs∧k false xs)∨(p=.tup xs∧k true xs))):Wq ss te k:=⟨fun E σ F H Q S q=>h.go E σ F H Q S fun v p F' H' m r ⟨xs,h⟩=>by
  rcases h with ⟨rfl,kk⟩ | ⟨rfl,kk⟩
  · cases r with | lst h r=>exact q _ false xs F' H' m ⟨_,_,rfl,m.st.npotF h,m.st.fh _ _ h,r⟩ kk
  · exact q v true xs F' H' m r kk⟩
theorem ZCa {i:Nat} {k:Bool→List PV→Prop} (h:ss[i]?=some (.is (.lst xs))) (hk:k false xs):Wq ss (ZBi i) k:=ZCK (ZAL h ⟨xs,.inl ⟨rfl,hk⟩⟩)
theorem wq_isT {i:Nat} {k:Bool→List PV→Prop} (h:ss[i]?=some (.is (.tup xs))) (hk:k true xs):Wq ss (ZBi i) k:=ZCK (ZAL h ⟨xs,.inr ⟨rfl,hk⟩⟩)
theorem wq_own {i:Nat} {k:Bool→List PV→Prop} (h:ss[i]?=some (.own xs)) (hk:k false xs):Wq ss (ZBi i) k:=⟨fun E σ F H Q S q=>by
  obtain ⟨l,vs,e,e1,e2,e3,r⟩:=S.ok i _ h
  exact ⟨_,e,q _ false xs F H (.refl S) ⟨l,vs,rfl,S.own_npot h e (by simp),e3,r⟩ hk⟩⟩
theorem wz_sq {i:Nat} {k:Bool→List PV→Prop} (h:ss[i]?=some (.sq tp xs)) (hk:k tp xs):Wz ss (ZBi i) k:=⟨fun E σ F H Q S q=>by
  have kk:=S.ok i _ h
  cases tp with
  | true=>obtain ⟨v,e,r⟩:=kk;exact ⟨_,e,q _ true xs F H (.refl S) r hk⟩
  | false=>
    obtain ⟨l,vs,e,hA,h0,r⟩:=kk
    exact ⟨_,e,q _ false xs F H (.refl S) ⟨l,vs,rfl,.inr ⟨hA,h0⟩,r⟩ hk⟩⟩
theorem ZCL {k:Bool→List PV→Prop} (h:Wp ss te (fun p=>∃ xs,(p=.lst xs∧k false xs)∨(p=.tup xs∧k true xs))):Wz ss te k:=⟨fun E σ F H Q S q=>h.go E σ F H Q S fun v p F' H' m r ⟨xs,h⟩=>by
  rcases h with ⟨rfl,kk⟩ | ⟨rfl,kk⟩
  · cases r with | lst h r=>exact q _ false xs F' H' m ⟨_,_,rfl,.inl h,r⟩ kk
  · exact q _ true xs F' H' m r kk⟩
theorem ZHn {k:Bool→List PV→Prop} (h:Wz ss te k):Wq ss te k:=⟨fun E σ F H Q S q=>h.go E σ F H Q S fun v tp xs F' H' m f kk=>q v tp xs F' H' m (f.sv m.st) kk⟩
theorem wq_sq {i:Nat} {k:Bool→List PV→Prop} (h:ss[i]?=some (.sq tp xs)) (hk:k tp xs):Wq ss (ZBi i) k:=ZHn (wz_sq h hk)
theorem wp_rI {C:Int→Int→Prop} {f:Int→Int→Int} (h:Wp ss ta fun x=>∃ i,x=.int i∧Wp ss tb fun y=>∃ j,y=.int j∧C i j∧k (.int (f i j))):Wp ss (tOp (rI C fun i j=>.int (f i j)) ta tb) k:=⟨fun E σ F H Q S q=>
  h.go E σ F H _ S fun v p F1 H1 m1 r1 ⟨i,e1,h2⟩=>by
    subst e1;cases r1
    exact h2.go E σ F1 H1 _ m1.st fun v2 p2 F2 H2 m2 r2 ⟨j,e2,c,kk⟩=>by
      subst e2;cases r2
      exact ⟨i,j,rfl,rfl,c,q _ _ F2 H2 (m1.trans m2) (.int _) kk⟩⟩
theorem wp_rI0 {f:Int→Int→Int} (h:Wp ss ta fun x=>∃ i,x=.int i∧Wp ss tb fun y=>∃ j,y=.int j∧k (.int (f i j))):Wp ss (tOp (rI0 fun i j=>.int (f i j)) ta tb) k:=⟨fun E σ F H Q S q=>
  h.go E σ F H _ S fun v p F1 H1 m1 r1 ⟨i,e1,h2⟩=>by
    subst e1;cases r1
    exact h2.go E σ F1 H1 _ m1.st fun v2 p2 F2 H2 m2 r2 ⟨j,e2,kk⟩=>by
      subst e2;cases r2
      exact ⟨i,j,rfl,rfl,q _ _ F2 H2 (m1.trans m2) (.int _) kk⟩⟩
theorem wp_rB0 {f:Int→Int→Bool} (h:Wp ss ta fun x=>∃ i,x=.int i∧Wp ss tb fun y=>∃ j,y=.int j∧k (.bl (f i j))):Wp ss (tOp (rI0 fun i j=>.bl (f i j)) ta tb) k:=⟨fun E σ F H Q S q=>
  h.go E σ F H _ S fun v p F1 H1 m1 r1 ⟨i,e1,h2⟩=>by
    subst e1;cases r1
    exact h2.go E σ F1 H1 _ m1.st fun v2 p2 F2 H2 m2 r2 ⟨j,e2,kk⟩=>by
      subst e2;cases r2
      exact ⟨i,j,rfl,rfl,q _ _ F2 H2 (m1.trans m2) (.bl _) kk⟩⟩
theorem wp_neg {f:Int→Int} (h:Wp ss ta fun x=>∃ i,x=.int i∧k (.int (f i))):Wp ss (tUn (rU fun i=>.int (f i)) ta) k:=⟨fun E σ F H Q S q=>
  h.go E σ F H _ S fun v p F1 H1 m1 r1 ⟨i,e1,kk⟩=>by
    subst e1;cases r1
    exact ⟨i,rfl,q _ _ F1 H1 m1 (.int _) kk⟩⟩
def ZD5:PV→PV→Bool
  | .int i,.int j=>decide (i=j)
  | .str i,.str j=>decide (i=j)
  | .bl i,.bl j=>decide (i=j)
  | .non,.non=>true
  | _,_=>false
def ZGa (p q:PV):Bool:=flat p && flat q && scal (Fz.enc p) (Fz.enc q)
theorem ZIC {p q:PV} (h:ZGa p q=true):decide (Fz.enc p=Fz.enc q)=ZD5 p q:=by
  unfold ZGa at h
  rw [Bool.and_eq_true,Bool.and_eq_true] at h
  obtain ⟨⟨h1,h2⟩,h3⟩:=h
  cases p <;> cases q <;> first | (simp [Fz.enc,ZD5];done) | (simp [flat] at h1;done) | (simp [flat] at h2;done) | (simp [Fz.enc,scal] at h3;done)
theorem ZBv (h:Wp ss ta fun x=>Wp ss tb fun y=>ZGa x y=true∧k (.bl (ZD5 x y))):Wp ss (tOp rEq ta tb) k:=⟨fun E σ F H Q S q=>
  h.go E σ F H _ S fun v p F1 H1 m1 r1 h2=>h2.go E σ F1 H1 _ m1.st fun v2 p2 F2 H2 m2 r2 ⟨sc,kk⟩=>by
    have sc':=sc
    unfold ZGa at sc
    rw [Bool.and_eq_true,Bool.and_eq_true] at sc
    rw [r1.enc sc.1.1,r2.enc sc.1.2]
    refine ⟨sc.2,?_⟩
    rw [ZIC sc']
    exact q _ _ F2 H2 (m1.trans m2) (.bl _) kk⟩
theorem wp_ne (h:Wp ss ta fun x=>Wp ss tb fun y=>ZGa x y=true∧k (.bl (!ZD5 x y))):Wp ss (tOp rNe ta tb) k:=⟨fun E σ F H Q S q=>
  h.go E σ F H _ S fun v p F1 H1 m1 r1 h2=>h2.go E σ F1 H1 _ m1.st fun v2 p2 F2 H2 m2 r2 ⟨sc,kk⟩=>by
    have sc':=sc
    unfold ZGa at sc
    rw [Bool.and_eq_true,Bool.and_eq_true] at sc
    rw [r1.enc sc.1.1,r2.enc sc.1.2]
    refine ⟨sc.2,?_⟩
    rw [ZIC sc']
    exact q _ _ F2 H2 (m1.trans m2) (.bl _) kk⟩
theorem wp_and (h:Wp ss ta fun x=>∃ c,x=.bl c∧if c=true then Wp ss tb k else k (.bl false)):Wp ss (tAndV ta tb) k:=⟨fun E σ F H Q S q=>
  h.go E σ F H _ S fun v p F1 H1 m1 r1 ⟨c,e,h2⟩=>by
    subst e;cases r1
    refine ⟨c,rfl,?_⟩
    cases c with
    | true=>rw [if_pos rfl] at h2 ⊢;exact h2.go E σ F1 H1 _ m1.st fun v2 p2 F2 H2 m2 r2 kk=>q _ _ F2 H2 (m1.trans m2) r2 kk
    | false=>rw [if_neg (by decide)] at h2 ⊢;exact q _ _ F1 H1 m1 (.bl _) h2⟩
theorem wp_or (h:Wp ss ta fun x=>∃ c,x=.bl c∧if c=true then k (.bl true) else Wp ss tb k):Wp ss (tOrV ta tb) k:=⟨fun E σ F H Q S q=>
  h.go E σ F H _ S fun v p F1 H1 m1 r1 ⟨c,e,h2⟩=>by
    subst e;cases r1
    refine ⟨c,rfl,?_⟩
    cases c with
    | true=>rw [if_pos rfl] at h2 ⊢;exact q _ _ F1 H1 m1 (.bl _) h2
    | false=>rw [if_neg (by decide)] at h2 ⊢;exact h2.go E σ F1 H1 _ m1.st fun v2 p2 F2 H2 m2 r2 kk=>q _ _ F2 H2 (m1.trans m2) r2 kk⟩
theorem wp_not (h:Wp ss ta fun x=>∃ c,x=.bl c∧k (.bl (!c))):Wp ss (tNotV ta) k:=⟨fun E σ F H Q S q=>
  h.go E σ F H _ S fun v p F1 H1 m1 r1 ⟨c,e,kk⟩=>by subst e;cases r1;exact ⟨c,rfl,q _ _ F1 H1 m1 (.bl _) kk⟩⟩
theorem wp_chain {f g:Int→Int→Bool} (h:Wp ss ta fun x=>∃ i,x=.int i∧Wp ss tb fun y=>∃ j,y=.int j∧if f i j=true then Wp ss tc (fun z=>∃ l,z=.int l∧k (.bl (g j l))) else k (.bl false)) :
    Wp ss (ZFA (rI0 fun i j=>.bl (f i j)) (rI0 fun i j=>.bl (g i j)) ta tb tc) k:=⟨fun E σ F H Q S q=>
  h.go E σ F H _ S fun v p F1 H1 m1 r1 ⟨i,e1,h2⟩=>by
    subst e1;cases r1
    exact h2.go E σ F1 H1 _ m1.st fun v2 p2 F2 H2 m2 r2 ⟨j,e2,h3⟩=>by
      subst e2;cases r2
      refine ⟨i,j,rfl,rfl,f i j,rfl,?_⟩
      cases c:f i j with
      | true=>
        rw [c,if_pos rfl] at h3
        rw [if_pos rfl]
        exact h3.go E σ F2 H2 _ m2.st fun v3 p3 F3 H3 m3 r3 ⟨l,e3,kk⟩=>by
          subst e3;cases r3
          exact ⟨j,l,rfl,rfl,q _ _ F3 H3 (m1.trans (m2.trans m3)) (.bl _) kk⟩
      | false=>
        rw [c,if_neg (by decide)] at h3
        rw [if_neg (by decide)]
        exact q _ _ F2 H2 (m1.trans m2) (.bl _) h3⟩
theorem ZAR {k:Bool→Prop} (h:Wp ss te fun x=>∃ c,x=.bl c∧k c):Wt ss (ZID te) k:=⟨fun E σ F H Q S q=>
  h.go E σ F H _ S fun v p F1 H1 m1 r1 ⟨c,e,kk⟩=>by subst e;cases r1;exact ⟨c,rfl,q _ F1 H1 m1 kk⟩⟩
theorem wt_b {k:Bool→Prop} (h:Wp ss te fun x=>∃ c,x=.bl c∧k c):Wt ss (tB te) k:=⟨fun E σ F H Q S q=>
  h.go E σ F H _ S fun v p F1 H1 m1 r1 ⟨c,e,kk⟩=>by subst e;cases r1;exact ⟨c,rfl,q _ F1 H1 m1 kk⟩⟩
theorem wt_true {k:Bool→Prop} (h:k true):Wt ss tTrue k:=⟨fun E σ F H Q S q=>q _ F H (.refl S) h⟩
theorem wt_not {t:TT} {k:Bool→Prop} (h:Wt ss t fun c=>k (!c)):Wt ss (tNot t) k:=⟨fun E σ F H Q S q=>h.go E σ F H _ S fun c F1 H1 m1 kk=>q _ F1 H1 m1 kk⟩
theorem ZC7 {t u:TT} {k:Bool→Prop} (h:Wt ss t fun c=>if c=true then Wt ss u k else k false):Wt ss (tAnd t u) k:=⟨fun E σ F H Q S q=>
  h.go E σ F H _ S fun c F1 H1 m1 h2=>by
    show if c=true then _ else _
    cases c with
    | true=>rw [if_pos rfl] at h2 ⊢;exact h2.go E σ F1 H1 _ m1.st fun c2 F2 H2 m2 kk=>q _ F2 H2 (m1.trans m2) kk
    | false=>rw [if_neg (by decide)] at h2 ⊢;exact q _ F1 H1 m1 h2⟩
theorem wt_or {t u:TT} {k:Bool→Prop} (h:Wt ss t fun c=>if c=true then k true else Wt ss u k):Wt ss (tOr t u) k:=⟨fun E σ F H Q S q=>
  h.go E σ F H _ S fun c F1 H1 m1 h2=>by
    show if c=true then _ else _
    cases c with
    | true=>rw [if_pos rfl] at h2 ⊢;exact q _ F1 H1 m1 h2
    | false=>rw [if_neg (by decide)] at h2 ⊢;exact h2.go E σ F1 H1 _ m1.st fun c2 F2 H2 m2 kk=>q _ F2 H2 (m1.trans m2) kk⟩
end
end Fz
set_option Elab.async false
set_option linter.all false
set_option maxRecDepth 100000
set_option maxHeartbeats 4000000
namespace Fz
open PySem PySem.Spec PyProof.Rows L2 Lw
structure We [Xw] (ss:List Slot) (t:TA) (k:List PV→Prop):Prop where
  go:∀ (E:Ent) (σ:L2.St) (F H:Hp) (Q:List V→Hp→Prop),Sg E ss σ F H→(∀ vs ps F' H',Mv E ss σ F H F' H'→Reps F' vs ps→k ps→Q vs H')→t σ H Q
structure Wo [Xw] (ss:List Slot) (t:TO) (k:Option Int→Prop):Prop where
  go:∀ (E:Ent) (σ:L2.St) (F H:Hp) (Q:Option Int→Hp→Prop),Sg E ss σ F H→(∀ o F' H',Mv E ss σ F H F' H'→k o→Q o H')→t σ H Q
section
variable [Xw]
variable {E:Ent0} {ss:List Slot} {σ:L2.St} {F H F' H':Hp} {K:PySem.W.Frag} {ta tb tc te:TE} {k:PV→Prop} {v:V} {tp:Bool} {xs:List PV} {nx:List Slot→Prop} {R:Ret}
theorem ZH8 {k:List PV→Prop} (h:k []):We ss ZAa k:=⟨fun E σ F H Q S q=>q _ _ F H (.refl S) .nil h⟩
theorem ZHQ {k:List PV→Prop} {t:TA} (h:Wp ss te fun p=>We ss t fun ps=>k (p :: ps)):We ss (ZAA te t) k:=⟨fun E σ F H Q S q=>
  h.go E σ F H _ S fun v p F1 H1 m1 r1 h2=>h2.go E σ F1 H1 _ m1.st fun vs ps F2 H2 m2 r2 kk=>q _ _ F2 H2 (m1.trans m2) (.cons (r1.mono m2.ff) r2) kk⟩
theorem wo_none {k:Option Int→Prop} (h:k none):Wo ss ZHR k:=⟨fun E σ F H Q S q=>q _ F H (.refl S) h⟩
theorem wo_some {k:Option Int→Prop} (h:Wp ss te fun p=>∃ i,p=.int i∧k (some i)):Wo ss (tPart te) k:=⟨fun E σ F H Q S q=>
  h.go E σ F H _ S fun v p F1 H1 m1 r1 ⟨i,e,kk⟩=>by subst e;cases r1;exact ⟨i,rfl,q _ F1 H1 m1 kk⟩⟩
theorem ZEz {n:Nat} (h:n≤99999):n < sizeLine:=Nat.lt_of_lt_of_le (Nat.lt_succ_of_le h) (small (Nat.le_refl 100000))
theorem wp_tup {t:TA} (h:We ss t fun ps=>ps.length≤100000∧k (.tup ps)):Wp ss (tTup t) k:=⟨fun E σ F H Q S q=>
  h.go E σ F H _ S fun vs ps F1 H1 m1 r1 ⟨hz,kk⟩=>⟨small (by rw [r1.length];exact hz),fun a ha=>by
    have m2:=m1.st.alloc ha (.tup vs)
    exact q _ _ _ _ (m1.trans m2) (.tup ZA3 (r1.mono m2.ff)) kk⟩⟩
theorem ZIl {t:TA} {k:List PV→Prop} (h:We ss t fun ps=>ps.length≤100000∧k ps):Wn ss (tLst t) k:=⟨fun E σ F H Q S q=>
  h.go E σ F H _ S fun vs ps F1 H1 m1 r1 ⟨hz,kk⟩=>⟨small (by rw [r1.length];exact hz),fun a ha=>by
    have m2:=m1.st.make ha (.lst vs)
    refine q a vs ps F1 _ (m1.trans m2) (m1.st.newF ha) ?_ ZA3 r1 kk
    cases e:H a with
    | none=>rfl
    | some o=>rw [m1.hh a o (m1.st.npotN ha) e] at ha;cases ha⟩⟩
theorem wp_len (h:Wq ss te fun _ xs=>k (.int xs.length)):Wp ss (tCB (rLenS K) (ZAA te ZAa)) k:=⟨fun E σ F H Q S q=>
  h.go E σ F H _ S fun v tp xs F1 H1 m1 sv kk=>by
    obtain ⟨l,vs,rfl,hl,r⟩:=sv.seq m1.st
    refine ⟨l,vs,rfl,(HOq.sq (K:=K) hl).or,?_⟩
    rw [r.length]
    exact q _ _ F1 H1 m1 (.int _) kk⟩
theorem Reps.atI {vs:List V} {i:Int} {p:PV} (r:Reps F vs xs) (h:L2.atI xs i=some p):∃ u,L2.atI vs i=some u∧Rep F u p:=by
  unfold L2.atI at h ⊢
  rw [r.length]
  cases e:ixN xs.length i with
  | none=>rw [e] at h;cases h
  | some j=>
    rw [e] at h
    exact r.get h
theorem wp_ixL (h:Wq ss ta fun tp xs=>tp=false∧Wp ss tb fun y=>∃ i p,y=.int i∧L2.atI xs i=some p∧k p):Wp ss (tOp (rIxL K) ta tb) k:=⟨fun E σ F H Q S q=>
  h.go E σ F H _ S fun v tp xs F1 H1 m1 sv ⟨et,h2⟩=>h2.go E σ F1 H1 _ m1.st fun v2 p2 F2 H2 m2 r2 ⟨i,p,e,ha,kk⟩=>by
    subst e;cases r2;subst et
    obtain ⟨l,vs,rfl,hl,r⟩:=(sv.mv m2).seq m2.st
    obtain ⟨u,hu,ru⟩:=r.atI ha
    exact ⟨l,vs,i,u,rfl,rfl,SqL.of hl,hu,q _ _ F2 H2 (m1.trans m2) ru kk⟩⟩
theorem wp_ixT (h:Wq ss ta fun tp xs=>tp=true∧Wp ss tb fun y=>∃ i p,y=.int i∧L2.atI xs i=some p∧k p):Wp ss (tOp (rIxT K) ta tb) k:=⟨fun E σ F H Q S q=>
  h.go E σ F H _ S fun v tp xs F1 H1 m1 sv ⟨et,h2⟩=>h2.go E σ F1 H1 _ m1.st fun v2 p2 F2 H2 m2 r2 ⟨i,p,e,ha,kk⟩=>by
    subst e;cases r2;subst et
    obtain ⟨l,vs,rfl,hl,r⟩:=(sv.mv m2).seq m2.st
    obtain ⟨u,hu,ru⟩:=r.atI ha
    exact ⟨l,vs,i,u,rfl,rfl,SqT.of hl,hu,q _ _ F2 H2 (m1.trans m2) ru kk⟩⟩
theorem wp_ixQ (h:Wq ss ta fun tp xs=>Wp ss tb fun y=>∃ i p,y=.int i∧L2.atI xs i=some p∧k p):Wp ss (tOp (fun x y H Q=>rIxL K x y H Q∨rIxT K x y H Q) ta tb) k:=⟨fun E σ F H Q S q=>
  h.go E σ F H _ S fun v tp xs F1 H1 m1 sv h2=>h2.go E σ F1 H1 _ m1.st fun v2 p2 F2 H2 m2 r2 ⟨i,p,e,ha,kk⟩=>by
    subst e;cases r2
    obtain ⟨l,vs,rfl,hl,r⟩:=(sv.mv m2).seq m2.st
    obtain ⟨u,hu,ru⟩:=r.atI ha
    cases tp with
    | false=>exact .inl ⟨l,vs,i,u,rfl,rfl,SqL.of hl,hu,q _ _ F2 H2 (m1.trans m2) ru kk⟩
    | true=>exact .inr ⟨l,vs,i,u,rfl,rfl,SqT.of hl,hu,q _ _ F2 H2 (m1.trans m2) ru kk⟩⟩
theorem wp_in {neg:Bool} (h:Wp ss ta fun p=>∃ x,p=.str x∧Wq ss tb fun _ ys=>∃ ns:List Str,ys=ns.map PV.str∧k (.bl (if neg then !decide (x∈ns) else decide (x∈ns)))):Wp ss (tOp (rIn K neg) ta tb) k:=⟨fun E σ F H Q S q=>
  h.go E σ F H _ S fun v p F1 H1 m1 r1 ⟨x,e,h2⟩=>by
    subst e;cases r1
    exact h2.go E σ F1 H1 _ m1.st fun v2 tp ys F2 H2 m2 sv ⟨ns,e2,kk⟩=>by
      subst e2
      obtain ⟨l,vs,rfl,hl,r⟩:=sv.seq m2.st
      rw [r.strs] at hl
      refine ⟨l,_,rfl,(HOq.sq (K:=K) hl).or,rfl,ZAV ns,?_⟩
      rw [ZBg]
      exact q _ _ F2 H2 (m1.trans m2) (.bl _) kk⟩
theorem wn_list {k:List PV→Prop} {r:List V→Hp→VK→Prop} (hr:r=fun xs H Q=>∃ p ys,xs=[.ref p]∧(SqL K H p ys∨SqT K H p ys)∧∀ l,H l=none→Q (.ref l) (upd H l (.lst ys))) (h:Wq ss te fun _ xs=>k xs):Wn ss (tCB r (ZAA te ZAa)) k:=⟨fun E σ F H Q S q=>
  h.go E σ F H _ S fun v tp xs F1 H1 m1 sv kk=>by
    subst hr
    obtain ⟨l,vs,rfl,hl,r⟩:=sv.seq m1.st
    refine ⟨l,vs,rfl,(HOq.sq (K:=K) hl).or,fun a ha=>?_⟩
    have m2:=m1.st.make ha (.lst vs)
    exact q a vs xs F1 _ (m1.trans m2) (m1.st.newF ha) (m1.none ha) ZA3 r kk⟩
theorem ZJ4 {r:List V→Hp→VK→Prop} (hr:r=fun xs H Q=>∃ p ys,xs=[.ref p]∧((SqL K H p ys∧∀ l,H l=none→Q (.ref l) (upd H l (.tup ys)))∨(SqT K H p ys∧Q (.ref p) H))) (h:Wq ss te fun _ xs=>k (.tup xs)):Wp ss (tCB r (ZAA te ZAa)) k:=⟨fun E σ F H Q S q=>
  h.go E σ F H _ S fun v tp xs F1 H1 m1 sv kk=>by
    subst hr
    cases tp with
    | false=>
      obtain ⟨l,vs,rfl,hl,r⟩:=sv.seq m1.st
      refine ⟨l,vs,rfl,.inl ⟨SqL.of hl,fun a ha=>?_⟩⟩
      have m2:=m1.st.alloc ha (.tup vs)
      exact q _ _ _ _ (m1.trans m2) (.tup ZA3 (r.mono m2.ff)) kk
    | true=>
      have sv':Rep F1 v (.tup xs):=sv
      cases sv' with
      | tup e r=>exact ⟨_,_,rfl,.inr ⟨SqT.of (m1.st.fh _ _ e),q _ _ F1 H1 m1 (.tup e r) kk⟩⟩⟩
theorem wn_cat {k:List PV→Prop} (h:Wq ss ta fun tp xs=>tp=false∧Wq ss tb fun tp2 ys=>tp2=false∧xs.length+ys.length≤100000∧k (xs++ys)):Wn ss (tOp rCat ta tb) k:=⟨fun E σ F H Q S q=>
  h.go E σ F H _ S fun v tp xs F1 H1 m1 sv ⟨et,h2⟩=>h2.go E σ F1 H1 _ m1.st fun v2 tp2 ys F2 H2 m2 sv2 ⟨et2,hz,kk⟩=>by
    subst et;subst et2
    obtain ⟨l,vs,rfl,hl,r⟩:=(sv.mv m2).seq m2.st
    obtain ⟨l2,vs2,rfl,hl2,r2⟩:=sv2.seq m2.st
    refine ⟨l,l2,vs,vs2,rfl,rfl,hl,hl2,small (by rw [r.length,r2.length];exact hz),fun a ha=>?_⟩
    have m3:=m2.st.make ha (.lst (vs++vs2))
    exact q a _ _ F2 _ (m1.trans (m2.trans m3)) (m2.st.newF ha) ((m1.trans m2).none ha) ZA3 (r.append r2) kk⟩
def ZFX {α:Type} (xs:List α) (lo hi:Option Int):List α:=(xs.drop (HT.sIx xs.length 0 lo)).take (HT.sIx xs.length xs.length hi - HT.sIx xs.length 0 lo)
theorem Reps.cut {vs:List V} (r:Reps F vs xs) (lo hi:Option Int):Reps F (ZC4 vs lo hi) (ZFX xs lo hi):=by
  unfold ZC4 ZFX
  rw [r.length]
  exact (r.drop _).take _
theorem wn_slice {k:List PV→Prop} {tl th:TO} (h:Wq ss te fun tp xs=>tp=false∧Wo ss tl fun lo=>Wo ss th fun hi=>k (ZFX xs lo hi)):Wn ss (tSl (rSlL K) te tl th) k:=⟨fun E σ F H Q S q=>
  h.go E σ F H _ S fun v tp xs F1 H1 m1 sv ⟨et,h2⟩=>h2.go E σ F1 H1 _ m1.st fun lo F2 H2 m2 h3=>h3.go E σ F2 H2 _ m2.st fun hi F3 H3 m3 kk=>by
    subst et
    obtain ⟨l,vs,rfl,hl,r⟩:=(sv.mv (m2.trans m3)).seq m3.st
    refine ⟨l,vs,rfl,SqL.of hl,fun a ha=>?_⟩
    have m4:=m3.st.make ha (.lst (ZC4 vs lo hi))
    exact q a _ _ F3 _ (m1.trans (m2.trans (m3.trans m4))) (m3.st.newF ha) ((m1.trans (m2.trans m3)).none ha) ZA3 (r.cut lo hi) kk⟩
def seqP (tp:Bool) (xs:List PV):PV:=if tp then .tup xs else .lst xs
def rSl2 (K:PySem.W.Frag):V→Option Int→Option Int→Hp→VK→Prop:=fun x lo hi H Q=>rSlL K x lo hi H Q∨rSlA K x lo hi H Q
theorem ZGI {tl th:TO} (h:Wq ss te fun tp xs=>Wo ss tl fun lo=>Wo ss th fun hi=>k (seqP tp (ZFX xs lo hi))):Wp ss (tSl (rSl2 K) te tl th) k:=⟨fun E σ F H Q S q=>
  h.go E σ F H _ S fun v tp xs F1 H1 m1 sv h2=>h2.go E σ F1 H1 _ m1.st fun lo F2 H2 m2 h3=>h3.go E σ F2 H2 _ m2.st fun hi F3 H3 m3 kk=>by
    have sv3:=sv.mv (m2.trans m3)
    have m13:=m1.trans (m2.trans m3)
    cases tp with
    | false=>
      obtain ⟨l,vs,rfl,hl,r⟩:=sv3.seq m3.st
      refine .inl ⟨l,vs,rfl,SqL.of hl,fun a ha=>?_⟩
      have m4:=m3.st.alloc ha (.lst (ZC4 vs lo hi))
      exact q _ _ _ _ (m13.trans m4) (.lst ZA3 ((r.cut lo hi).mono m4.ff)) kk
    | true=>
      have sv':Rep F3 v (.tup xs):=sv3
      cases sv' with
      | @tup _ vs _ e r=>
        refine .inr ⟨_,vs,rfl,SqT.of (m3.st.fh _ _ e),fun hw=>?_,fun hw a ha=>?_⟩
        · have ew:ZFX xs lo hi=xs:=by
            rw [r.length] at hw
            unfold ZFX;rw [hw.1,hw.2];simp
          refine q _ _ F3 H3 m13 (.tup e r) ?_
          have kk':=kk
          rw [ew] at kk'
          exact kk'
        · have m4:=m3.st.alloc ha (.tup (ZC4 vs lo hi))
          exact q _ _ _ _ (m13.trans m4) (.tup ZA3 ((r.cut lo hi).mono m4.ff)) kk⟩
theorem ZKX {k:List PV→Prop} (h:Wq ss te fun _ xs=>∃ ns:List Str,xs=ns.map PV.str∧ns.length < 64∧∀ ns':List Str,ns'.Perm ns→sortedS ns'=true→k (ns'.map PV.str)):Wn ss (tCB (ZJy K) (ZAA te ZAa)) k:=⟨fun E σ F H Q S q=>
  h.go E σ F H _ S fun v tp xs F1 H1 m1 sv ⟨ns,e,hz,kk⟩=>by
    subst e
    obtain ⟨l,vs,rfl,hl,r⟩:=sv.seq m1.st
    rw [r.strs] at hl
    refine ⟨l,tp,ns,rfl,HOq.sq hl,hz,fun a ns' ha hp hs=>?_⟩
    have m2:=m1.st.make ha (.lst (ns'.map V.str))
    exact q a _ _ F1 _ (m1.trans m2) (m1.st.newF ha) (m1.none ha) ZA3 (ZB6 ns') (kk ns' hp hs)⟩
theorem ZIt (xs ys:List Str):ZCc (xs.map V.str) (ys.map V.str)=decide (xs=ys):=by
  by_cases h:xs=ys
  · subst h;rw [ZKR,decide_eq_true rfl]
  · rw [decide_eq_false h]
    by_cases hl:xs.length=ys.length
    · rw [ZBY (by simpa using hl)]
      cases c:(List.range (xs.map V.str).length).all fun j=>eqV ((xs.map V.str).getD j .non) ((ys.map V.str).getD j .non) with
      | false=>rfl
      | true=>
        exfalso
        apply h
        apply List.ext_getElem hl
        intro j h1 h2
        have q:=List.all_eq_true.mp c j (List.mem_range.mpr (by simpa using h1))
        have e1:(xs.map V.str)[j]?=some (.str xs[j]):=by rw [List.getElem?_map,List.getElem?_eq_getElem h1];rfl
        have e2:(ys.map V.str)[j]?=some (.str ys[j]):=by rw [List.getElem?_map,List.getElem?_eq_getElem h2];rfl
        rw [ZC2 e1,ZC2 e2] at q
        have q':(xs[j] == ys[j])=true:=q
        simpa using q'
    · rw [ZCR (by simpa using hl)]
theorem wp_eqS {neg:Bool} (h:Wq ss ta fun tp xs=>∃ ns:List Str,xs=ns.map PV.str∧Wq ss tb fun tp2 ys=>tp2=tp∧∃ ms:List Str,ys=ms.map PV.str∧k (.bl (if neg then !decide (ns=ms) else decide (ns=ms)))):Wp ss (tOp (rEqS K neg) ta tb) k:=⟨fun E σ F H Q S q=>
  h.go E σ F H _ S fun v tp xs F1 H1 m1 sv ⟨ns,e1,h2⟩=>h2.go E σ F1 H1 _ m1.st fun v2 tp2 ys F2 H2 m2 sv2 ⟨et,ms,e2,kk⟩=>by
    subst e1;subst e2;subst et
    obtain ⟨l,vs,rfl,hl,r⟩:=(sv.mv m2).seq m2.st
    obtain ⟨l2,vs2,rfl,hl2,r2⟩:=sv2.seq m2.st
    rw [r.strs] at hl
    rw [r2.strs] at hl2
    refine ⟨l,l2,ns.map V.str,ms.map V.str,rfl,rfl,?_,ZAV _,ZAV _,?_⟩
    · cases tp2
      · exact .inl ⟨SqL.of hl,SqL.of hl2⟩
      · exact .inr ⟨SqT.of hl,SqT.of hl2⟩
    · rw [ZIt]
      cases neg
      · exact q _ _ F2 H2 (m1.trans m2) (.bl _) kk
      · exact q _ _ F2 H2 (m1.trans m2) (.bl _) kk⟩
theorem wp_all {r:List V→Hp→VK→Prop} (hr:r=fun xs H Q=>∃ (p:Addr) (bs:List Bool),xs=[.ref p]∧SqL K H p (bs.map V.bl)∧Q (.bl (bs.all id)) H) (h:Wq ss te fun tp xs=>tp=false∧∃ bs:List Bool,xs=bs.map PV.bl∧k (.bl (bs.all id))):Wp ss (tCB r (ZAA te ZAa)) k:=⟨fun E σ F H Q S q=>
  h.go E σ F H _ S fun v tp xs F1 H1 m1 sv ⟨et,bs,e,kk⟩=>by
    subst hr;subst e;subst et
    obtain ⟨l,vs,rfl,hl,r⟩:=sv.seq m1.st
    rw [r.bls] at hl
    exact ⟨l,bs,rfl,SqL.of hl,q _ _ F1 H1 m1 (.bl _) kk⟩⟩
theorem wp_any {r:List V→Hp→VK→Prop} (hr:r=fun xs H Q=>∃ (p:Addr) (bs:List Bool),xs=[.ref p]∧SqL K H p (bs.map V.bl)∧Q (.bl (bs.any id)) H) (h:Wq ss te fun tp xs=>tp=false∧∃ bs:List Bool,xs=bs.map PV.bl∧k (.bl (bs.any id))):Wp ss (tCB r (ZAA te ZAa)) k:=⟨fun E σ F H Q S q=>
  h.go E σ F H _ S fun v tp xs F1 H1 m1 sv ⟨et,bs,e,kk⟩=>by
    subst hr;subst e;subst et
    obtain ⟨l,vs,rfl,hl,r⟩:=sv.seq m1.st
    rw [r.bls] at hl
    exact ⟨l,bs,rfl,SqL.of hl,q _ _ F1 H1 m1 (.bl _) kk⟩⟩
def tyP:PV→String
  | .non => "NoneType"
  | .bl _ => "bool"
  | .int _ => "int"
  | .str _ => "str"
  | .lst _ => "list"
  | .tup _ => "tuple"
  | .dct _ _ => "dict"
  | _ => ""
def tyV:PV→Value
  | .obj _ _ _=>.none
  | .exc _ _ _=>.none
  | .con _ _=>.none
  | p=>.type (tyP p)
theorem wp_max {r:List V→Hp→VK→Prop} (hr:r=fun xs H Q=>∃ i j,xs=[.int i,.int j]∧Q (.int (if j > i then j else i)) H) (h:Wp ss ta fun x=>∃ i,x=.int i∧Wp ss tb fun y=>∃ j,y=.int j∧k (.int (if j > i then j else i))):Wp ss (tCB r (ZAA ta (ZAA tb ZAa))) k:=⟨fun E σ F H Q S q=>
  h.go E σ F H _ S fun v p F1 H1 m1 r1 ⟨i,e1,h2⟩=>by
    subst hr;subst e1;cases r1
    exact h2.go E σ F1 H1 _ m1.st fun v2 p2 F2 H2 m2 r2 ⟨j,e2,kk⟩=>by
      subst e2;cases r2
      exact ⟨i,j,rfl,q _ _ F2 H2 (m1.trans m2) (.int _) kk⟩⟩
theorem wp_min {r:List V→Hp→VK→Prop} (hr:r=fun xs H Q=>∃ i j,xs=[.int i,.int j]∧Q (.int (if j < i then j else i)) H) (h:Wp ss ta fun x=>∃ i,x=.int i∧Wp ss tb fun y=>∃ j,y=.int j∧k (.int (if j < i then j else i))):Wp ss (tCB r (ZAA ta (ZAA tb ZAa))) k:=⟨fun E σ F H Q S q=>
  h.go E σ F H _ S fun v p F1 H1 m1 r1 ⟨i,e1,h2⟩=>by
    subst hr;subst e1;cases r1
    exact h2.go E σ F1 H1 _ m1.st fun v2 p2 F2 H2 m2 r2 ⟨j,e2,kk⟩=>by
      subst e2;cases r2
      exact ⟨i,j,rfl,q _ _ F2 H2 (m1.trans m2) (.int _) kk⟩⟩
end
end Fz
set_option Elab.async false
set_option linter.all false
set_option maxRecDepth 100000
set_option maxHeartbeats 4000000
namespace Fz
open PySem PySem.Spec PyProof.Rows L2 Lw
structure Src (E:Ent0) (F1:Hp) (J:It) (xs:List PV):Prop where
  go:∀ (ss:List Slot) (σ:L2.St) (F H:Hp) (i:Nat),Same F1 F→Sg E ss σ F H→i < xs.length→J.go i H
  stop:∀ (ss:List Slot) (σ:L2.St) (F H:Hp),Same F1 F→Sg E ss σ F H→J.stop xs.length H
  yld:∀ (ss:List Slot) (σ:L2.St) (F H:Hp) (i:Nat) (x:V) (H':Hp),Same F1 F→Sg E ss σ F H→i < xs.length→J.yld i H x H'→∃ p F',xs[i]?=some p∧Mv E ss σ F H F' H'∧Rep F' x p
structure Wi [Xw] (ss:List Slot) (wi:TI) (k:List PV→Prop):Prop where
  go:∀ (E:Ent) (σ:L2.St) (F H:Hp) (R:It→Hp→Prop),Sg E ss σ F H→(∀ J xs F' H',Mv E ss σ F H F' H'→Src E F' J xs→k xs→R J H')→wi σ H R
structure Wg [Xw] (ss:List Slot) (g:TG) (p:PV) (k:List Slot→Prop):Prop where
  go:∀ (E:Ent) (σ:L2.St) (F H:Hp) (v:V) (Q:L2.St→Hp→Prop),Sg E ss σ F H→Rep F v p→(∀ ss' σ',k ss'→Sg E ss' σ' F H→Q σ' H)→g v σ H Q
section
variable [Xw]
variable {E:Ent0} {ss:List Slot} {σ:L2.St} {F H F' H':Hp} {K:PySem.W.Frag} {ta tb tc te:TE} {k:PV→Prop} {v:V} {tp:Bool} {xs:List PV} {nx:List Slot→Prop} {R:Ret}
theorem src_sq {l:Addr} {vs:List V} (h:∀ (ss:List Slot) (σ:L2.St) (F H:Hp),Same F' F→Sg E ss σ F H→H l=some (HOq tp vs)) (r:Reps F' vs xs):Src E F' (Its K tp l vs) xs where
  go:=fun ss σ F H i s S hi=>⟨HOq.sq (h ss σ F H s S),by rw [r.length];exact hi⟩
  stop:=fun ss σ F H s S=>⟨HOq.sq (h ss σ F H s S),by rw [r.length];exact Nat.le_refl _⟩
  yld:=fun ss σ F H i x H' s S hi y=>by
    obtain ⟨e,hx⟩:=y
    subst e
    obtain ⟨p,hp,rp⟩:=r.get' hx
    exact ⟨p,F,hp,.refl S,rp.mono s⟩
theorem wi_sq {k:List PV→Prop} (h:Wz ss te fun _ xs=>k xs):Wi ss (iSq K te) k:=⟨fun E σ F H R S q=>
  h.go E σ F H _ S fun v tp xs F1 H1 m1 f kk=>by
    cases tp with
    | true=>
      have f':Rep F1 v (.tup xs):=f
      cases f' with
      | tup e r=>exact ⟨true,_,_,rfl,SqT.of (m1.st.fh _ _ e),q _ _ F1 H1 m1 (src_sq (tp:=true) (fun ss σ F H s S=>S.fh _ _ (s _ _ e)) r) kk⟩
    | false=>
      obtain ⟨l,vs,rfl,h1,r⟩:=f
      have hl:∀ (ss:List Slot) (σ:L2.St) (F H:Hp),Same F1 F→Sg E ss σ F H→H l=some (.lst vs):=fun ss σ F H s S=>by
        rcases h1 with h1 | ⟨hA,h1⟩
        · exact S.fh _ _ (s _ _ h1)
        · exact S.keep _ _ hA h1
      exact ⟨false,l,vs,rfl,SqL.of (hl ss σ F1 H1 (Same.refl _) m1.st),q _ _ F1 H1 m1 (src_sq (tp:=false) hl r) kk⟩⟩
def ZDO (n:Nat):List PV:=(List.range n).map fun i:Nat=>PV.int (i:Int)
theorem ZDt (n:Nat):(ZDO n).length=n:=by simp [ZDO]
theorem rngP_at {n i:Nat} {p:PV} (h:(ZDO n)[i]?=some p):i < n∧p=.int (i:Int):=by
  have hi:i < n:=by have:=(List.getElem?_eq_some_iff.mp h).1;rwa [ZDt] at this
  unfold ZDO at h
  rw [List.getElem?_map,List.getElem?_range hi] at h
  exact ⟨hi,(Option.some.inj h).symm⟩
theorem wi_rng {k:List PV→Prop} (h:Wp ss te fun p=>∃ j:Int,p=.int j∧j≤1000000∧-1000000≤j∧k (ZDO j.toNat)):Wi ss (iRng1 (ZAA te ZAa)) k:=⟨fun E σ F H R S q=>
  h.go E σ F H _ S fun v p F1 H1 m1 r ⟨j,e,h1,h2,kk⟩=>by
    subst e;cases r
    refine ⟨j,rfl,by omega,by omega,q _ (ZDO j.toNat) F1 H1 m1 ⟨fun ss σ F H i s S hi=>?_,fun ss σ F H s S=>?_,fun ss σ F H i x H' s S hi y=>?_⟩ kk⟩
    · rw [ZDt] at hi;exact hi
    · show _≤_
      rw [ZDt];exact Nat.le_refl _
    · obtain ⟨e,hx⟩:=y
      subst e;subst hx
      rw [ZDt] at hi
      refine ⟨.int (i:Int),F,?_,.refl S,?_⟩
      · unfold ZDO;rw [List.getElem?_map,List.getElem?_range hi];rfl
      · rw [Int.zero_add];exact .int _⟩
theorem wg_name {j:Nat} {p:PV} {k:List Slot→Prop} (h:k (ss.set j (.is p))):Wg ss (ZC9 j) p k:=⟨fun E σ F H v Q S r q=>q _ _ h (S.setIs r)⟩
theorem ZHD {i j:Nat} {p:PV} {k:List Slot→Prop} (h:∃ a b,p=.tup [a,b]∧k ((ss.set i (.is a)).set j (.is b))):Wg ss (gTup K 2 (gCons (ZC9 i) (gCons (ZC9 j) gNil))) p k:=⟨fun E σ F H v Q S r q=>by
  obtain ⟨a,b,rfl,kk⟩:=h
  cases r with
  | tup e r=>
    cases r with
    | cons r1 r=>cases r with
      | cons r2 r=>cases r with
        | nil=>exact ⟨_,_,rfl,SqT.of (S.fh _ _ e),rfl,_,_,rfl,_,_,rfl,rfl,q _ _ kk ((S.setIs r1).setIs r2)⟩⟩
theorem ZAn {t u:TS} (h:Ws ss t (fun ss'=>Ws ss' u nx R) R):Ws ss (tSeq t u) nx R:=⟨fun E D σ F H S hn hr=>
  h.go E { D with nx:=u D } σ F H S (fun ss' σ' F' H' w S' s=>w.go E D σ' F' H' S' (fun ss2 σ2 F2 H2 n2 S2 s2=>hn ss2 σ2 F2 H2 n2 S2 (s.trans s2)) hr) hr⟩
theorem ZAr {t:TS} (h:Ws ss t nx R):Ws ss (tCut t) nx R:=⟨fun E D σ F H S hn hr=>⟨D.nx,h.go E { D with nx:=D.nx } σ F H S hn hr,fun _ _ q=>q⟩⟩
theorem Ws.mono {t:TS} {nx':List Slot→Prop} (h:Ws ss t nx R) (i:∀ s,nx s→nx' s):Ws ss t nx' R:=⟨fun E D σ F H S hn hr=>h.go E D σ F H S (fun ss' σ' F' H' n=>hn ss' σ' F' H' (i _ n)) hr⟩
theorem ZEd {t u:TS} (J:List Slot→Prop) (h:Ws ss t J R) (h2:∀ ss',J ss'→Ws ss' u nx R):Ws ss (tSeq t u) nx R:=ZAn (h.mono h2)
theorem ZFU {i:Nat} (h:Wp ss te fun p=>nx (ss.set i (.is p))):Ws ss (ZFh te (ZC9 i)) nx R:=⟨fun E D σ F H S hn hr=>
  h.go E σ F H _ S fun v p F1 H1 m1 r kk=>hn _ _ F1 H1 kk (m1.st.setIs r) m1.ff⟩
theorem ZJW {g:TG} (h:Wp ss te fun p=>Wg ss g p nx):Ws ss (ZFh te g) nx R:=⟨fun E D σ F H S hn hr=>
  h.go E σ F H _ S fun v p F1 H1 m1 r kk=>kk.go E σ F1 H1 v _ m1.st r fun ss' σ' n S'=>hn _ _ F1 H1 n S' m1.ff⟩
theorem ZDZ {i:Nat} (h:Wn ss te fun xs=>nx (ss.set i (.own xs))):Ws ss (ZFh te (ZC9 i)) nx R:=⟨fun E D σ F H S hn hr=>
  h.go E σ F H _ S fun l vs xs F1 H1 m1 fl hl hl1 r kk=>hn _ _ F1 H1 kk (m1.st.setG ⟨l,vs,rfl,fl,S.new0 hl,hl1,r⟩ fun l' e j u _ hu mu=>by cases e;exact S.newAddr hu hl mu) m1.ff⟩
theorem ws_ret {k:PV→Prop} (h:Wp ss te k):Ws ss (tRet te) nx (.is k):=⟨fun E D σ F H S hn hr=>
  h.go E σ F H _ S fun v p F1 H1 m1 r kk=>hr v F1 H1 m1.st.toFin ⟨p,r,kk⟩⟩
theorem ws_retN {k:List PV→Prop} (h:Wn ss te k):Ws ss (tRet te) nx (.new k):=⟨fun E D σ F H S hn hr=>
  h.go E σ F H _ S fun l vs xs F1 H1 m1 fl hl hl1 r kk=>hr _ F1 H1 m1.st.toFin ⟨l,vs,xs,rfl,fl,S.new0 hl,hl1,r,kk⟩⟩
theorem ws_retO {i:Nat} {k:List PV→Prop} (h:ss[i]?=some (.own xs)) (kk:k xs):Ws ss (tRet (ZBi i)) nx (.new k):=⟨fun E D σ F H S hn hr=>by
  obtain ⟨l,vs,e,e1,e2,e3,r⟩:=S.ok i _ h
  exact ⟨_,e,hr _ F H S.toFin ⟨l,vs,xs,rfl,e1,e2,e3,r,kk⟩⟩⟩
theorem ZBT {c:TT} {t u:TS} (h:Wt ss c fun b=>if b=true then Ws ss t nx R else Ws ss u nx R):Ws ss (tIfS c t u) nx R:=⟨fun E D σ F H S hn hr=>
  h.go E σ F H _ S fun b F1 H1 m1 w=>by
    show if b=true then _ else _
    cases b with
    | true=>rw [if_pos rfl] at w ⊢;exact w.go E D σ F1 H1 m1.st (fun ss2 σ2 F2 H2 n S2 s2=>hn ss2 σ2 F2 H2 n S2 (m1.ff.trans s2)) hr
    | false=>rw [if_neg (by decide)] at w ⊢;exact w.go E D σ F1 H1 m1.st (fun ss2 σ2 F2 H2 n S2 s2=>hn ss2 σ2 F2 H2 n S2 (m1.ff.trans s2)) hr⟩
theorem ZAY (h:nx ss):Ws ss tNext nx R:=⟨fun E D σ F H S hn hr=>hn ss σ F H h S (Same.refl _)⟩
theorem Sg.drop (S:Sg E ss σ F H) (i:Nat):Sg E (ss.set i .any) σ F H:=by
  have at1:∀ (j:Nat) u,(ss.set i .any)[j]?=some u→u=.any∨ss[j]?=some u:=fun j u hj=>by
    by_cases q:j=i
    · subst q
      have hlt:j < ss.length:=by have:=(List.getElem?_eq_some_iff.mp hj).1;simpa using this
      rw [List.getElem?_set_self hlt] at hj
      exact .inl (Option.some.inj hj).symm
    · rw [List.getElem?_set_ne (Ne.symm q)] at hj;exact .inr hj
  refine ⟨S.toFin,by rw [List.length_set];exact S.len,fun j u hj=>?_,fun j k u w l hjk hj hk mu mw=>?_⟩
  · rcases at1 j u hj with rfl | h
    · trivial
    · exact S.ok j u h
  · rcases at1 j u hj with rfl | h
    · cases mu
    · rcases at1 k w hk with rfl | h2
      · cases mw
      · exact S.dis j k u w l hjk h h2 mu mw
theorem ZCI {i:Nat} {v:V} (e:σ[i]?=some (some v)):σ.set i (some v)=σ:=by
  apply List.ext_getElem?
  intro j
  by_cases q:j=i
  · subst q
    rw [List.getElem?_set_self (List.getElem?_eq_some_iff.mp e).1,e]
  · rw [List.getElem?_set_ne (Ne.symm q)]
theorem Sg.poke (S:Sg E ss σ F H) {a:Addr} {o:HO} (fa:F a=none) (h0:E.H0 a=none∨a∈E.B) (hn:∀ (i:Nat) s,ss[i]?=some s→¬ ZBR s σ[i]? a):Sg E ss σ F (upd H a o):=by
  have hb:∀ b u,b≠a→H b=some u→upd H a o b=some u:=fun b u h e=>by rw [ZAE h];exact e
  refine ⟨⟨fun b u e=>?_,S.f0,fun b u hA e=>?_,S.fresh,fun b hA=>?_,S.potF,S.a0,S.bF,fun b hB=>?_,S.b0⟩,S.len,fun i s hi=>?_,S.dis⟩
  · exact hb b u (ZAT e fa) (S.fh b u e)
  · refine hb b u ?_ (S.keep b u hA e)
    rintro rfl
    rcases h0 with h0 | h0
    · rw [h0] at e;cases e
    · exact hA.2 h0
  · refine Pot.keep (S.pots b hA) fun u e=>hb b u ?_ e
    rintro rfl
    rcases h0 with h0 | h0
    · exact S.a0 _ hA h0
    · exact (S.b0 _ h0).2 hA
  · by_cases q:b=a
    · subst q;rw [ZA3];simp
    · rw [ZAE q];exact S.bH b hB
  · by_cases np:s=.pot
    · subst np
      obtain ⟨l,e,e1,e2,e3⟩:=S.ok i _ hi
      exact ⟨l,e,e1,e2,Pot.keep e3 fun u h=>hb l u (by rintro rfl;exact hn i _ hi e) h⟩
    · exact Ok.go S hi (Same.refl _) (fun b u m h=>hb b u (by rintro rfl;exact hn i _ hi m) h) (fun _ _ h=>h) np
theorem Sg.put (S:Sg E ss σ F H) {i:Nat} {l:Addr} {vs':List V} {xs ys:List PV} (hi:ss[i]?=some (.own xs)) (e:σ[i]?=some (some (.ref l))) (fl:F l=none) (h0:E.H0 l=none) (r:Reps F vs' ys):Sg E (ss.set i (.own ys)) σ F (upd H l (.lst vs')):=by
  have ne1:∀ (j:Nat) s,(ss.set i .any)[j]?=some s→¬ ZBR s σ[j]? l:=fun j s hj mj=>by
    by_cases q:j=i
    · subst q
      have hlt:j < ss.length:=(List.getElem?_eq_some_iff.mp hi).1
      rw [List.getElem?_set_self hlt] at hj
      cases hj;cases mj
    · rw [List.getElem?_set_ne (Ne.symm q)] at hj
      exact S.dis j i s _ l q hj hi mj e
  have S2:=(S.drop i).poke (o:=.lst vs') fl (.inl h0) ne1
  have S3:=S2.setG (j:=i) (s:=.own ys) (v:=.ref l) ⟨l,vs',rfl,fl,h0,ZA3,r⟩ fun l' e' j u hj hu mu=>by cases e';exact ne1 j u hu mu
  rw [ZCI e,List.set_set] at S3
  exact S3
theorem ZGg {i:Nat} (hi:ss[i]?=some (.own xs)) (h:Wp ss te fun p=>xs.length≤99999∧nx (ss.set i (.own (xs++[p])))):Ws ss (ZFi (tBM K "list" ZEZ (ZBi i) (ZAA te ZAa))) nx R:=⟨fun E D σ F H S hn hr=>by
  obtain ⟨l,vs,e,e1,e2,e3,r⟩:=S.ok i _ hi
  refine ⟨_,e,.inl ⟨rfl,_,SqL.of e3⟩,h.go E σ F H _ S fun v p F1 H1 m1 rv ⟨hz,kk⟩=>?_⟩
  obtain ⟨l',vs',e',e1',e2',e3',r'⟩:=m1.st.ok i _ hi
  rw [e] at e'
  cases e'
  refine ⟨l,vs',v,rfl,rfl,e3',ZEz (by rw [r'.length];exact hz),?_⟩
  exact hn _ σ F1 _ kk (m1.st.put hi e e1' e2' (r'.append (.one rv))) m1.ff⟩
theorem ZK7 {i:Nat} (hi:ss[i]?=some (.own xs)) (h:Wp ss ta fun a=>∃ j:Int,a=.int j∧0≤j∧j≤xs.length∧Wp ss te fun p=>xs.length≤99999∧nx (ss.set i (.own (xs.take j.toNat++p :: xs.drop j.toNat)))) :
    Ws ss (ZFi (tBM K "list" rInsert (ZBi i) (ZAA ta (ZAA te ZAa)))) nx R:=⟨fun E D σ F H S hn hr=>by
  obtain ⟨l,vs,e,e1,e2,e3,r⟩:=S.ok i _ hi
  refine ⟨_,e,.inl ⟨rfl,_,SqL.of e3⟩,h.go E σ F H _ S fun v1 p1 F1 H1 m1 rv1 ⟨j,ej,j0,j1,h2⟩=>?_⟩
  subst ej;cases rv1
  refine h2.go E σ F1 H1 _ m1.st fun v p F2 H2 m2 rv ⟨hz,kk⟩=>?_
  obtain ⟨l',vs',e',e1',e2',e3',r'⟩:=m2.st.ok i _ hi
  rw [e] at e'
  cases e'
  refine ⟨l,vs',j,v,rfl,rfl,e3',j0,by rw [r'.length];exact j1,ZEz (by rw [r'.length];exact hz),?_⟩
  exact hn _ σ F2 _ kk (m2.st.put hi e e1' e2' ((r'.take _).append (.cons rv (r'.drop _)))) (m1.ff.trans m2.ff)⟩
theorem ZJ9 {i:Nat} (hi:ss[i]?=some (.own xs)) (h:nx (ss.set i (.own xs.reverse))):Ws ss (ZFi (tBM0 K "list" rReverse (ZBi i))) nx R:=⟨fun E D σ F H S hn hr=>by
  obtain ⟨l,vs,e,e1,e2,e3,r⟩:=S.ok i _ hi
  exact ⟨_,e,.inl ⟨rfl,_,SqL.of e3⟩,l,vs,rfl,rfl,e3,hn _ σ F _ h (S.put hi e e1 e2 r.reverse) (Same.refl _)⟩⟩
def ZBw (F H:Hp) (as:List Addr):Hp:=fun a=>if a∈as then H a else F a
theorem Sg.lay (S:Sg E ss σ F H) (as:List Addr) (h0:∀ a∈as,F a=none∧E.H0 a=none∧H a≠none) (hn:∀ a∈as,∀ (i:Nat) s,ss[i]?=some s→¬ ZBR s σ[i]? a):Sg E ss σ (ZBw F H as) H∧Same F (ZBw F H as):=by
  have hin:∀ a,a∈as→ZBw F H as a=H a:=fun a h=>if_pos h
  have hout:∀ a,a∉as→ZBw F H as a=F a:=fun a h=>if_neg h
  have ff:Same F (ZBw F H as):=fun a o e=>by
    by_cases q:a∈as
    · rw [(h0 a q).1] at e;cases e
    · rw [hout a q];exact e
  have nF:∀ a,a∉as→F a=none→ZBw F H as a=none:=fun a q h=>by rw [hout a q];exact h
  refine ⟨⟨⟨fun a o e=>?_,S.f0.trans ff,S.keep,fun a o e=>?_,S.pots,fun a hA=>?_,S.a0,fun a hB=>?_,S.bH,S.b0⟩,S.len,fun i s hi=>?_,S.dis⟩,ff⟩
  · by_cases q:a∈as
    · rw [hin a q] at e;exact e
    · rw [hout a q] at e;exact S.fh a o e
  · by_cases q:a∈as
    · exact .inr (h0 a q).2.1
    · rw [hout a q] at e;exact S.fresh a o e
  · exact nF a (fun q=>S.a0 a hA (h0 a q).2.1) (S.potF a hA)
  · exact nF a (fun q=>(S.b0 a hB).1 (h0 a q).2.1) (S.bF a hB)
  · have no:∀ a,ZBR s σ[i]? a→a∉as:=fun a m q=>hn a q i s hi m
    have kk:=S.ok i s hi
    cases s with
    | any=>trivial
    | is p=>obtain ⟨v,e,r⟩:=kk;exact ⟨v,e,r.mono ff⟩
    | own ys=>
      obtain ⟨l',ws,q,q1,q2,q3,r⟩:=kk
      exact ⟨l',ws,q,nF l' (no l' q) q1,q2,q3,r.mono ff⟩
    | pot=>
      obtain ⟨l',q,q1,q2,q3⟩:=kk
      exact ⟨l',q,nF l' (no l' q) q1,q2,q3⟩
    | sq tp ys=>
      cases tp with
      | true=>obtain ⟨v,e,r⟩:=kk;exact ⟨v,e,r.mono ff⟩
      | false=>obtain ⟨l',ws,q,q1,q2,r⟩:=kk;exact ⟨l',ws,q,q1,q2,r.mono ff⟩
    | raw P=>obtain ⟨v,e,r,st⟩:=kk;exact ⟨v,e,st _ _ ff r,st⟩
    | ow lt t=>
      obtain ⟨v,e,r,nd,q⟩:=kk
      exact ⟨v,e,r.mono ff fun a _ o h=>h,nd,fun a ha=>⟨nF a (no a ha) (q a ha).1,(q a ha).2⟩⟩
theorem ZGM {t:TS} (i:Nat) (hi:ss[i]?=some (.own xs)) (h:Ws (ss.set i (.is (.lst xs))) t nx R):Ws ss t nx R:=⟨fun E D σ F H S hn hr=>by
  obtain ⟨l,vs,e,e1,e2,e3,r⟩:=S.ok i _ hi
  have one:∀ a,a∈[l]→a=l:=fun a h=>by simpa using h
  obtain ⟨S1,nf⟩:=(S.drop i).lay [l] (fun a h=>by rw [one a h,e3];exact ⟨e1,e2,by simp⟩) fun a h j s hj m=>by
    rw [one a h] at m
    by_cases q:j=i
    · subst q
      rw [List.getElem?_set_self (List.getElem?_eq_some_iff.mp hi).1] at hj
      cases hj;cases m
    · rw [List.getElem?_set_ne (Ne.symm q)] at hj
      exact S.dis j i s _ l q hj hi m e
  have S2:=S1.setIs (j:=i) (v:=.ref l) (p:=.lst xs) (.lst (by unfold ZBw;rw [if_pos (by simp)];exact e3) (r.mono nf))
  rw [ZCI e,List.set_set] at S2
  exact h.go E D σ _ H S2 (fun ss2 σ2 F2 H2 n S2 s2=>hn ss2 σ2 F2 H2 n S2 (nf.trans s2)) hr⟩
theorem ws_for {wi:TI} {g:TG} {tb:TS} (I:List PV→Nat→List Slot→Prop) (h:Wi ss wi fun xs=>I xs 0 ss∧(∀ (i:Nat) p ss',xs[i]?=some p→I xs i ss'→Wg ss' g p fun ss2=>Ws ss2 tb (I xs (i+1)) R)∧∀ ss',I xs xs.length ss'→nx ss'):Ws ss (tFor wi g tb) nx R:=⟨fun E D σ F H S hn hr=>
  h.go E σ F H _ S fun J xs F1 H1 m1 sr ⟨i0,hs,hd⟩=>by
    refine ⟨fun i m σ' H'=>m=xs.length - i∧i≤xs.length∧∃ ss' F',I xs i ss'∧Sg E ss' σ' F' H'∧Same F1 F',⟨_,rfl,Nat.zero_le _,ss,F1,i0,m1.st,Same.refl _⟩,?_⟩
    rintro i m σ' H' ⟨rfl,hi,ss',F',hI,S',s'⟩
    by_cases hlt:i < xs.length
    · refine .inr ⟨sr.go ss' σ' F' H' i s' S' hlt,fun σ2 H2=>∃ ss2 F2,I xs (i+1) ss2∧Sg E ss2 σ2 F2 H2∧Same F1 F2,fun σ2 H2 ⟨ss2,F2,a,b,c⟩=>⟨_,by omega,rfl,hlt,ss2,F2,a,b,c⟩,fun x H3 y=>?_⟩
      obtain ⟨p,F3,hp,m3,rp⟩:=sr.yld ss' σ' F' H' i x H3 s' S' hlt y
      refine (hs i p ss' hp hI).go E σ' F3 H3 x _ m3.st rp fun ss4 σ4 w S4=>?_
      exact w.go E _ σ4 F3 H3 S4 (fun ss5 σ5 F5 H5 n5 S5 s5=>⟨ss5,F5,n5,S5,(s'.trans m3.ff).trans s5⟩) hr
    · have e:i=xs.length:=by omega
      subst e
      exact .inl ⟨sr.stop ss' σ' F' H' s' S',hn ss' σ' F' H' (hd ss' hI) S' (m1.ff.trans s')⟩⟩
theorem ws_while {c:TT} {tb:TS} (I:Nat→List Slot→Prop) (m0:Nat) (h0:I m0 ss) (h:∀ m ss',I m ss'→Wt ss' c fun b=>if b=true then Ws ss' tb (fun ss2=>∃ m',m' < m∧I m' ss2) R else nx ss'):Ws ss (ZIr c tb) nx R:=⟨fun E D σ F H S hn hr=>by
  refine ⟨fun m σ' H'=>∃ ss' F',I m ss'∧Sg E ss' σ' F' H'∧Same F F',⟨m0,ss,F,h0,S,Same.refl _⟩,?_⟩
  rintro m σ' H' ⟨ss',F',hI,S',s'⟩
  refine (h m ss' hI).go E σ' F' H' _ S' fun b F1 H1 m1 w=>?_
  cases b with
  | true=>
    rw [if_pos rfl] at w
    refine ⟨fun σ2 H2=>∃ ss2 F2,(∃ m',m' < m∧I m' ss2)∧Sg E ss2 σ2 F2 H2∧Same F F2,fun σ2 H2 ⟨ss2,F2,⟨m',l,i⟩,b,c⟩=>⟨m',l,ss2,F2,i,b,c⟩,?_⟩
    exact w.go E _ σ' F1 H1 m1.st (fun ss5 σ5 F5 H5 n5 S5 s5=>⟨ss5,F5,n5,S5,(s'.trans m1.ff).trans s5⟩) hr
  | false=>
    rw [if_neg (by decide)] at w
    exact hn ss' σ' F1 H1 w m1.st (s'.trans m1.ff)⟩
end
def ZCX (js:List Nat) (ss:List Slot):List Slot:=js.map fun j=>(ss[j]?).getD .any
def noPot (js:List Nat) (ss:List Slot):Bool:=js.all fun j=>match ss[j]? with
  | some .pot=>false
  | _=>true
section
variable [Xw]
variable {E:Ent0} {ss:List Slot} {σ:L2.St} {F H F' H':Hp} {K:PySem.W.Frag} {js:List Nat}
theorem capS_at {i:Nat} {s:Slot} {j:Nat} (h:js[i]?=some j) (e:(ZCX js ss)[i]?=some s):s=(ss[j]?).getD .any:=by
  unfold ZCX at e
  rw [List.getElem?_map,h] at e
  exact (Option.some.inj e).symm
theorem Sg.caps (S:Sg E ss σ F H) (nd:js.Nodup) {vs:List V} {ps:List PV} (r:Reps F vs ps):Sg E (ZCX js ss++ps.map .is) (ZAc js σ++vs.map some) F H:=by
  have hl:(ZCX js ss).length=js.length:=by simp [ZCX]
  have hl2:(ZAc js σ).length=js.length:=by simp [ZAc]
  have at1:∀ (i:Nat) (hi:i < js.length),(ZCX js ss++ps.map .is)[i]?=some ((ss[js[i]]?).getD .any)∧(ZAc js σ++vs.map some)[i]?=some ((σ[js[i]]?).join):=fun i hi=>by
    rw [List.getElem?_append_left (by rw [hl];exact hi),List.getElem?_append_left (by rw [hl2];exact hi)]
    unfold ZCX ZAc
    rw [List.getElem?_map,List.getElem?_map,List.getElem?_eq_getElem hi]
    exact ⟨rfl,rfl⟩
  have at2:∀ (i:Nat) s,js.length≤i→(ZCX js ss++ps.map .is)[i]?=some s→∃ p v,s=.is p∧(ZAc js σ++vs.map some)[i]?=some (some v)∧Rep F v p:=fun i s hi e=>by
    rw [List.getElem?_append_right (by rw [hl];exact hi),hl,List.getElem?_map] at e
    rw [List.getElem?_append_right (by rw [hl2];exact hi),hl2,List.getElem?_map]
    cases q:ps[i - js.length]? with
    | none=>rw [q] at e;cases e
    | some p=>
      rw [q] at e
      obtain ⟨v,hv,rv⟩:=r.get q
      rw [hv]
      exact ⟨p,v,(Option.some.inj e).symm,rfl,rv⟩
  have fx:∀ (s:Slot) (m:Nat) (l:Addr),ZBR s (some (σ[m]?).join) l→ZBR s σ[m]? l:=fun s m l o=>by
    have fy:∀ l,some (σ[m]?).join=some (some (V.ref l))→σ[m]?=some (some (.ref l)):=fun l e=>by
      cases q:σ[m]? with
      | none=>rw [q] at e;cases e
      | some o=>rw [q] at e;cases o with
        | none=>cases e
        | some v=>simpa using e
    cases s with
    | own xs=>exact fy l o
    | pot=>exact fy l o
    | ow lt t=>exact o
    | _=>exact o
  have sm:∀ (i:Nat) s l,(ZCX js ss++ps.map .is)[i]?=some s→ZBR s (ZAc js σ++vs.map some)[i]? l→∃ hi:i < js.length,ss[js[i]]?=some s∧ZBR s σ[js[i]]? l:=fun i s l e m=>by
    by_cases hi:i < js.length
    · rw [(at1 i hi).2] at m
      refine ⟨hi,?_,fx s _ l m⟩
      rw [(at1 i hi).1] at e
      cases q:ss[js[i]]? with
      | none=>rw [q] at e;cases e;cases m
      | some u=>rw [q] at e;exact e
    · obtain ⟨p,v,rfl,_⟩:=at2 i s (by omega) e
      cases m
  refine ⟨S.toFin,?_,fun i s e=>?_,fun i j s u l hij hi hj ms mu=>?_⟩
  · rw [List.length_append,List.length_append,hl,hl2,List.length_map,List.length_map,r.length]
  · by_cases hi:i < js.length
    · obtain ⟨a,b⟩:=at1 i hi
      rw [a] at e
      rw [b]
      cases q:ss[js[i]]? with
      | none=>rw [q] at e;cases e;trivial
      | some u=>
        rw [q] at e
        have eu:u=s:=Option.some.inj e
        subst eu
        have kk:=S.ok _ _ q
        cases u with
        | any=>trivial
        | is p=>obtain ⟨v,e,r⟩:=kk;rw [e];exact ⟨v,rfl,r⟩
        | own xs=>obtain ⟨l,vs,e,r⟩:=kk;rw [e];exact ⟨l,vs,rfl,r⟩
        | pot=>obtain ⟨l,e,r⟩:=kk;rw [e];exact ⟨l,rfl,r⟩
        | sq tp xs=>
          cases tp with
          | true=>obtain ⟨v,e,r⟩:=kk;rw [e];exact ⟨v,rfl,r⟩
          | false=>obtain ⟨l,vs,e,r⟩:=kk;rw [e];exact ⟨l,vs,rfl,r⟩
        | raw P=>obtain ⟨v,e,r⟩:=kk;rw [e];exact ⟨v,rfl,r⟩
        | ow lt t=>obtain ⟨v,e,r⟩:=kk;rw [e];exact ⟨v,rfl,r⟩
    · obtain ⟨p,v,rfl,hv,rv⟩:=at2 i s (by omega) e
      rw [hv];exact ⟨v,rfl,rv⟩
  · obtain ⟨li,qi,oi⟩:=sm i s l hi ms
    obtain ⟨lj,qj,oj⟩:=sm j u l hj mu
    refine S.dis js[i] js[j] s u l (fun e=>hij ?_) qi qj oi oj
    exact (List.getElem_inj nd).mp e
theorem Mv.out {ps:List PV} {τ:L2.St} (S:Sg E ss σ F H) (np:noPot js ss=true) (m:Mv E (ZCX js ss++ps.map .is) τ F H F' H'):Mv E ss σ F H F' H':=by
  have nn:∀ a,ZCW (ZCX js ss++ps.map .is) τ a:=fun a i hi _=>by
    by_cases h:i < (ZCX js ss).length
    · rw [List.getElem?_append_left h] at hi
      have hj:i < js.length:=by simpa [ZCX] using h
      have q:=capS_at (List.getElem?_eq_getElem hj) hi
      have z:=List.all_eq_true.mp np js[i] (List.getElem_mem hj)
      cases w:ss[js[i]]? with
      | none=>rw [w] at q;cases q
      | some u=>rw [w] at q z;cases q;cases z
    · rw [List.getElem?_append_right (by omega),List.getElem?_map] at hi
      cases w:ps[i - (ZCX js ss).length]? with
      | none=>rw [w] at hi;cases hi
      | some p=>rw [w] at hi;cases hi
  have hk:∀ a o,H a=some o→H' a=some o:=fun a o e=>m.hh a o (nn a) e
  exact S.step m.ff m.st.fh (fun a o _ e=>hk a o e) m.nn fun i l hi e=>Pot.keep (S.potAt hi e) fun o e=>hk l o e
theorem ZJa {wi:TI} {tt:TT} {te:TE} {k:List PV→Prop} (f:PV→Bool) (g:PV→PV)
    (h:Wi ss wi fun xs=>xs.length≤100000∧(∀ x∈xs,Wt (ZCX js ss++[.is x]) tt fun b=>b=f x)∧(∀ x∈xs,f x=true→Wp (ZCX js ss++[.is x]) te fun p=>p=g x)∧k ((xs.filter f).map g))
    (nd:js.Nodup:=by decide) (np:noPot js ss=true:=by rfl):Wn ss (ZGo wi js tt te) k:=⟨fun E σ F H Q S q=>
  h.go E σ F H _ S fun J xs F1 H1 m1 sr ⟨hz,ht,he,kk⟩ acc hacc=>by
    have npa:ZCW ss σ acc:=m1.st.npotN hacc
    have h0a:=m1.st.new0 hacc
    have sla:∀ (i:Nat) s,ss[i]?=some s→¬ ZBR s σ[i]? acc:=fun i s hi=>m1.st.newAddr hi hacc
    refine ⟨fun i m H2=>m=xs.length - i∧i≤xs.length∧∃ F2 vs,Mv E ss σ F1 H1 F2 H2∧F2 acc=none∧H2 acc=some (.lst vs)∧Reps F2 vs (((xs.take i).filter f).map g),⟨_,rfl,Nat.zero_le _,F1,[],m1.st.make hacc _,m1.st.newF hacc,ZA3,.nil⟩,?_⟩
    rintro i m H2 ⟨rfl,hi,F2,vs,m2,fa,ha,rv⟩
    by_cases hlt:i < xs.length
    · refine .inr ⟨sr.go ss σ F2 H2 i m2.ff m2.st hlt,fun x H3 y=>?_⟩
      obtain ⟨p,F3,hp,m3,rp⟩:=sr.yld ss σ F2 H2 i x H3 m2.ff m2.st hlt y
      have hpm:p∈xs:=List.mem_of_getElem? hp
      have htk:(xs.take (i+1))=xs.take i++[p]:=by
        have e2:xs[i]=p:=by rw [List.getElem?_eq_getElem hlt] at hp;exact Option.some.inj hp
        rw [List.take_succ_eq_append_getElem hlt,e2]
      have e1:List.filter f (xs.take (i+1))=(xs.take i).filter f++(if f p=true then [p] else []):=by
        rw [htk,List.filter_append];congr 1
        by_cases hf:f p=true <;> simp [hf]
      have notF:∀ {F4:Hp},(∀ a o,F4 a=some o→F2 a=some o∨H2 a=none)→F4 acc=none:=fun {F4} n=>by
        cases e:F4 acc with
        | none=>rfl
        | some o=>
          rcases n acc o e with w | w
          · rw [fa] at w;cases w
          · rw [ha] at w;cases w
      have S3:=m3.st.caps (js:=js) nd (.one rp)
      refine (ht p hpm).go E _ F3 H3 _ S3 fun b F4 H4 m4 hb=>?_
      have m34:=m3.trans (m4.out (ps:=[p]) m3.st np)
      show if b=true then _ else _
      rw [hb]
      by_cases hf:f p=true
      · rw [if_pos hf]
        have S4:=m34.st.caps (js:=js) nd (.one (rp.mono (m4.out (ps:=[p]) m3.st np).ff))
        refine (he p hpm hf).go E _ F4 H4 _ S4 fun w pw F5 H5 m5 rw5 ew=>?_
        have m45:=m4.out (ps:=[p]) m3.st np
        have m5':=m5.out (ps:=[p]) m34.st np
        have m25:=m34.trans m5'
        have ha5:=m25.hh acc _ npa ha
        have fa5:=notF m25.nn
        have hlen:vs.length≤99999:=by
          rw [rv.length,List.length_map]
          have:=List.length_filter_le f (xs.take i)
          rw [List.length_take] at this
          omega
        refine ⟨vs,ha5,ZEz hlen,xs.length - (i+1),by omega,rfl,hlt,F5,vs++[w],?_,fa5,ZA3,?_⟩
        · have m15:=m2.trans m25
          refine ⟨m15.st.poke fa5 (.inl h0a) sla,m15.ff,fun a o n e=>?_,m15.nn⟩
          rw [ZAE (ZAT e hacc)];exact m15.hh a o n e
        · rw [e1,if_pos hf,List.map_append]
          rw [ew] at rw5
          exact (rv.mono m25.ff).append (.one rw5)
      · have hf':f p=false:=by simpa using hf
        rw [hf',if_neg (by decide)]
        refine ⟨xs.length - (i+1),by omega,rfl,hlt,F4,vs,m2.trans m34,notF m34.nn,m34.hh acc _ npa ha,?_⟩
        rw [e1,if_neg hf,List.append_nil]
        exact rv.mono m34.ff
    · have e:i=xs.length:=by omega
      subst e
      refine .inl ⟨sr.stop ss σ F2 H2 m2.ff m2.st,q acc vs _ F2 H2 (m1.trans m2) fa (m1.none hacc) ha ?_ kk⟩
      rw [List.take_length] at rv
      exact rv⟩
end
abbrev Pre:=List Slot→Ret→Prop
section
variable [Xw]
variable {E:Ent0} {ss:List Slot} {σ:L2.St} {F H F' H':Hp} {pre:Pre} {t:TA} {k:PV→Prop}
theorem Sg.back (S:Sg E ss σ F H) {A:List Addr} (hA:∀ a,a∈A→∃ i:Nat,ss[i]?=some .pot∧σ[i]?=some (some (.ref a))) (f:Fin (E3 A F H) F' H'):Mv E ss σ F H F' H':=by
  refine S.step f.f0 f.fh (fun a o n e=>f.keep a o ⟨fun h=>?_,List.not_mem_nil⟩ e) f.fresh fun i l hi e=>?_
  · obtain ⟨i,q1,q2⟩:=hA a h
    exact n i q1 q2
  · by_cases q:l∈A
    · exact f.pots l q
    · exact Pot.keep (S.potAt hi e) fun o e=>f.keep l o ⟨q,List.not_mem_nil⟩ e
theorem Sg.grown (S:Sg E ss σ F H) (n:Nat):Sg E (ss++List.replicate n .any) (σ++List.replicate n none) F H:=by
  have at1:∀ (i:Nat) s,(ss++List.replicate n .any)[i]?=some s→s≠.any→ss[i]?=some s∧(σ++List.replicate n none)[i]?=σ[i]?:=fun i s e hs=>by
    by_cases h:i < ss.length
    · rw [List.getElem?_append_left h] at e
      rw [List.getElem?_append_left (by rw [← S.len];exact h)]
      exact ⟨e,rfl⟩
    · rw [List.getElem?_append_right (by omega),List.getElem?_replicate] at e
      split at e
      · exact absurd (Option.some.inj e).symm hs
      · cases e
  refine ⟨S.toFin,by simp [S.len],fun i s e=>?_,fun i j s u l hij hi hj ms mu=>?_⟩
  · cases s with
    | any=>trivial
    | _=>obtain ⟨a,b⟩:=at1 i _ e (by simp);rw [b];exact S.ok i _ a
  · have ns:s≠.any:=by rintro rfl;cases ms
    have nu:u≠.any:=by rintro rfl;cases mu
    obtain ⟨a,b⟩:=at1 i s hi ns
    obtain ⟨c,d⟩:=at1 j u hj nu
    rw [b] at ms
    rw [d] at mu
    exact S.dis i j s u l hij a c ms mu
end
section
variable {E:Ent0} {ss:List Slot} {σ:L2.St} {F H F' H':Hp} {pre:Pre} {t:TA} {k:PV→Prop}
def entN (E:Ent0):Ent:=⟨E,fun _ _ _ _ _ _ _ _ _ d=>d.elim⟩
end
end Fz
set_option Elab.async false
set_option linter.all false
set_option maxRecDepth 100000
set_option maxHeartbeats 4000000
namespace L2
open PySem PySem.Spec PyProof.Rows
section
variable {X:Cx}
def rNeN (K:PySem.W.Frag):R2:=fun x y H Q=>∃ p q xs,x=.ref p∧y=.ref q∧SqL K H p xs∧SqL K H q []∧Q (.bl (!decide (xs=[]))) H
theorem op_neN (hu:X.A.units < cLine):OpR X (compareOp .NotEq) (rNeN X.K):=by
  intro pins s σ H x y v u Q I rx ry h
  obtain ⟨p,q,xs,rfl,rfl,ha,hb,hQ⟩:=h
  cases rx;cases ry
  obtain ⟨its,r1,p1,z1⟩:=I.list ha
  obtain ⟨its2,r2,p2,z2⟩:=I.list hb
  have l1:=r1.length;have l2:=r2.length
  cases xs with
  | nil=>exact ZHA hu pins s σ H _ _ _ _ Q I (show RelV (.ref p) (.ref p) from rfl) (show RelV (.ref q) (.ref q) from rfl) ⟨p,q,[],[],rfl,rfl,.inl ⟨ha,hb⟩,rfl,rfl,hQ⟩
  | cons y ys=>
    have hne:(its.toArray.size != its2.toArray.size)=true:=by simp only [List.size_toArray,← l1,← l2];simp
    exact SeqAt.RcNeAt.lists_lengths p1.isList p2.isList hne hu _ _ _ _ ⟨.bl true,H,I,rfl,hQ⟩
def rEqN (K:PySem.W.Frag):R2:=fun x y H Q=>∃ p q xs,x=.ref p∧y=.ref q∧SqL K H p xs∧SqL K H q []∧Q (.bl (decide (xs=[]))) H
end
end L2
namespace Lw
open PySem PySem.Spec PyProof.Rows L2
inductive Tr (lr lb:Addr) (H:Hp):List V→List V→Addr→List Str→Prop where
  | base {l:Addr} {rs:List Str}:l≠lr→l≠lb→H l=some (.lst (rs.map V.str))→Tr lr lb H [.ref l] [] l rs
  | snoc {vs bs:List V} {l:Addr} {rs:List Str} {l':Addr} {rs':List Str} {t:Addr} {d:Deed}:Tr lr lb H vs bs l rs→l'≠lr→l'≠lb→t≠lr→t≠lb→H l'=some (.lst (rs'.map V.str))→H t=some (.tup d.vals)→
      d.Ok 40 rs'→rs'.length≤40→d.done rs'=rs→Tr lr lb H (vs++[.ref l']) (bs++[.ref t]) l' rs'
theorem Tr.mono {lr lb:Addr} {H H':Hp} (k:∀ b o,b≠lr→b≠lb→H b=some o→H' b=some o) {vs bs:List V} {l:Addr} {rs:List Str} (h:Tr lr lb H vs bs l rs):Tr lr lb H' vs bs l rs:=by
  induction h with
  | base a b c=>exact .base a b (k _ _ a b c)
  | snoc _ a b c d e f g i j ih=>exact .snoc ih a b c d (k _ _ a b e) (k _ _ c d f) g i j
end Lw
set_option Elab.async false
set_option linter.all false
set_option maxRecDepth 100000
set_option maxHeartbeats 4000000
namespace Lw
open PySem PySem.Spec PyProof.Rows L2
theorem ZEt:∀ l:List Nat,¬ l < l
  | [],h=>by simp at h
  | a :: r,h=>by
    rw [List.cons_lt_cons_iff] at h
    rcases h with h | ⟨_,h⟩
    · omega
    · exact ZEt r h
theorem lt_tr:∀ {a b c:List Nat},a < b→b < c→a < c
  | _,[],_,h,_=>by simp at h
  | _,_ :: _,[],_,h=>by simp at h
  | [],_ :: _,_ :: _,_,_=>by simp
  | a :: r,b :: s,c :: t,h,h'=>by
    rw [List.cons_lt_cons_iff] at h h' ⊢
    rcases h with h | ⟨rfl,h⟩
    · rcases h' with h' | ⟨rfl,h'⟩
      · left;omega
      · left;exact h
    · rcases h' with h' | ⟨rfl,h'⟩
      · left;exact h'
      · right;exact ⟨rfl,lt_tr h h'⟩
theorem lt_tot:∀ a b:List Nat,a < b∨a=b∨b < a
  | [],[]=>.inr (.inl rfl)
  | [],_ :: _=>.inl (by simp)
  | _ :: _,[]=>.inr (.inr (by simp))
  | a :: r,b :: s=>by
    rw [List.cons_lt_cons_iff,List.cons_lt_cons_iff]
    rcases Nat.lt_trichotomy a b with h | rfl | h
    · exact .inl (.inl h)
    · rcases lt_tot r s with h | rfl | h
      · exact .inl (.inr ⟨rfl,h⟩)
      · exact .inr (.inl rfl)
      · exact .inr (.inr (.inr ⟨rfl,h⟩))
    · exact .inr (.inr (.inl h))
abbrev ltS (a b:Str):Prop:=a.cps.toList < b.cps.toList
theorem ZGv (a b:Str):ltS a b∨a=b∨ltS b a:=by
  rcases lt_tot a.cps.toList b.cps.toList with h | h | h
  · exact .inl h
  · exact .inr (.inl (str_ext h))
  · exact .inr (.inr h)
abbrev Up (ss:List Str):Prop:=ss.Pairwise ltS
theorem ZFO {ss:List Str} (h:Up ss):ss.Nodup:=by
  refine List.Pairwise.imp (fun {a b} (hab:ltS a b) (e:a=b)=>?_) h
  subst e
  exact ZEt _ hab
theorem ZFM:∀ (l:List Str) (p:Str),risingS p l=true→(∀ x∈l,¬ ltS x p)∧l.Pairwise fun a b=>¬ ltS b a
  | [],p,_=>⟨fun x hx=>absurd hx (by simp),.nil⟩
  | y :: r,p,h=>by
    have h1:(!ltCps y.cps.toList p.cps.toList && risingS y r)=true:=h
    rw [Bool.and_eq_true,ltCps_eq] at h1
    have hyp:¬ ltS y p:=by
      intro z
      rw [decide_eq_true z] at h1
      exact absurd h1.1 (by decide)
    obtain ⟨h2,h3⟩:=ZFM r y h1.2
    refine ⟨fun x hx=>?_,List.pairwise_cons.mpr ⟨fun x hx=>h2 x hx,h3⟩⟩
    rcases List.mem_cons.mp hx with rfl | hx
    · exact hyp
    · intro z
      rcases ZGv y p with q | q | q
      · exact hyp q
      · exact h2 x hx (q▸z)
      · exact h2 x hx (lt_tr z q)
theorem ZHv {l:List Str} (h:sortedS l=true):l.Pairwise fun a b=>¬ ltS b a:=by
  cases l with
  | nil=>exact .nil
  | cons x r=>
    obtain ⟨h1,h2⟩:=ZFM r x h
    exact List.pairwise_cons.mpr ⟨h1,h2⟩
theorem ZE4 {l:List Str} (h:sortedS l=true) (nd:l.Nodup):Up l:=by
  have w:=ZHv h
  have q:=List.Pairwise.and w nd
  refine q.imp fun {a b} hab=>?_
  rcases ZGv a b with z | z | z
  · exact z
  · exact absurd z hab.2
  · exact absurd z hab.1
theorem ZEb:∀ {as bs:List Str},Up as→Up bs→(∀ x,x∈as↔x∈bs)→as=bs
  | [],[],_,_,_=>rfl
  | [],b :: bs,_,_,h=>absurd ((h b).mpr List.mem_cons_self) (by simp)
  | a :: as,[],_,_,h=>absurd ((h a).mp List.mem_cons_self) (by simp)
  | a :: as,b :: bs,ha,hb,h=>by
    obtain ⟨a1,a2⟩:=List.pairwise_cons.mp ha
    obtain ⟨b1,b2⟩:=List.pairwise_cons.mp hb
    have e:a=b:=by
      rcases List.mem_cons.mp ((h a).mp List.mem_cons_self) with z | z
      · exact z
      · rcases List.mem_cons.mp ((h b).mpr List.mem_cons_self) with y | y
        · exact y.symm
        · exact absurd (lt_tr (a1 b y) (b1 a z)) (ZEt _)
    subst e
    congr 1
    refine ZEb a2 b2 fun x=>⟨fun hx=>?_,fun hx=>?_⟩
    · rcases List.mem_cons.mp ((h x).mp (List.mem_cons_of_mem _ hx)) with z | z
      · exact absurd (z▸a1 x hx) (ZEt _)
      · exact z
    · rcases List.mem_cons.mp ((h x).mpr (List.mem_cons_of_mem _ hx)) with z | z
      · exact absurd (z▸b1 x hx) (ZEt _)
      · exact z
theorem ZIZ:∀ {as bs:List Str},as.Nodup→(∀ x∈as,x∈bs)→as.length≤bs.length
  | [],_,_,_=>Nat.zero_le _
  | a :: as,bs,nd,h=>by
    obtain ⟨h1,h2⟩:=List.nodup_cons.mp nd
    have ha:=h a List.mem_cons_self
    have q:=ZIZ (bs:=bs.erase a) h2 fun x hx=>(List.mem_erase_of_ne (fun e:x=a=>h1 (by rw [← e];exact hx))).mpr (h x (List.mem_cons_of_mem _ hx))
    have e:=List.length_erase_of_mem ha
    have p:=List.length_pos_of_mem ha
    simp only [List.length_cons]
    omega
theorem ZHf:∀ {as bs:List Str},as.Nodup→(∀ x∈as,x∈bs)→bs.length=as.length→bs.Nodup
  | [],bs,_,_,hl=>by
    have e:bs=[]:=List.length_eq_zero_iff.mp (by simpa using hl)
    rw [e];exact List.nodup_nil
  | a :: as,bs,nd,h,hl=>by
    obtain ⟨h1,h2⟩:=List.nodup_cons.mp nd
    have ha:=h a List.mem_cons_self
    have hl':bs.length=as.length+1:=by simpa using hl
    have sub:∀ x∈as,x∈bs.erase a:=fun x hx=>(List.mem_erase_of_ne (fun e:x=a=>h1 (by rw [← e];exact hx))).mpr (h x (List.mem_cons_of_mem _ hx))
    have e:=List.length_erase_of_mem ha
    have q:=ZHf (bs:=bs.erase a) h2 sub (by omega)
    have p:=List.perm_cons_erase ha
    rw [p.nodup_iff,List.nodup_cons]
    refine ⟨fun hm=>?_,q⟩
    have r:=ZIZ (as:=a :: as) (bs:=bs.erase a) nd fun x hx=>by
      rcases List.mem_cons.mp hx with rfl | hx
      · exact hm
      · exact sub x hx
    simp only [List.length_cons] at r
    omega
theorem ZJ5 {acc:List Str} {x k:Str}:k∈ZBI acc x↔k∈acc∨k=x:=by
  unfold ZBI
  by_cases h:acc.any (· == x)=true
  · rw [if_pos h]
    refine ⟨.inl,fun q=>q.elim id fun e=>?_⟩
    obtain ⟨y,hy,e2⟩:=List.any_eq_true.mp h
    have:y=x:=by simpa using e2
    rw [e,← this];exact hy
  · rw [if_neg h];simp
theorem ZHL:∀ (l acc:List Str),acc.Nodup→(l.foldl ZBI acc).Nodup∧∀ k,k∈l.foldl ZBI acc↔k∈acc∨k∈l
  | [],acc,h=>⟨h,fun k=>by simp⟩
  | x :: r,acc,h=>by
    have hn:(ZBI acc x).Nodup:=by
      unfold ZBI
      by_cases c:acc.any (· == x)=true
      · rw [if_pos c];exact h
      · rw [if_neg c]
        exact ZDA h fun hm=>c (List.any_eq_true.mpr ⟨x,hm,by simp⟩)
    obtain ⟨h1,h2⟩:=ZHL r (ZBI acc x) hn
    refine ⟨h1,fun k=>?_⟩
    rw [List.foldl_cons,h2 k,ZJ5,List.mem_cons,or_assoc]
theorem dd_nodup (ss:List Str):(dd ss).Nodup:=(ZHL ss [] List.nodup_nil).1
theorem dd_mem (ss:List Str) (k:Str):k∈dd ss↔k∈ss:=by
  have q:=(ZHL ss [] List.nodup_nil).2 k
  refine (show (k∈dd ss↔_) from q).trans ⟨fun z=>z.elim (fun y=>absurd y (by simp)) id,.inr⟩
theorem ZJm (l:List Str) (k:Str):l.any (· == k)=true↔k∈l:=by
  rw [List.any_eq_true]
  exact ⟨fun ⟨y, hy, e⟩ => by have : y = k := by simpa using e
                              rw [← this];exact hy,fun h=>⟨k,h,by simp⟩⟩
theorem ZJJ {ss ts:List Str} (hl:ts.length=(dd ss).length) (hm:∀ k,(dd ss).any (· == k)=true↔k∈ts) (hs:sortedS ts=true):(ss=ts)↔Up ss:=by
  have nd:ts.Nodup:=ZHf (dd_nodup ss) (fun x hx=>(hm x).mp ((ZJm _ _).mpr hx)) hl
  have ut:=ZE4 hs nd
  constructor
  · rintro rfl;exact ut
  · intro us
    exact ZEb us ut fun x=>by rw [← hm x,ZJm,dd_mem]
theorem eqVs_dec:∀ (as bs:List Str),ZCc (as.map V.str) (bs.map V.str)=decide (as=bs):=by
  intro as bs
  by_cases hl:as.length=bs.length
  · rw [ZBY (by simpa using hl),Bool.eq_iff_iff,List.all_eq_true,decide_eq_true_iff]
    constructor
    · intro h
      refine List.ext_getElem hl fun i h1 h2=>?_
      have q:=h i (by simpa using h1)
      have e1:(as.map V.str)[i]?=some (.str as[i]):=by rw [List.getElem?_map,List.getElem?_eq_getElem h1];rfl
      have e2:(bs.map V.str)[i]?=some (.str bs[i]):=by rw [List.getElem?_map,List.getElem?_eq_getElem h2];rfl
      rw [ZC2 e1,ZC2 e2] at q
      have q':(as[i] == bs[i])=true:=q
      simpa using q'
    · rintro rfl i hi
      have h1:i < as.length:=by simpa using hi
      have e1:(as.map V.str)[i]?=some (.str as[i]):=by rw [List.getElem?_map,List.getElem?_eq_getElem h1];rfl
      rw [ZC2 e1];show (as[i] == as[i])=true;simp
  · rw [ZCR (by simpa using hl),decide_eq_false]
    rintro rfl;exact hl rfl
def rules3:List Str:=["none", "ahead", "all"]
def upB (ss:List Str):Bool:=decide (Up ss)
def inB (ns ss:List Str):Bool:=ss.all fun x=>decide (x∈ns)
def gapB (n:Nat) (g:Int):Bool:=decide (0≤g) && decide (g≤(n:Int))
def isLp (ns:List Str) (r:Str) (g:Int) (ss:List Str):Bool:=decide (r∈rules3) && (gapB ns.length g && (upB ss && inB ns ss))
def ZJn (K:PySem.W.Frag):Sp:=fun vs H Q _=>∃ (a:Addr) (tp:Bool) (ns:List Str) (g:Int),vs=[.ref a,.int g]∧SqB K tp H a (ns.map V.str)∧Q (.bl (gapB ns.length g)) H
def ZEu (K:PySem.W.Frag):Sp:=fun vs H Q _=>∃ (a:Addr) (tp:Bool) (ns:List Str) (c:Addr) (ss:List Str),vs=[.ref a,.ref c]∧SqB K tp H a (ns.map V.str)∧SqT K H c (ss.map V.str)∧ss.length < 64∧∀ H',Same H H'→Q (.bl (upB ss && inB ns ss)) H'
def LoopAt (K:PySem.W.Frag) (H:Hp) (t:Addr) (r:Str) (g:Int) (ss:List Str):Prop:=∃ c,SqT K H t [.str r,.int g,.ref c]∧SqT K H c (ss.map V.str)
theorem LoopAt.same {K:PySem.W.Frag} {H H':Hp} {t:Addr} {r:Str} {g:Int} {ss:List Str} (s:Same H H') (h:LoopAt K H t r g ss):LoopAt K H' t r g ss:=by
  obtain ⟨c,h1,h2⟩:=h
  exact ⟨c,s.sqT h1,s.sqT h2⟩
def ZFV (K:PySem.W.Frag):Sp:=fun vs H Q _=>∃ (a:Addr) (tp:Bool) (ns:List Str) (t:Addr) (r:Str) (g:Int) (ss:List Str),vs=[.ref a,.ref t]∧SqB K tp H a (ns.map V.str)∧LoopAt K H t r g ss∧ss.length < 64∧∀ H',Same H H'→Q (.bl (isLp ns r g ss)) H'
def ZIK (K:PySem.W.Frag):Sp:=fun vs H Q _=>∃ (a:Addr) (ns:List Str) (t:Addr) (r:Str) (g:Int) (ss:List Str),vs=[.ref a,.ref t]∧SqL K H a (ns.map V.str)∧LoopAt K H t r g ss∧ss.length < 64∧∀ H',Same H H'→Q (.bl (isLp ns r g ss)) H'
def NewLoop (p:Addr) (H:Hp) (Q:VK) (W:Str→Int→List Str→Prop):Prop:=∀ t c r g ss H',H t=none→H c=none→PStep p H H'→H' t=some (.tup [.str r,.int g,.ref c])→H' c=some (.tup (ss.map V.str))→W r g ss→Q (.ref t) H'
def ZIu:Sp:=fun vs H Q _=>∃ (p q:Addr) (ns:List Str),vs=[.ref p,.ref q]∧Pot H p∧H q=some (.lst (ns.map V.str))∧q≠p∧ns.length≤40∧ns.Nodup∧
  NewLoop p H Q fun r g ss=>r∈rules3∧0≤g∧g≤(ns.length:Int)∧Up ss∧(∀ x∈ss,x∈ns)∧ss.length≤40
theorem all_in (ns ss:List Str):((ss.map V.str).filter fun _=>true).map (fun v=>V.bl (inV v (ns.map V.str)))=(ss.map fun x=>decide (x∈ns)).map V.bl:=by
  rw [ZGB,List.map_map,List.map_map]
  refine List.map_congr_left fun x _=>?_
  show V.bl _=V.bl _
  rw [ZBg]
end Lw
set_option Elab.async false
set_option linter.all false
set_option maxRecDepth 100000
set_option maxHeartbeats 4000000
namespace Lw
open PySem PySem.Spec PyProof.Rows L2
def inL (ss:List Str) (x:Str):Bool:=decide (x∈ss)
def ZAp (ns:List Str) (g:Nat) (ss:List Str):List Str:=(ns.drop g).filter (inL ss)++(ns.take g).filter (inL ss)
theorem restL_mem {ns:List Str} {g:Nat} {ss:List Str} {x:Str}:x∈ZAp ns g ss↔x∈ns∧x∈ss:=by
  unfold ZAp
  rw [List.mem_append,List.mem_filter,List.mem_filter]
  have e:(x∈ns)↔(x∈ns.take g∨x∈ns.drop g):=by
    rw [← List.mem_append,List.take_append_drop]
  unfold inL
  simp only [decide_eq_true_eq]
  rw [e]
  constructor
  · rintro (⟨a,b⟩ | ⟨a,b⟩)
    · exact ⟨.inr a,b⟩
    · exact ⟨.inl a,b⟩
  · rintro ⟨a | a,b⟩
    · exact .inr ⟨a,b⟩
    · exact .inl ⟨a,b⟩
theorem filt_in (ns ss:List Str):((ns.map V.str).filter (fun v=>inV v (ss.map V.str))).map (fun v=>v)=(ns.filter (inL ss)).map V.str:=by
  rw [List.map_id',List.filter_map]
  congr 1
  apply List.filter_congr
  intro y _
  show inV (.str y) (ss.map V.str)=inL ss y
  rw [ZBg];rfl
def LoopH (H:Hp) (t:Addr) (r:Str) (g:Int) (ss:List Str):Prop:=∃ c,H t=some (.tup [.str r,.int g,.ref c])∧H c=some (.tup (ss.map V.str))
theorem LoopH.at {H:Hp} {K:PySem.W.Frag} {t:Addr} {r:Str} {g:Int} {ss:List Str} (h:LoopH H t r g ss):LoopAt K H t r g ss:=by
  obtain ⟨c,a,b⟩:=h
  exact ⟨c,SqT.of a,SqT.of b⟩
theorem LoopH.same {H H':Hp} {t:Addr} {r:Str} {g:Int} {ss:List Str} (s:Same H H') (h:LoopH H t r g ss):LoopH H' t r g ss:=by
  obtain ⟨c,a,b⟩:=h
  exact ⟨c,s _ _ a,s _ _ b⟩
structure GoodL (ns:List Str) (r:Str) (g:Int) (ss:List Str):Prop where
  rule:r∈rules3
  g0:0≤g
  g1:g≤(ns.length:Int)
  up:Up ss
  sub:∀ x∈ss,x∈ns
theorem GoodL.isLp {ns:List Str} {r:Str} {g:Int} {ss:List Str} (h:GoodL ns r g ss):isLp ns r g ss=true:=by
  unfold Lw.isLp gapB upB inB
  rw [decide_eq_true h.rule,decide_eq_true h.g0,decide_eq_true h.g1,decide_eq_true h.up,Bool.true_and,Bool.true_and,Bool.true_and,Bool.true_and,List.all_eq_true]
  intro x hx
  exact decide_eq_true (h.sub x hx)
theorem wo_up {ss:List Str} (x:Str) (h:Up ss):Up (wo ss x):=h.filter _
theorem wo_len {ss:List Str} {x:Str} (nd:ss.Nodup) (h:x∈ss):(wo ss x).length+1=ss.length:=by
  have e:=ZIY h
  have h1:=ZF2 h
  have h2:=ZFa h nd
  have:wo ss x=ss.take (ss.idxOf x)++ss.drop (ss.idxOf x+1):=by
    conv=>lhs;rw [e]
    rw [ZGm,ZDp,ZDY h1,ZDY h2]
  rw [this]
  conv=>rhs;rw [e]
  simp only [List.length_append,List.length_cons]
  omega
theorem GoodL.step {ns:List Str} {r:Str} {g:Int} {ss:List Str} (h:GoodL ns r g ss) {x:Str} (hx:x∈ns):GoodL ns r ((ns.idxOf x:Nat)+1) (wo ss x):=by
  have hj:ns.idxOf x < ns.length:=List.idxOf_lt_length_iff.mpr hx
  exact ⟨h.rule,by omega,by omega,wo_up x h.up,fun y hy=>h.sub y (wo_mem.mp hy).1⟩
def ZIJ (K:PySem.W.Frag):Sp:=fun vs H Q _=>∃ (a:Addr) (tp:Bool) (ns:List Str) (t:Addr) (r:Str) (g:Int) (ss:List Str),vs=[.ref a,.ref t]∧SqB K tp H a (ns.map V.str)∧LoopAt K H t r g ss∧ns.length≤1000∧ZCU H Q (ns.filter (inL ss))
def ZE9 (K:PySem.W.Frag):Sp:=fun vs H Q _=>∃ (a:Addr) (tp:Bool) (ns:List Str) (t:Addr) (r:Str) (g:Int) (ss:List Str),vs=[.ref a,.ref t]∧SqB K tp H a (ns.map V.str)∧LoopAt K H t r g ss∧ss.length < 64∧isLp ns r g ss=true∧∀ H',Same H H'→Q .non H'
def ZIx (K:PySem.W.Frag):Sp:=fun vs H Q _=>∃ (a:Addr) (tp:Bool) (ns:List Str) (t:Addr) (r:Str) (g:Nat) (ss:List Str),vs=[.ref a,.ref t]∧H a=some (HOq tp (ns.map V.str))∧LoopAt K H t r g ss∧ss.length < 64∧isLp ns r g ss=true∧ns.length≤1000∧ZCU H Q (ZAp ns g ss)
def ZHH (K:PySem.W.Frag):Sp:=fun vs H Q _=>∃ (c:Addr) (ss:List Str) (x:Str),vs=[.ref c,.str x]∧SqT K H c (ss.map V.str)∧ss.length≤1000∧∀ l H',H l=none→Same H H'→H' l=some (.tup ((wo ss x).map V.str))→Q (.ref l) H'
def stO (ns:List Str) (g:Nat) (ss:List Str):Option Str:=(ZAp ns g ss).head?
def stG (ns:List Str) (g:Nat) (ss:List Str):Nat:=match stO ns g ss with
  | none=>g
  | some x=>ns.idxOf x+1
def stS (ns:List Str) (g:Nat) (ss:List Str):List Str:=match stO ns g ss with
  | none=>ss
  | some x=>wo ss x
theorem ZJr {ns:List Str} {r:Str} {g:Nat} {ss:List Str} (h:GoodL ns r g ss):GoodL ns r (stG ns g ss:Nat) (stS ns g ss)∧(stS ns g ss).length≤ss.length - 1:=by
  unfold stG stS
  cases e:stO ns g ss with
  | none=>
    refine ⟨h,?_⟩
    have er:ZAp ns g ss=[]:=List.head?_eq_none_iff.mp e
    have:ss=[]:=by
      cases hs:ss with
      | nil=>rfl
      | cons x q=>
        have hx:x∈ss:=by rw [hs];exact List.mem_cons_self
        have:x∈ZAp ns g ss:=restL_mem.mpr ⟨h.sub x hx,hx⟩
        rw [er] at this;simp at this
    show ss.length≤ss.length - 1
    rw [this];exact Nat.le_refl _
  | some x=>
    have hx:x∈ZAp ns g ss:=List.mem_of_mem_head? e
    obtain ⟨h1,h2⟩:=restL_mem.mp hx
    have:=wo_len (ZFO h.up) h2
    exact ⟨h.step h1,by show (wo ss x).length≤_;omega⟩
theorem ZJj {x:Str} {rst:List Str}:atI ((x :: rst).map V.str) 0=some (.str x):=ZF9 (by decide) rfl
structure Ent where
  a:Addr
  ns:List Str
  t:Addr
  r:Str
  g:Nat
  ss:List Str
structure Ent.Ok (H:Hp) (lr lp:Addr) (e:Ent):Prop where
  ar:e.a≠lr
  ap:e.a≠lp
  ha:H e.a=some (.lst (e.ns.map V.str))
  hl:LoopH H e.t e.r e.g e.ss
  good:GoodL e.ns e.r e.g e.ss
  len:e.ns.length≤40
theorem LoopH.mono {H H':Hp} {lr lp t:Addr} {r:Str} {g:Int} {ss:List Str} {vs ws:List V} (h:LoopH H t r g ss) (hr:H lr=some (.lst vs)) (hp:H lp=some (.lst ws)) (k:∀ b o,b≠lr→b≠lp→H b=some o→H' b=some o):LoopH H' t r g ss:=by
  obtain ⟨c,a,b⟩:=h
  have ne:∀ {x y:Addr} {us vs:List V},H x=some (.tup us)→H y=some (.lst vs)→x≠y:=fun h1 h2 e=>by subst e;rw [h1] at h2;cases h2
  exact ⟨c,k _ _ (ne a hr) (ne a hp) a,k _ _ (ne b hr) (ne b hp) b⟩
theorem Ent.Ok.mono {H H':Hp} {lr lp:Addr} {e:Ent} {vs ws:List V} (h:e.Ok H lr lp) (hr:H lr=some (.lst vs)) (hp:H lp=some (.lst ws)) (k:∀ b o,b≠lr→b≠lp→H b=some o→H' b=some o):e.Ok H' lr lp:=
  ⟨h.ar,h.ap,k _ _ h.ar h.ap h.ha,h.hl.mono hr hp k,h.good,h.len⟩
end Lw
set_option Elab.async false
set_option linter.all false
set_option maxRecDepth 100000
set_option maxHeartbeats 4000000
namespace L2
open PySem PySem.Spec PyProof.Rows
section
variable {X:Cx}
def rCatA (K:PySem.W.Frag):R2:=fun x y H Q=>∃ a b xs ys,x=.ref a∧y=.ref b∧SqT K H a xs∧SqT K H b ys∧ys≠[]∧xs.length+ys.length≤sizeLine∧∀ p H',Same H H'→SqT K H' p (xs++ys)→Q (.ref p) H'
theorem op_catA:OpR X (binaryOp .Add) (rCatA X.K):=by
  intro pins s σ H x y v u Q I rx ry h
  obtain ⟨a,b,xs,ys,rfl,rfl,ha,hb,hy,hz,q⟩:=h
  by_cases hx:xs=[]
  · subst hx
    cases rx;cases ry
    obtain ⟨its,r1,p1,_⟩:=I.tuple ha
    obtain ⟨its2,r2,p2,_⟩:=I.tuple hb
    obtain ⟨⟨cls,dd,data,sl⟩,ho,hc,n,hd⟩:=id p1
    obtain ⟨⟨cls2,dd2,data2,sl2⟩,ho2,hc2,n2,hd2⟩:=id p2
    simp only at hc hd hc2 hd2
    subst hc hd hc2 hd2
    have e:its=[]:=r1.nil_iff.mpr rfl
    exact concat_meets ⟨_,ho,rfl⟩ ⟨_,ho2,rfl⟩ noFill_tuple_add seq_tuple_add PySem.F.slot_tuple_add PySem.F.entry_tuple_add (PySem.F.args_tuple_add_2 _ _)
      (tuple_addW0 a b its.toArray its2.toArray n n2 dd dd2 sl sl2 (by simp [e])) ⟨ho,ho2,⟨.ref b,H,I,rfl,q b H (Same.refl _) hb⟩⟩
  · exact op_catT pins s σ H _ _ _ _ Q I rx ry ⟨a,b,xs,ys,rfl,rfl,ha,hb,hx,hz,fun e=>absurd e hy,fun _ p hp=>q p _ (ZA5 hp _) (SqT.of ZA3)⟩
end
end L2
set_option Elab.async false
set_option linter.all false
set_option maxRecDepth 100000
set_option maxHeartbeats 4000000
namespace Lw
open PySem PySem.Spec PyProof.Rows L2
def ZFZ (i g:Nat):Nat:=if i < g then g+1 else g
def ZCf (p g:Nat):Nat:=if p < g then g - 1 else g
def Deed.gap (ns:List Str) (g:Nat):Deed→Nat
  | .put _ i=>ZFZ i g
  | .take x=>ZCf (ns.idxOf x) g
  | .move x i=>ZFZ i (ZCf (ns.idxOf x) g)
  | .turn _ _=>g
def ZE6:List Str→Str→List Str
  | [],x=>[x]
  | y :: r,x=>if ltS x y then x :: y :: r else y :: ZE6 r x
def ZAj (r:Str) (g i:Nat):Bool:=if decide (V.str r=V.str "all")=true then true else if decide (V.str r=V.str "ahead")=true then decide ((g:Int)≤(i:Int)) else false
def Deed.com (r:Str) (g:Nat) (ss:List Str):Deed→List Str
  | .put x i=>if ZAj r g i=true then ZE6 ss x else ss
  | .take x=>wo ss x
  | .move _ _=>ss
  | .turn _ _=>ss
theorem insS_mem {x k:Str}:∀ {ss:List Str},k∈ZE6 ss x↔k=x∨k∈ss
  | []=>by simp [ZE6]
  | y :: r=>by
    unfold ZE6
    split
    · simp
    · rw [List.mem_cons,insS_mem (ss:=r),List.mem_cons]
      constructor
      · rintro (h | h | h)
        · exact .inr (.inl h)
        · exact .inl h
        · exact .inr (.inr h)
      · rintro (h | h | h)
        · exact .inr (.inl h)
        · exact .inl h
        · exact .inr (.inr h)
theorem ZEc {x:Str}:∀ {ss:List Str},Up ss→x∉ss→Up (ZE6 ss x)
  | [],_,_=>List.pairwise_singleton _ _
  | y :: r,h,hx=>by
    obtain ⟨h1,h2⟩:=List.pairwise_cons.mp h
    unfold ZE6
    split
    · next c=>exact List.pairwise_cons.mpr ⟨fun k hk=>(List.mem_cons.mp hk).elim (fun e=>by rw [e];exact c) fun hk=>lt_tr c (h1 k hk),h⟩
    · next c=>
      refine List.pairwise_cons.mpr ⟨fun k hk=>?_,ZEc h2 fun hm=>hx (List.mem_cons_of_mem _ hm)⟩
      rcases insS_mem.mp hk with rfl | hk
      · rcases ZGv k y with z | z | z
        · exact absurd z c
        · exact absurd (by rw [z];exact List.mem_cons_self) hx
        · exact z
      · exact h1 k hk
theorem ZHq {ss ts:List Str} {x:Str} (hp:ts.Perm (ss++[x])) (hs:sortedS ts=true) (h:Up ss) (hx:x∉ss):ts=ZE6 ss x:=by
  have nd:ts.Nodup:=hp.nodup_iff.mpr (ZDA (ZFO h) hx)
  refine ZEb (ZE4 hs nd) (ZEc h hx) fun k=>?_
  rw [hp.mem_iff,insS_mem,List.mem_append,List.mem_singleton]
  exact or_comm
theorem GoodL.len {ns:List Str} {r:Str} {g:Int} {ss:List Str} (h:GoodL ns r g ss):ss.length≤ns.length:=ZIZ (ZFO h.up) h.sub
theorem GoodL.led {ns:List Str} {r:Str} {g:Nat} {ss:List Str} {d:Deed} (h:GoodL ns r g ss) (ok:d.Ok 40 ns) (nd:ns.Nodup):GoodL (d.done ns) r (d.gap ns g:Nat) (d.com r g ss):=by
  have g1:=h.g1
  cases d with
  | put x i=>
    obtain ⟨h1,h2,h3,h4⟩:=ok
    refine ⟨h.rule,by omega,?_,?_,?_⟩
    · show ((ZFZ i g:Nat):Int)≤((ins ns x i).length:Int)
      rw [ZCQ]
      unfold ZFZ
      split <;> omega
    · show Up (if ZAj r g i=true then ZE6 ss x else ss)
      split
      · exact ZEc h.up fun hm=>h2 (h.sub x hm)
      · exact h.up
    · intro k hk
      show k∈ins ns x i
      rw [ins_mem]
      have hk':k∈(if ZAj r g i=true then ZE6 ss x else ss):=hk
      split at hk'
      · rcases insS_mem.mp hk' with z | z
        · exact .inl z
        · exact .inr (h.sub k z)
      · exact .inr (h.sub k hk')
  | take x=>
    have hx:x∈ns:=ok
    have hl:=ZCx hx nd
    have hj:ns.idxOf x < ns.length:=List.idxOf_lt_length_iff.mpr hx
    refine ⟨h.rule,by omega,?_,wo_up x h.up,fun k hk=>?_⟩
    · show ((ZCf (ns.idxOf x) g:Nat):Int)≤((wo ns x).length:Int)
      unfold ZCf
      split <;> omega
    · obtain ⟨a,b⟩:=wo_mem.mp (show k∈wo ss x from hk)
      exact wo_mem.mpr ⟨h.sub k a,b⟩
  | move x i=>
    obtain ⟨hx,hi⟩:=ok
    have hl:=ZCx hx nd
    have hj:ns.idxOf x < ns.length:=List.idxOf_lt_length_iff.mpr hx
    refine ⟨h.rule,by omega,?_,h.up,fun k hk=>?_⟩
    · show ((ZFZ i (ZCf (ns.idxOf x) g):Nat):Int)≤((ins (wo ns x) x i).length:Int)
      rw [ZCQ]
      unfold ZFZ ZCf
      split <;> split <;> omega
    · show k∈ins (wo ns x) x i
      rw [ins_mem,wo_mem]
      by_cases e:k=x
      · exact .inl e
      · exact .inr ⟨h.sub k hk,e⟩
  | turn lo hi=>
    obtain ⟨h1,h2⟩:=ok
    refine ⟨h.rule,by omega,?_,h.up,fun k hk=>(ZHG h1).mpr (h.sub k hk)⟩
    show ((g:Nat):Int)≤((trn ns lo hi).length:Int)
    rw [ZK2 h1 h2];exact g1
def ZIT:Sp:=fun vs H Q _=>∃ (g i:Nat),vs=[.int g,.int i]∧Q (.int (ZFZ i g:Nat)) H
def ZGV:Sp:=fun vs H Q _=>∃ (g p:Nat),vs=[.int g,.int p]∧Q (.int (ZCf p g:Nat)) H
def ZK1:Sp:=fun vs H Q _=>∃ (t:Addr) (r:Str) (g i:Nat) (c:Addr),vs=[.ref t,.int i]∧H t=some (.tup [.str r,.int g,.ref c])∧Q (.bl (ZAj r g i)) H
theorem ZKc {ns ss:List Str} {r:Str} {g:Int} {d:Deed} (h:GoodL ns r g ss) (ok:d.Ok 40 ns):∀ x i,d=.put x i→x∉ss:=by
  rintro x i rfl hm
  exact ok.2.1 (h.sub x hm)
def Deed.kind:Deed→Str
  | .put _ _ => "put"
  | .take _ => "take"
  | .move _ _ => "move"
  | .turn _ _ => "turn"
theorem ZDi (d:Deed):atI d.vals 0=some (.str d.kind):=by cases d <;> rfl
def Deed.com1 (ss:List Str):Deed→List Str
  | .take x=>wo ss x
  | _=>ss
theorem com_not {ss:List Str} {d:Deed} (h:¬ decide (V.str d.kind=V.str "take")=true):d.com1 ss=ss:=by
  cases d with
  | take x=>exact absurd (by simp only [Deed.kind];decide +kernel) h
  | _=>rfl
theorem ZJf {d:Deed} (h:decide (V.str d.kind=V.str "put")=true):∃ x i,d=.put x i:=by
  cases d with
  | put x i=>exact ⟨x,i,rfl⟩
  | _=>
    have h':=of_decide_eq_true h
    injection h' with h2
    exact absurd h2 (by simp only [Deed.kind];decide +kernel)
theorem com_same {r:Str} {g:Nat} {ss:List Str} {d:Deed} (h:¬ decide (V.str d.kind=V.str "put")=true):d.com r g ss=d.com1 ss:=by
  cases d with
  | put x i=>exact absurd (by simp only [Deed.kind];decide +kernel) h
  | _=>rfl
theorem ZIB {r:Str} {g:Nat} {ss:List Str} {x:Str} {i:Nat} (h:ZAj r g i=true):Deed.com r g ss (.put x i)=ZE6 ss x:=by show (if _ then _ else _)=_;rw [if_pos h]
theorem ZEl {r:Str} {g:Nat} {ss:List Str} {x:Str} {i:Nat} (h:ZAj r g i=false):Deed.com r g ss (.put x i)=ss:=by show (if _ then _ else _)=_;rw [if_neg (by rw [h];decide)]
theorem com_tk {d:Deed} (h:decide (V.str d.kind=V.str "take")=true):∃ x,d=.take x:=by
  cases d with
  | take x=>exact ⟨x,rfl⟩
  | _=>
    have h':=of_decide_eq_true h
    injection h' with h2
    exact absurd h2 (by simp only [Deed.kind];decide +kernel)
theorem com_mv {d:Deed} (h:decide (V.str d.kind=V.str "move")=true):∃ x i,d=.move x i:=by
  cases d with
  | move x i=>exact ⟨x,i,rfl⟩
  | _=>
    have h':=of_decide_eq_true h
    injection h' with h2
    exact absurd h2 (by simp only [Deed.kind];decide +kernel)
theorem com_tn {d:Deed} (h1:¬ decide (V.str d.kind=V.str "put")=true) (h2:¬ decide (V.str d.kind=V.str "take")=true) (h3:¬ decide (V.str d.kind=V.str "move")=true):∃ lo hi,d=.turn lo hi:=by
  cases d with
  | put x i=>exact absurd (by simp only [Deed.kind];decide +kernel) h1
  | take x=>exact absurd (by simp only [Deed.kind];decide +kernel) h2
  | move x i=>exact absurd (by simp only [Deed.kind];decide +kernel) h3
  | turn lo hi=>exact ⟨lo,hi,rfl⟩
theorem com_rest {r:Str} {g:Nat} {ss:List Str} {d:Deed} (h1:¬ decide (V.str d.kind=V.str "put")=true) (h2:¬ decide (V.str d.kind=V.str "take")=true):d.com r g ss=ss:=by
  rw [com_same h1,com_not h2]
end Lw
set_option Elab.async false
set_option linter.all false
set_option maxRecDepth 100000
set_option maxHeartbeats 4000000
namespace Lw
open PySem PySem.Spec PyProof.Rows L2
def ZGh:Sp:=fun vs H Q _=>∃ r:Str,vs=[.str r]∧r∈rules3∧Q .non H
theorem ZIy {rs:List Str} (nd:rs.Nodup) {g:Nat} {x:Str} (h:rs[g]?=some x):rs.idxOf x=g:=by
  obtain ⟨hg,e⟩:=List.getElem?_eq_some_iff.mp h
  have hx:x∈rs:=List.mem_of_getElem? h
  have hj:rs.idxOf x < rs.length:=List.idxOf_lt_length_iff.mpr hx
  have e2:rs[rs.idxOf x]=x:=List.getElem_idxOf hj
  have pw:=List.pairwise_iff_getElem.mp nd
  rcases Nat.lt_trichotomy (rs.idxOf x) g with c | c | c
  · exact absurd (e2.trans e.symm) (pw _ _ hj hg c)
  · exact c
  · exact absurd (e.trans e2.symm) (pw _ _ hg hj c)
theorem ZEx (g i:Nat):ZAj "ahead" g i=decide ((g:Int)≤(i:Int)):=by
  unfold ZAj
  rw [if_neg (by decide),if_pos (by decide)]
end Lw
set_option Elab.async false
set_option linter.all false
set_option maxRecDepth 100000
set_option maxHeartbeats 4000000
namespace L2
open PySem PySem.Spec PyProof.Rows
section
variable {X:Cx} {pins:List (Addr×Obj)} {σ:St} {H2:Hp} {s2:Shared} {elt iter:Expr} {x z:Str} {px pz tp pos:Pos} {tk:Nat} {scope:Scope} {caps:List Str} {js:List Nat} {te:TE} {J:It} {fp:List Addr} {it:Addr}
  {tn:Nat→Heap→Prop}
end
end L2
set_option Elab.async false
set_option linter.all false
set_option maxRecDepth 100000
set_option maxHeartbeats 4000000
namespace Fz
open PySem PySem.Spec PyProof.Rows L2 Lw
section
variable [Xw]
variable {E:Ent0} {ss:List Slot} {σ:L2.St} {F H F' H':Hp} {K:PySem.W.Frag} {js:List Nat} {ta tb te:TE} {k:PV→Prop} {nx:List Slot→Prop} {R:Ret}
theorem Sg.pstep (S:Sg E ss σ F H) {i:Nat} {p:Addr} (hi:ss[i]?=some .pot) (e:σ[i]?=some (some (.ref p))) (s:PStep p H H'):Mv E ss σ F H F H':=by
  obtain ⟨p',e',fp,_,pp⟩:=S.ok i _ hi
  rw [e] at e'
  cases e'
  refine S.step (Same.refl _) (fun a o q=>s.same a o (ZAT q fp) (S.fh a o q)) (fun a o n q=>s.same a o (fun z=>?_) q) (fun a o q=>.inl q) fun j l hj ej=>?_
  · rw [z] at n;exact n i hi e
  · by_cases z:l=p
    · rw [z];exact s.pot
    · exact Pot.keep (S.potAt hj ej) fun o q=>s.same l o z q
theorem wp_take {i:Nat} (hi:ss[i]?=some .pot) (h:Wp ss te fun x=>∃ m,x=.int m∧0 < m∧m < 10 ^ 18∧∀ r:Int,0≤r→r < m→k (.int r)):Wp ss (ZAo ZEJ [] E0 (ZAA (ZBi i) (ZAA te ZAa))) k:=⟨fun E σ F H Q S q=>by
  obtain ⟨p,e,_⟩:=S.ok i _ hi
  refine ⟨_,e,h.go E σ F H _ S fun v x F1 H1 m1 r ⟨m,em,m0,m1',kk⟩=>?_⟩
  subst em;cases r
  exact ⟨p,m,rfl,m1.st.potAt hi e,m0,m1',fun r H2 r0 r1 s=>q _ _ F1 H2 (m1.trans (m1.st.pstep hi e s)) (.int r) (kk r r0 r1)⟩⟩
theorem wn_rowOf {sp:Sp} {i:Nat} {k:List PV→Prop} (hsp:sp=spRow) (hi:ss[i]?=some .pot) (h:Wp ss te fun x=>∃ m,x=.int m∧1≤m∧m≤100∧∀ ns:List Str,(ns.length:Int)≤m→(∀ x∈ns,Nm x)→ns.Nodup→k (ns.map PV.str)):Wn ss (ZAo sp [] E0 (ZAA (ZBi i) (ZAA te ZAa))) k:=⟨fun E σ F H Q S q=>by
  subst hsp
  obtain ⟨p,e,_⟩:=S.ok i _ hi
  refine ⟨_,e,h.go E σ F H _ S fun v x F1 H1 m1 r ⟨m,em,m0,m1',kk⟩=>?_⟩
  subst em;cases r
  refine ⟨p,m,rfl,m1.st.potAt hi e,m0,m1',fun l H2 ns hl s hl2 hz hN nd=>?_⟩
  have m2:=m1.st.pstep hi e s
  exact q l _ _ F1 H2 (m1.trans m2) (m1.st.newF hl) (m1.none hl) hl2 (ZB6 ns) (kk ns hz hN nd)⟩
def ZB9 (K:PySem.W.Frag) (ns:List Int):Hp→V→Prop:=fun F v=>∃ a,v=.ref a∧SqL K F a (ns.map V.int)
theorem ZBl (K:PySem.W.Frag) (ns:List Int):∀ (v:V) (F F':Hp),Same F F'→ZB9 K ns F v→ZB9 K ns F' v:=fun v F F' s ⟨a,e,h⟩=>⟨a,e,by
  rcases h with (h | ⟨o,h⟩) | h
  · exact .inl (.inl (s _ _ h))
  · exact .inl (.inr ⟨o,s _ _ h⟩)
  · exact .inr h⟩
theorem wp_lenS {i:Nat} {ns:List Int} (hi:ss[i]?=some (.raw (ZB9 K ns))) (h:k (.int ns.length)):Wp ss (tCB (rLenS K) (ZAA (ZBi i) ZAa)) k:=⟨fun E σ F H Q S q=>by
  obtain ⟨v,e,⟨a,ev,hq⟩,st⟩:=S.ok i _ hi
  subst ev
  obtain ⟨a',ea,hq'⟩:=ZBl K ns _ F H S.fh ⟨a,rfl,hq⟩
  cases ea
  refine ⟨_,e,a,_,rfl,.inl hq',?_⟩
  rw [List.length_map]
  exact q _ _ F H (.refl S) (.int _) h⟩
theorem ws_pot {i j:Nat} {ns:List Int} (hi:ss[i]?=some (.raw (ZB9 K ns))) (h:Wp ss te fun x=>∃ m,x=.int m∧0≤m∧m≤1000∧nx (ss.set j .pot)):Ws ss (ZFh (ZAo (spPot K) [] E0 (ZAA (ZBi i) (ZAA te ZAa))) (ZC9 j)) nx R:=⟨fun E D σ F H S hn hr=>by
  obtain ⟨v,e,⟨a,ev,hq⟩,st⟩:=S.ok i _ hi
  subst ev
  refine ⟨_,e,h.go E σ F H _ S fun v x F1 H1 m1 r ⟨m,em,m0,m1',kk⟩=>?_⟩
  subst em;cases r
  obtain ⟨v',e',hq1,_⟩:=m1.st.ok i _ hi
  rw [e] at e';cases e'
  obtain ⟨a',ea,hq'⟩:=ZBl K ns _ F1 H1 m1.st.fh hq1
  cases ea
  refine ⟨a,ns,m,rfl,hq',m0,m1',fun p H2 hp s pp=>?_⟩
  have m2:=m1.st.grow s
  exact hn _ _ F1 H2 kk (m2.st.setG ⟨p,rfl,m1.st.newF hp,.inl (m1.st.new0 hp),pp⟩ fun l e b u _ hu mu=>by cases e;exact m1.st.newAddr hu hp mu) m1.ff⟩
end
section
variable {E:Ent0} {ss:List Slot} {σ:L2.St} {F H F' H':Hp} {K:PySem.W.Frag}
theorem law_run {N:List Str} {vs:List V} {Q:VK} {X:XK} {t:TS} (h:ZHh K vs H Q X) (hw:∀ ns:List Int,ns.length≤63→Ws (.raw (ZB9 K ns) :: List.replicate (N.length - 1) .any) t (fun _=>False) (.is fun p=>p=.bl true)):t { nx:=fun _ H'=>Q .non H',rt:=Q } (L2.start N vs) H:=by
  obtain ⟨a,ns,rfl,hS,h63,q⟩:=h
  have S:Sg (E3 [] H H) [.raw (ZB9 K ns)] [some (.ref a)] H H:=by
    have nn:∀ {p:Prop} (a:Addr),a∈([]:List Addr)→p:=fun a h=>absurd h List.not_mem_nil
    refine ⟨⟨Same.refl _,Same.refl _,fun _ _ _ e=>e,fun _ _ e=>.inl e,fun a h=>nn a h,fun a h=>nn a h,fun a h=>nn a h,fun a h=>nn a h,fun a h=>nn a h,fun a h=>nn a h⟩,rfl,fun i s hi=>?_,fun i j s u l hij hi hj ms=>?_⟩
    · cases i with
      | zero=>cases hi;exact ⟨_,rfl,⟨a,rfl,hS⟩,ZBl K ns _⟩
      | succ i=>simp at hi
    · cases i with
      | zero=>cases hi;cases ms
      | succ i=>simp at hi
  refine (hw ns h63).go (entN (E3 [] H H)) _ _ H H (S.grown _) (fun _ _ _ _ h=>h.elim) fun v F' H' f ok=>?_
  obtain ⟨p,r,rfl⟩:=ok
  cases r
  exact q H'
end
end Fz
set_option Elab.async false
set_option linter.all false
set_option maxRecDepth 100000
set_option maxHeartbeats 4000000
namespace Fz
open PySem PySem.Spec PyProof.Rows L2 Lw
section
variable [Xw]
variable {E:Ent0} {ss:List Slot} {σ:L2.St} {F H F' H':Hp} {K:PySem.W.Frag} {js:List Nat} {ta tb te:TE} {k:PV→Prop} {nx:List Slot→Prop} {R:Ret}
theorem Wi.mono {wi:TI} {k k':List PV→Prop} (h:Wi ss wi k) (i:∀ xs,k xs→k' xs):Wi ss wi k':=⟨fun E σ F H R S q=>h.go E σ F H R S fun J xs F' H' m s kk=>q J xs F' H' m s (i xs kk)⟩
theorem Wt.mono {t:TT} {k k':Bool→Prop} (h:Wt ss t k) (i:∀ b,k b→k' b):Wt ss t k':=⟨fun E σ F H Q S q=>h.go E σ F H Q S fun b F' H' m kk=>q b F' H' m (i b kk)⟩
theorem ZHg {α:Type} {wi:TI} {tt:TT} {te:TE} {k:List PV→Prop} (c:α→PV) (f:α→Bool) (g:α→PV)
    (h:Wi ss wi fun xs=>∃ ns:List α,xs=ns.map c∧ns.length≤100000∧(∀ x∈ns,Wt (ZCX js ss++[.is (c x)]) tt fun b=>b=f x)∧(∀ x∈ns,f x=true→Wp (ZCX js ss++[.is (c x)]) te fun p=>p=g x)∧k ((ns.filter f).map g))
    (inj:∀ x y,c x=c y→x=y) (nd:js.Nodup:=by decide) (np:noPot js ss=true:=by rfl):Wn ss (ZGo wi js tt te) k:=by
  by_cases hα:Nonempty α
  · obtain ⟨x0⟩:=hα
    have inv:∀ p:PV,∃ x:α,∀ y,c y=p→y=x:=fun p=>by
      by_cases q:∃ y,c y=p
      · obtain ⟨y,hy⟩:=q
        exact ⟨y,fun z hz=>inj _ _ (hz.trans hy.symm)⟩
      · exact ⟨x0,fun y hy=>absurd ⟨y,hy⟩ q⟩
    let d:PV→α:=fun p=>Classical.choose (inv p)
    have hd:∀ x,d (c x)=x:=fun x=>(Classical.choose_spec (inv (c x)) x rfl).symm
    refine ZJa (fun p=>f (d p)) (fun p=>g (d p)) (h.mono fun xs ⟨ns,e,hz,h1,h2,kk⟩=>?_) nd np
    subst e
    refine ⟨by rw [List.length_map];exact hz,fun x hx=>?_,fun x hx hf=>?_,?_⟩
    · obtain ⟨y,hy,rfl⟩:=List.mem_map.mp hx
      rw [hd];exact h1 y hy
    · obtain ⟨y,hy,rfl⟩:=List.mem_map.mp hx
      rw [hd] at hf ⊢;exact h2 y hy hf
    · have e:((ns.map c).filter fun p=>f (d p)).map (fun p=>g (d p))=(ns.filter f).map g:=by
        rw [List.filter_map,List.map_map]
        congr 1
        · funext x;show g (d (c x))=g x;rw [hd]
        · congr 1;funext x;show f (d (c x))=f x;rw [hd]
      rw [e];exact kk
  · refine ZJa (fun _=>true) (fun p=>p) (h.mono fun xs ⟨ns,e,hz,h1,h2,kk⟩=>?_) nd np
    have en:ns=[]:=by
      cases ns with
      | nil=>rfl
      | cons x r=>exact absurd ⟨x⟩ hα
    subst en;subst e
    exact ⟨by simp,fun x hx=>absurd hx (by simp),fun x hx=>absurd hx (by simp),kk⟩
theorem str_inj:∀ x y:Str,PV.str x=PV.str y→x=y:=fun _ _ e=>by injection e
theorem wp_in0 (h:Wp ss ta fun p=>∃ x,p=.str x∧Wq ss tb fun _ ys=>∃ ns:List Str,ys=ns.map PV.str∧k (.bl (decide (x∈ns)))):Wp ss (tOp (rIn K false) ta tb) k:=wp_in h
theorem wp_in1 (h:Wp ss ta fun p=>∃ x,p=.str x∧Wq ss tb fun _ ys=>∃ ns:List Str,ys=ns.map PV.str∧k (.bl (!decide (x∈ns)))):Wp ss (tOp (rIn K true) ta tb) k:=wp_in h
theorem wp_eqS0 (h:Wq ss ta fun tp xs=>∃ ns:List Str,xs=ns.map PV.str∧Wq ss tb fun tp2 ys=>tp2=tp∧∃ ms:List Str,ys=ms.map PV.str∧k (.bl (decide (ns=ms)))):Wp ss (tOp (rEqS K false) ta tb) k:=wp_eqS h
theorem wp_eqS1 (h:Wq ss ta fun tp xs=>∃ ns:List Str,xs=ns.map PV.str∧Wq ss tb fun tp2 ys=>tp2=tp∧∃ ms:List Str,ys=ms.map PV.str∧k (.bl (!decide (ns=ms)))):Wp ss (tOp (rEqS K true) ta tb) k:=wp_eqS h
theorem Wq.mono {k k':Bool→List PV→Prop} (h:Wq ss te k) (i:∀ b xs,k b xs→k' b xs):Wq ss te k':=⟨fun E σ F H Q S q=>h.go E σ F H Q S fun v tp xs F' H' m s kk=>q v tp xs F' H' m s (i tp xs kk)⟩
theorem Wo.mono {t:TO} {k k':Option Int→Prop} (h:Wo ss t k) (i:∀ o,k o→k' o):Wo ss t k':=⟨fun E σ F H Q S q=>h.go E σ F H Q S fun o F' H' m kk=>q o F' H' m (i o kk)⟩
theorem ZGN {tl th:TO} {k:Bool→List PV→Prop} (h:Wq ss te fun tp xs=>Wo ss tl fun lo=>Wo ss th fun hi=>k tp (ZFX xs lo hi)):Wz ss (tSl (rSl2 K) te tl th) k:=
  ZCL (ZGI (h.mono fun tp xs h=>h.mono fun lo h=>h.mono fun hi h=>by
    cases tp
    · exact ⟨_,.inl ⟨rfl,h⟩⟩
    · exact ⟨_,.inr ⟨rfl,h⟩⟩))
theorem ZKZ {tl th:TO} {k:Bool→List PV→Prop} (h:Wq ss te fun tp xs=>Wo ss tl fun lo=>Wo ss th fun hi=>k tp (ZFX xs lo hi)):Wq ss (tSl (rSl2 K) te tl th) k:=ZHn (ZGN h)
theorem cutP_map {α β:Type} (c:α→β) (xs:List α) (lo hi:Option Int):ZFX (xs.map c) lo hi=(ZFX xs lo hi).map c:=by
  unfold ZFX;rw [List.length_map,List.map_take,List.map_drop]
theorem map_app {α β:Type} (c:α→β) (xs ys:List α):xs.map c++ys.map c=(xs++ys).map c:=by rw [List.map_append]
theorem map_bl {α:Type} (g:α→Bool) (xs:List α):xs.map (fun x=>PV.bl (g x))=(xs.map g).map PV.bl:=by rw [List.map_map];rfl
def b2:PV→Bool
  | .bl b=>b
  | _=>false
end
end Fz
set_option Elab.async false
set_option linter.all false
set_option maxRecDepth 100000
set_option maxHeartbeats 4000000
namespace Fz
open PySem PySem.Spec PyProof.Rows L2 Lw
section
variable [Xw]
variable {E:Ent0} {ss:List Slot} {σ:L2.St} {F H F' H':Hp} {K:PySem.W.Frag} {js:List Nat} {ta tb te:TE} {k:PV→Prop} {nx:List Slot→Prop} {R:Ret} {xs ys:List PV}
theorem wp_place (h:Wq ss ta fun _ xs=>∃ ns:List Str,xs=ns.map PV.str∧Wp ss tb fun p=>∃ x,p=.str x∧x∈ns∧k (.int (ns.idxOf x:Nat))):Wp ss (ZAo ZCu [] E0 (ZAA ta (ZAA tb ZAa))) k:=⟨fun E σ F H Q S q=>
  h.go E σ F H _ S fun v tp xs F1 H1 m1 sv ⟨ns,e,h2⟩=>h2.go E σ F1 H1 _ m1.st fun v2 p2 F2 H2 m2 r2 ⟨x,e2,hx,kk⟩=>by
    subst e;subst e2;cases r2
    obtain ⟨l,vs,rfl,hl,r⟩:=(sv.mv m2).seq m2.st
    rw [r.strs] at hl
    exact ⟨l,tp,ns,x,rfl,hl,hx,q _ _ F2 H2 (m1.trans m2) (.int _) kk⟩⟩
theorem ZKY (h:Wq ss ta fun tp xs=>tp=false∧∃ ns:List Str,xs=ns.map PV.str∧Wp ss tb fun p=>∃ x,p=.str x∧x∈ns∧k (.int (ns.idxOf x:Nat))):Wp ss (tBM K "list" (ZK4 K) ta (ZAA tb ZAa)) k:=⟨fun E σ F H Q S q=>
  h.go E σ F H _ S fun v tp xs F1 H1 m1 sv ⟨et,ns,e,h2⟩=>by
    subst e;subst et
    obtain ⟨l,vs,rfl,hl,r⟩:=sv.seq m1.st
    refine ⟨.inl ⟨rfl,_,SqL.of hl⟩,h2.go E σ F1 H1 _ m1.st fun v2 p2 F2 H2 m2 r2 ⟨x,e2,hx,kk⟩=>?_⟩
    subst e2;cases r2
    obtain ⟨l',vs',e',hl',r'⟩:=(sv.mv m2).seq m2.st
    cases e'
    rw [r'.strs] at hl'
    exact ⟨l,ns,x,rfl,rfl,SqL.of hl',hx,q _ _ F2 H2 (m1.trans m2) (.int _) kk⟩⟩
def ZF0 (xs:List PV):List PV:=(List.range xs.length).map fun i:Nat=>.tup [.int (i:Int),xs.getD i .non]
theorem ZCy (xs:List PV):(ZF0 xs).length=xs.length:=by simp [ZF0]
theorem ZI6 {xs:List PV} {i:Nat} {x:PV} (h:xs[i]?=some x):(ZF0 xs)[i]?=some (.tup [.int (i:Int),x]):=by
  have hi:i < xs.length:=(List.getElem?_eq_some_iff.mp h).1
  unfold ZF0
  rw [List.getElem?_map,List.getElem?_range hi]
  show some (PV.tup [PV.int (i:Int),xs.getD i PV.non])=_
  rw [List.getD_eq_getElem?_getD,h];rfl
theorem enumP_of {xs:List PV} {i:Nat} {p:PV} (h:(ZF0 xs)[i]?=some p):∃ x,xs[i]?=some x∧p=.tup [.int (i:Int),x]:=by
  have hi:i < xs.length:=by have:=(List.getElem?_eq_some_iff.mp h).1;rwa [ZCy] at this
  have e:=List.getElem?_eq_getElem hi
  refine ⟨xs[i],e,?_⟩
  rw [ZI6 e] at h
  exact (Option.some.inj h).symm
theorem ZJs {k:List PV→Prop} (h:Wz ss te fun _ xs=>k (ZF0 xs)):Wi ss (ZJ3 K (ZAA te ZAa)) k:=⟨fun E σ F H R S q=>
  h.go E σ F H _ S fun v tp xs F1 H1 m1 f kk=>by
    obtain ⟨l,vs,ev,hl,r⟩:∃ l vs,v=.ref l∧(∀ (ss:List Slot) (σ:L2.St) (F H:Hp),Same F1 F→Sg E ss σ F H→H l=some (HOq tp vs))∧Reps F1 vs xs:=by
      cases tp with
      | true=>
        have f':Rep F1 v (.tup xs):=f
        cases f' with
        | tup e r=>exact ⟨_,_,rfl,fun ss σ F H s S=>S.fh _ _ (s _ _ e),r⟩
      | false=>
        obtain ⟨l,vs,e,h1,r⟩:=f
        refine ⟨l,vs,e,fun ss σ F H s S=>?_,r⟩
        rcases h1 with h1 | ⟨hA,h1⟩
        · exact S.fh _ _ (s _ _ h1)
        · exact S.keep _ _ hA h1
    subst ev
    refine ⟨l,tp,vs,rfl,HOq.sq (hl ss σ F1 H1 (Same.refl _) m1.st),q _ (ZF0 xs) F1 H1 m1 ⟨fun ss σ F H i s S hi=>?_,fun ss σ F H s S=>?_,fun ss σ F H i x H' s S hi y=>?_⟩ kk⟩
    · rw [ZCy] at hi;exact ⟨HOq.sq (hl ss σ F H s S),by rw [r.length];exact hi⟩
    · refine ⟨HOq.sq (hl ss σ F H s S),?_⟩
      rw [ZCy,r.length];exact Nat.le_refl _
    · obtain ⟨p,y,hy,ex,hp,eH⟩:=y
      subst ex;subst eH
      obtain ⟨z,hz,rz⟩:=r.get' hy
      have m:=S.alloc hp (.tup [.int i,y])
      exact ⟨_,_,ZI6 hz,m,.tup ZA3 (.cons (.int _) (.one (rz.mono (s.trans m.ff))))⟩⟩
def pairP (a:Str×Str):PV:=.tup [.str a.1,.str a.2]
theorem wn_rev {k:List PV→Prop} (h:Wq ss te fun _ xs=>k xs.reverse):Wn ss (tRev K (ZAA te ZAa)) k:=⟨fun E σ F H Q S q=>
  h.go E σ F H _ S fun v tp xs F1 H1 m1 sv kk=>by
    obtain ⟨l,vs,rfl,hl,r⟩:=sv.seq m1.st
    refine ⟨l,tp,vs,rfl,HOq.sq hl,fun a ha=>?_⟩
    have m2:=m1.st.make ha (.lst vs.reverse)
    exact q a _ _ F1 _ (m1.trans m2) (m1.st.newF ha) (m1.none ha) ZA3 r.reverse kk⟩
theorem wp_eqN (h:Wq ss ta fun tp xs=>tp=false∧Wq ss tb fun tp2 ys=>tp2=false∧ys=[]∧k (.bl (decide (xs.length=0)))):Wp ss (tOp (rEqN K) ta tb) k:=⟨fun E σ F H Q S q=>
  h.go E σ F H _ S fun v tp xs F1 H1 m1 sv ⟨et,h2⟩=>h2.go E σ F1 H1 _ m1.st fun v2 tp2 ys F2 H2 m2 sv2 ⟨et2,ey,kk⟩=>by
    subst et;subst et2;subst ey
    obtain ⟨l,vs,rfl,hl,r⟩:=(sv.mv m2).seq m2.st
    obtain ⟨l2,vs2,rfl,hl2,r2⟩:=sv2.seq m2.st
    cases r2
    refine ⟨l,l2,vs,rfl,rfl,SqL.of hl,SqL.of hl2,?_⟩
    have e:decide (vs=[])=decide (xs.length=0):=by
      rw [← r.length]
      cases vs <;> simp
    rw [e]
    exact q _ _ F2 H2 (m1.trans m2) (.bl _) kk⟩
theorem wp_int1 {r:List V→Hp→VK→Prop} (hr:r=fun xs H Q=>(∃ i,xs=[.int i]∧Q (.int i) H)∨∃ k,xs=[.bl k]∧Q (.int (if k then 1 else 0)) H) (h:Wp ss te fun p=>∃ b,p=.bl b∧k (.int (if b then 1 else 0))):Wp ss (tCB r (ZAA te ZAa)) k:=⟨fun E σ F H Q S q=>
  h.go E σ F H _ S fun v p F1 H1 m1 r ⟨b,e,kk⟩=>by
    subst hr;subst e;cases r
    exact .inr ⟨b,rfl,q _ _ F1 H1 m1 (.int _) kk⟩⟩
end
theorem iteY {c A B:Prop} [Decidable c] (h:c) (a:A):if c then A else B:=by rw [if_pos h];exact a
end Fz
set_option Elab.async false
set_option linter.all false
set_option maxRecDepth 100000
set_option maxHeartbeats 4000000
namespace L2
open PySem PySem.Spec PyProof.Rows
end L2
namespace Fz
open PySem PySem.Spec PyProof.Rows L2 Lw
section
variable [Xw]
variable {E:Ent0} {ss:List Slot} {σ:L2.St} {F H F' H':Hp} {K:PySem.W.Frag} {js:List Nat} {ta tb tc te:TE} {k:PV→Prop} {nx:List Slot→Prop} {R:Ret} {xs ys:List PV}
def rng2 (i:Int) (n:Nat):List PV:=(List.range n).map fun j:Nat=>PV.int (i+(j:Int))
theorem ZFE (i:Int) (n:Nat):(rng2 i n).length=n:=by simp [rng2]
theorem wi_rng2 {k:List PV→Prop} (h:Wp ss ta fun p=>∃ i:Int,p=.int i∧Wp ss tb fun p=>∃ j:Int,p=.int j∧(i≤1000000∧-1000000≤i∧j≤1000000∧-1000000≤j)∧k (rng2 i (j - i).toNat)):Wi ss (iRng2 (ZAA ta (ZAA tb ZAa))) k:=⟨fun E σ F H R S q=>
  h.go E σ F H _ S fun v p F1 H1 m1 r ⟨i,e,h2⟩=>by
    subst e;cases r
    exact h2.go E σ F1 H1 _ m1.st fun v2 p2 F2 H2 m2 r2 ⟨j,e2,hb,kk⟩=>by
      subst e2;cases r2
      refine ⟨i,j,rfl,by omega,q _ (rng2 i (j - i).toNat) F2 H2 (m1.trans m2) ⟨fun ss σ F H n s S hn=>?_,fun ss σ F H s S=>?_,fun ss σ F H n x H' s S hn y=>?_⟩ kk⟩
      · rw [ZFE] at hn;exact hn
      · show _≤_
        rw [ZFE];exact Nat.le_refl _
      · obtain ⟨e,hx⟩:=y
        subst e;subst hx
        rw [ZFE] at hn
        refine ⟨.int (i+(n:Int)),F,?_,.refl S,.int _⟩
        unfold rng2;rw [List.getElem?_map,List.getElem?_range hn];rfl⟩
theorem wp_abs {r:List V→Hp→VK→Prop} (hr:r=fun xs H Q=>∃ i,xs=[.int i]∧Q (.int (if i < 0 then -i else i)) H) (h:Wp ss te fun p=>∃ i:Int,p=.int i∧k (.int (if i < 0 then -i else i))):Wp ss (tCB r (ZAA te ZAa)) k:=⟨fun E σ F H Q S q=>
  h.go E σ F H _ S fun v p F1 H1 m1 r ⟨i,e,kk⟩=>by
    subst hr;subst e;cases r
    exact ⟨i,rfl,q _ _ F1 H1 m1 (.int _) kk⟩⟩
def dP:Deed→PV
  | .put x i=>.tup [.str "put", .str x,.int i]
  | .take x=>.tup [.str "take", .str x]
  | .move x i=>.tup [.str "move", .str x,.int i]
  | .turn lo hi=>.tup [.str "turn", .int lo,.int hi]
theorem dP_rep {d:Deed} {t:Addr} (h:F t=some (.tup d.vals)):Rep F (.ref t) (dP d):=by
  cases d with
  | put x i=>exact .tup h (.cons (.str _) (.cons (.str _) (.one (.int _))))
  | take x=>exact .tup h (.cons (.str _) (.one (.str _)))
  | move x i=>exact .tup h (.cons (.str _) (.cons (.str _) (.one (.int _))))
  | turn lo hi=>exact .tup h (.cons (.str _) (.cons (.int _) (.one (.int _))))
theorem ZDw {d:Deed} {v:V} (r:Rep F v (dP d)):∃ t,v=.ref t∧F t=some (.tup d.vals):=by
  cases d with
  | put x i=>cases r with | tup h r=>cases r with | cons a r=>cases r with | cons b r=>cases r with | cons c r=>cases r;cases a;cases b;cases c;exact ⟨_,rfl,h⟩
  | take x=>cases r with | tup h r=>cases r with | cons a r=>cases r with | cons b r=>cases r;cases a;cases b;exact ⟨_,rfl,h⟩
  | move x i=>cases r with | tup h r=>cases r with | cons a r=>cases r with | cons b r=>cases r with | cons c r=>cases r;cases a;cases b;cases c;exact ⟨_,rfl,h⟩
  | turn lo hi=>cases r with | tup h r=>cases r with | cons a r=>cases r with | cons b r=>cases r with | cons c r=>cases r;cases a;cases b;cases c;exact ⟨_,rfl,h⟩
theorem Sg.adopt (S:Sg E ss σ F H) (m:Mv E ss σ F H F H') {t:Addr} {o:HO} (ht:H t=none) (e:H' t=some o):Mv E ss σ F H (upd F t o) H':=by
  have fn:=S.newF ht
  refine S.step (ZA5 fn o) (fun a u q=>?_) m.hh (fun a u q=>?_) fun i l hi ei=>m.st.potAt hi ei
  · by_cases z:a=t
    · subst z;rw [ZA3] at q;rw [← q];exact e
    · rw [ZAE z] at q;exact m.st.fh a u q
  · by_cases z:a=t
    · subst z;exact .inr ht
    · rw [ZAE z] at q;exact .inl q
theorem ZJZ {i:Nat} (hi:ss[i]?=some .pot) (h:Wq ss ta fun tp xs=>tp=false∧∃ ns:List Str,xs=ns.map PV.str∧Wp ss tb fun p=>∃ m:Nat,p=.int m∧(∀ x∈ns,Nm x)∧ns.length≤m∧1≤m∧m≤100∧∀ d:Deed,d.Ok m ns→k (dP d)) :
    Wp ss (ZAo ZJG [] E0 (ZAA (ZBi i) (ZAA ta (ZAA tb ZAa)))) k:=⟨fun E σ F H Q S q=>by
  obtain ⟨p,e,_⟩:=S.ok i _ hi
  refine ⟨_,e,h.go E σ F H _ S fun v tp xs F1 H1 m1 sv ⟨et,ns,ex,h2⟩=>h2.go E σ F1 H1 _ m1.st fun v2 p2 F2 H2 m2 r2 ⟨m,em,hN,hz,h1,h3,kk⟩=>?_⟩
  subst et;subst ex;subst em;cases r2
  obtain ⟨l,vs,ev,hn,hl,r⟩:=sv.mv m2
  subst ev
  rw [r.strs] at hl
  refine ⟨p,l,m,ns,rfl,m2.st.potAt hi e,hl,fun z=>hn i hi (z▸e),hN,hz,h1,h3,fun d t H3 ht s e3 hd=>?_⟩
  have m3:=m2.st.adopt (m2.st.pstep hi e s) ht e3
  exact q _ _ _ H3 (m1.trans (m2.trans m3)) (dP_rep ZA3) (kk d hd)⟩
theorem wn_ldone {k:List PV→Prop} (h:Wq ss ta fun tp xs=>tp=false∧∃ ns:List Str,xs=ns.map PV.str∧Wp ss tb fun p=>∃ d:Deed,p=dP d∧d.Ok 40 ns∧ns.length≤40∧ns.Nodup∧k ((d.done ns).map PV.str)) :
    Wn ss (ZAo spLDone [] E0 (ZAA ta (ZAA tb ZAa))) k:=⟨fun E σ F H Q S q=>
  h.go E σ F H _ S fun v tp xs F1 H1 m1 sv ⟨et,ns,ex,h2⟩=>h2.go E σ F1 H1 _ m1.st fun v2 p2 F2 H2 m2 r2 ⟨d,em,hd,hz,nd,kk⟩=>by
    subst et;subst ex;subst em
    obtain ⟨l,vs,ev,hl,r⟩:=(sv.mv m2).seq m2.st
    subst ev
    rw [r.strs] at hl
    obtain ⟨t,et,ht⟩:=ZDw r2
    subst et
    refine ⟨l,t,ns,d,rfl,hl,m2.st.fh _ _ ht,hd,hz,nd,fun a H3 ha s e3=>?_⟩
    have m3:=m2.st.grow s
    exact q a _ _ F2 H3 (m1.trans (m2.trans m3)) (m2.st.newF ha) ((m1.trans m2).none ha) e3 (ZB6 _) kk⟩
end
end Fz
set_option Elab.async false
set_option linter.all false
set_option maxRecDepth 100000
set_option maxHeartbeats 4000000
namespace L2
open PySem PySem.Spec PyProof.Rows
section
variable {X:Cx}
end
end L2
namespace Fz
open PySem PySem.Spec PyProof.Rows L2 Lw
section
variable [Xw]
variable {E:Ent0} {ss:List Slot} {σ:L2.St} {F H F' H':Hp} {K:PySem.W.Frag} {js:List Nat} {ta tb tc te:TE} {k:PV→Prop} {nx:List Slot→Prop} {R:Ret} {xs ys:List PV} {P:Program} {w:World}
theorem wp_isB (h:Wp ss ta fun p=>∃ a,p=.bl a∧Wp ss tb fun q=>∃ b,q=.bl b∧k (.bl (a == b))):Wp ss (tOp (fun x y H Q=>∃ a b,x=.bl a∧y=.bl b∧Q (.bl (a == b)) H) ta tb) k:=⟨fun E σ F H Q S q=>
  h.go E σ F H _ S fun v p F1 H1 m1 r1 ⟨a,e1,h2⟩=>by
    subst e1;cases r1
    exact h2.go E σ F1 H1 _ m1.st fun v2 p2 F2 H2 m2 r2 ⟨b,e2,kk⟩=>by
      subst e2;cases r2
      exact ⟨a,b,rfl,rfl,q _ _ F2 H2 (m1.trans m2) (.bl _) kk⟩⟩
theorem wp_notB (h:Wp ss ta fun p=>∃ a,p=.bl a∧Wp ss tb fun q=>∃ b,q=.bl b∧k (.bl (!(a == b)))):Wp ss (tOp (fun x y H Q=>∃ a b,x=.bl a∧y=.bl b∧Q (.bl (!(a == b))) H) ta tb) k:=⟨fun E σ F H Q S q=>
  h.go E σ F H _ S fun v p F1 H1 m1 r1 ⟨a,e1,h2⟩=>by
    subst e1;cases r1
    exact h2.go E σ F1 H1 _ m1.st fun v2 p2 F2 H2 m2 r2 ⟨b,e2,kk⟩=>by
      subst e2;cases r2
      exact ⟨a,b,rfl,rfl,q _ _ F2 H2 (m1.trans m2) (.bl _) kk⟩⟩
theorem ZIq (h:Wq ss ta fun tp xs=>tp=false∧Wq ss tb fun tp2 ys=>tp2=false∧ys=[]∧k (.bl (!decide (xs.length=0)))):Wp ss (tOp (rNeN K) ta tb) k:=⟨fun E σ F H Q S q=>
  h.go E σ F H _ S fun v tp xs F1 H1 m1 sv ⟨et,h2⟩=>h2.go E σ F1 H1 _ m1.st fun v2 tp2 ys F2 H2 m2 sv2 ⟨et2,ey,kk⟩=>by
    subst et;subst et2;subst ey
    obtain ⟨l,vs,rfl,hl,r⟩:=(sv.mv m2).seq m2.st
    obtain ⟨l2,vs2,rfl,hl2,r2⟩:=sv2.seq m2.st
    cases r2
    refine ⟨l,l2,vs,rfl,rfl,SqL.of hl,SqL.of hl2,?_⟩
    have e:decide (vs=[])=decide (xs.length=0):=by
      rw [← r.length]
      cases vs <;> simp
    rw [e]
    exact q _ _ F2 H2 (m1.trans m2) (.bl _) kk⟩
theorem ZGy {k:List PV→Prop} (h:Wq ss te fun _ xs=>∃ ns:List Str,xs=ns.map PV.str∧ns.length < 64∧∀ ts:List Str,ts.length=(dd ns).length→(∀ x,(dd ns).any (· == x)=true↔x∈ts)→sortedS ts=true→k (ts.map PV.str)) :
    Wn ss (tCB (ZI1 P w) (ZAA (tCB (fun xs H Q=>∃ (p:Addr) (tp:Bool) (ss:List Str),xs=[.ref p]∧SqB K tp H p (ss.map V.str)∧ss.length < 4000∧∀ l,H l=none→Q (.ref l) (upd H l (ZGY P w l (fun k'=>(dd ss).any (· == k')) (dd ss).length))) (ZAA te ZAa)) ZAa)) k:=⟨fun E σ F H Q S q=>
  h.go E σ F H _ S fun v tp xs F1 H1 m1 sv ⟨ns,e,hz,kk⟩=>by
    subst e
    obtain ⟨l,vs,rfl,hl,r⟩:=sv.seq m1.st
    rw [r.strs] at hl
    refine ⟨l,tp,ns,rfl,HOq.sq hl,by omega,fun a ha=>?_⟩
    have m2:=m1.st.make ha (ZGY P w a (fun k'=>(dd ns).any (· == k')) (dd ns).length)
    refine ⟨a,_,_,rfl,ZA3,Nat.lt_of_le_of_lt (ZJO ns) hz,fun b ts hb hl2 hm hs=>?_⟩
    have m3:=m2.st.make hb (.lst (ts.map V.str))
    exact q b _ _ F1 _ (m1.trans (m2.trans m3)) (m2.st.newF hb) ((m1.trans m2).none hb) ZA3 (ZB6 ts) (kk ts hl2 hm hs)⟩
theorem ZKH (h:Wq ss te fun _ xs=>∃ ns:List Str,xs=ns.map PV.str∧ns.length < 4000∧k (.int ((dd ns).length:Nat))) :
    Wp ss (tCB (fun xs H Q=>∃ l f n,xs=[.ref l]∧H l=some (SetO P w l f n)∧Q (.int (n:Nat)) H) (ZAA (tCB (fun xs H Q=>∃ (p:Addr) (tp:Bool) (ss:List Str),xs=[.ref p]∧SqB K tp H p (ss.map V.str)∧ss.length < 4000∧∀ l,H l=none→Q (.ref l) (upd H l (SetO P w l (fun k'=>(dd ss).any (· == k')) (dd ss).length))) (ZAA te ZAa)) ZAa)) k:=⟨fun E σ F H Q S q=>
  h.go E σ F H _ S fun v tp xs F1 H1 m1 sv ⟨ns,e,hz,kk⟩=>by
    subst e
    obtain ⟨l,vs,rfl,hl,r⟩:=sv.seq m1.st
    rw [r.strs] at hl
    refine ⟨l,tp,ns,rfl,HOq.sq hl,hz,fun a ha=>?_⟩
    have m2:=m1.st.make ha (SetO P w a (fun k'=>(dd ns).any (· == k')) (dd ns).length)
    exact ⟨a,_,_,rfl,ZA3,q _ _ F1 _ (m1.trans m2) (.int _) kk⟩⟩
end
end Fz
set_option Elab.async false
set_option linter.all false
set_option maxRecDepth 100000
set_option maxHeartbeats 4000000
namespace L2
open PySem PySem.Spec PyProof.Rows
section
variable {X:Cx} {pins:List (Addr×Obj)} {σ:St} {H:Hp} {s:Shared}
def rNeLT (K:PySem.W.Frag):R2:=fun x y H Q=>∃ p q xs ys,x=.ref p∧y=.ref q∧SqL K H p xs∧SqL K H q ys∧xs.length=ys.length∧(∀ (j:Nat) (x y:V),xs[j]?=some x→ys[j]?=some y→EqT K H 8 x y)∧Q (.bl false) H
theorem ZHd:∀ {xs:List V} {us:List Value},xs.length=us.length→(∀ (j:Nat) (x:V) (v:Value),xs[j]?=some x→us[j]?=some v→RelV x v)→Vals xs us
  | [],[],_,_=>.nil
  | [],_ :: _,h,_=>by cases h
  | _ :: _,[],h,_=>by cases h
  | _ :: xs,_ :: us,h,f=>.cons (f 0 _ _ rfl rfl) (ZHd (Nat.succ.inj h) fun j x v hx hv=>f (j+1) x v hx hv)
def tLR (t:TA):TE:=fun σ H Q=>t σ H fun vs H1=>∃ n:Nat,vs=[.int n]∧n≤1000∧∀ l,H1 l=none→Q (.ref l) (upd H1 l (.lst ((List.range n).map fun i:Nat=>V.int i)))
theorem pe_lrng {p1 p2 pos1 pos2:Pos} {e:Expr} {t:TA} (hc:X.calm=true) (hg1:Gl X "list") (hm1:X.mg "list" = none) (hg2:Gl X "range") (hm2:X.mg "range" = none) (ha:PA X [e] t)
    (he:starEach [e] X.env=[(false,eval e X.env)]:=by rfl) (he2:starEach [.Call (.Name "range" p2) [e] [] pos2] X.env=[(false,eval (.Call (.Name "range" p2) [e] [] pos2) X.env)]:=by rfl) :
    PE X (.Call (.Name "list" p1) [.Call (.Name "range" p2) [e] [] pos2] [] pos1) (tLR t):=by
  intro pins s σ H Q I h
  refine wpAny_Call_Name_kw (ZCk I hg1 hm1 (show bootBuiltins "list" = some (.type "list") by decide +kernel) ?_ (by decide) (by decide))
  refine PyProof.Rows.callWith_type1 ?_ he2 rfl
  rw [he2]
  show wpAny _ _ (spliced ((false,eval (.Call (.Name "range" p2) [e] [] pos2) X.env) :: [])) _ _ s
  refine Calls.spliced_cons ?_
  refine wpAny_Call_Name_kw (ZCk I hg2 hm2 (show bootBuiltins "range" = some (.type "range") by decide +kernel) ?_ (by decide) (by decide))
  refine PyProof.Rows.callWith_type1 (thn (ha pos2 pins s σ H _ I h) fun us s1 ⟨vs,H1,I1,r1,q1⟩=>?_) he rfl
  obtain ⟨n,rfl,hn,q⟩:=q1
  obtain ⟨u,rfl,rx⟩:=ZCl r1
  obtain ⟨tk0,rfl⟩:=rx
  have hh:X.A.handled=none:=I1.ok.hd hc
  refine call_range_1 ?_
  refine Calls.spliced_nil ?_
  refine call_list_range (n:=n) hh (IsRange.new ..) (small_one (by omega) (by omega) (by omega) (by omega)) (by rw [rangeSize_one];split <;> omega) (by omega) fun h' tk acc c hk hS hacc=>?_
  have kp:∀ b o,s1.heap.get? b=some o→h'.get? b=some o:=fun b o e=>hk b o (Heap.get?_push_of_some _ e)
  have hsz:∀ ob:Obj,(s1.heap.push ob).objs.size=s1.heap.objs.size+1:=fun ob=>Heap.size_push ..
  have hv:Vals ((List.range n).map fun i:Nat=>V.int i) acc.toList:=by
    obtain ⟨hz,hv⟩:=hacc
    refine ZHd (by rw [List.length_map,List.length_range,Array.length_toList,hz]) fun j x v hx hv'=>?_
    rw [Array.getElem?_toList] at hv'
    obtain ⟨t,rfl⟩:=hv j v hv'
    rw [List.getElem?_map] at hx
    cases hj:(List.range n)[j]? with
    | none=>rw [hj] at hx;cases hx
    | some m=>
      rw [hj] at hx
      cases hx
      have:=List.getElem?_eq_some_iff.mp hj
      obtain ⟨h1,h2⟩:=this
      rw [List.getElem_range] at h2
      subst h2
      exact ⟨t,by congr 1;omega⟩
  refine ⟨.ref _,_,I1.laid (t':=tk) kp (by rw [hsz];exact Nat.le_succ _) (show ObjOk X.prog X.w _ h' _ (.lst _) from ⟨by rw [List.length_map,List.length_range];exact Nat.le_trans hn (by decide),acc.toList,c,hv,by rw [Array.toArray_toList];exact hS⟩),rfl,q _ (I1.hok.fresh (by show _≤_;rw [hsz];exact Nat.le_succ _))⟩
theorem qe_lrng {p1 p2 pos1 pos2:Pos} {e:Expr} {t:TA} (hc:X.calm=true) (hg1:Gl X "list") (hm1:X.mg "list" = none) (hg2:Gl X "range") (hm2:X.mg "range" = none) (ha:QA X [e] t)
    (he:starEach [e] X.env=[(false,eval e X.env)]:=by rfl) (he2:starEach [.Call (.Name "range" p2) [e] [] pos2] X.env=[(false,eval (.Call (.Name "range" p2) [e] [] pos2) X.env)]:=by rfl) :
    QE X (.Call (.Name "list" p1) [.Call (.Name "range" p2) [e] [] pos2] [] pos1) (tLR t):=⟨pe_lrng hc hg1 hm1 hg2 hm2 ha.h he he2⟩
end
end L2
set_option Elab.async false
set_option linter.all false
set_option maxRecDepth 100000
set_option maxHeartbeats 4000000
namespace Fz
open PySem PySem.Spec PyProof.Rows L2 Lw
section
variable [Xw]
variable {K:PySem.W.Frag} {E:Ent0} {ss:List Slot} {σ:L2.St} {F H:Hp} {te ta tb:TE} {k:PV→Prop} {nx:List Slot→Prop} {R:Ret} {xs ys:List PV}
theorem wn_lr {k:List PV→Prop} (h:Wp ss te fun p=>∃ j:Int,p=.int j∧0≤j∧j≤1000∧k (ZDO j.toNat)):Wn ss (tLR (ZAA te ZAa)) k:=⟨fun E σ F H Q S q=>
  h.go E σ F H _ S fun v p F1 H1 m1 r ⟨j,e,h0,hz,kk⟩=>by
    subst e;cases r
    generalize hn:j.toNat=n at kk
    refine ⟨n,by rw [← hn,Int.toNat_of_nonneg h0],by omega,fun a ha=>?_⟩
    have m2:=m1.st.make ha (.lst ((List.range n).map fun i:Nat=>V.int i))
    have rr:Reps F1 ((List.range n).map fun i:Nat=>V.int i) (ZDO n):=by
      have e1:ZDO n=((List.range n).map fun i:Nat=>(i:Int)).map PV.int:=by unfold ZDO;rw [List.map_map];rfl
      have e2:((List.range n).map fun i:Nat=>V.int (i:Int))=(ZDO n).map Fz.enc:=by rw [e1,ZIF,List.map_map];rfl
      rw [e2]
      exact ZDc (by rw [e1];exact ZGQ _)
    exact q a _ _ F1 _ (m1.trans m2) (m1.st.newF ha) (m1.none ha) ZA3 rr kk⟩
theorem ZKg {K:PySem.W.Frag} {F H:Hp} (fh:Same F H) {v u:V} {a:Str×Str} (r1:Rep F v (pairP a)) (r2:Rep F u (pairP a)):EqT K H 8 v u:=by
  cases r1 with
  | tup h1 q1=>
    cases r2 with
    | tup h2 q2=>
      have e1:=q1.enc (ps:=[.str a.1,.str a.2]) rfl
      have e2:=q2.enc (ps:=[.str a.1,.str a.2]) rfl
      subst e1;subst e2
      refine .tup (d:=7) (SqT.of (fh _ _ h1)) (SqT.of (fh _ _ h2)) rfl fun j x y hx hy=>?_
      rw [hx] at hy;cases hy
      have hm:=List.mem_of_getElem? hx
      rcases List.mem_cons.mp hm with rfl | hm
      · exact .flat rfl rfl (by simp [Fz.enc,eqV])
      · have:=List.mem_singleton.mp hm
        subst this
        exact .flat rfl rfl (by simp [Fz.enc,eqV])
theorem wp_neLT (h:Wq ss ta fun tp xs=>tp=false∧Wq ss tb fun tp2 ys=>tp2=false∧(∃ ps:List (Str×Str),xs=ps.map pairP∧ys=ps.map pairP)∧k (.bl false)):Wp ss (tOp (rNeLT K) ta tb) k:=⟨fun E σ F H Q S q=>
  h.go E σ F H _ S fun v tp xs F1 H1 m1 sv ⟨et,h2⟩=>h2.go E σ F1 H1 _ m1.st fun v2 tp2 ys F2 H2 m2 sv2 ⟨et2,⟨ps,ex,ey⟩,kk⟩=>by
    subst et;subst et2;subst ex;subst ey
    obtain ⟨l,vs,rfl,hl,r⟩:=(sv.mv m2).seq m2.st
    obtain ⟨l2,vs2,rfl,hl2,r2⟩:=sv2.seq m2.st
    refine ⟨l,l2,vs,vs2,rfl,rfl,SqL.of hl,SqL.of hl2,by rw [r.length,r2.length],fun j x y hx hy=>?_,q _ _ F2 H2 (m1.trans m2) (.bl _) kk⟩
    obtain ⟨p,hp,rp⟩:=r.get' hx
    obtain ⟨p2,hp2,rp2⟩:=r2.get' hy
    rw [hp] at hp2;cases hp2
    rw [List.getElem?_map] at hp
    cases ha:ps[j]? with
    | none=>rw [ha] at hp;cases hp
    | some a=>
      rw [ha] at hp;cases hp
      exact ZKg m2.st.fh rp rp2⟩
end
end Fz
set_option Elab.async false
set_option linter.all false
set_option maxRecDepth 100000
set_option maxHeartbeats 4000000
namespace L2
open PySem PySem.Spec PyProof.Rows
end L2
namespace Lw
open PySem PySem.Spec PyProof.Rows L2
def spLRest:Sp:=fun vs H Q _=>∃ (a:Addr) (ns:List Str) (t:Addr) (r:Str) (g:Nat) (ss:List Str),vs=[.ref a,.ref t]∧H a=some (.lst (ns.map V.str))∧LoopH H t r g ss∧ss.length < 64∧ns.length≤1000∧ZCU H Q (ZAp ns g ss)
def Held (lh:Addr) (H:Hp) (vs:List V):Prop:=∀ v∈vs,∃ (t f d:Addr) (xs:List Str),v=.ref t∧H t=some (.tup [.ref f,.ref d])∧f≠lh∧d≠lh∧H f=some (.lst (xs.map V.str))∧H d=some (.lst (xs.map V.str))
theorem Held.mono {lh:Addr} {H H':Hp} {vs ws:List V} (h:Held lh H vs) (hl:H lh=some (.lst ws)) (k:∀ b o,b≠lh→H b=some o→H' b=some o):Held lh H' vs:=by
  intro v hv
  obtain ⟨t,f,d,xs,e,h1,h2,h3,h4,h5⟩:=h v hv
  have ht:t≠lh:=fun z=>by subst z;rw [h1] at hl;cases hl
  exact ⟨t,f,d,xs,e,k _ _ ht h1,h2,h3,k _ _ h2 h4,k _ _ h3 h5⟩
end Lw
set_option Elab.async false
set_option linter.all false
set_option maxRecDepth 100000
set_option maxHeartbeats 4000000
namespace Lw
open PySem PySem.Spec PyProof.Rows L2
end Lw
set_option linter.all false
set_option linter.all false
namespace Lw
open PySem PySem.Spec PyProof.Rows L2
def ZIW:Sp:=fun vs H Q _=>∃ (a t:Addr) (tp:Bool) (ns:List Str) (g:Nat) (d:Deed),vs=[.ref a,.int g,.ref t]∧H a=some (HOq tp (ns.map V.str))∧H t=some (.tup d.vals)∧d.Ok 40 ns∧Q (.int (d.gap ns g:Nat)) H
end Lw
set_option Elab.async false
set_option linter.all false
set_option maxRecDepth 100000
set_option maxHeartbeats 4000000
namespace Lw
open PySem PySem.Spec PyProof.Rows L2
def LoopC (H:Hp) (t c:Addr) (r:Str) (g:Int) (ss:List Str):Prop:=H t=some (.tup [.str r,.int g,.ref c])∧H c=some (.tup (ss.map V.str))
theorem LoopC.h {H:Hp} {t c:Addr} {r:Str} {g:Int} {ss:List Str} (h:LoopC H t c r g ss):LoopH H t r g ss:=⟨c,h⟩
theorem LoopC.same {H H':Hp} {t c:Addr} {r:Str} {g:Int} {ss:List Str} (s:Same H H') (h:LoopC H t c r g ss):LoopC H' t c r g ss:=⟨s _ _ h.1,s _ _ h.2⟩
def ZDn:Sp:=fun vs H Q _=>∃ (tl td c0:Addr) (r:Str) (g:Nat) (ss:List Str) (d:Deed),vs=[.ref tl,.ref td]∧LoopC H tl c0 r g ss∧H td=some (.tup d.vals)∧ss.length≤60∧Up ss∧(∀ x i,d=.put x i→x∉ss)∧
  ∀ c H',(H c=none∨c=c0)→Same H H'→H' c=some (.tup ((d.com r g ss).map V.str))→Q (.ref c) H'
def ZEw:Sp:=fun vs H Q _=>∃ (a tl td c0:Addr) (tp:Bool) (ns:List Str) (r:Str) (g:Nat) (ss:List Str) (d:Deed),vs=[.ref a,.ref tl,.ref td]∧H a=some (HOq tp (ns.map V.str))∧LoopC H tl c0 r g ss∧H td=some (.tup d.vals)∧d.Ok 40 ns∧GoodL ns r g ss∧ns.length≤40∧
  ∀ t' c' H',H t'=none→(H c'=none∨c'=c0)→Same H H'→LoopC H' t' c' r (d.gap ns g:Nat) (d.com r g ss)→Q (.ref t') H'
def spLLedC:Sp:=fun vs H Q _=>∃ (a tl td c0:Addr) (ns:List Str) (r:Str) (g:Nat) (ss:List Str) (d:Deed),vs=[.ref a,.ref tl,.ref td]∧H a=some (.lst (ns.map V.str))∧LoopC H tl c0 r g ss∧H td=some (.tup d.vals)∧d.Ok 40 ns∧GoodL ns r g ss∧ns.length≤40∧
  ∀ t' c' H',H t'=none→(H c'=none∨c'=c0)→Same H H'→LoopC H' t' c' r (d.gap ns g:Nat) (d.com r g ss)→Q (.ref t') H'
def ZJb (K:PySem.W.Frag):Sp:=fun vs H Q _=>∃ (a:Addr) (tp:Bool) (ns:List Str) (t:Addr) (r:Str) (g:Nat) (ss:List Str) (x:Str),vs=[.ref a,.ref t,.str x]∧H a=some (HOq tp (ns.map V.str))∧LoopH H t r g ss∧ss.length < 64∧x∈ns∧
  ∀ t' c' H',H t'=none→H c'=none→Same H H'→LoopC H' t' c' r ((ns.idxOf x:Nat)+1) (wo ss x)→Q (.ref t') H'
def StepC (H H':Hp) (t' t:Addr) (ns:List Str) (r:Str) (g:Nat) (ss:List Str):Prop:=
  (ZAp ns g ss=[]∧H' t'=some (.tup [.non,.ref t]))∨∃ x rst t2 c2,ZAp ns g ss=x :: rst∧H t2=none∧H c2=none∧H' t'=some (.tup [.str x,.ref t2])∧LoopC H' t2 c2 r ((ns.idxOf x:Nat)+1) (wo ss x)
def ZEe (K:PySem.W.Frag):Sp:=fun vs H Q _=>∃ (a:Addr) (tp:Bool) (ns:List Str) (t:Addr) (r:Str) (g:Nat) (ss:List Str),vs=[.ref a,.ref t]∧H a=some (HOq tp (ns.map V.str))∧LoopH H t r g ss∧ss.length < 64∧isLp ns r g ss=true∧ns.length≤1000∧
  ∀ t' H',H t'=none→Same H H'→StepC H H' t' t ns r g ss→Q (.ref t') H'
def spLStepC:Sp:=fun vs H Q _=>∃ (a:Addr) (ns:List Str) (t:Addr) (r:Str) (g:Nat) (ss:List Str),vs=[.ref a,.ref t]∧H a=some (.lst (ns.map V.str))∧LoopH H t r g ss∧ss.length < 64∧ns.length≤1000∧
  ∀ t' H',H t'=none→Same H H'→StepC H H' t' t ns r g ss→Q (.ref t') H'
def ZFC (K:PySem.W.Frag):Sp:=fun vs H Q _=>∃ (a:Addr) (tp:Bool) (ns:List Str) (r:Str),vs=[.ref a,.str r]∧SqB K tp H a (ns.map V.str)∧r∈rules3∧ns.length < 64∧∀ t c H' ts,H t=none→H c=none→Same H H'→ts.Perm ns→sortedS ts=true→LoopC H' t c r (0:Nat) ts→Q (.ref t) H'
end Lw
namespace Fz
open PySem PySem.Spec PyProof.Rows L2 Lw
def ZAu (r:Str) (g:Nat) (ss:List Str):PV:=.tup [.str r,.int g,.tup (ss.map .str)]
section
variable [Xw]
variable {E:Ent0} {ss:List Slot} {σ:L2.St} {F H F1 F' H':Hp} {K:PySem.W.Frag} {js:List Nat} {ta tb tc te:TE} {nx:List Slot→Prop} {R:Ret} {k:PV→Prop}
theorem Mv.adopt (m:Mv E ss σ F H F1 H') (S:Sg E ss σ F H) {t:Addr} {o:HO} (ht:H t=Option.none) (e:H' t=some o):Mv E ss σ F H (upd F1 t o) H':=by
  have sm:Same F1 (upd F1 t o):=fun a u q=>by
    by_cases z:a=t
    · subst z
      have w:=m.st.fh _ _ q
      rw [e] at w
      rw [ZA3];exact w
    · rw [ZAE z];exact q
  refine S.step (m.ff.trans sm) (fun a u q=>?_) m.hh (fun a u q=>?_) fun i l hi ei=>m.st.potAt hi ei
  · by_cases z:a=t
    · subst z;rw [ZA3] at q;rw [← q];exact e
    · rw [ZAE z] at q;exact m.st.fh a u q
  · by_cases z:a=t
    · subst z;exact .inr ht
    · rw [ZAE z] at q;exact m.nn a u q
theorem ZBe {v:V} {r:Str} {g:Nat} {cs:List Str} (h:Rep F v (ZAu r g cs)):∃ t c,v=.ref t∧LoopC F t c r g cs:=by
  cases h with
  | tup e q=>cases q with
    | cons a q=>cases q with
      | cons b q=>cases q with
        | cons c q=>
          cases q;cases a;cases b
          cases c with
          | tup e2 q2=>rw [q2.strs] at e2;exact ⟨_,_,rfl,e,e2⟩
theorem ZCo {t c:Addr} {r:Str} {g:Nat} {cs:List Str} (h:LoopC F t c r g cs):Rep F (.ref t) (ZAu r g cs):=.tup h.1 (.cons (.str _) (.cons (.int _) (.one (.tup h.2 (ZB6 cs)))))
theorem Mv.loopC (m:Mv E ss σ F H F1 H') (S:Sg E ss σ F H) {t c c0:Addr} {o:HO} {r:Str} {g:Nat} {cs:List Str} (ht:H t=Option.none) (hc:H c=Option.none∨c=c0) (h0:F c0=some o) (e:LoopC H' t c r g cs):∃ F2,Mv E ss σ F H F2 H'∧Same F1 F2∧Rep F2 (.ref t) (ZAu r g cs):=by
  have key:∃ F2,Mv E ss σ F H F2 H'∧Same F1 F2∧F2 c=some (.tup (cs.map V.str)):=by
    rcases hc with hc | rfl
    · refine ⟨_,m.adopt S hc e.2,fun a u q=>?_,ZA3⟩
      by_cases z:a=c
      · subst z
        have w:=m.st.fh _ _ q
        rw [e.2] at w
        rw [ZA3];exact w
      · rw [ZAE z];exact q
    · refine ⟨F1,m,Same.refl _,?_⟩
      have w:=m.ff _ _ h0
      have w2:=m.st.fh _ _ w
      rw [e.2] at w2
      rw [w,← w2]
  obtain ⟨F2,m2,s2,hc2⟩:=key
  have sm:Same F2 (upd F2 t (.tup [.str r,.int g,.ref c])):=fun a u q=>by
    by_cases z:a=t
    · subst z
      have w:=m2.st.fh _ _ q
      rw [e.1] at w
      rw [ZA3];exact w
    · rw [ZAE z];exact q
  exact ⟨_,m2.adopt S ht e.1,s2.trans sm,ZCo ⟨ZA3,sm _ _ hc2⟩⟩
theorem wp_led (h:Wq ss ta fun tp xs=>∃ ns:List Str,xs=ns.map PV.str∧Wp ss tb fun p=>∃ (r:Str) (g:Nat) (cs:List Str),p=ZAu r g cs∧Wp ss tc fun p2=>∃ d:Deed,p2=dP d∧d.Ok 40 ns∧GoodL ns r g cs∧ns.length≤40∧k (ZAu r (d.gap ns g) (d.com r g cs))) :
    Wp ss (ZAo ZEw [] E0 (ZAA ta (ZAA tb (ZAA tc ZAa)))) k:=⟨fun E σ F H Q S q=>
  h.go E σ F H _ S fun v tp xs F1 H1 m1 sv ⟨ns,ex,h2⟩=>h2.go E σ F1 H1 _ m1.st fun v2 p2 F2 H2 m2 r2 ⟨r,g,cs,ep,h3⟩=>h3.go E σ F2 H2 _ m2.st fun v3 p3 F3 H3 m3 r3 ⟨d,ed,hd,gd,hz,kk⟩=>by
    subst ex;subst ep;subst ed
    obtain ⟨l,vs,rfl,hl,rr⟩:=(sv.mv (m2.trans m3)).seq m3.st
    rw [rr.strs] at hl
    obtain ⟨tl,c0,rfl,lc⟩:=ZBe (r2.mono m3.ff)
    obtain ⟨t,rfl,ht⟩:=ZDw r3
    refine ⟨l,tl,t,c0,tp,ns,r,g,cs,d,rfl,hl,lc.same m3.st.fh,m3.st.fh _ _ ht,hd,gd,hz,fun t' c' H4 ht' hc' s4 e4=>?_⟩
    obtain ⟨F4,m4,_,r4⟩:=(m3.st.grow s4).loopC m3.st ht' hc' lc.2 e4
    exact q _ _ F4 H4 (m1.trans (m2.trans (m3.trans m4))) r4 kk⟩
theorem wp_lled (h:Wq ss ta fun tp xs=>tp=false∧∃ ns:List Str,xs=ns.map PV.str∧Wp ss tb fun p=>∃ (r:Str) (g:Nat) (cs:List Str),p=ZAu r g cs∧Wp ss tc fun p2=>∃ d:Deed,p2=dP d∧d.Ok 40 ns∧GoodL ns r g cs∧ns.length≤40∧k (ZAu r (d.gap ns g) (d.com r g cs))) :
    Wp ss (ZAo spLLedC [] E0 (ZAA ta (ZAA tb (ZAA tc ZAa)))) k:=⟨fun E σ F H Q S q=>
  h.go E σ F H _ S fun v tp xs F1 H1 m1 sv ⟨et,ns,ex,h2⟩=>h2.go E σ F1 H1 _ m1.st fun v2 p2 F2 H2 m2 r2 ⟨r,g,cs,ep,h3⟩=>h3.go E σ F2 H2 _ m2.st fun v3 p3 F3 H3 m3 r3 ⟨d,ed,hd,gd,hz,kk⟩=>by
    subst et;subst ex;subst ep;subst ed
    obtain ⟨l,vs,rfl,hl,rr⟩:=(sv.mv (m2.trans m3)).seq m3.st
    rw [rr.strs] at hl
    obtain ⟨tl,c0,rfl,lc⟩:=ZBe (r2.mono m3.ff)
    obtain ⟨t,rfl,ht⟩:=ZDw r3
    refine ⟨l,tl,t,c0,ns,r,g,cs,d,rfl,hl,lc.same m3.st.fh,m3.st.fh _ _ ht,hd,gd,hz,fun t' c' H4 ht' hc' s4 e4=>?_⟩
    obtain ⟨F4,m4,_,r4⟩:=(m3.st.grow s4).loopC m3.st ht' hc' lc.2 e4
    exact q _ _ F4 H4 (m1.trans (m2.trans (m3.trans m4))) r4 kk⟩
def ZDl (ns:List Str) (r:Str) (g:Nat) (cs:List Str):PV:=match ZAp ns g cs with
  | []=>.tup [.non,ZAu r g cs]
  | x :: _=>.tup [.str x,ZAu r (ns.idxOf x+1) (wo cs x)]
theorem Mv.stepC (m:Mv E ss σ F H F1 H') (S:Sg E ss σ F H) {t t' c:Addr} {ns:List Str} {r:Str} {g:Nat} {cs:List Str} (ht:H t'=Option.none) (h0:LoopC F t c r g cs) (e:StepC H H' t' t ns r g cs):∃ F2,Mv E ss σ F H F2 H'∧Rep F2 (.ref t') (ZDl ns r g cs):=by
  rcases e with ⟨er,e⟩ | ⟨x,rst,t2,c2,er,h2,h3,e,lc⟩
  · refine ⟨_,m.adopt S ht e,?_⟩
    have sm:=(m.adopt S ht e).ff
    unfold ZDl
    rw [er]
    exact .tup ZA3 (.cons .non (.one (ZCo (h0.same sm))))
  · have lc':LoopC H' t2 c2 r ((ns.idxOf x+1:Nat):Int) (wo cs x):=lc
    obtain ⟨F2,m2,_,r2⟩:=m.loopC S h2 (.inl h3) h0.1 lc'
    refine ⟨_,m2.adopt S ht e,?_⟩
    have sm:Same F2 (upd F2 t' (.tup [.str x,.ref t2])):=fun a u q=>by
      by_cases z:a=t'
      · subst z
        have w:=m2.st.fh _ _ q
        rw [e] at w
        rw [ZA3];exact w
      · rw [ZAE z];exact q
    unfold ZDl
    rw [er]
    exact .tup ZA3 (.cons (.str _) (.one (r2.mono sm)))
theorem wp_step (h:Wq ss ta fun tp xs=>∃ ns:List Str,xs=ns.map PV.str∧Wp ss tb fun p=>∃ (r:Str) (g:Nat) (cs:List Str),p=ZAu r g cs∧GoodL ns r g cs∧ns.length≤60∧k (ZDl ns r g cs)) :
    Wp ss (ZAo (ZEe K) [] E0 (ZAA ta (ZAA tb ZAa))) k:=⟨fun E σ F H Q S q=>
  h.go E σ F H _ S fun v tp xs F1 H1 m1 sv ⟨ns,ex,h2⟩=>h2.go E σ F1 H1 _ m1.st fun v2 p2 F2 H2 m2 r2 ⟨r,g,cs,ep,gd,hz,kk⟩=>by
    subst ex;subst ep
    obtain ⟨l,vs,rfl,hl,rr⟩:=(sv.mv m2).seq m2.st
    rw [rr.strs] at hl
    obtain ⟨tl,c0,rfl,lc⟩:=ZBe r2
    have hlen:=gd.len
    refine ⟨l,tp,ns,tl,r,g,cs,rfl,hl,(lc.same m2.st.fh).h,by omega,gd.isLp,by omega,fun t' H4 ht' s4 e4=>?_⟩
    obtain ⟨F4,m4,r4⟩:=(m2.st.grow s4).stepC m2.st ht' lc e4
    exact q _ _ F4 H4 (m1.trans (m2.trans m4)) r4 kk⟩
theorem wp_lstep (h:Wq ss ta fun tp xs=>tp=false∧∃ ns:List Str,xs=ns.map PV.str∧Wp ss tb fun p=>∃ (r:Str) (g:Nat) (cs:List Str),p=ZAu r g cs∧GoodL ns r g cs∧ns.length≤60∧k (ZDl ns r g cs)) :
    Wp ss (ZAo spLStepC [] E0 (ZAA ta (ZAA tb ZAa))) k:=⟨fun E σ F H Q S q=>
  h.go E σ F H _ S fun v tp xs F1 H1 m1 sv ⟨et,ns,ex,h2⟩=>h2.go E σ F1 H1 _ m1.st fun v2 p2 F2 H2 m2 r2 ⟨r,g,cs,ep,gd,hz,kk⟩=>by
    subst et;subst ex;subst ep
    obtain ⟨l,vs,rfl,hl,rr⟩:=(sv.mv m2).seq m2.st
    rw [rr.strs] at hl
    obtain ⟨tl,c0,rfl,lc⟩:=ZBe r2
    have hlen:=gd.len
    refine ⟨l,ns,tl,r,g,cs,rfl,hl,(lc.same m2.st.fh).h,by omega,by omega,fun t' H4 ht' s4 e4=>?_⟩
    obtain ⟨F4,m4,r4⟩:=(m2.st.grow s4).stepC m2.st ht' lc e4
    exact q _ _ F4 H4 (m1.trans (m2.trans m4)) r4 kk⟩
theorem ZHt (h:Wq ss ta fun tp xs=>∃ ns:List Str,xs=ns.map PV.str∧Wp ss tb fun p=>∃ r:Str,p=.str r∧r∈rules3∧ns.length < 64∧∀ ts:List Str,ts.Perm ns→sortedS ts=true→k (ZAu r 0 ts)) :
    Wp ss (ZAo (ZFC K) [] E0 (ZAA ta (ZAA tb ZAa))) k:=⟨fun E σ F H Q S q=>
  h.go E σ F H _ S fun v tp xs F1 H1 m1 sv ⟨ns,ex,h2⟩=>h2.go E σ F1 H1 _ m1.st fun v2 p2 F2 H2 m2 r2 ⟨r,ep,hr,hz,kk⟩=>by
    subst ex;subst ep;cases r2
    obtain ⟨l,vs,rfl,hl,rr⟩:=(sv.mv m2).seq m2.st
    rw [rr.strs] at hl
    refine ⟨l,tp,ns,r,rfl,HOq.sq hl,hr,hz,fun t' c' H4 ts ht' hc' s4 pm st e4=>?_⟩
    have e4':LoopC H4 t' c' r ((0:Nat):Int) ts:=e4
    have m3:=(m2.st.grow s4).adopt m2.st hc' e4'.2
    obtain ⟨F4,m4,_,r4⟩:∃ F4,Mv E ss σ F2 H2 F4 H4∧True∧Rep F4 (.ref t') (ZAu r 0 ts):=by
      refine ⟨_,m3.adopt m2.st ht' e4'.1,trivial,ZCo ⟨ZA3,?_⟩⟩
      by_cases z:c'=t'
      · subst z;rw [ZA3];exact e4'.1.symm.trans e4'.2
      · rw [ZAE z,ZA3]
    exact q _ _ F4 H4 (m1.trans (m2.trans m4)) r4 (kk ts pm st)⟩
theorem ZJl {k:List PV→Prop} (h:Wq ss ta fun tp xs=>∃ ns:List Str,xs=ns.map PV.str∧Wp ss tb fun p=>∃ d:Deed,p=dP d∧d.Ok 40 ns∧ns.length≤40∧k ((d.done ns).map PV.str)) :
    Wn ss (ZAo ZJ0 [] E0 (ZAA ta (ZAA tb ZAa))) k:=⟨fun E σ F H Q S q=>
  h.go E σ F H _ S fun v tp xs F1 H1 m1 sv ⟨ns,ex,h2⟩=>h2.go E σ F1 H1 _ m1.st fun v2 p2 F2 H2 m2 r2 ⟨d,em,hd,hz,kk⟩=>by
    subst ex;subst em
    obtain ⟨l,vs,ev,hl,r⟩:=(sv.mv m2).seq m2.st
    subst ev
    rw [r.strs] at hl
    obtain ⟨t,et,ht⟩:=ZDw r2
    subst et
    refine ⟨l,t,tp,ns,d,rfl,hl,m2.st.fh _ _ ht,hd,hz,fun a H3 ha s e3=>?_⟩
    have m3:=m2.st.grow s
    exact q a _ _ F2 H3 (m1.trans (m2.trans m3)) (m2.st.newF ha) ((m1.trans m2).none ha) e3 (ZB6 _) kk⟩
theorem wp_undo (h:Wq ss ta fun tp xs=>∃ ns:List Str,xs=ns.map PV.str∧Wp ss tb fun p=>∃ d:Deed,p=dP d∧d.Ok 40 ns∧k (dP (d.back ns))) :
    Wp ss (ZAo spUndo [] E0 (ZAA ta (ZAA tb ZAa))) k:=⟨fun E σ F H Q S q=>
  h.go E σ F H _ S fun v tp xs F1 H1 m1 sv ⟨ns,ex,h2⟩=>h2.go E σ F1 H1 _ m1.st fun v2 p2 F2 H2 m2 r2 ⟨d,em,hd,kk⟩=>by
    subst ex;subst em
    obtain ⟨l,vs,ev,hl,r⟩:=(sv.mv m2).seq m2.st
    subst ev
    rw [r.strs] at hl
    obtain ⟨t,et,ht⟩:=ZDw r2
    subst et
    refine ⟨l,t,tp,ns,d,rfl,hl,m2.st.fh _ _ ht,hd,fun a H3 ha s e3=>?_⟩
    have m3:=(m2.st.grow s).adopt m2.st ha e3
    exact q _ _ _ H3 (m1.trans (m2.trans m3)) (dP_rep ZA3) kk⟩
theorem wn_rest {k:List PV→Prop} (h:Wq ss ta fun tp xs=>∃ ns:List Str,xs=ns.map PV.str∧Wp ss tb fun p=>∃ (r:Str) (g:Nat) (cs:List Str),p=ZAu r g cs∧GoodL ns r g cs∧ns.length≤60∧k ((ZAp ns g cs).map PV.str)) :
    Wn ss (ZAo (ZIx K) [] E0 (ZAA ta (ZAA tb ZAa))) k:=⟨fun E σ F H Q S q=>
  h.go E σ F H _ S fun v tp xs F1 H1 m1 sv ⟨ns,ex,h2⟩=>h2.go E σ F1 H1 _ m1.st fun v2 p2 F2 H2 m2 r2 ⟨r,g,cs,ep,gd,hz,kk⟩=>by
    subst ex;subst ep
    obtain ⟨l,vs,ev,hl,rr⟩:=(sv.mv m2).seq m2.st
    subst ev
    rw [rr.strs] at hl
    obtain ⟨tl,c0,rfl,lc⟩:=ZBe r2
    have hlen:=gd.len
    refine ⟨l,tp,ns,tl,r,g,cs,rfl,hl,(lc.same m2.st.fh).h.at,by omega,gd.isLp,by omega,fun a H3 ha s e3=>?_⟩
    have m3:=m2.st.grow s
    exact q a _ _ F2 H3 (m1.trans (m2.trans m3)) (m2.st.newF ha) ((m1.trans m2).none ha) e3 (ZB6 _) kk⟩
theorem wn_lrest {k:List PV→Prop} (h:Wq ss ta fun tp xs=>tp=false∧∃ ns:List Str,xs=ns.map PV.str∧Wp ss tb fun p=>∃ (r:Str) (g:Nat) (cs:List Str),p=ZAu r g cs∧GoodL ns r g cs∧ns.length≤60∧k ((ZAp ns g cs).map PV.str)) :
    Wn ss (ZAo spLRest [] E0 (ZAA ta (ZAA tb ZAa))) k:=⟨fun E σ F H Q S q=>
  h.go E σ F H _ S fun v tp xs F1 H1 m1 sv ⟨et,ns,ex,h2⟩=>h2.go E σ F1 H1 _ m1.st fun v2 p2 F2 H2 m2 r2 ⟨r,g,cs,ep,gd,hz,kk⟩=>by
    subst et;subst ex;subst ep
    obtain ⟨l,vs,ev,hl,rr⟩:=(sv.mv m2).seq m2.st
    subst ev
    rw [rr.strs] at hl
    obtain ⟨tl,c0,rfl,lc⟩:=ZBe r2
    have hlen:=gd.len
    refine ⟨l,ns,tl,r,g,cs,rfl,hl,(lc.same m2.st.fh).h,by omega,by omega,fun a H3 ha s e3=>?_⟩
    have m3:=m2.st.grow s
    exact q a _ _ F2 H3 (m1.trans (m2.trans m3)) (m2.st.newF ha) ((m1.trans m2).none ha) e3 (ZB6 _) kk⟩
theorem ZKi (h:Wq ss ta fun tp xs=>∃ ns:List Str,xs=ns.map PV.str∧Wp ss tb fun p=>∃ (r:Str) (g:Nat) (cs:List Str),p=ZAu r g cs∧cs.length < 64∧k (.bl (isLp ns r g cs))) :
    Wp ss (ZAo (ZFV K) [] E0 (ZAA ta (ZAA tb ZAa))) k:=⟨fun E σ F H Q S q=>
  h.go E σ F H _ S fun v tp xs F1 H1 m1 sv ⟨ns,ex,h2⟩=>h2.go E σ F1 H1 _ m1.st fun v2 p2 F2 H2 m2 r2 ⟨r,g,cs,ep,hz,kk⟩=>by
    subst ex;subst ep
    obtain ⟨l,vs,ev,hl,rr⟩:=(sv.mv m2).seq m2.st
    subst ev
    rw [rr.strs] at hl
    obtain ⟨tl,c0,rfl,lc⟩:=ZBe r2
    refine ⟨l,tp,ns,tl,r,g,cs,rfl,HOq.sq hl,(lc.same m2.st.fh).h.at,hz,fun H3 s=>?_⟩
    exact q _ _ F2 H3 (m1.trans (m2.trans (m2.st.grow s))) (.bl _) kk⟩
theorem ZHF (h:Wq ss ta fun tp xs=>tp=false∧∃ ns:List Str,xs=ns.map PV.str∧Wp ss tb fun p=>∃ (r:Str) (g:Nat) (cs:List Str),p=ZAu r g cs∧cs.length < 64∧k (.bl (isLp ns r g cs))) :
    Wp ss (ZAo (ZIK K) [] E0 (ZAA ta (ZAA tb ZAa))) k:=⟨fun E σ F H Q S q=>
  h.go E σ F H _ S fun v tp xs F1 H1 m1 sv ⟨et,ns,ex,h2⟩=>h2.go E σ F1 H1 _ m1.st fun v2 p2 F2 H2 m2 r2 ⟨r,g,cs,ep,hz,kk⟩=>by
    subst et;subst ex;subst ep
    obtain ⟨l,vs,ev,hl,rr⟩:=(sv.mv m2).seq m2.st
    subst ev
    rw [rr.strs] at hl
    obtain ⟨tl,c0,rfl,lc⟩:=ZBe r2
    refine ⟨l,ns,tl,r,g,cs,rfl,SqL.of hl,(lc.same m2.st.fh).h.at,hz,fun H3 s=>?_⟩
    exact q _ _ F2 H3 (m1.trans (m2.trans (m2.st.grow s))) (.bl _) kk⟩
theorem ZIP {i:Nat} (hi:ss[i]?=some .pot) (h:Wq ss ta fun tp xs=>tp=false∧∃ ns:List Str,xs=ns.map PV.str∧ns.length≤40∧ns.Nodup∧∀ (r:Str) (g:Nat) (cs:List Str),GoodL ns r g cs→cs.length≤40→k (ZAu r g cs)) :
    Wp ss (ZAo ZIu [] E0 (ZAA (ZBi i) (ZAA ta ZAa))) k:=⟨fun E σ F H Q S q=>by
  obtain ⟨p,e,_⟩:=S.ok i _ hi
  refine ⟨_,e,h.go E σ F H _ S fun v tp xs F1 H1 m1 sv ⟨et,ns,ex,hz,nd,kk⟩=>?_⟩
  subst et;subst ex
  obtain ⟨l,vs,ev,hn,hl,r⟩:=sv
  subst ev
  rw [r.strs] at hl
  refine ⟨p,l,ns,rfl,m1.st.potAt hi e,hl,fun z=>hn i hi (z▸e),hz,nd,fun t c r g cs H3 ht hc s e1 e2 hW=>?_⟩
  obtain ⟨w1,w2,w3,w4,w5,w6⟩:=hW
  obtain ⟨n,rfl⟩:=Int.eq_ofNat_of_zero_le w2
  have m3:=(m1.st.pstep hi e s).adopt m1.st hc e2
  have m4:=m3.adopt m1.st ht e1
  refine q _ _ _ H3 (m1.trans m4) (ZCo (c:=c) ⟨ZA3,?_⟩) (kk r n cs ⟨w1,w2,w3,w4,w5⟩ w6)
  by_cases z:c=t
  · subst z;rw [ZA3];exact e1.symm.trans e2
  · rw [ZAE z,ZA3]⟩
end
end Fz
set_option Elab.async false
set_option linter.all false
set_option maxRecDepth 100000
set_option maxHeartbeats 4000000
namespace Fz
open PySem PySem.Spec PyProof.Rows L2 Lw
section
variable [Xw]
variable {E:Ent0} {ss:List Slot} {σ:L2.St} {F H F1 F' H':Hp} {K:PySem.W.Frag} {js:List Nat} {ta tb tc te ti:TE} {nx:List Slot→Prop} {R:Ret} {k:PV→Prop} {xs:List PV}
def okT:Nat→PV→Bool
  | 0,p=>flat p
  | d+1,.tup xs=>xs.all (okT d)
  | _+1,p=>flat p
theorem ZEk {p:PV} (h:flat p=true):eqV (Fz.enc p) (Fz.enc p)=true:=by
  cases p with
  | non=>rfl
  | bl b=>simp [Fz.enc,eqV]
  | int b=>simp [Fz.enc,eqV]
  | str b=>simp [Fz.enc,eqV]
  | lst xs=>cases h
  | tup xs=>cases h
  | dct ks xs=>cases h
  | obj C ns xs=>cases h
  | exc C ns xs=>cases h
  | con a xs=>cases h
theorem ZJS (fh:Same F H):∀ (d:Nat) {p:PV} {v u:V},okT d p=true→Rep F v p→Rep F u p→EqT K H d v u
  | 0,p,v,u,h,r1,r2=>by
    have h':flat p=true:=h
    rw [r1.enc h',r2.enc h']
    exact .flat (ZCJ h') (ZCJ h') (ZEk h')
  | d+1,.tup xs,v,u,h,r1,r2=>by
    have h':xs.all (okT d)=true:=h
    cases r1 with
    | tup e1 q1=>
      cases r2 with
      | tup e2 q2=>
        refine .tup (SqT.of (fh _ _ e1)) (SqT.of (fh _ _ e2)) (by rw [q1.length,q2.length]) fun j x y hx hy=>?_
        obtain ⟨p1,hp1,rp1⟩:=q1.get' hx
        obtain ⟨p2,hp2,rp2⟩:=q2.get' hy
        rw [hp1] at hp2;cases hp2
        exact ZJS fh d (List.all_eq_true.mp h' _ (List.mem_of_getElem? hp1)) rp1 rp2
  | d+1,.non,v,u,h,r1,r2=>by rw [r1.enc rfl,r2.enc rfl];exact .flat rfl rfl rfl
  | d+1,.bl b,v,u,h,r1,r2=>by rw [r1.enc rfl,r2.enc rfl];exact .flat rfl rfl (ZEk (p:=.bl b) rfl)
  | d+1,.int b,v,u,h,r1,r2=>by rw [r1.enc rfl,r2.enc rfl];exact .flat rfl rfl (ZEk (p:=.int b) rfl)
  | d+1,.str b,v,u,h,r1,r2=>by rw [r1.enc rfl,r2.enc rfl];exact .flat rfl rfl (ZEk (p:=.str b) rfl)
  | d+1,.lst xs,v,u,h,r1,r2=>by cases h
  | d+1,.dct _ _,v,u,h,r1,r2=>by cases h
  | d+1,.obj _ _ _,v,u,h,r1,r2=>by cases h
  | d+1,.exc _ _ _,v,u,h,r1,r2=>by cases h
  | d+1,.con _ _,v,u,h,r1,r2=>by cases h
theorem wp_eqT {neg:Bool} (h:Wp ss ta fun p=>Wp ss tb fun p2=>p2=p∧∃ xs,p=.tup xs∧xs.all (okT 8)=true∧k (.bl (!neg))):Wp ss (tOp (rEqT K neg) ta tb) k:=⟨fun E σ F H Q S q=>
  h.go E σ F H _ S fun v p F1 H1 m1 r1 h2=>h2.go E σ F1 H1 _ m1.st fun v2 p2 F2 H2 m2 r2 ⟨e,xs,ep,ho,kk⟩=>by
    subst e;subst ep
    cases r1 with
    | tup e1 q1=>
      cases r2 with
      | tup e2 q2=>
        refine ⟨_,_,_,_,rfl,rfl,SqT.of (m2.st.fh _ _ (m2.ff _ _ e1)),SqT.of (m2.st.fh _ _ e2),by rw [q1.length,q2.length],fun j x y hx hy=>?_,q _ _ F2 H2 (m1.trans m2) (.bl _) kk⟩
        obtain ⟨p1,hp1,rp1⟩:=q1.get' hx
        obtain ⟨p2,hp2,rp2⟩:=q2.get' hy
        rw [hp1] at hp2;cases hp2
        exact ZJS m2.st.fh 8 (List.all_eq_true.mp ho _ (List.mem_of_getElem? hp1)) (rp1.mono m2.ff) rp2⟩
theorem wp_eqT0 (h:Wp ss ta fun p=>Wp ss tb fun p2=>p2=p∧∃ xs,p=.tup xs∧xs.all (okT 8)=true∧k (.bl true)):Wp ss (tOp (rEqT K false) ta tb) k:=wp_eqT h
theorem wp_neT0 (h:Wp ss ta fun p=>Wp ss tb fun p2=>p2=p∧∃ xs,p=.tup xs∧xs.all (okT 8)=true∧k (.bl false)):Wp ss (tOp (rEqT K true) ta tb) k:=wp_eqT h
end
end Fz
set_option Elab.async false
set_option linter.all false
set_option maxRecDepth 100000
set_option maxHeartbeats 4000000
namespace Fz
open PySem PySem.Spec PyProof.Rows L2 Lw
mutual
def eqP:PV→PV→Bool
  | .lst xs,.lst ys=>ZBx xs ys
  | .tup xs,.tup ys=>ZBx xs ys
  | .tup xs,.con _ ys=>ZBx xs ys
  | .con _ xs,.tup ys=>ZBx xs ys
  | .con _ xs,.con _ ys=>ZBx xs ys
  | .non,.non=>true
  | .bl a,.bl b=>a == b
  | .bl a,.int b=>(if a then 1 else 0) == b
  | .int a,.bl b=>a == (if b then 1 else 0)
  | .int a,.int b=>a == b
  | .str a,.str b=>a == b
  | _,_=>false
def ZBx:List PV→List PV→Bool
  | [],[]=>true
  | x :: r,y :: t=>eqP x y && ZBx r t
  | _,_=>false
end
theorem ZCq (x y:PV) (r t:List PV):ZBx (x :: r) (y :: t)=(eqP x y && ZBx r t):=by rw [ZBx]
theorem ZFP:∀ (xs ys:List PV),xs.length≠ys.length→ZBx xs ys=false
  | [],[],h=>absurd rfl h
  | [],_ :: _,_=>by rw [ZBx];all_goals simp
  | _ :: _,[],_=>by rw [ZBx];all_goals simp
  | x :: r,y :: t,h=>by rw [ZCq,ZFP r t (by simpa using h),Bool.and_false]
theorem ZDK:∀ (xs ys:List PV),xs.length=ys.length→ZBx xs ys=(List.range xs.length).all fun j=>eqP (xs.getD j .non) (ys.getD j .non)
  | [],[],_=>by rw [ZBx];rfl
  | x :: r,y :: t,h=>by
    rw [ZCq,ZDK r t (by simpa using h),List.length_cons,List.range_succ_eq_map,List.all_cons,List.all_map]
    rfl
def dat (K:PySem.W.Frag):Nat→PV→Prop
  | _,.non=>True
  | _,.bl _=>True
  | _,.int _=>True
  | _,.str _=>True
  | d+1,.lst xs=>∀ x∈xs,dat K d x
  | d+1,.tup xs=>∀ x∈xs,dat K d x
  | d+1,.con a xs=>(∀ x∈xs,dat K d x)∧xs.all flat=true∧∀ H,SqT K H a (xs.map Fz.enc)
  | _,_=>False
inductive Sqs (K:PySem.W.Frag) (H:Hp):V→PV→Bool→Addr→List V→List PV→Prop where
  | lst {a:Addr} {vs:List V} {xs:List PV}:SqL K H a vs→Reps H vs xs→Sqs K H (.ref a) (.lst xs) false a vs xs
  | tup {a:Addr} {vs:List V} {xs:List PV}:SqT K H a vs→Reps H vs xs→Sqs K H (.ref a) (.tup xs) true a vs xs
  | con {a:Addr} {vs:List V} {xs:List PV}:SqT K H a vs→Reps H vs xs→Sqs K H (.ref a) (.con a xs) true a vs xs
theorem ZB4 {K:PySem.W.Frag} {H:Hp}:∀ {d:Nat} {x:V} {p:PV},dat K d p→Rep H x p→(flat p=true∧x=Fz.enc p)∨∃ d' tp a vs xs,d=d'+1∧Sqs K H x p tp a vs xs∧∀ y∈xs,dat K d' y:=by
  intro d x p h r
  cases r with
  | non=>exact .inl ⟨rfl,rfl⟩
  | bl b=>exact .inl ⟨rfl,rfl⟩
  | int b=>exact .inl ⟨rfl,rfl⟩
  | str b=>exact .inl ⟨rfl,rfl⟩
  | lst e r=>cases d with
    | zero=>exact h.elim
    | succ d=>exact .inr ⟨d,_,_,_,_,rfl,.lst (SqL.of e) r,h⟩
  | tup e r=>cases d with
    | zero=>exact h.elim
    | succ d=>exact .inr ⟨d,_,_,_,_,rfl,.tup (SqT.of e) r,h⟩
  | con=>cases d with
    | zero=>exact h.elim
    | succ d=>obtain ⟨h1,h2,h3⟩:=h;exact .inr ⟨d,_,_,_,_,rfl,.con (h3 H) (ZDc h2),h1⟩
  | dct _ _ _=>cases d <;> exact h.elim
  | obj _ _ _ _=>cases d <;> exact h.elim
  | exc0 _=>cases d <;> exact h.elim
  | exc _ _ _ _=>cases d <;> exact h.elim
section
variable {X:Cx} {pins:List (Addr×Obj)} {σ:L2.St} {H:Hp} {s:Shared}
theorem items_eq {A:Around} {vs ws:List V} {its its2:List Value} {xs ys:List PV} (r1:Vals vs its) (r2:Vals ws its2) (q1:Reps H vs xs) (q2:Reps H ws ys)
    (h:∀ (x y:V) (p q:PV) (u v:Value),p∈xs→q∈ys→Rep H x p→Rep H y q→RelV x u→RelV y v→SeqAt.EqAt A s u v (eqP p q)) :
    ∀ j (h1:j < its.toArray.size) (h2:j < its2.toArray.size),SeqAt.EqAt A s its.toArray[j] its2.toArray[j] ((fun j=>eqP (xs.getD j .non) (ys.getD j .non)) j):=fun j h1 h2=>by
  have l1:=r1.length
  have l2:=r2.length
  have l3:=q1.length
  have l4:=q2.length
  have h1':j < its.length:=by simpa using h1
  have h2':j < its2.length:=by simpa using h2
  have a1:j < xs.length:=by omega
  have a2:j < ys.length:=by omega
  obtain ⟨x,hx,rx⟩:=q1.get (i:=j) (p:=xs[j]) (List.getElem?_eq_getElem a1)
  obtain ⟨y,hy,ry⟩:=q2.get (i:=j) (p:=ys[j]) (List.getElem?_eq_getElem a2)
  obtain ⟨u,hu,ru⟩:=r1.get hx
  obtain ⟨v,hv,rv⟩:=r2.get hy
  rw [List.getElem?_eq_getElem h1'] at hu
  rw [List.getElem?_eq_getElem h2'] at hv
  have hu':its[j]=u:=Option.some.inj hu
  have hv':its2[j]=v:=Option.some.inj hv
  have q:=h x y _ _ u v (List.getElem_mem a1) (List.getElem_mem a2) rx ry ru rv
  rw [← hu',← hv'] at q
  show SeqAt.EqAt A s _ _ (eqP (xs.getD j .non) (ys.getD j .non))
  rw [List.getD_eq_getElem?_getD,List.getElem?_eq_getElem a1,List.getD_eq_getElem?_getD,List.getElem?_eq_getElem a2]
  simpa using q
theorem ZDa {p:PV} {x:V} {tp:Bool} {a:Addr} {vs:List V} {xs:List PV} {q:PV} (h:Sqs X.K H x p tp a vs xs) (f:flat q=true):eqP p q=false∧eqP q p=false:=by
  cases h <;> cases q <;> first | (cases f;done) | exact ⟨by rw [eqP] <;> simp,by rw [eqP] <;> simp⟩
theorem ZH6 {p q:PV} {x y:V} {a b:Addr} {tp tp2:Bool} {vs ws:List V} {xs ys:List PV} (h:Sqs X.K H x p tp a vs xs) (h2:Sqs X.K H y q tp2 b ws ys):eqP p q=(if tp=tp2 then ZBx xs ys else false):=by
  cases h <;> cases h2 <;> first | (rw [if_pos rfl,eqP];done) | (rw [if_neg (by decide),eqP] <;> simp)
theorem ZCr {p q:PV} (h:flat p=true) (h2:flat q=true):eqP p q=eqV (Fz.enc p) (Fz.enc q):=by
  cases p <;> cases q <;> first | (cases h;done) | (cases h2;done) | (rw [eqP] <;> first | rfl | simp [Fz.enc,eqV];done)
theorem rc_flat {A:Around} {p q:PV} {u v:Value} (h:flat p=true) (h2:flat q=true) (ru:RelV (Fz.enc p) u) (rv:RelV (Fz.enc q) v):SeqAt.RcAt A s u v (eqP p q)∧SeqAt.RcNeAt A s u v (!eqP p q):=by
  cases p <;> first | (cases h;done) | skip
  all_goals cases q <;> first | (cases h2;done) | skip
  all_goals simp only [Fz.enc,L2.RelV] at ru rv
  · subst ru;subst rv;rw [eqP];exact ⟨.none_none,.none_none⟩
  · subst ru;subst rv;rw [eqP] <;> first | exact ⟨.none_bool _,.none_bool _⟩ | simp
  · subst ru;obtain ⟨t,rfl⟩:=rv;rw [eqP] <;> first | exact ⟨.none_int _ _,.none_int _ _⟩ | simp
  · subst ru;obtain ⟨t,rfl⟩:=rv;rw [eqP] <;> first | exact ⟨.none_str _ _,.none_str _ _⟩ | simp
  · subst ru;subst rv;rw [eqP] <;> first | exact ⟨.bool_none _,.bool_none _⟩ | simp
  · subst ru;subst rv;rw [eqP];exact ⟨.bool_bool _ _,.bool_bool _ _⟩
  · subst ru;obtain ⟨t,rfl⟩:=rv;rw [eqP];exact ⟨.bool_int _ _ _,.bool_int _ _ _⟩
  · subst ru;obtain ⟨t,rfl⟩:=rv;rw [eqP] <;> first | exact ⟨.bool_str _ _ _,.bool_str _ _ _⟩ | simp
  · obtain ⟨t,rfl⟩:=ru;subst rv;rw [eqP] <;> first | exact ⟨.int_none _ _,.int_none _ _⟩ | simp
  · obtain ⟨t,rfl⟩:=ru;subst rv;rw [eqP];exact ⟨.int_bool _ _ _,.int_bool _ _ _⟩
  · obtain ⟨t,rfl⟩:=ru;obtain ⟨t2,rfl⟩:=rv;rw [eqP];exact ⟨.int_int _ _ _ _,.int_int _ _ _ _⟩
  · obtain ⟨t,rfl⟩:=ru;obtain ⟨t2,rfl⟩:=rv;rw [eqP] <;> first | exact ⟨.int_str _ _ _ _,.int_str _ _ _ _⟩ | simp
  · obtain ⟨t,rfl⟩:=ru;subst rv;rw [eqP] <;> first | exact ⟨.str_none _ _,.str_none _ _⟩ | simp
  · obtain ⟨t,rfl⟩:=ru;subst rv;rw [eqP] <;> first | exact ⟨.str_bool _ _ _,.str_bool _ _ _⟩ | simp
  · obtain ⟨t,rfl⟩:=ru;obtain ⟨t2,rfl⟩:=rv;rw [eqP] <;> first | exact ⟨.str_int _ _ _ _,.str_int _ _ _ _⟩ | simp
  · obtain ⟨t,rfl⟩:=ru;obtain ⟨t2,rfl⟩:=rv;rw [eqP];exact ⟨.str_str _ _ _ _,.str_str _ _ _ _⟩
def IsSq (h:Heap) (tp:Bool) (a:Addr) (its:Array Value):Prop:=if tp then IsTup h a its else h.IsList a its
theorem Sqs.isSq (I:Inv X pins σ H s) {x:V} {p:PV} {tp:Bool} {a:Addr} {vs:List V} {xs:List PV} (h:Sqs X.K H x p tp a vs xs):∃ its:List Value,x=.ref a∧Vals vs its∧IsSq s.heap tp a its.toArray∧Reps H vs xs:=by
  cases h with
  | lst h r=>obtain ⟨its,r1,p1,_⟩:=I.list h;exact ⟨its,rfl,r1,p1.isList,r⟩
  | tup h r=>obtain ⟨its,r1,p1,_⟩:=I.tuple h;exact ⟨its,rfl,r1,p1,r⟩
  | con h r=>obtain ⟨its,r1,p1,_⟩:=I.tuple h;exact ⟨its,rfl,r1,p1,r⟩
theorem ZEj {A:Around} {tp:Bool} {a:Addr} {its:Array Value} {q:PV} {v:Value} (h:IsSq s.heap tp a its) (f:flat q=true) (rv:RelV (Fz.enc q) v) (hu:A.units < cLine) :
    (SeqAt.EqAt A s (.ref a) v false∧SeqAt.EqAt A s v (.ref a) false)∧(SeqAt.RcAt A s (.ref a) v false∧SeqAt.RcAt A s v (.ref a) false)∧(SeqAt.RcNeAt A s (.ref a) v true∧SeqAt.RcNeAt A s v (.ref a) true):=by
  cases tp with
  | false=>
    have h':s.heap.IsList a its:=h
    cases q <;> first | (cases f;done) | skip
    all_goals simp only [Fz.enc,L2.RelV] at rv
    · subst rv;exact ⟨⟨.list_none h' hu,.none_list h' hu⟩,⟨.list_none h' hu,.none_list h' hu⟩,⟨.list_none h' hu,.none_list h' hu⟩⟩
    · subst rv;exact ⟨⟨.list_bool _ h' hu,.bool_list _ h' hu⟩,⟨.list_bool _ h' hu,.bool_list _ h' hu⟩,⟨.list_bool _ h' hu,.bool_list _ h' hu⟩⟩
    · obtain ⟨t,rfl⟩:=rv;exact ⟨⟨.list_int _ _ h' hu,.int_list _ _ h' hu⟩,⟨.list_int _ _ h' hu,.int_list _ _ h' hu⟩,⟨.list_int _ _ h' hu,.int_list _ _ h' hu⟩⟩
    · obtain ⟨t,rfl⟩:=rv;exact ⟨⟨.list_str _ _ h' hu,.str_list _ _ h' hu⟩,⟨.list_str _ _ h' hu,.str_list _ _ h' hu⟩,⟨.list_str _ _ h' hu,.str_list _ _ h' hu⟩⟩
  | true=>
    have h':IsTup s.heap a its:=h
    cases q <;> first | (cases f;done) | skip
    all_goals simp only [Fz.enc,L2.RelV] at rv
    · subst rv;exact ⟨⟨.tuple_none h' hu,.none_tuple h' hu⟩,⟨.tuple_none h' hu,.none_tuple h' hu⟩,⟨.tuple_none h' hu,.none_tuple h' hu⟩⟩
    · subst rv;exact ⟨⟨.tuple_bool _ h' hu,.bool_tuple _ h' hu⟩,⟨.tuple_bool _ h' hu,.bool_tuple _ h' hu⟩,⟨.tuple_bool _ h' hu,.bool_tuple _ h' hu⟩⟩
    · obtain ⟨t,rfl⟩:=rv;exact ⟨⟨.tuple_int _ _ h' hu,.int_tuple _ _ h' hu⟩,⟨.tuple_int _ _ h' hu,.int_tuple _ _ h' hu⟩,⟨.tuple_int _ _ h' hu,.int_tuple _ _ h' hu⟩⟩
    · obtain ⟨t,rfl⟩:=rv;exact ⟨⟨.tuple_str _ _ h' hu,.str_tuple _ _ h' hu⟩,⟨.tuple_str _ _ h' hu,.str_tuple _ _ h' hu⟩,⟨.tuple_str _ _ h' hu,.str_tuple _ _ h' hu⟩⟩
theorem Sqs.inj (I:Inv X pins σ H s) {x y:V} {p q:PV} {tp tp2:Bool} {a:Addr} {vs ws:List V} {xs ys:List PV} (h:Sqs X.K H x p tp a vs xs) (h2:Sqs X.K H y q tp2 a ws ys):tp=tp2∧vs=ws:=by
  have no:∀ {vs ws:List V},SqL X.K H a vs→SqT X.K H a ws→False:=fun {vs ws} h1 h2=>by
    obtain ⟨its,_,p1,_⟩:=I.list h1
    obtain ⟨its2,_,p2,_⟩:=I.tuple h2
    obtain ⟨o,n,e,c,_⟩:=p1
    obtain ⟨o2,e2,c2,_⟩:=p2
    rw [e] at e2;cases e2;rw [c] at c2
    exact absurd c2 (by decide)
  cases h with
  | lst h r=>cases h2 with
    | lst h2 _=>exact ⟨rfl,I.list_inj h h2⟩
    | tup h2 _=>exact (no h h2).elim
    | con h2 _=>exact (no h h2).elim
  | tup h r=>cases h2 with
    | lst h2 _=>exact (no h2 h).elim
    | tup h2 _=>exact ⟨rfl,I.tuple_inj h h2⟩
    | con h2 _=>exact ⟨rfl,I.tuple_inj h h2⟩
  | con h r=>cases h2 with
    | lst h2 _=>exact (no h2 h).elim
    | tup h2 _=>exact ⟨rfl,I.tuple_inj h h2⟩
    | con h2 _=>exact ⟨rfl,I.tuple_inj h h2⟩
theorem ZHe {p:PV} (h:flat p=true):eqV (Fz.enc p) (Fz.enc p)=true:=by cases p <;> first | (cases h;done) | simp [Fz.enc,eqV]
theorem ZI2 (ih:∀ (x:V) (p q:PV),Rep H x p→Rep H x q→dat X.K d p→dat X.K d q→eqP p q=true):∀ {vs:List V} {xs ys:List PV},Reps H vs xs→Reps H vs ys→(∀ x∈xs,dat X.K d x)→(∀ y∈ys,dat X.K d y)→ZBx xs ys=true
  | _,_,_,.nil,.nil,_,_=>by rw [ZBx]
  | _,_,_,.cons r1 t1,.cons r2 t2,h1,h2=>by
    rw [ZCq,ih _ _ _ r1 r2 (h1 _ (by simp)) (h2 _ (by simp)),ZI2 ih t1 t2 (fun x hx=>h1 x (by simp [hx])) (fun x hx=>h2 x (by simp [hx]))];rfl
theorem eq_same (I:Inv X pins σ H s):∀ (d:Nat) (x:V) (p q:PV),Rep H x p→Rep H x q→dat X.K d p→dat X.K d q→eqP p q=true:=fun d=>by
  induction d with
  | zero=>
    intro x p q r1 r2 h1 h2
    rcases ZB4 h1 r1 with ⟨f1,e1⟩ | ⟨d',_,_,_,_,e,_⟩
    · rcases ZB4 h2 r2 with ⟨f2,e2⟩ | ⟨d',_,_,_,_,e,_⟩
      · rw [ZCr f1 f2,← e1,e2];exact ZHe f2
      · cases e
    · cases e
  | succ d ih=>
    intro x p q r1 r2 h1 h2
    rcases ZB4 h1 r1 with ⟨f1,e1⟩ | ⟨d1,tp,a,vs,xs,e,q1,k1⟩
    · rcases ZB4 h2 r2 with ⟨f2,e2⟩ | ⟨d2,tp2,b,ws,ys,e,q2,k2⟩
      · rw [ZCr f1 f2,← e1,e2];exact ZHe f2
      · obtain ⟨_,ex,_⟩:=q2.isSq I
        subst ex
        cases p <;> first | (cases f1;done) | (cases e1;done)
    · cases e
      rcases ZB4 h2 r2 with ⟨f2,e2⟩ | ⟨d2,tp2,b,ws,ys,e,q2,k2⟩
      · obtain ⟨_,ex,_⟩:=q1.isSq I
        subst ex
        cases q <;> first | (cases f2;done) | (cases e2;done)
      · cases e
        obtain ⟨_,ex,_,_,r3⟩:=q1.isSq I
        obtain ⟨_,ey,_,_,r4⟩:=q2.isSq I
        rw [ex] at ey;cases ey
        obtain ⟨et,ev⟩:=q1.inj I q2
        subst ev
        rw [ZH6 q1 q2,if_pos et]
        exact ZI2 ih r3 r4 k1 k2
theorem ZKF {vs ws:List V} {its its2:List Value} {xs ys:List PV} (r1:Vals vs its) (r2:Vals ws its2) (q1:Reps H vs xs) (q2:Reps H ws ys):its.toArray.size=xs.length∧its2.toArray.size=ys.length:=by
  have l1:=r1.length;have l2:=r2.length;have l3:=q1.length;have l4:=q2.length
  simp only [List.size_toArray]
  omega
theorem sq_rc {A:Around} {tp tp2:Bool} {a b:Addr} {vs ws:List V} {its its2:List Value} {xs ys:List PV} (h1:IsSq s.heap tp a its.toArray) (h2:IsSq s.heap tp2 b its2.toArray) (r1:Vals vs its) (r2:Vals ws its2) (q1:Reps H vs xs) (q2:Reps H ws ys) (hu:A.units < cLine)
    (h:∀ (x y:V) (p q:PV) (u v:Value),p∈xs→q∈ys→Rep H x p→Rep H y q→RelV x u→RelV y v→SeqAt.EqAt A.in1 s u v (eqP p q)) :
    SeqAt.RcAt A s (.ref a) (.ref b) (if tp=tp2 then ZBx xs ys else false)∧SeqAt.RcNeAt A s (.ref a) (.ref b) (!(if tp=tp2 then ZBx xs ys else false)):=by
  obtain ⟨z1,z2⟩:=ZKF r1 r2 q1 q2
  have it:=items_eq (A:=A.in1) r1 r2 q1 q2 h
  cases tp with
  | false=>cases tp2 with
    | false=>
      rw [if_pos rfl]
      have h1':s.heap.IsList a its.toArray:=h1
      have h2':s.heap.IsList b its2.toArray:=h2
      by_cases hl:xs.length=ys.length
      · rw [ZDK xs ys hl,← z1]
        exact ⟨.lists h1' h2' (by omega) hu it,.lists h1' h2' (by omega) hu it⟩
      · rw [ZFP xs ys hl]
        have hne:(its.toArray.size != its2.toArray.size)=true:=by simp only [bne_iff_ne,ne_eq];omega
        exact ⟨.lists_lengths h1' h2' hne hu,.lists_lengths h1' h2' hne hu⟩
    | true=>rw [if_neg (by decide)];exact ⟨.list_tuple h1 h2 hu,.list_tuple h1 h2 hu⟩
  | true=>cases tp2 with
    | false=>rw [if_neg (by decide)];exact ⟨.tuple_list h1 h2 hu,.tuple_list h1 h2 hu⟩
    | true=>
      rw [if_pos rfl]
      have h1':IsTup s.heap a its.toArray:=h1
      have h2':IsTup s.heap b its2.toArray:=h2
      have e:((List.range (min its.toArray.size its2.toArray.size)).all (fun j=>eqP (xs.getD j .non) (ys.getD j .non)) && its.toArray.size == its2.toArray.size)=ZBx xs ys:=by
        by_cases hl:xs.length=ys.length
        · rw [ZDK xs ys hl,z1,z2,← hl,Nat.min_self,beq_self_eq_true,Bool.and_true]
        · rw [ZFP xs ys hl,z1,z2,show (xs.length == ys.length)=false from by simpa using hl,Bool.and_false]
      have k1:=SeqAt.RcAt.tuples (A:=A) (e:=fun j=>eqP (xs.getD j .non) (ys.getD j .non)) h1' h2' hu it
      have k2:=SeqAt.RcNeAt.tuples (A:=A) (e:=fun j=>eqP (xs.getD j .non) (ys.getD j .non)) h1' h2' hu it
      rw [e] at k1 k2
      exact ⟨k1,k2⟩
theorem eq_at (I:Inv X pins σ H s):∀ (d:Nat) (x y:V) (p q:PV),Rep H x p→Rep H y q→dat X.K d p→dat X.K d q→∀ (A:Around) (u v:Value),RelV x u→RelV y v→A.units+d < cLine→SeqAt.EqAt A s u v (eqP p q):=fun d=>by
  induction d with
  | zero=>
    intro x y p q r1 r2 h1 h2 A u v ru rv hu
    rcases ZB4 h1 r1 with ⟨f1,e1⟩ | ⟨_,_,_,_,_,e,_⟩
    · rcases ZB4 h2 r2 with ⟨f2,e2⟩ | ⟨_,_,_,_,_,e,_⟩
      · subst e1;subst e2
        rw [ZCr f1 f2]
        exact ZHM ru rv (ZCJ f1) (ZCJ f2)
      · cases e
    · cases e
  | succ d ih=>
    intro x y p q r1 r2 h1 h2 A u v ru rv hu
    rcases ZB4 h1 r1 with ⟨f1,e1⟩ | ⟨d1,tp,a,vs,xs,e,q1,k1⟩
    · rcases ZB4 h2 r2 with ⟨f2,e2⟩ | ⟨d2,tp2,b,ws,ys,e,q2,k2⟩
      · subst e1;subst e2
        rw [ZCr f1 f2]
        exact ZHM ru rv (ZCJ f1) (ZCJ f2)
      · obtain ⟨its,ey,_,j,_⟩:=q2.isSq I
        subst e1;subst ey
        cases (show v=Value.ref b from rv)
        rw [(ZDa q2 f1).2]
        exact (ZEj j f1 ru (by omega)).1.2
    · cases e
      rcases ZB4 h2 r2 with ⟨f2,e2⟩ | ⟨d2,tp2,b,ws,ys,e,q2,k2⟩
      · obtain ⟨its,ex,_,j,_⟩:=q1.isSq I
        subst e2;subst ex
        cases (show u=Value.ref a from ru)
        rw [(ZDa q1 f2).1]
        exact (ZEj j f2 rv (by omega)).1.1
      · cases e
        obtain ⟨its,ex,v1,j1,w1⟩:=q1.isSq I
        obtain ⟨its2,ey,v2,j2,w2⟩:=q2.isSq I
        subst ex;subst ey
        cases (show u=Value.ref a from ru)
        cases (show v=Value.ref b from rv)
        by_cases hab:a=b
        · subst hab
          rw [eq_same I (d+1) _ p q r1 r2 h1 h2]
          exact .same _
        · rw [ZH6 q1 q2]
          refine SeqAt.EqAt.of_refs hab (sq_rc j1 j2 v1 v2 w1 w2 (by omega) fun x y p q u v hp hq r1 r2 ru rv=>?_).1
          exact ih x y p q r1 r2 (k1 p hp) (k2 q hq) A.in1 u v ru rv (by show A.units+1+d < cLine;omega)
theorem rc_at (I:Inv X pins σ H s) (d:Nat) (x y:V) (p q:PV) (r1:Rep H x p) (r2:Rep H y q) (h1:dat X.K d p) (h2:dat X.K d q) (A:Around) (u v:Value) (ru:RelV x u) (rv:RelV y v) (hu:A.units+d < cLine):SeqAt.RcAt A s u v (eqP p q)∧SeqAt.RcNeAt A s u v (!eqP p q):=by
  rcases ZB4 h1 r1 with ⟨f1,e1⟩ | ⟨d1,tp,a,vs,xs,e,q1,k1⟩
  · rcases ZB4 h2 r2 with ⟨f2,e2⟩ | ⟨d2,tp2,b,ws,ys,e,q2,k2⟩
    · subst e1;subst e2
      exact rc_flat f1 f2 ru rv
    · obtain ⟨its,ey,_,j,_⟩:=q2.isSq I
      subst e1;subst ey
      cases (show v=Value.ref b from rv)
      rw [(ZDa q2 f1).2]
      have z:=ZEj (A:=A) j f1 ru (by omega)
      exact ⟨z.2.1.2,z.2.2.2⟩
  · rcases ZB4 h2 r2 with ⟨f2,e2⟩ | ⟨d2,tp2,b,ws,ys,e2,q2,k2⟩
    · obtain ⟨its,ex,_,j,_⟩:=q1.isSq I
      subst e2;subst ex
      cases (show u=Value.ref a from ru)
      rw [(ZDa q1 f2).1]
      have z:=ZEj (A:=A) j f2 rv (by omega)
      exact ⟨z.2.1.1,z.2.2.1⟩
    · subst e;cases e2
      obtain ⟨its,ex,v1,j1,w1⟩:=q1.isSq I
      obtain ⟨its2,ey,v2,j2,w2⟩:=q2.isSq I
      subst ex;subst ey
      cases (show u=Value.ref a from ru)
      cases (show v=Value.ref b from rv)
      rw [ZH6 q1 q2]
      exact sq_rc j1 j2 v1 v2 w1 w2 (by omega) fun x y p q u v hp hq r1 r2 ru rv=>eq_at I d1 x y p q r1 r2 (k1 p hp) (k2 q hq) A.in1 u v ru rv (by show A.units+1+d1 < cLine;omega)
def rEqP (K:PySem.W.Frag) (neg:Bool):R2:=fun x y H Q=>∃ p q,Rep H x p∧Rep H y q∧dat K 40 p∧dat K 40 q∧Q (.bl (if neg then !eqP p q else eqP p q)) H
theorem op_eqP (hu:X.A.units+64 < cLine):OpR X (compareOp .Eq) (rEqP X.K false):=by
  intro pins s σ H x y v u Q I rx ry h
  obtain ⟨p,q,r1,r2,d1,d2,hQ⟩:=h
  exact (rc_at I 40 x y p q r1 r2 d1 d2 X.A _ _ rx ry (by omega)).1 _ _ _ _ ⟨.bl (eqP p q),H,I,rfl,hQ⟩
end
section
variable [Xw]
variable {ss:List Slot} {K:PySem.W.Frag} {ta tb:TE} {k:PV→Prop}
theorem wp_eqP (h:Wp ss ta fun p=>Wp ss tb fun q=>dat K 40 p∧dat K 40 q∧k (.bl (eqP p q))):Wp ss (tOp (rEqP K false) ta tb) k:=⟨fun E σ F H Q S q=>
  h.go E σ F H _ S fun v p F1 H1 m1 r1 h2=>h2.go E σ F1 H1 _ m1.st fun v2 p2 F2 H2 m2 r2 ⟨d1,d2,kk⟩=>
    ⟨p,p2,(r1.mono m2.ff).mono m2.st.fh,r2.mono m2.st.fh,d1,d2,q _ _ F2 H2 (m1.trans m2) (.bl _) kk⟩⟩
theorem wp_neP (h:Wp ss ta fun p=>Wp ss tb fun q=>dat K 40 p∧dat K 40 q∧k (.bl (!eqP p q))):Wp ss (tOp (rEqP K true) ta tb) k:=⟨fun E σ F H Q S q=>
  h.go E σ F H _ S fun v p F1 H1 m1 r1 h2=>h2.go E σ F1 H1 _ m1.st fun v2 p2 F2 H2 m2 r2 ⟨d1,d2,kk⟩=>
    ⟨p,p2,(r1.mono m2.ff).mono m2.st.fh,r2.mono m2.st.fh,d1,d2,q _ _ F2 H2 (m1.trans m2) (.bl _) kk⟩⟩
end
end Fz
set_option Elab.async false
set_option linter.all false
set_option maxRecDepth 100000
set_option maxHeartbeats 4000000
namespace Fz
open PySem PySem.Spec PyProof.Rows L2 Lw
def OV.at:OV→List Nat→Option OV
  | t,[]=>some t
  | .nd _ _ xs,j :: p=>(xs[j]?).bind fun x=>x.at p
  | .tp xs,j :: p=>(xs[j]?).bind fun x=>x.at p
  | .fz _,_ :: _=>none
termination_by _ p=>p.length
def OV.put:OV→List Nat→OV→OV
  | _,[],n=>n
  | .nd k a xs,j :: p,n=>match xs[j]? with
    | some x=>.nd k a (xs.set j (x.put p n))
    | none=>.nd k a xs
  | .tp xs,j :: p,n=>match xs[j]? with
    | some x=>.tp (xs.set j (x.put p n))
    | none=>.tp xs
  | .fz p,_ :: _,_=>.fz p
termination_by _ p=>p.length
theorem OV.at_nil {t:OV}:t.at []=some t:=by rw [OV.at]
theorem OV.at_nd {k:NK} {a:Addr} {xs:List OV} {j:Nat} {p:List Nat}:(OV.nd k a xs).at (j :: p)=(xs[j]?).bind fun x=>x.at p:=by rw [OV.at]
theorem OV.at_tp {xs:List OV} {j:Nat} {p:List Nat}:(OV.tp xs).at (j :: p)=(xs[j]?).bind fun x=>x.at p:=by rw [OV.at]
theorem OV.put_nil {t n:OV}:t.put [] n=n:=by rw [OV.put]
theorem OV.put_nd {k:NK} {a:Addr} {xs:List OV} {j:Nat} {p:List Nat} {n x:OV} (h:xs[j]?=some x):(OV.nd k a xs).put (j :: p) n=.nd k a (xs.set j (x.put p n)):=by rw [OV.put,h]
theorem OV.put_tp {xs:List OV} {j:Nat} {p:List Nat} {n x:OV} (h:xs[j]?=some x):(OV.tp xs).put (j :: p) n=.tp (xs.set j (x.put p n)):=by rw [OV.put,h]
theorem OV.at_snoc {u w:OV}:∀ {p:List Nat} {t:OV} {j:Nat},t.at p=some u→u.at [j]=some w→t.at (p++[j])=some w
  | [],t,j,h,h2=>by rw [OV.at_nil] at h;cases h;exact h2
  | i :: p,.nd k a xs,j,h,h2=>by
    rw [OV.at_nd] at h
    rw [List.cons_append,OV.at_nd]
    cases e:xs[i]? with
    | none=>rw [e] at h;cases h
    | some x=>rw [e] at h;exact OV.at_snoc (t:=x) h h2
  | i :: p,.tp xs,j,h,h2=>by
    rw [OV.at_tp] at h
    rw [List.cons_append,OV.at_tp]
    cases e:xs[i]? with
    | none=>rw [e] at h;cases h
    | some x=>rw [e] at h;exact OV.at_snoc (t:=x) h h2
  | i :: p,.fz q,j,h,h2=>by rw [OV.at] at h;cases h
theorem ZB8:∀ {xs:List OV} {j:Nat} {x:OV},xs[j]?=some x→∃ l r,OV.addrsL xs=l++x.addrs++r∧∀ y:OV,OV.addrsL (xs.set j y)=l++y.addrs++r
  | x :: xs,0,z,h=>by
    simp at h;subst h
    exact ⟨[],OV.addrsL xs,by rw [OV.addrsL_cons];rfl,fun y=>by rw [List.set_cons_zero,OV.addrsL_cons];rfl⟩
  | x :: xs,j+1,z,h=>by
    obtain ⟨l,r,e1,e2⟩:=ZB8 (xs:=xs) (j:=j) (x:=z) (by simpa using h)
    refine ⟨x.addrs++l,r,by rw [OV.addrsL_cons,e1];simp [List.append_assoc],fun y=>by rw [List.set_cons_succ,OV.addrsL_cons,e2];simp [List.append_assoc]⟩
theorem OV.split {u:OV}:∀ {p:List Nat} {t:OV},t.at p=some u→∃ l r,t.addrs=l++u.addrs++r∧∀ n:OV,(t.put p n).addrs=l++n.addrs++r
  | [],t,h=>by rw [OV.at_nil] at h;cases h;exact ⟨[],[],by simp,fun n=>by rw [OV.put_nil];simp⟩
  | j :: p,.nd k a xs,h=>by
    rw [OV.at_nd] at h
    cases e:xs[j]? with
    | none=>rw [e] at h;cases h
    | some x=>
      rw [e] at h
      obtain ⟨l,r,e1,e2⟩:=ZB8 e
      obtain ⟨l2,r2,f1,f2⟩:=OV.split (t:=x) h
      refine ⟨a :: (k.more++(l++l2)),r2++r,by rw [OV.addrs_nd,e1,f1];simp [List.append_assoc],fun n=>by rw [OV.put_nd e,OV.addrs_nd,e2,f2];simp [List.append_assoc]⟩
  | j :: p,.tp xs,h=>by
    rw [OV.at_tp] at h
    cases e:xs[j]? with
    | none=>rw [e] at h;cases h
    | some x=>
      rw [e] at h
      obtain ⟨l,r,e1,e2⟩:=ZB8 e
      obtain ⟨l2,r2,f1,f2⟩:=OV.split (t:=x) h
      refine ⟨l++l2,r2++r,by rw [OV.addrs_tp,e1,f1];simp [List.append_assoc],fun n=>by rw [OV.put_tp e,OV.addrs_tp,e2,f2];simp [List.append_assoc]⟩
  | j :: p,.fz q,h=>by rw [OV.at] at h;cases h
theorem Oreps.get {F H:Hp}:∀ {vs:List V} {ts:List OV} {j:Nat} {t:OV},Oreps F H vs ts→ts[j]?=some t→∃ v,vs[j]?=some v∧Orep F H v t
  | _,_,_,_,.nil,e=>by simp at e
  | _,_,0,_,.cons r _,e=>by simp at e;subst e;exact ⟨_,rfl,r⟩
  | _,_,j+1,t,.cons _ q,e=>by
    obtain ⟨u,h1,h2⟩:=Oreps.get (j:=j) (t:=t) q (by simpa using e)
    exact ⟨u,by simpa using h1,h2⟩
theorem Oreps.append {F H:Hp}:∀ {vs ws:List V} {xs ys:List OV},Oreps F H vs xs→Oreps F H ws ys→Oreps F H (vs++ws) (xs++ys)
  | _,_,_,_,.nil,s=>s
  | _,_,_,_,.cons r t,s=>.cons r (Oreps.append t s)
theorem Oreps.take {F H:Hp}:∀ {vs:List V} {xs:List OV} (n:Nat),Oreps F H vs xs→Oreps F H (vs.take n) (xs.take n)
  | _,_,0,_=>by simp only [List.take_zero];exact .nil
  | _,_,_+1,.nil=>.nil
  | _,_,n+1,.cons r t=>.cons r (Oreps.take n t)
theorem Oreps.drop {F H:Hp}:∀ {vs:List V} {xs:List OV} (n:Nat),Oreps F H vs xs→Oreps F H (vs.drop n) (xs.drop n)
  | _,_,0,r=>r
  | _,_,_+1,.nil=>.nil
  | _,_,n+1,.cons _ t=>Oreps.drop n t
theorem Oreps.one {F H:Hp} {v:V} {t:OV} (r:Orep F H v t):Oreps F H [v] [t]:=.cons r .nil
theorem ZCY {F H:Hp}:∀ {vs:List V} {xs:List PV},Reps F vs xs→Oreps F H vs (xs.map .fz)
  | _,_,.nil=>.nil
  | _,_,.cons r t=>.cons (.fz r) (ZCY t)
theorem Oreps.fzs {F H:Hp}:∀ {vs:List V} {xs:List PV},Oreps F H vs (xs.map .fz)→Reps F vs xs
  | _,[],.nil=>.nil
  | _,_ :: _,.cons (.fz r) t=>.cons r (Oreps.fzs t)
theorem ZCE:∀ (xs:List PV),OV.addrsL (xs.map .fz)=[]
  | []=>by rw [List.map_nil,OV.addrsL]
  | x :: r=>by rw [List.map_cons,OV.addrsL_cons,OV.addrs_fz,ZCE r];rfl
theorem Oreps.swap {F H H':Hp} {y:OV}:∀ {vs:List V} {xs:List OV} {j:Nat} {x:OV} {v:V},Oreps F H vs xs→xs[j]?=some x→vs[j]?=some v→(∀ l r,OV.addrsL xs=l++x.addrs++r→(∀ z:OV,OV.addrsL (xs.set j z)=l++z.addrs++r)→∀ b∈l++r,∀ o,H b=some o→H' b=some o)→Orep F H' v y→Oreps F H' vs (xs.set j y)
  | _,x :: xs,0,z,w,.cons r t,h,hv,hk,ry=>by
    simp at h hv;subst h;subst hv
    rw [List.set_cons_zero]
    have e:∀ z:OV,OV.addrsL ((x :: xs).set 0 z)=[]++z.addrs++OV.addrsL xs:=fun z=>by rw [List.set_cons_zero,OV.addrsL_cons];rfl
    exact .cons ry (t.mono (Same.refl _) fun b hb o=>hk [] (OV.addrsL xs) (by rw [OV.addrsL_cons];rfl) e b (by simpa using hb) o)
  | _,x :: xs,j+1,z,w,.cons r t,h,hv,hk,ry=>by
    rw [List.set_cons_succ]
    have h':xs[j]?=some z:=by simpa using h
    obtain ⟨l,q,e1,e2⟩:=ZB8 h'
    refine .cons (r.mono (Same.refl _) fun b hb o=>hk (x.addrs++l) q (by rw [OV.addrsL_cons,e1];simp [List.append_assoc]) (fun z=>by rw [List.set_cons_succ,OV.addrsL_cons,e2];simp [List.append_assoc]) b (by simp [hb]) o) (Oreps.swap (v:=w) t h' (by simpa using hv) (fun l' r' e1' e2' b hb o=>hk (x.addrs++l') r' (by rw [OV.addrsL_cons,e1'];simp [List.append_assoc]) (fun z=>by rw [List.set_cons_succ,OV.addrsL_cons,e2'];simp [List.append_assoc]) b (by rcases List.mem_append.mp hb with hz | hz <;> simp [hz]) o) ry)
theorem Orep.at {F H:Hp} {u:OV}:∀ {p:List Nat} {t:OV} {v:V},Orep F H v t→t.at p=some u→∃ w,Orep F H w u∧∀ (H':Hp) (n:OV),Orep F H' w n→(∀ l r,t.addrs=l++u.addrs++r→(∀ n:OV,(t.put p n).addrs=l++n.addrs++r)→∀ b∈l++r,∀ o,H b=some o→H' b=some o)→Orep F H' v (t.put p n)
  | [],t,v,h,e=>by rw [OV.at_nil] at e;cases e;exact ⟨v,h,fun H' n r _=>by rw [OV.put_nil];exact r⟩
  | j :: p,.fz q,v,h,e=>by rw [OV.at] at e;cases e
  | j :: p,.nd k a xs,_,.nd h sd ft r,e=>by
    rw [OV.at_nd] at e
    cases ex:xs[j]? with
    | none=>rw [ex] at e;cases e
    | some x=>
      rw [ex] at e
      obtain ⟨vj,hvj,rj⟩:=r.get ex
      obtain ⟨w,rw_,go⟩:=Orep.at (t:=x) rj e
      refine ⟨w,rw_,fun H' n rn hk=>?_⟩
      obtain ⟨l2,r2,f1,f2⟩:=OV.split e
      have key:∀ l r,OV.addrsL xs=l++x.addrs++r→(∀ z:OV,OV.addrsL (xs.set j z)=l++z.addrs++r)→∀ b,b∈(a :: (k.more++(l++l2)))++(r2++r)→∀ o,H b=some o→H' b=some o:=fun l r e1 e2 b hb o=>
        hk (a :: (k.more++(l++l2))) (r2++r) (by rw [OV.addrs_nd,e1,f1];simp [List.append_assoc]) (fun n=>by rw [OV.put_nd ex,OV.addrs_nd,e2,f2];simp [List.append_assoc]) b hb o
      obtain ⟨l,q,e1,e2⟩:=ZB8 ex
      rw [OV.put_nd ex]
      refine .nd (key l q e1 e2 a (by simp) _ h) (NK.side_mono sd fun b hb=>key l q e1 e2 b (by simp [hb])) ft ?_
      refine r.swap ex hvj (fun l' r' e1' e2' b hb o=>key l' r' e1' e2' b (by rcases List.mem_append.mp hb with hz | hz <;> simp [hz]) o) ?_
      refine go H' n rn fun l' r' g1 g2 b hb o=>?_
      refine hk (a :: (k.more++(l++l'))) (r'++q) (by rw [OV.addrs_nd,e1,g1];simp [List.append_assoc]) (fun n=>by rw [OV.put_nd ex,OV.addrs_nd,e2,g2];simp [List.append_assoc]) b (by rcases List.mem_append.mp hb with hz | hz <;> simp [hz]) o
  | j :: p,.tp xs,_,.tp h r,e=>by
    rw [OV.at_tp] at e
    cases ex:xs[j]? with
    | none=>rw [ex] at e;cases e
    | some x=>
      rw [ex] at e
      obtain ⟨vj,hvj,rj⟩:=r.get ex
      obtain ⟨w,rw_,go⟩:=Orep.at (t:=x) rj e
      refine ⟨w,rw_,fun H' n rn hk=>?_⟩
      obtain ⟨l2,r2,f1,f2⟩:=OV.split e
      obtain ⟨l,q,e1,e2⟩:=ZB8 ex
      rw [OV.put_tp ex]
      refine .tp h (r.swap ex hvj (fun l' r' e1' e2' b hb o=>?_) (go H' n rn fun l' r' g1 g2 b hb o=>?_))
      · exact hk (l'++l2) (r2++r') (by rw [OV.addrs_tp,e1',f1];simp [List.append_assoc]) (fun n=>by rw [OV.put_tp ex,OV.addrs_tp,e2',f2];simp [List.append_assoc]) b (by rcases List.mem_append.mp hb with hz | hz <;> simp [hz]) o
      · exact hk (l++l') (r'++q) (by rw [OV.addrs_tp,e1,g1];simp [List.append_assoc]) (fun n=>by rw [OV.put_tp ex,OV.addrs_tp,e2,g2];simp [List.append_assoc]) b (by rcases List.mem_append.mp hb with hz | hz <;> simp [hz]) o
end Fz
set_option Elab.async false
set_option linter.all false
set_option maxRecDepth 100000
set_option maxHeartbeats 4000000
namespace Fz
open PySem PySem.Spec PyProof.Rows L2 Lw
theorem nodup3 {l u r n:List Addr} (h:(l++u++r).Nodup) (hn:n.Nodup) (hd:∀ b∈n,b∈u∨b∉l++u++r):(l++n++r).Nodup:=by
  rw [List.nodup_append] at h ⊢
  obtain ⟨h1,h2,h3⟩:=h
  rw [List.nodup_append] at h1 ⊢
  obtain ⟨a1,a2,a3⟩:=h1
  refine ⟨⟨a1,hn,fun a ha b hb e=>?_⟩,h2,fun a ha b hb e=>?_⟩
  · subst e
    rcases hd a hb with z | z
    · exact a3 a ha a z rfl
    · exact z (by simp [ha])
  · subst e
    rcases List.mem_append.mp ha with ha | ha
    · exact h3 a (by simp [ha]) a hb rfl
    · rcases hd a ha with z | z
      · exact h3 a (by simp [z]) a hb rfl
      · exact z (by simp [hb])
section
variable {E:Ent0} {ss:List Slot} {σ:L2.St} {F H F' H':Hp}
theorem Sg.mutO (S:Sg E ss σ F H) {i:Nat} {t n:OV} {p:List Nat} {k:NK} {a:Addr} {xs:List OV} {ho:HO} {lt:Bool} (hi:ss[i]?=some (.ow lt t)) (hat:t.at p=some (.nd k a xs)) (hn:Orep F (upd H a ho) (.ref a) n) (nd:n.addrs.Nodup)
    (hnew:∀ b∈n.addrs,b∈(OV.nd k a xs).addrs∨(F b=none∧E.H0 b=none∧∀ (j:Nat) s,ss[j]?=some s→¬ ZBR s σ[j]? b)):Sg E (ss.set i (.ow lt (t.put p n))) σ F (upd H a ho):=by
  obtain ⟨v,e,r,ndt,q⟩:=S.ok i _ hi
  obtain ⟨l,rr,e1,e2⟩:=OV.split hat
  have au:a∈(OV.nd k a xs).addrs:=by rw [OV.addrs_nd];simp
  have ut:∀ b∈(OV.nd k a xs).addrs,b∈t.addrs:=fun b hb=>by rw [e1];simp [hb]
  have hdt:∀ b∈n.addrs,b∈(OV.nd k a xs).addrs∨b∉t.addrs:=fun b hb=>(hnew b hb).imp id fun z m=>z.2.2 i _ hi m
  obtain ⟨w,rw_,go⟩:=r.at hat
  have ew:w=.ref a:=by cases rw_;rfl
  subst ew
  have ne1:∀ (j:Nat) s,(ss.set i .any)[j]?=some s→∀ b,b∈t.addrs→¬ ZBR s σ[j]? b:=fun j s hj b hb m=>by
    by_cases z:j=i
    · subst z
      rw [List.getElem?_set_self (List.getElem?_eq_some_iff.mp hi).1] at hj
      cases hj;cases m
    · rw [List.getElem?_set_ne (Ne.symm z)] at hj
      exact S.dis j i s _ b z hj hi m hb
  have S2:=(S.drop i).poke (o:=ho) (q a (ut a au)).1 ((q a (ut a au)).2.imp id fun z=>z.2) fun j s hj=>ne1 j s hj a (ut a au)
  have ndt':=ndt
  rw [e1,List.nodup_append,List.nodup_append] at ndt'
  obtain ⟨⟨_,_,d1⟩,_,d2⟩:=ndt'
  have outa:∀ b,b∈l++rr→b≠a:=fun b hb z=>by
    subst z
    rcases List.mem_append.mp hb with hb | hb
    · exact d1 b hb b au rfl
    · exact d2 b (by simp [au]) b hb rfl
  have r2:Orep F (upd H a ho) v (t.put p n):=go _ n hn fun l' r' g1 g2 b hb o hbo=>by
    rw [ZAE ?_];exact hbo
    rintro rfl
    have ndt2:=ndt
    rw [g1,List.nodup_append,List.nodup_append] at ndt2
    obtain ⟨⟨_,_,c1⟩,_,c2⟩:=ndt2
    rcases List.mem_append.mp hb with hb | hb
    · exact c1 b hb b au rfl
    · exact c2 b (by simp [au]) b hb rfl
  have ad:∀ b∈(t.put p n).addrs,b∈t.addrs∨(F b=none∧E.H0 b=none∧∀ (j:Nat) s,ss[j]?=some s→¬ ZBR s σ[j]? b):=fun b hb=>by
    rw [e2] at hb
    rcases List.mem_append.mp hb with hb | hb
    · rcases List.mem_append.mp hb with hb | hb
      · exact .inl (by rw [e1];simp [hb])
      · exact (hnew b hb).imp (ut b) id
    · exact .inl (by rw [e1];simp [hb])
  have S3:=S2.setG (j:=i) (s:=.ow lt (t.put p n)) (v:=v) ⟨v,rfl,r2,by rw [e2];exact nodup3 (e1▸ndt) nd fun b hb=>(hdt b hb).imp id (by rw [e1];exact id),fun b hb=>(ad b hb).elim (q b) fun z=>⟨z.1,.inl z.2.1⟩⟩ fun b hb j s hj hs m=>by
    rcases ad b hb with z | z
    · exact ne1 j s hs b z m
    · rw [List.getElem?_set_ne (Ne.symm hj)] at hs
      exact z.2.2 j s hs m
  rw [ZCI e,List.set_set] at S3
  exact S3
end
structure Wl [Xw] (ss:List Slot) (i:Nat) (t:OV) (te:TE) (k:List Nat→OV→Prop):Prop where
  hi:∃ lt,ss[i]?=some (.ow lt t)
  go:∀ (E:Ent) (σ:L2.St) (F H:Hp) (Q:VK),Sg E ss σ F H→(∀ v p u F' H',Mv E ss σ F H F' H'→Orep F' H' v u→t.at p=some u→k p u→Q v H')→te σ H Q
def dropAll:List Nat→List Slot→List Slot
  | [],ss=>ss
  | i :: m,ss=>dropAll m (ss.set i .any)
structure Wx [Xw] (ss:List Slot) (te:TE) (k:List Nat→OV→Prop):Prop where
  go:∀ (E:Ent) (σ:L2.St) (F H:Hp) (Q:VK),Sg E ss σ F H→(∀ v m u F' H',Mv E ss σ F H F' H'→Orep F' H' v u→u.addrs.Nodup→(∀ a∈u.addrs,F' a=none∧E.H0 a=none∧((∃ i∈m,∃ s,s≠Slot.pot∧ss[i]?=some s∧ZBR s σ[i]? a)∨H a=none))→k m u→Q v H')→te σ H Q
section
variable [Xw]
variable {ss:List Slot} {K:PySem.W.Frag} {ta tb tc te ti:TE} {nx:List Slot→Prop} {R:Ret} {k:PV→Prop} {xs:List PV} {i:Nat} {t:OV}
theorem OV.at_sub {u:OV} {p:List Nat} (h:t.at p=some u):∀ a∈u.addrs,a∈t.addrs:=fun a ha=>by
  obtain ⟨l,r,e,_⟩:=OV.split h
  rw [e];simp [ha]
theorem Orep.mv {E:Ent0} {σ:L2.St} {F H F' H':Hp} {v:V} {u:OV} {p:List Nat} (r:Orep F H v u) (S:Sg E ss σ F H) (hi:∃ lt,ss[i]?=some (.ow lt t)) (h:t.at p=some u) (m:Mv E ss σ F H F' H'):Orep F' H' v u:=
  r.mono m.ff fun a ha o e=>m.hh a o (S.own_npot hi.choose_spec (OV.at_sub h a ha) (by simp)) e
theorem ZBE {lt:Bool} {k:List Nat→OV→Prop} (hi:ss[i]?=some (.ow lt t)) (hk:k [] t):Wl ss i t (ZBi i) k:=⟨⟨lt,hi⟩,fun E σ F H Q S q=>by
  obtain ⟨v,e,r,_,_⟩:=S.ok i _ hi
  exact ⟨v,e,q v [] t F H (.refl S) r OV.at_nil hk⟩⟩
theorem ZEC {k:List Nat→OV→Prop} (h:Wl ss i t ta fun p u=>∃ a xs,u=.nd .lst a xs∧Wp ss tb fun q=>∃ (j:Int) (n:Nat) (w:OV),q=.int j∧ixN xs.length j=some n∧xs[n]?=some w∧k (p++[n]) w):Wl ss i t (tOp (rIxL K) ta tb) k:=⟨h.hi,fun E σ F H Q S q=>
  h.go E σ F H _ S fun v p u F1 H1 m1 r1 h1 ⟨a,xs,eu,h2⟩=>h2.go E σ F1 H1 _ m1.st fun v2 p2 F2 H2 m2 r2 ⟨j,n,w,e,hn,hw,kk⟩=>by
    subst e;cases r2
    have r3:=r1.mv m1.st h.hi h1 m2
    subst eu
    cases r3 with
    | nd ha sd ft rr=>
      obtain ⟨x,hx,rx⟩:=rr.get hw
      refine ⟨a,_,j,x,rfl,rfl,SqL.of ha,?_,q x (p++[n]) w F2 H2 (m1.trans m2) rx (OV.at_snoc h1 (by rw [OV.at_nd,hw];exact OV.at_nil)) kk⟩
      unfold L2.atI
      rw [rr.length,hn]
      exact hx⟩
theorem ZE7 {k:List Nat→OV→Prop} (h:Wl ss i t ta fun p u=>∃ xs,u=.tp xs∧Wp ss tb fun q=>∃ (j:Int) (n:Nat) (w:OV),q=.int j∧ixN xs.length j=some n∧xs[n]?=some w∧k (p++[n]) w):Wl ss i t (tOp (rIxT K) ta tb) k:=⟨h.hi,fun E σ F H Q S q=>
  h.go E σ F H _ S fun v p u F1 H1 m1 r1 h1 ⟨xs,eu,h2⟩=>h2.go E σ F1 H1 _ m1.st fun v2 p2 F2 H2 m2 r2 ⟨j,n,w,e,hn,hw,kk⟩=>by
    subst e;cases r2
    have r3:=r1.mv m1.st h.hi h1 m2
    subst eu
    cases r3 with
    | tp ha rr=>
      obtain ⟨x,hx,rx⟩:=rr.get hw
      refine ⟨_,_,j,x,rfl,rfl,SqT.of (m2.st.fh _ _ ha),?_,q x (p++[n]) w F2 H2 (m1.trans m2) rx (OV.at_snoc h1 (by rw [OV.at_tp,hw];exact OV.at_nil)) kk⟩
      unfold L2.atI
      rw [rr.length,hn]
      exact hx⟩
theorem wp_l (h:Wl ss i t te fun _ u=>∃ p,u=.fz p∧k p):Wp ss te k:=⟨fun E σ F H Q S q=>
  h.go E σ F H _ S fun v p u F1 H1 m1 r1 h1 ⟨p,eu,kk⟩=>by subst eu;cases r1 with | fz r=>exact q v p F1 H1 m1 r kk⟩
theorem wq_l {k:Bool→List PV→Prop} (h:Wl ss i t te fun _ u=>∃ a ps,u=.nd .lst a (ps.map .fz)∧k false ps):Wq ss te k:=⟨fun E σ F H Q S q=>
  h.go E σ F H _ S fun v p u F1 H1 m1 r1 h1 ⟨a,ps,eu,kk⟩=>by
    subst eu
    have np:ZCW ss σ a:=m1.st.own_npot h.hi.choose_spec (OV.at_sub h1 a (by rw [OV.addrs_nd];simp)) (by simp)
    cases r1 with
    | nd ha sd ft rr=>exact q _ false ps F1 H1 m1 ⟨a,_,rfl,np,ha,rr.fzs⟩ kk⟩
theorem ZHZ (h:Wl ss i t te fun _ u=>∃ a xs,u=.nd .lst a xs∧k (.int xs.length)):Wp ss (tCB (rLenS K) (ZAA te ZAa)) k:=⟨fun E σ F H Q S q=>
  h.go E σ F H _ S fun v p u F1 H1 m1 r1 h1 ⟨a,xs,eu,kk⟩=>by
    subst eu
    cases r1 with
    | nd ha sd ft rr=>
      refine ⟨a,_,rfl,.inl (SqL.of ha),?_⟩
      rw [rr.length]
      exact q _ _ F1 H1 m1 (.int _) kk⟩
theorem wx_p {k:List Nat→OV→Prop} (h:Wp ss te fun p=>k [] (.fz p)):Wx ss te k:=⟨fun E σ F H Q S q=>
  h.go E σ F H _ S fun v p F1 H1 m1 r kk=>q v [] (.fz p) F1 H1 m1 (.fz r) (by rw [OV.addrs_fz];exact List.nodup_nil) (fun a ha=>by rw [OV.addrs_fz] at ha;cases ha) kk⟩
theorem ZGl (a:Addr) (xs:List PV):(OV.nd .lst a (xs.map .fz)).addrs=[a]:=by rw [OV.addrs_nd,ZCE];rfl
theorem ZDB {j:Nat} {s:Slot}:∀ {m:List Nat} {ss:List Slot},(dropAll m ss)[j]?=some s→s=.any∨(ss[j]?=some s∧j∉m)
  | [],ss,h=>.inr ⟨h,by simp⟩
  | i :: m,ss,h=>by
    rcases ZDB (m:=m) (ss:=ss.set i .any) h with e | ⟨e,hm⟩
    · exact .inl e
    · by_cases q:j=i
      · subst q
        have hlt:j < ss.length:=by have:=(List.getElem?_eq_some_iff.mp e).1;simpa using this
        rw [List.getElem?_set_self hlt] at e
        exact .inl (Option.some.inj e).symm
      · rw [List.getElem?_set_ne (Ne.symm q)] at e
        exact .inr ⟨e,by simp [q,hm]⟩
theorem Sg.dropAll {E:Ent0} {σ:L2.St} {F H:Hp}:∀ (m:List Nat) {ss:List Slot},Sg E ss σ F H→Sg E (Fz.dropAll m ss) σ F H
  | [],_,S=>S
  | i :: m,_,S=>Sg.dropAll m (S.drop i)
theorem Sg.setX {E:Ent0} {σ:L2.St} {F0 F H0 H:Hp} {v:V} {m:List Nat} {u:OV} {j:Nat} (S0:Sg E ss σ F0 H0) (S:Sg E ss σ F H) (r:Orep F H v u) (nd:u.addrs.Nodup) (hu:∀ a∈u.addrs,F a=none∧E.H0 a=none∧((∃ i∈m,∃ s,s≠Slot.pot∧ss[i]?=some s∧ZBR s σ[i]? a)∨H0 a=none)) :
    Sg E ((Fz.dropAll m ss).set j (.ow false u)) (σ.set j (some v)) F H:=by
  refine (S.dropAll m).setG ⟨v,rfl,r,nd,fun a ha=>⟨(hu a ha).1,.inl (hu a ha).2.1⟩⟩ fun a ha i s hij hs o=>?_
  rcases ZDB hs with e | ⟨hs',hm⟩
  · subst e;cases o
  · rcases (hu a ha).2.2 with ⟨i2,hi2,s2,_,hs2,o2⟩ | z
    · exact S.dis i i2 s s2 a (by rintro rfl;exact hm hi2) hs' hs2 o o2
    · exact S0.own_there hs' o z
theorem ws_asgX {j:Nat} (h:Wx ss te fun m u=>nx ((Fz.dropAll m ss).set j (.ow false u))):Ws ss (ZFh te (ZC9 j)) nx R:=⟨fun E D σ F H S hn hr=>
  h.go E σ F H _ S fun v m u F1 H1 m1 r nd hu kk=>hn _ _ F1 H1 kk (Sg.setX S m1.st r nd hu) m1.ff⟩
theorem ws_toO {t':TS} (i:Nat) (hi:ss[i]?=some (.own xs)) (h:∀ l,Ws (ss.set i (.ow false (.nd .lst l (xs.map .fz)))) t' nx R):Ws ss t' nx R:=⟨fun E D σ F H S hn hr=>by
  obtain ⟨l,vs,e,e1,e2,e3,r⟩:=S.ok i _ hi
  have S2:=Sg.setX (j:=i) (m:=[i]) (v:=.ref l) (u:=.nd .lst l (xs.map .fz)) S S (.nd (k:=.lst) e3 trivial trivial (ZCY r)) (by rw [ZGl];simp) fun a ha=>by
    rw [ZGl] at ha
    have ea:a=l:=by simpa using ha
    subst ea
    exact ⟨e1,e2,.inl ⟨i,by simp,_,by simp,hi,e⟩⟩
  rw [ZCI e] at S2
  have e5:(Fz.dropAll [i] ss).set i (.ow false (.nd .lst l (xs.map .fz)))=ss.set i (.ow false (.nd .lst l (xs.map .fz))):=by show (ss.set i .any).set i _=_;rw [List.set_set]
  rw [e5] at S2
  exact (h l).go E D σ F H S2 hn hr⟩
theorem Orep.rep {F H F1:Hp} (ff:Same F F1):∀ {v:V} {t:OV},Orep F H v t→(∀ a∈t.addrs,∀ o,H a=some o→F1 a=some o)→Rep F1 v t.pv:=by
  intro v t r h
  exact Orep.rec (motive_1:=fun v t _=>(∀ a∈t.addrs,∀ o,H a=some o→F1 a=some o)→Rep F1 v t.pv) (motive_2:=fun vs ts _=>(∀ a∈OV.addrsL ts,∀ o,H a=some o→F1 a=some o)→Reps F1 vs (OV.pvL ts))
    (fun {v p} r _=>by rw [OV.pv];exact r.mono ff)
    (fun {a vs xs} e _ ih h=>by rw [OV.pv];exact .tup (ff _ _ e) (ih (by rw [OV.addrs_tp] at h;exact h)))
    (fun {k a vs xs} e sd ft _ ih h=>by
      rw [OV.addrs_nd] at h
      have ih':=ih fun a ha=>h a (by simp [ha])
      have e':=h a (by simp) _ e
      cases k with
      | lst=>rw [OV.pv];exact .lst e' ih'
      | dct ks=>rw [OV.pv];exact .dct e' ft ih'
      | obj C dx ns=>rw [OV.pv];exact .obj e' (h dx (by simp [NK.more]) _ sd) ft ih')
    (fun _=>by rw [OV.pvL];exact .nil)
    (fun _ _ ih1 ih2 h=>by
      rw [OV.addrsL_cons] at h
      rw [OV.pvL]
      exact .cons (ih1 fun a ha=>h a (by simp [ha])) (ih2 fun a ha=>h a (by simp [ha])))
    r h
end
end Fz
set_option Elab.async false
set_option linter.all false
set_option maxRecDepth 100000
set_option maxHeartbeats 4000000
namespace Fz
open PySem PySem.Spec PyProof.Rows L2 Lw
section
variable [Xw]
variable {ss:List Slot} {K:PySem.W.Frag} {ta tb tc te ti:TE} {nx:List Slot→Prop} {R:Ret} {k:PV→Prop} {xs:List PV} {i:Nat} {t:OV} {lt:Bool}
theorem ZBn {a:Addr} {us:List OV}:(OV.nd .lst a us).addrs=a :: OV.addrsL us:=by rw [OV.addrs_nd];rfl
theorem ZC6:∀ (us ws:List OV),OV.addrsL (us++ws)=OV.addrsL us++OV.addrsL ws
  | [],ws=>by rw [List.nil_append,OV.addrsL_nil,List.nil_append]
  | u :: us,ws=>by rw [List.cons_append,OV.addrsL_cons,OV.addrsL_cons,ZC6 us ws,List.append_assoc]
theorem ZEm (u:OV):OV.addrsL [u]=u.addrs:=by rw [OV.addrsL_cons,OV.addrsL_nil,List.append_nil]
theorem Sg.relist {E:Ent0} {σ:L2.St} {F0 F H0 H:Hp} {p:List Nat} {a:Addr} {us us':List OV} {vs':List V} {m:List Nat} {u:OV} (S0:Sg E ss σ F0 H0) (S:Sg E ss σ F H) (hi:ss[i]?=some (.ow lt t)) (hat:t.at p=some (.nd .lst a us))
    (hu:∀ a∈u.addrs,F a=none∧E.H0 a=none∧((∃ i∈m,∃ s,s≠Slot.pot∧ss[i]?=some s∧ZBR s σ[i]? a)∨H0 a=none)) (him:i∉m)
    (hr:Oreps F H vs' us') (hnd:(OV.addrsL us').Nodup) (hsub:∀ b∈OV.addrsL us',b∈OV.addrsL us∨b∈u.addrs):Sg E ((Fz.dropAll m ss).set i (.ow lt (t.put p (.nd .lst a us')))) σ F (upd H a (.lst vs')):=by
  have hi':(Fz.dropAll m ss)[i]?=some (.ow lt t):=by
    have aux:∀ (m:List Nat) (ss:List Slot),ss[i]?=some (.ow lt t)→i∉m→(Fz.dropAll m ss)[i]?=some (.ow lt t):=by
      intro m
      induction m with
      | nil=>intro ss h _;exact h
      | cons j m ih=>
        intro ss h hm
        refine ih _ ?_ fun z=>hm (by simp [z])
        rw [List.getElem?_set_ne (by rintro rfl;exact hm (by simp))];exact h
    exact aux m ss hi him
  obtain ⟨v,e,r,nd,q⟩:=S.ok i _ hi
  have ut:∀ b,b∈a :: OV.addrsL us→b∈t.addrs:=fun b hb=>OV.at_sub hat b (by rw [ZBn];exact hb)
  have own0:∀ b∈u.addrs,b∉t.addrs:=fun b hb z=>by
    rcases (hu b hb).2.2 with ⟨j,hj,s,_,hs,o⟩ | w
    · exact S.dis j i s _ b (by rintro rfl;exact him hj) hs hi o z
    · exact S0.own_there hi z w
  have ndn:(OV.nd .lst a us).addrs.Nodup:=by
    obtain ⟨l,rr,e1,_⟩:=OV.split hat
    rw [e1,List.nodup_append,List.nodup_append] at nd
    exact nd.1.2.1
  rw [ZBn] at ndn
  have na:∀ b∈OV.addrsL us',b≠a:=fun b hb z=>by
    subst z
    rcases hsub b hb with w | w
    · exact (List.nodup_cons.mp ndn).1 w
    · exact own0 b w (ut b (by simp))
  refine (S.dropAll m).mutO hi' hat (.nd (k:=.lst) ZA3 trivial trivial (hr.mono (Same.refl _) fun b hb o ho=>by rw [ZAE (na b hb)];exact ho)) (by rw [ZBn];exact List.nodup_cons.mpr ⟨fun z=>na a z rfl,hnd⟩) fun b hb=>?_
  rw [ZBn] at hb ⊢
  rcases List.mem_cons.mp hb with w | w
  · exact .inl (by simp [w])
  · rcases hsub b w with z | z
    · exact .inl (by simp [z])
    · refine .inr ⟨(hu b z).1,(hu b z).2.1,fun j s hs o=>?_⟩
      rcases ZDB hs with y | ⟨hs',hm⟩
      · subst y;cases o
      · rcases (hu b z).2.2 with ⟨i2,hi2,s2,_,hs2,o2⟩ | y
        · exact S.dis j i2 s s2 b (by rintro rfl;exact hm hi2) hs' hs2 o o2
        · exact S0.own_there hs' o y
theorem ZJc (h:Wl ss i t ta fun p u=>∃ lt a us,ss[i]?=some (.ow lt t)∧u=.nd .lst a us∧us.length≤99999∧Wx ss te fun m w=>i∉m∧nx ((dropAll m ss).set i (.ow lt (t.put p (.nd .lst a (us++[w])))))):Ws ss (ZFi (tBM K "list" ZEZ ta (ZAA te ZAa))) nx R:=⟨fun E D σ F H S hn hr=>
  h.go E σ F H _ S fun v p u F1 H1 m1 r1 h1 ⟨lt,a,us,hi,eu,hz,hw⟩=>by
    subst eu
    cases r1 with
    | @nd k a' vs _ ha sd ft rr=>
      refine .inl ⟨rfl,_,SqL.of ha⟩ |> fun q0=>⟨q0,hw.go E σ F1 H1 _ m1.st fun v2 m w F2 H2 m2 r2 nd2 a2 ⟨him,kk⟩=>?_⟩
      have r3:=(Orep.nd (k:=.lst) ha sd ft rr).mv m1.st h.hi h1 m2
      cases r3 with
      | @nd _ _ vs3 _ ha3 sd3 ft3 rr3=>
        refine ⟨a,vs3,v2,rfl,rfl,ha3,ZEz (by rw [rr3.length];exact hz),?_⟩
        refine hn _ σ F2 _ kk (Sg.relist (u:=w) m1.st m2.st hi h1 a2 him (rr3.append (.one r2)) ?_ fun b hb=>?_) (m1.ff.trans m2.ff)
        · rw [ZC6,ZEm,List.nodup_append]
          obtain ⟨v0,e0,r0,nd0,q0⟩:=m2.st.ok i _ hi
          have ndn:(OV.nd .lst a us).addrs.Nodup:=by
            obtain ⟨l,rr,e1,_⟩:=OV.split h1
            rw [e1,List.nodup_append,List.nodup_append] at nd0
            exact nd0.1.2.1
          rw [ZBn] at ndn
          refine ⟨(List.nodup_cons.mp ndn).2,nd2,fun x hx y hy e=>?_⟩
          subst e
          have xt:x∈t.addrs:=OV.at_sub h1 x (by rw [ZBn];simp [hx])
          rcases (a2 x hy).2.2 with ⟨j,hj,s,_,hs,o⟩ | w
          · exact m1.st.dis j i s _ x (by rintro rfl;exact him hj) hs hi o xt
          · exact m1.st.own_there hi xt w
        · rw [ZC6,ZEm] at hb
          exact List.mem_append.mp hb⟩
end
end Fz
set_option Elab.async false
set_option linter.all false
set_option maxRecDepth 100000
set_option maxHeartbeats 4000000
namespace Fz
open PySem PySem.Spec PyProof.Rows L2 Lw
section
variable [Xw]
variable {ss:List Slot} {K:PySem.W.Frag} {ta tb tc te ti:TE} {nx:List Slot→Prop} {R:Ret} {k:PV→Prop} {xs ps:List PV} {i j:Nat} {t:OV} {lt:Bool} {p:List Nat} {a:Addr}
theorem Sg.reflat {E:Ent0} {σ:L2.St} {F H:Hp} {ps':List PV} {vs':List V} (S:Sg E ss σ F H) (hi:ss[i]?=some (.ow lt t)) (hat:t.at p=some (.nd .lst a (ps.map .fz))) (hr:Reps F vs' ps'):Sg E (ss.set i (.ow lt (t.put p (.nd .lst a (ps'.map .fz))))) σ F (upd H a (.lst vs')):=
  Sg.relist (m:=[]) (u:=.fz .non) S S hi hat (fun a ha=>by rw [OV.addrs_fz] at ha;cases ha) (by simp) (ZCY hr) (by rw [ZCE];exact List.nodup_nil) fun b hb=>by rw [ZCE] at hb;cases hb
theorem Sg.lstAt {E:Ent0} {σ:L2.St} {F H:Hp} (S:Sg E ss σ F H) (hi:ss[i]?=some (.ow lt t)) (hat:t.at p=some (.nd .lst a (ps.map .fz))):∃ vs,H a=some (.lst vs)∧Reps F vs ps:=by
  obtain ⟨v,e,r,_,_⟩:=S.ok i _ hi
  obtain ⟨w,rw_,_⟩:=r.at hat
  cases rw_ with
  | nd ha _ _ rr=>exact ⟨_,ha,rr.fzs⟩
end
end Fz
set_option Elab.async false
set_option linter.all false
set_option maxRecDepth 100000
set_option maxHeartbeats 4000000
namespace Fz
open PySem PySem.Spec PyProof.Rows L2 Lw
mutual
theorem Orep.notup {F H:Hp}:∀ {v:V} {t:OV},Orep F H v t→∀ a∈t.addrs,∀ vs,H a≠some (.tup vs)
  | _,_,.fz _,a,ha,_=>by rw [OV.addrs_fz] at ha;cases ha
  | _,_,.tp _ r,a,ha,vs=>by rw [OV.addrs_tp] at ha;exact Oreps.notup r a ha vs
  | _,_,@Orep.nd _ _ k b ws xs h sd ft r,a,ha,vs=>by
    rw [OV.addrs_nd,List.mem_cons,List.mem_append] at ha
    rcases ha with rfl | ha | ha
    · rw [h];cases k <;> simp [NK.ho]
    · cases k with
      | obj C dx ns=>
        have e:a=dx:=by simpa [NK.more] using ha
        subst e
        have sd':H a=some (.own b):=sd
        rw [sd'];simp
      | _=>simp [NK.more] at ha
    · exact Oreps.notup r a ha vs
theorem Oreps.notup {F H:Hp}:∀ {vs:List V} {ts:List OV},Oreps F H vs ts→∀ a∈OV.addrsL ts,∀ ws,H a≠some (.tup ws)
  | _,_,.nil,a,ha,_=>by rw [OV.addrsL_nil] at ha;cases ha
  | _,_,.cons r t,a,ha,ws=>by
    rw [OV.addrsL_cons,List.mem_append] at ha
    rcases ha with ha | ha
    · exact Orep.notup r a ha ws
    · exact Oreps.notup t a ha ws
end
mutual
def nol:PV→Bool
  | .lst _=>false
  | .dct _ _=>false
  | .obj _ _ _=>false
  | .exc _ _ _=>false
  | .tup xs=>ZCe xs
  | _=>true
def ZCe:List PV→Bool
  | []=>true
  | x :: r=>nol x && ZCe r
end
def ZBb (F:Hp) (as:List Addr):Hp:=fun a=>if a∈as then none else F a
theorem Rep.sub {F:Hp} {as:List Addr} (h:∀ a∈as,∀ vs,F a≠some (.tup vs)):∀ {v:V} {p:PV},Rep F v p→nol p=true→Rep (ZBb F as) v p:=by
  intro v p r hn
  exact Rep.rec (motive_1:=fun v p _=>nol p=true→Rep (ZBb F as) v p) (motive_2:=fun vs ps _=>ZCe ps=true→Reps (ZBb F as) vs ps)
    (fun _=>.non) (fun b _=>.bl b) (fun i _=>.int i) (fun x _=>.str x)
    (fun _ _ _ z=>by simp [nol] at z)
    (fun {a vs xs} e _ ih z=>.tup (by unfold ZBb;rw [if_neg (fun q=>h a q vs e)];exact e) (ih (by simpa [nol] using z)))
    (fun _ _ _ _ z=>by simp [nol] at z)
    (fun _ _ _ _ _ z=>by simp [nol] at z)
    (fun _=>.con)
    (fun _ z=>by simp [nol] at z)
    (fun _ _ _ _ _ z=>by simp [nol] at z)
    (fun _=>.nil)
    (fun _ _ ih1 ih2 z=>by
      rw [ZCe,Bool.and_eq_true] at z
      exact .cons (ih1 z.1) (ih2 z.2))
    r hn
theorem Reps.sub {F:Hp} {as:List Addr} (h:∀ a∈as,∀ vs,F a≠some (.tup vs)):∀ {vs:List V} {ps:List PV},Reps F vs ps→ZCe ps=true→Reps (ZBb F as) vs ps
  | _,_,.nil,_=>.nil
  | _,_,.cons r t,z=>by
    rw [ZCe,Bool.and_eq_true] at z
    exact .cons (r.sub h z.1) (t.sub h z.2)
section
variable {E:Ent0} {ss:List Slot} {σ:L2.St} {F H F' H':Hp}
end
section
variable [Xw]
variable {ss:List Slot} {K:PySem.W.Frag} {ta tb tc te ti:TE} {tr:TA} {nx:List Slot→Prop} {R:Ret} {k:PV→Prop} {xs ps:List PV} {i j:Nat} {t:OV} {lt:Bool} {pre:Pre}
end
end Fz
set_option Elab.async false
set_option linter.all false
set_option maxRecDepth 100000
set_option maxHeartbeats 4000000
namespace Fz
open PySem PySem.Spec PyProof.Rows L2 Lw
section
variable [Xw]
variable {ss:List Slot} {K:PySem.W.Frag} {ta tb tc te ti:TE} {tr:TA} {nx:List Slot→Prop} {R:Ret} {k:PV→Prop} {xs ps:List PV} {i j:Nat} {t:OV} {lt:Bool} {pre:Pre}
end
theorem ZCp:∀ {xs:List PV},(∀ x∈xs,eqP x x=true)→ZBx xs xs=true
  | [],_=>by rw [ZBx]
  | x :: r,h=>by rw [ZCq,h x (by simp),ZCp (xs:=r) fun y hy=>h y (by simp [hy])];rfl
theorem eqP_refl {K:PySem.W.Frag}:∀ (d:Nat) {p:PV},dat K d p→eqP p p=true:=by
  intro d
  induction d with
  | zero=>intro p h;cases p <;> first | exact h.elim | (rw [eqP] <;> simp)
  | succ d ih=>
    intro p h
    cases p with
    | lst xs=>rw [eqP];exact ZCp fun x hx=>ih (h x hx)
    | tup xs=>rw [eqP];exact ZCp fun x hx=>ih (h x hx)
    | con a xs=>rw [eqP];exact ZCp fun x hx=>ih (h.1 x hx)
    | _=>first | exact h.elim | (rw [eqP] <;> simp)
theorem ZDD:∀ (xs:List PV),OV.pvL (xs.map .fz)=xs
  | []=>by rw [List.map_nil,OV.pvL]
  | x :: r=>by rw [List.map_cons,OV.pvL,OV.pv,ZDD r]
theorem pv_lst (a:Addr) (xs:List PV):(OV.nd .lst a (xs.map .fz)).pv=.lst xs:=by rw [OV.pv,ZDD]
end Fz
set_option Elab.async false
set_option linter.all false
set_option maxRecDepth 100000
set_option maxHeartbeats 4000000
namespace L2
open PySem PySem.Spec PyProof.Rows
section
variable {M:Model} {A:Around} {E:Value→Shared→Prop} {s:Shared} {base:Heap} {env:Env} {outer:List Env} {L ea:Addr} {C:Value} {dx tb:Option Addr} {Q:Unit→Shared→Prop}
end
end L2
set_option Elab.async false
set_option linter.all false
set_option maxRecDepth 100000
set_option maxHeartbeats 4000000
namespace L2
open PySem PySem.Spec PyProof.Rows
section
variable {P:Program} {w:World} {K:PySem.W.Frag} {mg:Str→Option Value} {base:Heap} {N:List Str} {qual:Str} {scope:Scope} {f:Addr} {cd:Value} {A:Around} {outer:List Env} {s:Shared} {H:Hp} {E:XK}
end
section
variable {X:Cx} {P:Program} {w:World}
end
end L2
set_option Elab.async false
set_option linter.all false
set_option maxRecDepth 100000
set_option maxHeartbeats 4000000
namespace L2
open PySem PySem.Spec PyProof.Rows
section
variable {X:Cx} {x:Str} {C:Addr} {E':St→XK} {np cpos pos:Pos} {e0:Expr} {es:List Expr} {t:TA} {E:XK}
end
end L2
set_option Elab.async false
set_option linter.all false
set_option maxRecDepth 100000
set_option maxHeartbeats 4000000
namespace L2
open PySem PySem.Spec PyProof.Rows
section
variable {M:Model} {A:Around} {E:Value→Shared→Prop} {env:Env}
variable {nm qn:Str} {C N:Addr} {bs bm:List Value} {hdct:Bool} {sn:List Str} {sub:List Value} {ab:Bool} {col:Option Bool} {dd:Option Addr} {k0 k1 k2 k3 k5:Option Value} {newId:String}
end
section
variable {prog:Program} {w:World} {A:Around} {E:Value→Shared→Prop} {h:Heap} {g:Array GenState} {d:Drawn} {t:Nat} {os:OsState}
variable {nm qn:Str} {C N:Addr} {bs bm bmB:List Value} {hdct:Bool} {sn:List Str} {sub:List Value} {ab:Bool} {col:Option Bool} {dd:Option Addr} {k0 k1 k2 k3 k5:Option Value} {B newId initId:String}
end
end L2
set_option Elab.async false
set_option linter.all false
set_option maxRecDepth 100000
set_option maxHeartbeats 4000000
namespace L2
open PySem PySem.Spec PyProof.Rows
section
variable {prog:Program} {w:World} {A:Around} {E:Value→Shared→Prop} {s:Shared} {K:PySem.W.Frag} {x C t:Addr} {name:Str} {v:Value}
section
open PySem.Builtin PySem.Builtin.ObjectAttr
end
end
end L2
namespace L2
open PySem PySem.Spec PyProof.Rows
section
variable {X:Cx} {pins:List (Addr×Obj)} {σ:St} {H:Hp} {s:Shared}
end
end L2
set_option Elab.async false
set_option linter.all false
set_option maxRecDepth 100000
set_option maxHeartbeats 4000000
namespace L2
open PySem PySem.Spec PyProof.Rows
section
variable {X:Cx} {e:Expr} {te:TE} {pos p1 p2 p3:Pos} {k1 k2:Nat} {c1 c2:Str}
end
end L2
set_option Elab.async false
set_option linter.all false
set_option maxRecDepth 100000
set_option maxHeartbeats 4000000
namespace L2
open PySem PySem.Spec PyProof.Rows
section
variable {X:Cx} {S C fI:Addr} {fld:Str} {ini:Option Value}
end
end L2
set_option Elab.async false
set_option linter.all false
set_option maxRecDepth 100000
set_option maxHeartbeats 4000000
namespace L2
open PySem PySem.Spec PyProof.Rows
section
variable {X:Cx} {pins:List (Addr×Obj)} {σ:St} {H:Hp} {s:Shared}
end
section
variable {X:Cx} {x:Str} {C fI:Addr} {fld par:Str} {E':St→XK} {np cpos pos:Pos} {e0:Expr} {t:TA} {kk:Nat} {fd:FuncData}
end
end L2
set_option Elab.async false
set_option linter.all false
set_option maxRecDepth 100000
set_option maxHeartbeats 4000000
namespace L2
open PySem PySem.Spec PyProof.Rows
section
variable {X:Cx} {pins:List (Addr×Obj)} {σ:St} {H:Hp} {s:Shared} {ea:Addr} {C:Value} {dx tb:Option Addr}
end
end L2
set_option Elab.async false
set_option linter.all false
set_option maxRecDepth 100000
set_option maxHeartbeats 4000000
namespace L2
open PySem PySem.Spec PyProof.Rows
section
variable {X:Cx} {pins:List (Addr×Obj)} {σ:St} {H:Hp} {s:Shared} {ea C:Addr} {dx tb:Option Addr}
end
end L2
set_option Elab.async false
set_option linter.all false
set_option maxRecDepth 100000
set_option maxHeartbeats 4000000
namespace L2
open PySem PySem.Spec PyProof.Rows
section
variable {X:Cx} {pins pins2:List (Addr×Obj)} {σ:St} {H:Hp} {s:Shared} {ea C:Addr} {dx tb:Option Addr} {xe:Value→Shared→Prop} {e:Value}
end
def Ends.drop (D:Ends) (j:Nat):Ends:=⟨fun σ H=>D.nx (σ.set j none) H,D.rt,fun σ H=>D.bk (σ.set j none) H,fun σ H=>D.ct (σ.set j none) H⟩
section
variable {X:Cx} {x n:Str} {S:Addr} {j:Nat} {body suite:List Stmt} {b0:Stmt} {np hpos pos:Pos} {tbd:(St→XK)→TS} {th:TS}
end
end L2
set_option Elab.async false
set_option linter.all false
set_option maxRecDepth 100000
set_option maxHeartbeats 4000000
namespace L2
open PySem PySem.Spec PyProof.Rows
section
variable {P:Program} {w:World} {K:PySem.W.Frag} {mg:Str→Option Value} {base:Heap} {x qual:Str} {k:Nat} {ps:List Str} {sp:Sp} {st:Stmt} {f:Addr} {fd:FuncData}
end
section
variable {X:Cx} {x:Str} {j k:Nat} {ps:List Str} {sp:Sp} {p pos:Pos} {e:Expr} {es:List Expr} {t:TA} {E:St→XK}
end
section
variable {P:Program} {w:World} {K:PySem.W.Frag} {mg:Str→Option Value} {base:Heap} {N:List Str} {qual:Str} {scope:Scope} {f:Addr} {cd:Value} {A:Around} {outer:List Env} {s:Shared} {H:Hp} {E:XK}
end
section
variable {X:Cx} {x n:Str} {S C fI:Addr} {i j k kk:Nat} {ps:List Str} {sp:Sp} {p np cpos hpos pos:Pos} {e e0:Expr} {es:List Expr} {t:TA} {E:St→XK} {body suite:List Stmt} {b0:Stmt} {tbd:(St→XK)→TS} {th:TS} {fd:FuncData} {fld par:Str}
end
end L2
set_option Elab.async false
set_option linter.all false
set_option maxRecDepth 100000
set_option maxHeartbeats 4000000
namespace L2
open PySem PySem.Spec PyProof.Rows
section
variable {prog:Program} {w:World} {A:Around} {E:Value→Shared→Prop} {s:Shared} {K:PySem.W.Frag} {x C:Addr} {ox:Obj} {od:Option Obj} {name:Str} {fill expr:Bool} {tk:Tok}
end
end L2
set_option Elab.async false
set_option linter.all false
set_option maxRecDepth 100000
set_option maxHeartbeats 4000000
namespace L2
open PySem PySem.Spec PyProof.Rows
section
variable {X:Cx}
end
end L2
set_option Elab.async false
set_option linter.all false
set_option maxRecDepth 100000
set_option maxHeartbeats 4000000
namespace L2
open PySem PySem.Spec PyProof.Rows
section
variable {X:Cx} {e:Expr} {ta:TE} {f:Str} {pos:Pos}
end
end L2
set_option Elab.async false
set_option linter.all false
set_option maxRecDepth 100000
set_option maxHeartbeats 4000000
namespace L2
open PySem PySem.Spec PyProof.Rows
section
variable {X:Cx}
end
end L2
namespace Fz
open PySem PySem.Spec PyProof.Rows L2 Lw
theorem ZI9 (x:Int):∀ ns:List Int,inV (.int x) (ns.map V.int)=decide (x∈ns)
  | []=>by simp [inV]
  | n :: r=>by
    have ih:=ZI9 x r
    unfold inV at ih ⊢
    rw [List.map_cons,List.any_cons,ih]
    by_cases h:n=x
    · subst h;simp [eqV]
    · have h':¬ x=n:=fun e=>h e.symm
      simp [eqV,h,h']
theorem ZK8 (ns:List Int):(ns.map V.int).all ZBN=true:=by
  rw [List.all_eq_true];intro x hx
  obtain ⟨y,_,rfl⟩:=List.mem_map.mp hx;rfl
section
variable [Xw]
variable {E:Ent0} {ss:List Slot} {σ:L2.St} {F H F' H':Hp} {K:PySem.W.Frag} {ta tb tc te:TE} {k:PV→Prop} {v:V} {tp:Bool} {xs:List PV} {nx:List Slot→Prop} {R:Ret}
theorem wp_inI {neg:Bool} (h:Wp ss ta fun p=>∃ x,p=.int x∧Wq ss tb fun _ ys=>∃ ns:List Int,ys=ns.map PV.int∧k (.bl (if neg then !decide (x∈ns) else decide (x∈ns)))):Wp ss (tOp (rIn K neg) ta tb) k:=⟨fun E σ F H Q S q=>
  h.go E σ F H _ S fun v p F1 H1 m1 r1 ⟨x,e,h2⟩=>by
    subst e;cases r1
    exact h2.go E σ F1 H1 _ m1.st fun v2 tp ys F2 H2 m2 sv ⟨ns,e2,kk⟩=>by
      subst e2
      obtain ⟨l,vs,rfl,hl,r⟩:=sv.seq m2.st
      rw [r.ints] at hl
      refine ⟨l,_,rfl,(HOq.sq (K:=K) hl).or,rfl,ZK8 ns,?_⟩
      rw [ZI9]
      exact q _ _ F2 H2 (m1.trans m2) (.bl _) kk⟩
theorem wp_inI1 (h:Wp ss ta fun p=>∃ x,p=.int x∧Wq ss tb fun _ ys=>∃ ns:List Int,ys=ns.map PV.int∧k (.bl (!decide (x∈ns)))):Wp ss (tOp (rIn K true) ta tb) k:=wp_inI h
end
end Fz
set_option Elab.async false
set_option linter.all false
set_option maxRecDepth 100000
set_option maxHeartbeats 4000000
namespace Fz
open PySem PySem.Spec PyProof.Rows L2 Lw
theorem ins_perm {α:Type} (ms:List α) (x:α) (j:Nat):(ms.take j++x :: ms.drop j).Perm (x :: ms):=by
  have h:=List.perm_middle (a:=x) (l₁:=ms.take j) (l₂:=ms.drop j)
  rwa [List.take_append_drop] at h
theorem ZEF {ms:List Str} {x:Str} (j:Nat) (h:ms.Nodup) (hx:x∉ms):(ms.take j++x :: ms.drop j).Nodup:=(ins_perm ms x j).nodup_iff.mpr (List.nodup_cons.mpr ⟨hx,h⟩)
end Fz
set_option Elab.async false
set_option linter.all false
set_option maxRecDepth 100000
set_option maxHeartbeats 4000000
namespace Fz
open PySem PySem.Spec PyProof.Rows L2 Lw
def cC (cs ns:List Str):Nat:=(ns.filter fun x=>decide (x∈cs)).length
end Fz
set_option Elab.async false
set_option linter.all false
set_option maxRecDepth 100000
set_option maxHeartbeats 4000000
namespace Fz
open PySem PySem.Spec PyProof.Rows L2 Lw
section
variable [Xw]
variable {E:Ent0} {ss:List Slot} {σ:L2.St} {F H F' H':Hp} {K:PySem.W.Frag} {ta tb tc te:TE} {k:PV→Prop} {v:V} {tp:Bool} {xs:List PV} {nx:List Slot→Prop} {R:Ret}
end
def rv (n:Nat):Nat→Nat
  | 0=>0
  | i+1=>2 * rv n i+n / 2 ^ i % 2
end Fz
set_option Elab.async false
set_option linter.all false
set_option maxRecDepth 100000
set_option maxHeartbeats 4000000
namespace Fz
open PySem PySem.Spec PyProof.Rows L2 Lw
end Fz
set_option Elab.async false
set_option linter.all false
set_option maxRecDepth 100000
set_option maxHeartbeats 4000000
namespace Fz
open PySem PySem.Spec PyProof.Rows L2 Lw
section
variable [Xw]
variable {E:Ent0} {ss:List Slot} {σ:L2.St} {F H F1 F' H':Hp} {K:PySem.W.Frag} {js:List Nat} {ta tb tc te ti:TE} {nx:List Slot→Prop} {R:Ret} {k:PV→Prop} {xs:List PV}
theorem wn_rowNP {sp:Sp} {i:Nat} {ns:List Int} {k:List PV→Prop} (hsp:sp=spRow) (hi:ss[i]?=some (.raw (ZB9 K ns))) (h:Wp ss te fun x=>∃ m,x=.int m∧0≤m∧m≤1000∧Wp ss tb fun y=>∃ m2,y=.int m2∧1≤m2∧m2≤100∧∀ rs:List Str,(rs.length:Int)≤m2→(∀ x∈rs,Nm x)→rs.Nodup→k (rs.map PV.str)) :
    Wn ss (ZAo sp [] E0 (ZAA (ZAo (spPot K) [] E0 (ZAA (ZBi i) (ZAA te ZAa))) (ZAA tb ZAa))) k:=⟨fun E σ F H Q S q=>by
  subst hsp
  obtain ⟨v,e,⟨a,ev,hq⟩,st⟩:=S.ok i _ hi
  subst ev
  refine ⟨_,e,h.go E σ F H _ S fun v x F1 H1 m1 r ⟨m,em,m0,m1',hw⟩=>?_⟩
  subst em;cases r
  obtain ⟨v',e',hq1,_⟩:=m1.st.ok i _ hi
  rw [e] at e';cases e'
  obtain ⟨a',ea,hq'⟩:=ZBl K ns _ F1 H1 m1.st.fh hq1
  cases ea
  refine ⟨a,ns,m,rfl,hq',m0,m1',fun p H2 hp s pp=>?_⟩
  have m2:=m1.st.grow s
  refine hw.go E σ F1 H2 _ m2.st fun v2 y F3 H3 m3 r3 ⟨mm,emm,mm0,mm1,kk⟩=>?_
  subst emm;cases r3
  have pslot:∀ (j:Nat) s,ss[j]?=some s→¬ ZBR s σ[j]? p:=fun j s hj=>m1.st.newAddr hj hp
  have np:ZCW ss σ p:=fun j hj=>pslot j _ hj
  have pp3:Pot H3 p:=Pot.keep pp fun o eo=>m3.hh p o np eo
  have fp3:F3 p=Option.none:=by
    cases z:F3 p with
    | none=>rfl
    | some o=>
      obtain ⟨_,_,w,_⟩:=pp
      rcases m3.nn p o z with z | z
      · rw [m1.st.newF hp] at z;cases z
      · rw [w] at z;cases z
  refine ⟨p,mm,rfl,pp3,mm0,mm1,fun l H4 rs hl s4 hl2 hz hN nd=>?_⟩
  have m13:=m1.trans (m2.trans m3)
  have m14:Mv E ss σ F H F3 H4:=by
    refine S.step m13.ff (fun b o z=>s4.same b o (ZAT z fp3) (m13.st.fh b o z)) (fun b o n z=>s4.same b o (fun w=>?_) (m13.hh b o n z)) m13.nn fun j l' hj ej=>?_
    · subst w;rw [m1.none hp] at z;cases z
    · exact Pot.keep (m13.st.potAt hj ej) fun o z=>s4.same l' o (fun w=>pslot j _ hj (w▸ej)) z
  exact q l _ _ F3 H4 m14 (m13.st.newF hl) (m13.none hl) hl2 (ZB6 rs) (kk rs hz hN nd)⟩
theorem wp_name {i:Nat} (hi:ss[i]?=some .pot) (h:Wq ss ta fun tp xs=>tp=false∧∃ ns:List Str,xs=ns.map PV.str∧(∀ x∈ns,Nm x)∧ns.length≤1000∧∀ x:Str,Nm x→x∉ns→k (.str x)) :
    Wp ss (ZAo (ZH4 K) [] E0 (ZAA (ZBi i) (ZAA ta ZAa))) k:=⟨fun E σ F H Q S q=>by
  obtain ⟨p,e,_⟩:=S.ok i _ hi
  refine ⟨_,e,h.go E σ F H _ S fun v tp xs F1 H1 m1 sv ⟨et,ns,ex,hN,hz,kk⟩=>?_⟩
  subst et;subst ex
  obtain ⟨l,vs,ev,hn,hl,r⟩:=sv
  subst ev
  rw [r.strs] at hl
  exact ⟨p,l,ns,rfl,m1.st.potAt hi e,SqL.of hl,fun z=>hn i hi (z▸e),hN,hz,fun x H3 hx hx2 s=>q _ _ F1 H3 (m1.trans (m1.st.pstep hi e s)) (.str x) (kk x hx hx2)⟩⟩
def optP:Option Str→PV
  | none=>.non
  | some x=>.str x
theorem ZIN (ns:List Str) (r:Str) (g:Nat) (cs:List Str):ZDl ns r g cs=.tup [optP (stO ns g cs),ZAu r (stG ns g cs) (stS ns g cs)]:=by
  unfold ZDl stG stS stO
  cases ZAp ns g cs with
  | nil=>rfl
  | cons x t=>rfl
end
end Fz
set_option Elab.async false
set_option linter.all false
set_option maxRecDepth 100000
set_option maxHeartbeats 4000000
namespace L2
open PySem PySem.Spec PyProof.Rows
section
variable {X:Cx}
end
end L2
namespace Fz
open PySem PySem.Spec PyProof.Rows L2 Lw
section
variable [Xw]
variable {E:Ent0} {ss:List Slot} {σ:L2.St} {F H F' H':Hp} {K:PySem.W.Frag} {ta tb tc te:TE} {k:PV→Prop} {v:V} {tp:Bool} {xs:List PV} {nx:List Slot→Prop} {R:Ret}
end
end Fz
namespace Fz
open PySem PySem.Spec PyProof.Rows L2 Lw
end Fz
set_option Elab.async false
set_option linter.all false
set_option maxRecDepth 100000
set_option maxHeartbeats 4000000
namespace Fz
open PySem PySem.Spec PyProof.Rows L2 Lw
@[reducible] def xwOf (X:XK) (D:Ex→Prop):Xw:=⟨fun _=>X,fun _=>True,D⟩
@[reducible] def xwT (E:Ent0) (J:List Slot→Prop) (D:Ex→Prop):Xw:=⟨fun σ C dx H=>∃ ss F x,J ss∧Sg E ss σ F H∧D x∧x.at F C dx,J,D⟩
section
variable [Xw]
variable {E:Ent0} {ss:List Slot} {σ:L2.St} {F H F' H':Hp} {pre:PreX} {t:TA} {te:TE} {k:PV→Prop} {nx:List Slot→Prop} {R:Ret} {K:PySem.W.Frag} {C S:Addr} {fld:Str}
end
section
variable {pre:PreX} {H:Hp}
end
end Fz
set_option Elab.async false
set_option linter.all false
set_option maxRecDepth 100000
set_option maxHeartbeats 4000000
namespace Fz
open PySem PySem.Spec PyProof.Rows L2 Lw
section
variable {E:Ent0} {ss:List Slot} {σ:L2.St} {F H F' H':Hp}
end
section
variable [Xw]
variable {ss:List Slot} {nx:List Slot→Prop} {R:Ret} {K:PySem.W.Frag} {S:Addr} {j:Nat} {tb:(L2.St→XK)→TS} {th:TS}
end
end Fz
set_option Elab.async false
set_option linter.all false
set_option maxRecDepth 100000
set_option maxHeartbeats 4000000
namespace Fz
open PySem PySem.Spec PyProof.Rows L2 Lw
section
variable [Xw]
variable {E:Ent0} {ss:List Slot} {σ:L2.St} {F H F' H':Hp} {K:PySem.W.Frag} {te:TE} {k:PV→Prop} {v:V} {fld:Str}
end
end Fz
set_option Elab.async false
set_option linter.all false
set_option maxRecDepth 100000
set_option maxHeartbeats 4000000
namespace L2
open PySem PySem.Spec PyProof.Rows
section
variable {X:Cx} {x:Str} {C:Addr} {fld:Str} {E:St→XK} {np cpos pos:Pos} {e0:Expr} {t:TA} {j:Nat}
end
end L2
set_option Elab.async false
set_option linter.all false
set_option maxRecDepth 100000
set_option maxHeartbeats 4000000
namespace Fz
open PySem PySem.Spec PyProof.Rows L2 Lw
theorem pick4 {r:Int} (h0:0≤r) (h1:r < 4):∃ v:Int,L2.atI [PV.int 12,.int 12,.int 12,.int 40] r=some (.int v)∧1≤v∧v≤40:=by
  have:r=0∨r=1∨r=2∨r=3:=by omega
  rcases this with rfl | rfl | rfl | rfl
  · exact ⟨12,rfl,by decide,by decide⟩
  · exact ⟨12,rfl,by decide,by decide⟩
  · exact ⟨12,rfl,by decide,by decide⟩
  · exact ⟨40,rfl,by decide,by decide⟩
end Fz
set_option Elab.async false
set_option linter.all false
set_option maxRecDepth 100000
set_option maxHeartbeats 4000000
namespace Fz
open PySem PySem.Spec PyProof.Rows L2 Lw
section
variable [Xw]
variable {ss:List Slot} {K:PySem.W.Frag} {ta:TE} {k:PV→Prop} {a:Addr} {ns:List Str}
end
end Fz
set_option Elab.async false
set_option linter.all false
set_option maxRecDepth 100000
set_option maxHeartbeats 4000000
namespace Fz
open PySem PySem.Spec PyProof.Rows L2 Lw
end Fz
set_option Elab.async false
set_option linter.all false
set_option maxRecDepth 100000
set_option maxHeartbeats 4000000
namespace Fz
open PySem PySem.Spec PyProof.Rows L2 Lw
def isNon:PV→Bool
  | .non=>true
  | _=>false
theorem Rep.isNon {F:Hp} {v:V} {p:PV} (r:Rep F v p):decide (v=.non)=isNon p:=by
  cases r <;> rfl
section
variable [Xw]
variable {ss:List Slot} {ta tb:TE} {k:PV→Prop}
theorem ZH5 (h:Wp ss ta fun p=>Wp ss tb fun q=>q=.non∧k (.bl (isNon p))):Wp ss (tOp (fun x y H Q=>y=.non∧Q (.bl (decide (x=.non))) H) ta tb) k:=⟨fun E σ F H Q S q=>
  h.go E σ F H _ S fun v p F1 H1 m1 r1 h2=>h2.go E σ F1 H1 _ m1.st fun v2 p2 F2 H2 m2 r2 ⟨e,kk⟩=>by
    subst e;cases r2
    refine ⟨rfl,?_⟩
    rw [r1.isNon]
    exact q _ _ F2 H2 (m1.trans m2) (.bl _) kk⟩
theorem ZIG (h:Wp ss ta fun p=>Wp ss tb fun q=>q=.non∧k (.bl (!isNon p))):Wp ss (tOp (fun x y H Q=>y=.non∧Q (.bl (!decide (x=.non))) H) ta tb) k:=⟨fun E σ F H Q S q=>
  h.go E σ F H _ S fun v p F1 H1 m1 r1 h2=>h2.go E σ F1 H1 _ m1.st fun v2 p2 F2 H2 m2 r2 ⟨e,kk⟩=>by
    subst e;cases r2
    refine ⟨rfl,?_⟩
    rw [r1.isNon]
    exact q _ _ F2 H2 (m1.trans m2) (.bl _) kk⟩
end
end Fz
set_option Elab.async false
set_option linter.all false
set_option maxRecDepth 100000
set_option maxHeartbeats 4000000
namespace Fz
open PySem PySem.Spec PyProof.Rows L2 Lw
section
variable [Xw]
variable {ss:List Slot} {K:PySem.W.Frag} {ta tb te t u:TE} {k:PV→Prop} {pre:PreX} {tA:TA}
end
end Fz
set_option Elab.async false
set_option linter.all false
set_option maxRecDepth 100000
set_option maxHeartbeats 4000000
namespace Fz
open PySem PySem.Spec PyProof.Rows L2 Lw
section
variable [Xw]
variable {ss:List Slot} {K:PySem.W.Frag} {ta tb:TE}
theorem Sg.lend1 {E:Ent0} {σ:L2.St} {F H:Hp} {i:Nat} {xs:List PV} (S:Sg E ss σ F H) (hi:ss[i]?=some (.own xs)):∃ (l:Addr) (vs:List V),H l=some (.lst vs)∧F l=none∧Sg E (ss.set i (.is (.lst xs))) σ (ZBw F H [l]) H∧Same F (ZBw F H [l])∧
    ∀ F' H',Mv E (ss.set i (.is (.lst xs))) σ (ZBw F H [l]) H F' H'→Mv E ss σ F H (ZBb F' [l]) H'∧∀ a∈[l],∀ ws,F' a≠some (.tup ws):=by
  obtain ⟨l,vs,e,e1,e2,e3,r⟩:=S.ok i _ hi
  have one:∀ a,a∈[l]→a=l:=fun a h=>by simpa using h
  obtain ⟨S1,nf⟩:=(S.drop i).lay [l] (fun a h=>by rw [one a h,e3];exact ⟨e1,e2,by simp⟩) fun a h j s hj m=>by
    rw [one a h] at m
    by_cases q:j=i
    · subst q
      rw [List.getElem?_set_self (List.getElem?_eq_some_iff.mp hi).1] at hj
      cases hj;cases m
    · rw [List.getElem?_set_ne (Ne.symm q)] at hj
      exact S.dis j i s _ l q hj hi m e
  have S2:=S1.setIs (j:=i) (v:=.ref l) (p:=.lst xs) (.lst (by unfold ZBw;rw [if_pos (by simp)];exact e3) (r.mono nf))
  rw [ZCI e,List.set_set] at S2
  refine ⟨l,vs,e3,e1,S2,nf,fun F' H' m=>?_⟩
  have fl:F' l=some (.lst vs):=m.ff l _ (by unfold ZBw;rw [if_pos (by simp)];exact e3)
  have np:∀ a,ZCW ss σ a→ZCW (ss.set i (.is (.lst xs))) σ a:=fun a n j hj=>by
    by_cases q:j=i
    · subst q
      rw [List.getElem?_set_self (List.getElem?_eq_some_iff.mp hi).1] at hj;cases hj
    · rw [List.getElem?_set_ne (Ne.symm q)] at hj;exact n j hj
  refine ⟨S.step (fun a o ea=>?_) (fun a o ea=>?_) (fun a o n ea=>m.hh a o (np a n) ea) (fun a o ea=>?_) (fun j l' hj ej=>?_),fun a ha ws q=>?_⟩
  · unfold ZBb
    rw [if_neg (fun q=>by rw [one a q,e1] at ea;cases ea)]
    exact m.ff a o (nf a o ea)
  · unfold ZBb at ea
    split at ea
    · cases ea
    · exact m.st.fh a o ea
  · unfold ZBb at ea
    split at ea
    · cases ea
    · rename_i q
      rcases m.nn a o ea with z | z
      · unfold ZBw at z
        rw [if_neg q] at z;exact .inl z
      · exact .inr z
  · refine m.st.potAt (i:=j) ?_ ej
    rw [List.getElem?_set_ne (fun q=>by subst q;rw [hi] at hj;cases hj)];exact hj
  · rw [one a ha,fl] at q;cases q
theorem wn_lend {te:TE} {k:List PV→Prop} {xs:List PV} (i:Nat) (hi:ss[i]?=some (.own xs)) (h:Wn (ss.set i (.is (.lst xs))) te fun ys=>ZCe ys=true∧k ys):Wn ss te k:=⟨fun E σ F H Q S q=>by
  obtain ⟨l,vs,e3,e1,S2,nf,back⟩:=S.lend1 hi
  refine h.go E σ _ H Q S2 fun l2 vs2 ys F' H' m f2 h2 h2' rp ⟨hn,kk⟩=>?_
  obtain ⟨M,ht⟩:=back F' H' m
  exact q l2 vs2 ys _ H' M (by unfold ZBb;split <;> first | rfl | exact f2) h2 h2' (rp.sub ht hn) kk⟩
theorem ZCD:∀ (ms:List Int),ZCe (ms.map .int)=true
  | []=>by rw [List.map_nil,ZCe]
  | m :: r=>by rw [List.map_cons,ZCe,ZCD r];simp [nol]
end
end Fz
set_option Elab.async false
set_option linter.all false
set_option maxRecDepth 100000
set_option maxHeartbeats 4000000
namespace Fz
open PySem PySem.Spec PyProof.Rows L2 Lw
def spM (pre:Pre):Sp:=fun vs H Q _=>∃ (ss:List Slot) (R:Ret) (F:Hp) (A B:List Addr),pre ss R∧Sg ⟨A,F,H,B⟩ ss (vs.map some) F H∧∀ v F' H',Fin ⟨A,F,H,B⟩ F' H'→R.ok ⟨A,F,H,B⟩ F' H' v→Q v H'
inductive Iss (F:Hp):List V→List Slot→Prop where
  | nil:Iss F [] []
  | cons {v:V} {p:PV} {vs:List V} {l:List Slot}:Rep F v p→Iss F vs l→Iss F (v :: vs) (.is p :: l)
inductive Lent (σ:L2.St) (F:Hp) (i:Nat) (t:OV):List V→List Slot→Prop where
  | here {v:V} {vs:List V} {l:List Slot}:σ[i]?=some (some v)→Iss F vs l→Lent σ F i t (v :: vs) (.ow true t :: l)
  | there {v:V} {p:PV} {vs:List V} {l:List Slot}:Rep F v p→Lent σ F i t vs l→Lent σ F i t (v :: vs) (.is p :: l)
theorem Iss.mono {F F':Hp} (s:Same F F'):∀ {vs:List V} {l:List Slot},Iss F vs l→Iss F' vs l
  | _,_,.nil=>.nil
  | _,_,.cons r t=>.cons (r.mono s) (t.mono s)
theorem Lent.mono {σ:L2.St} {i:Nat} {t:OV} {F F':Hp} (s:Same F F'):∀ {vs:List V} {l:List Slot},Lent σ F i t vs l→Lent σ F' i t vs l
  | _,_,.here e r=>.here e (r.mono s)
  | _,_,.there r h=>.there (r.mono s) (h.mono s)
theorem Iss.len {F:Hp}:∀ {vs:List V} {l:List Slot},Iss F vs l→l.length=vs.length
  | _,_,.nil=>rfl
  | _,_,.cons _ t=>by rw [List.length_cons,List.length_cons,t.len]
theorem Lent.len {σ:L2.St} {i:Nat} {t:OV} {F:Hp}:∀ {vs:List V} {l:List Slot},Lent σ F i t vs l→l.length=vs.length
  | _,_,.here _ r=>by rw [List.length_cons,List.length_cons,r.len]
  | _,_,.there _ h=>by rw [List.length_cons,List.length_cons,h.len]
theorem Iss.at {F:Hp}:∀ {vs:List V} {l:List Slot},Iss F vs l→∀ {n:Nat} {s:Slot},l[n]?=some s→∃ v p,vs[n]?=some v∧s=.is p∧Rep F v p
  | _,_,.nil,_,_,e=>by simp at e
  | _,_,.cons r _,0,_,e=>by simp at e;subst e;exact ⟨_,_,rfl,rfl,r⟩
  | _,_,.cons _ t,n+1,s,e=>by
    obtain ⟨v,p,h⟩:=t.at (n:=n) (s:=s) (by simpa using e)
    exact ⟨v,p,by simpa using h⟩
theorem Lent.at {σ:L2.St} {i:Nat} {t:OV} {F:Hp}:∀ {vs:List V} {l:List Slot},Lent σ F i t vs l→∃ m:Nat,∀ {n:Nat} {s:Slot},l[n]?=some s→(n=m∧s=.ow true t∧∃ v,vs[n]?=some v∧σ[i]?=some (some v))∨∃ v p,vs[n]?=some v∧s=.is p∧Rep F v p
  | _,_,.here e r=>⟨0,fun {n s} h=>by
    cases n with
    | zero=>simp at h;subst h;exact .inl ⟨rfl,rfl,_,rfl,e⟩
    | succ n=>
      obtain ⟨v,p,q⟩:=r.at (n:=n) (s:=s) (by simpa using h)
      exact .inr ⟨v,p,by simpa using q⟩⟩
  | _,_,.there r h=>by
    obtain ⟨m,hm⟩:=h.at
    refine ⟨m+1,fun {n s} q=>?_⟩
    cases n with
    | zero=>simp at q;subst q;exact .inr ⟨_,_,rfl,rfl,r⟩
    | succ n=>
      rcases hm (n:=n) (s:=s) (by simpa using q) with ⟨e,es,v,hv⟩ | ⟨v,p,hv⟩
      · exact .inl ⟨by rw [e],es,v,by simpa using hv⟩
      · exact .inr ⟨v,p,by simpa using hv⟩
structure MvM (E:Ent0) (ss:List Slot) (σ:L2.St) (i:Nat) (lt:Bool) (t t':OV) (F H F' H':Hp):Prop where
  st:Sg E (ss.set i (.ow lt t')) σ F' H'
  ff:Same F F'
  hh:∀ a o,ZCW ss σ a→a∉t.addrs→H a=some o→H' a=some o
  nn:∀ a o,F' a=some o→F a=some o∨H a=none
structure WaI [Xw] (ss:List Slot) (ta:TA) (k:List Slot→Prop):Prop where
  go:∀ (E:Ent) (σ:L2.St) (F H:Hp) (Q:List V→Hp→Prop),Sg E ss σ F H→(∀ vs l F' H',Mv E ss σ F H F' H'→Iss F' vs l→k l→Q vs H')→ta σ H Q
structure WaM [Xw] (ss:List Slot) (i:Nat) (t:OV) (ta:TA) (k:List Slot→Prop):Prop where
  go:∀ (E:Ent) (σ:L2.St) (F H:Hp) (Q:List V→Hp→Prop),Sg E ss σ F H→(∀ vs l F' H',Mv E ss σ F H F' H'→Lent σ F' i t vs l→k l→Q vs H')→ta σ H Q
structure Wm [Xw] (ss:List Slot) (i:Nat) (lt:Bool) (t:OV) (te:TE) (k:PV→OV→Prop):Prop where
  go:∀ (E:Ent) (σ:L2.St) (F H:Hp) (Q:VK),Sg E ss σ F H→(∀ v p t' F' H',MvM E ss σ i lt t t' F H F' H'→Rep F' v p→k p t'→Q v H')→te σ H Q
structure WtM [Xw] (ss:List Slot) (i:Nat) (lt:Bool) (t:OV) (c:TT) (k:Bool→OV→Prop):Prop where
  go:∀ (E:Ent) (σ:L2.St) (F H:Hp) (Q:Bool→Hp→Prop),Sg E ss σ F H→(∀ b t' F' H',MvM E ss σ i lt t t' F H F' H'→k b t'→Q b H')→c σ H Q
section
variable {E:Ent0} {ss:List Slot} {σ:L2.St} {F H F' H':Hp}
theorem MvM.of {i:Nat} {lt:Bool} {t:OV} (hi:ss[i]?=some (.ow lt t)) (m:Mv E ss σ F H F' H'):MvM E ss σ i lt t t F H F' H':=⟨by
  rw [show ss.set i (.ow lt t)=ss from by
    apply List.ext_getElem?
    intro n
    by_cases q:i=n
    · subst q;rw [List.getElem?_set_self (List.getElem?_eq_some_iff.mp hi).1,hi]
    · rw [List.getElem?_set_ne q]]
  exact m.st,m.ff,fun a o n _ e=>m.hh a o n e,m.nn⟩
theorem Sg.callM {i:Nat} {lt:Bool} {t:OV} (S:Sg E ss σ F H) (hi:ss[i]?=some (.ow lt t)) {vs:List V} {l:List Slot} (a:Lent σ F i t vs l):Sg ⟨[],F,H,t.addrs⟩ l (vs.map some) F H:=by
  obtain ⟨v0,e0,r0,nd0,q0⟩:=S.ok i _ hi
  have nn:∀ {p:Prop} (a:Addr),a∈([]:List Addr)→p:=fun a h=>absurd h List.not_mem_nil
  obtain ⟨m,hm⟩:=a.at
  refine ⟨⟨S.fh,Same.refl _,fun _ _ _ e=>e,fun _ _ e=>.inl e,fun a h=>nn a h,fun a h=>nn a h,fun a h=>nn a h,fun a h=>(q0 a h).1,fun a h=>r0.there a h,fun a h=>⟨r0.there a h,List.not_mem_nil⟩⟩,by rw [List.length_map];exact a.len,fun n s hn=>?_,fun n j s u b hnj hn hj ms mu=>?_⟩
  · rcases hm hn with ⟨_,rfl,v,hv,ev⟩ | ⟨v,p,hv,rfl,r⟩
    · rw [List.getElem?_map,hv]
      rw [e0] at ev;cases ev
      exact ⟨v0,rfl,r0,nd0,fun a ha=>⟨(q0 a ha).1,.inr ⟨rfl,ha⟩⟩⟩
    · rw [List.getElem?_map,hv]
      exact ⟨v,rfl,r⟩
  · rcases hm hn with ⟨e1,rfl,_⟩ | ⟨_,_,_,rfl,_⟩
    · rcases hm hj with ⟨e2,rfl,_⟩ | ⟨_,_,_,rfl,_⟩
      · exact hnj (e1.trans e2.symm)
      · cases mu
    · cases ms
theorem Sg.backM {i:Nat} {lt:Bool} {nk nk':NK} {a0:Addr} {us us':List OV} (S:Sg E ss σ F H) (hi:ss[i]?=some (.ow lt (.nd nk a0 us))) (f:Fin ⟨[],F,H,(OV.nd nk a0 us).addrs⟩ F' H') (r:Orep F' H' (.ref a0) (.nd nk' a0 us')) (nd:(OV.nd nk' a0 us').addrs.Nodup) (q:∀ a∈(OV.nd nk' a0 us').addrs,F' a=none∧(H a=none∨a∈(OV.nd nk a0 us).addrs)) :
    MvM E ss σ i lt (.nd nk a0 us) (.nd nk' a0 us') F H F' H':=by
  obtain ⟨v0,e0,r0,nd0,q0⟩:=S.ok i _ hi
  have ev:v0=.ref a0:=by cases r0;rfl
  subst ev
  have hlt:i < ss.length:=(List.getElem?_eq_some_iff.mp hi).1
  have kp:∀ a o,a∉(OV.nd nk a0 us).addrs→H a=some o→H' a=some o:=fun a o n e=>f.keep a o ⟨List.not_mem_nil,n⟩ e
  have newF:∀ a,H a≠none→F a=none→F' a=none:=fun a h1 h2=>by
    cases e:F' a with
    | none=>rfl
    | some o=>
      rcases f.fresh a o e with z | z
      · rw [show F a=some o from z] at h2;cases h2
      · exact absurd z h1
  have notB:∀ a,a∈E.A→a∉(OV.nd nk a0 us).addrs:=fun a hA hm=>by
    rcases (q0 a hm).2 with z | ⟨_,z⟩
    · exact S.a0 a hA z
    · exact (S.b0 a z).2 hA
  have other:∀ (j:Nat) s,j≠i→ss[j]?=some s→∀ a,ZBR s σ[j]? a→a∉(OV.nd nk a0 us).addrs:=fun j s hj hs a ho hm=>S.dis j i s _ a hj hs hi ho hm
  refine ⟨⟨⟨f.fh,S.f0.trans f.f0,fun a o hA e=>?_,fun a o e=>?_,fun a hA=>?_,fun a hA=>?_,S.a0,fun a hB=>?_,fun a hB=>?_,S.b0⟩,by rw [List.length_set];exact S.len,fun j s hj=>?_,fun j k s u b hjk hj hk ms mu=>?_⟩,f.f0,fun a o _ n e=>kp a o n e,fun a o e=>f.fresh a o e⟩
  · refine kp a o (fun hm=>?_) (S.keep a o hA e)
    rcases (q0 a hm).2 with z | ⟨_,z⟩
    · rw [e] at z;cases z
    · exact hA.2 z
  · rcases f.fresh a o e with z | z
    · exact S.fresh a o z
    · exact .inr (S.new0 z)
  · exact Pot.keep (S.pots a hA) fun o e=>kp a o (notB a hA) e
  · obtain ⟨_,_,e1,_⟩:=S.pots a hA
    exact newF a (by rw [e1];simp) (S.potF a hA)
  · exact newF a (S.bH a hB) (S.bF a hB)
  · by_cases hm:a∈(OV.nd nk a0 us).addrs
    · exact f.bH a hm
    · intro z
      cases e:H a with
      | none=>exact S.bH a hB e
      | some o=>rw [kp a o hm e] at z;cases z
  · by_cases c:j=i
    · subst c
      rw [List.getElem?_set_self hlt] at hj
      cases hj
      refine ⟨.ref a0,e0,r,nd,fun a ha=>⟨(q a ha).1,?_⟩⟩
      rcases (q a ha).2 with z | z
      · exact .inl (S.new0 z)
      · exact (q0 a z).2
    · rw [List.getElem?_set_ne (Ne.symm c)] at hj
      by_cases np:s=.pot
      · subst np
        obtain ⟨l,e,fl,hl,pt⟩:=S.ok j _ hj
        obtain ⟨_,_,e1,_⟩:=id pt
        exact ⟨l,e,newF l (by rw [e1];simp) fl,hl,Pot.keep pt fun o z=>kp l o (other j _ c hj l e) z⟩
      · exact Ok.go S hj f.f0 (fun a o ho e=>kp a o (other j s c hj a ho) e) newF np
  · have at_:∀ (n:Nat) s,(ss.set i (.ow lt (.nd nk' a0 us')))[n]?=some s→(n=i∧s=.ow lt (.nd nk' a0 us'))∨(n≠i∧ss[n]?=some s):=fun n s hn=>by
      by_cases c:n=i
      · subst c;rw [List.getElem?_set_self hlt] at hn;exact .inl ⟨rfl,(Option.some.inj hn).symm⟩
      · rw [List.getElem?_set_ne (Ne.symm c)] at hn;exact .inr ⟨c,hn⟩
    have cross:∀ (n:Nat) s,n≠i→ss[n]?=some s→ZBR s σ[n]? b→b∉(OV.nd nk' a0 us').addrs:=fun n s hn hs ho hm=>by
      rcases (q b hm).2 with z | z
      · exact S.own_there hs ho z
      · exact other n s hn hs b ho z
    rcases at_ j s hj with ⟨e1,rfl⟩ | ⟨n1,h1⟩
    · rcases at_ k u hk with ⟨e2,rfl⟩ | ⟨n2,h2⟩
      · exact hjk (e1.trans e2.symm)
      · exact cross k u n2 h2 mu ms
    · rcases at_ k u hk with ⟨e2,rfl⟩ | ⟨n2,h2⟩
      · exact cross j s n1 h1 ms mu
      · exact S.dis j k s u b hjk h1 h2 ms mu
end
section
variable [Xw]
variable {ss:List Slot} {te:TE} {ta:TA} {i:Nat} {lt:Bool} {t:OV} {nx:List Slot→Prop} {R:Ret}
theorem ZHE {k:List Slot→Prop} (h:k []):WaI ss ZAa k:=⟨fun E σ F H Q S q=>q [] [] F H (Mv.refl S) .nil h⟩
theorem ZDe {k:List Slot→Prop} (h:Wp ss te fun p=>WaI ss ta fun l=>k (.is p :: l)):WaI ss (ZAA te ta) k:=⟨fun E σ F H Q S q=>
  h.go E σ F H _ S fun v p F1 H1 m1 r h2=>h2.go E σ F1 H1 _ m1.st fun vs l F2 H2 m2 a kk=>q _ _ F2 H2 (m1.trans m2) (.cons (r.mono m2.ff) a) kk⟩
theorem ZEo {k:List Slot→Prop} (hi:ss[i]?=some (.ow lt t)) (h:WaI ss ta fun l=>k (.ow true t :: l)):WaM ss i t (ZAA (ZBi i) ta) k:=⟨fun E σ F H Q S q=>by
  obtain ⟨v0,e0,_⟩:=S.ok i _ hi
  exact ⟨_,e0,h.go E σ F H _ S fun vs l F2 H2 m2 a kk=>q _ _ F2 H2 m2 (.here e0 a) kk⟩⟩
theorem ZCB {k:List Slot→Prop} (h:Wp ss te fun p=>WaM ss i t ta fun l=>k (.is p :: l)):WaM ss i t (ZAA te ta) k:=⟨fun E σ F H Q S q=>
  h.go E σ F H _ S fun v p F1 H1 m1 r h2=>h2.go E σ F1 H1 _ m1.st fun vs l F2 H2 m2 a kk=>q _ _ F2 H2 (m1.trans m2) (.there (r.mono m2.ff) a) kk⟩
theorem Mv.thenM {E:Ent0} {σ:L2.St} {F H F1 H1 F2 H2:Hp} {t':OV} (hi:ss[i]?=some (.ow lt t)) (a:Mv E ss σ F H F1 H1) (b:MvM E ss σ i lt t t' F1 H1 F2 H2):MvM E ss σ i lt t t' F H F2 H2:=
  ⟨b.st,a.ff.trans b.ff,fun c o n z e=>b.hh c o n z (a.hh c o n e),fun c o e=>(b.nn c o e).elim (fun e=>a.nn c o e) fun e=>.inr (a.none e)⟩
theorem ZHC {pre:Pre} {nk:NK} {a0:Addr} {us:List OV} {k:PV→OV→Prop} (hi:ss[i]?=some (.ow lt (.nd nk a0 us))) (h:WaM ss i (.nd nk a0 us) ta fun l=>∃ k',pre l (.mt k')∧∀ p t',k' p t'→∃ nk' us',t'=.nd nk' a0 us'∧k p t'):Wm ss i lt (.nd nk a0 us) (ZAo (spM pre) [] E0 ta) k:=⟨fun E σ F H Q S q=>
  h.go E σ F H _ S fun vs l F1 H1 m1 a ⟨k',hp,kk⟩=>by
    rw [List.append_nil]
    refine ⟨l,.mt k',F1,[],(OV.nd nk a0 us).addrs,hp,m1.st.callM hi a,fun v F' H' f ⟨p,t',r,ro,nd,qa,kp⟩=>?_⟩
    obtain ⟨nk',us',rfl,k2⟩:=kk p t' kp
    exact q v p _ F' H' (m1.thenM hi (m1.st.backM hi f ro nd qa)) r k2⟩
theorem wtm_b {k:Bool→OV→Prop} (h:Wm ss i lt t te fun p t'=>∃ c,p=.bl c∧k c t'):WtM ss i lt t (tB te) k:=⟨fun E σ F H Q S q=>
  h.go E σ F H _ S fun v p t' F1 H1 m1 r ⟨c,e,kk⟩=>by
    subst e;cases r
    exact ⟨c,rfl,q c t' F1 H1 m1 kk⟩⟩
theorem ZJu {c:TT} {k:Bool→OV→Prop} (h:WtM ss i lt t c fun b t'=>k (!b) t'):WtM ss i lt t (tNot c) k:=⟨fun E σ F H Q S q=>
  h.go E σ F H _ S fun b t' F1 H1 m1 kk=>q (!b) t' F1 H1 m1 kk⟩
theorem wtm_and {c d:TT} {k:Bool→OV→Prop} (hi:ss[i]?=some (.ow lt t)) (h:Wt ss c fun b=>if b=true then WtM ss i lt t d k else k false t):WtM ss i lt t (tAnd c d) k:=⟨fun E σ F H Q S q=>
  h.go E σ F H _ S fun b F1 H1 m1 kk=>by
    cases b with
    | true=>rw [if_pos rfl] at kk;exact kk.go E σ F1 H1 _ m1.st fun b t' F2 H2 m2 k2=>q b t' F2 H2 (m1.thenM hi m2) k2
    | false=>rw [if_neg (by decide)] at kk;exact q false t F1 H1 (MvM.of hi m1) kk⟩
theorem wtm_or {c d:TT} {k:Bool→OV→Prop} (hi:ss[i]?=some (.ow lt t)) (h:Wt ss c fun b=>if b=true then k true t else WtM ss i lt t d k):WtM ss i lt t (tOr c d) k:=⟨fun E σ F H Q S q=>
  h.go E σ F H _ S fun b F1 H1 m1 kk=>by
    cases b with
    | false=>rw [if_neg (by decide)] at kk;exact kk.go E σ F1 H1 _ m1.st fun b t' F2 H2 m2 k2=>q b t' F2 H2 (m1.thenM hi m2) k2
    | true=>rw [if_pos rfl] at kk;exact q true t F1 H1 (MvM.of hi m1) kk⟩
theorem ws_ifM {c:TT} {u v:TS} (h:WtM ss i lt t c fun b t'=>if b=true then Ws (ss.set i (.ow lt t')) u nx R else Ws (ss.set i (.ow lt t')) v nx R):Ws ss (tIfS c u v) nx R:=⟨fun E D σ F H S hn hr=>
  h.go E σ F H _ S fun b t' F1 H1 m1 kk=>by
    cases b with
    | true=>rw [if_pos rfl] at kk;exact kk.go E D σ F1 H1 m1.st (fun ss' σ' F' H' n S' s=>hn ss' σ' F' H' n S' (m1.ff.trans s)) hr
    | false=>rw [if_neg (by decide)] at kk;exact kk.go E D σ F1 H1 m1.st (fun ss' σ' F' H' n S' s=>hn ss' σ' F' H' n S' (m1.ff.trans s)) hr⟩
theorem ZJQ {nk:NK} {a0:Addr} {us:List OV} {k:PV→OV→Prop} (hi:ss[i]?=some (.ow lt (.nd nk a0 us))) (h:Wp ss te fun p=>k p (.nd nk a0 us)):Ws ss (tRet te) nx (.mt k):=⟨fun E D σ F H S hn hr=>
  h.go E σ F H _ S fun v p F1 H1 m1 r kk=>by
    obtain ⟨v0,e0,r0,nd0,q0⟩:=m1.st.ok i _ hi
    have ev:v0=.ref a0:=by cases r0;rfl
    subst ev
    exact hr v F1 H1 m1.st.toFin ⟨p,.nd nk a0 us,r,r0,nd0,fun a ha=>⟨(q0 a ha).1,(q0 a ha).2.imp id fun z=>z.2⟩,kk⟩⟩
end
section
variable {pre:Pre} {H:Hp}
theorem fn_runM {N:List Str} {n:Nat} {vs:List V} {Q:VK} {X:XK} {t:TS} (h:spM pre vs H Q X) (hl:∀ ss R,pre ss R→ss.length=n)
    (hw:∀ ss R,pre ss R→Ws (ss++List.replicate (N.length - n) .any) t (fun _=>False) R):t { nx:=fun _ H'=>Q .non H',rt:=Q } (L2.start N vs) H:=by
  obtain ⟨ss,R,F,A,B,hp,S,q⟩:=h
  have e:vs.length=n:=by have:=S.len;rw [List.length_map] at this;rw [← this];exact hl ss R hp
  unfold L2.start
  rw [e]
  exact (hw ss R hp).go (entN ⟨A,F,H,B⟩) _ _ F H (S.grown _) (fun ss' σ' F' H' z S' _=>z.elim) fun v F' H' f ok=>q v F' H' f ok
theorem spM_len {n:Nat} {vs:List V} {Q:VK} {X:XK} (hl:∀ ss R,pre ss R→ss.length=n) (h:spM pre vs H Q X):vs.length=n:=by
  obtain ⟨ss,R,F,A,B,hp,S,q⟩:=h
  have:=S.len
  rw [List.length_map] at this
  rw [← this];exact hl ss R hp
end
end Fz
set_option Elab.async false
set_option linter.all false
set_option maxRecDepth 100000
set_option maxHeartbeats 4000000
namespace Fz
open PySem PySem.Spec PyProof.Rows L2 Lw
section
variable {E:Ent0} {ss:List Slot} {σ:L2.St} {F H F' H':Hp} {j:Nat} {u:OV}
theorem Sg.lendV (S:Sg E ss σ F H) (hj:ss[j]?=some (.ow false u)):Sg E (ss.set j (.is u.pv)) σ (ZBw F H u.addrs) H∧Same F (ZBw F H u.addrs):=by
  obtain ⟨v,e,r,nd,qa⟩:=S.ok j _ hj
  obtain ⟨S1,nf⟩:=(S.drop j).lay u.addrs (fun a ha=>⟨(qa a ha).1,(qa a ha).2.elim id (fun z=>by cases z.1),r.there a ha⟩) fun a ha n s hn m=>by
    by_cases q:n=j
    · subst q
      rw [List.getElem?_set_self (List.getElem?_eq_some_iff.mp hj).1] at hn
      cases hn;cases m
    · rw [List.getElem?_set_ne (Ne.symm q)] at hn
      exact S.dis n j s _ a q hn hj m ha
  have S2:=S1.setIs (j:=j) (v:=v) (p:=u.pv) (r.rep nf fun a ha o ho=>by unfold ZBw;rw [if_pos ha];exact ho)
  rw [ZCI e,List.set_set] at S2
  exact ⟨S2,nf⟩
theorem ZFG {p:Slot} (hj:ss[j]?=some (.ow false u)) (hp:p≠.pot) (a:Addr):ZCW ss σ a→ZCW (ss.set j p) σ a:=fun n k hk=>by
  by_cases q:k=j
  · subst q
    rw [List.getElem?_set_self (List.getElem?_eq_some_iff.mp hj).1] at hk;cases hk;exact absurd rfl hp
  · rw [List.getElem?_set_ne (Ne.symm q)] at hk;exact n k hk
theorem Sg.lentAt (S:Sg E ss σ F H) (hj:ss[j]?=some (.ow false u)) (ff:Same (ZBw F H u.addrs) F') (fh:Same F' H'):(∀ a∈u.addrs,F' a=H a∧H' a=H a∧H a≠none)∧∀ a∈u.addrs,∀ ws,F' a≠some (.tup ws):=by
  obtain ⟨v,e,r,nd,qa⟩:=S.ok j _ hj
  have at_:∀ a∈u.addrs,F' a=H a∧H' a=H a∧H a≠none:=fun a ha=>by
    cases q:H a with
    | none=>exact absurd q (r.there a ha)
    | some o=>
      have f1:F' a=some o:=ff a o (by unfold ZBw;rw [if_pos ha];exact q)
      exact ⟨f1,fh a o f1,by simp⟩
  exact ⟨at_,fun a ha ws q=>by rw [(at_ a ha).1] at q;exact r.notup a ha ws q⟩
theorem Sg.lendBack (S:Sg E ss σ F H) (hj:ss[j]?=some (.ow false u)) (m:Mv E (ss.set j (.is u.pv)) σ (ZBw F H u.addrs) H F' H'):Mv E ss σ F H (ZBb F' u.addrs) H'∧∀ a∈u.addrs,∀ ws,F' a≠some (.tup ws):=by
  obtain ⟨v,e,r,nd,qa⟩:=S.ok j _ hj
  obtain ⟨S2,nf⟩:=S.lendV hj
  obtain ⟨at_,nt⟩:=S.lentAt hj m.ff m.st.fh
  refine ⟨S.step (fun a o ea=>?_) (fun a o ea=>?_) (fun a o n ea=>m.hh a o (ZFG hj (fun z=>by cases z) a n) ea) (fun a o ea=>?_) (fun k l hk ek=>?_),nt⟩
  · unfold ZBb
    rw [if_neg (fun q=>by rw [(qa a q).1] at ea;cases ea)]
    exact m.ff a o (nf a o ea)
  · unfold ZBb at ea
    split at ea
    · cases ea
    · exact m.st.fh a o ea
  · unfold ZBb at ea
    split at ea
    · cases ea
    · rename_i q
      rcases m.nn a o ea with z | z
      · unfold ZBw at z
        rw [if_neg q] at z;exact .inl z
      · exact .inr z
  · refine m.st.potAt (i:=k) ?_ ek
    rw [List.getElem?_set_ne (fun q=>by subst q;rw [hj] at hk;cases hk)];exact hk
theorem Orep.subF {as:List Addr} {nk:NK} {a0:Addr} {xs:List PV} {v:V} (h:∀ a∈as,∀ vs,F a≠some (.tup vs)) (r:Orep F H v (.nd nk a0 (xs.map .fz))) (hx:ZCe xs=true):Orep (ZBb F as) H v (.nd nk a0 (xs.map .fz)):=by
  cases r with
  | nd e sd ft q=>exact .nd e sd ft (ZCY (Reps.sub h q.fzs hx))
theorem Sg.lendBackM {i:Nat} {lt:Bool} {t:OV} {nk:NK} {a0:Addr} {xs:List PV} (S:Sg E ss σ F H) (hj:ss[j]?=some (.ow false u)) (hi:ss[i]?=some (.ow lt t)) (hij:i≠j) (hx:ZCe xs=true)
    (m:MvM E (ss.set j (.is u.pv)) σ i lt t (.nd nk a0 (xs.map .fz)) (ZBw F H u.addrs) H F' H'):MvM E ss σ i lt t (.nd nk a0 (xs.map .fz)) F H (ZBb F' u.addrs) H'∧∀ a∈u.addrs,∀ ws,F' a≠some (.tup ws):=by
  obtain ⟨v,e,r,nd,qa⟩:=S.ok j _ hj
  obtain ⟨S2,nf⟩:=S.lendV hj
  obtain ⟨at_,nt⟩:=S.lentAt hj m.ff m.st.fh
  have hli:i < ss.length:=(List.getElem?_eq_some_iff.mp hi).1
  have hlj:j < ss.length:=(List.getElem?_eq_some_iff.mp hj).1
  have sF:Same F (ZBb F' u.addrs):=fun a o ea=>by
    unfold ZBb
    rw [if_neg (fun q=>by rw [(qa a q).1] at ea;cases ea)]
    exact m.ff a o (nf a o ea)
  have down:∀ a o,ZBb F' u.addrs a=some o→a∉u.addrs∧F' a=some o:=fun a o ea=>by
    unfold ZBb at ea
    split at ea
    · cases ea
    · rename_i q;exact ⟨q,ea⟩
  have nn:∀ a o,ZBb F' u.addrs a=some o→F a=some o∨H a=none:=fun a o ea=>by
    obtain ⟨q,ea⟩:=down a o ea
    rcases m.nn a o ea with z | z
    · unfold ZBw at z
      rw [if_neg q] at z;exact .inl z
    · exact .inr z
  have newF:∀ a,H a≠none→F a=none→ZBb F' u.addrs a=none:=fun a h1 h2=>by
    cases q:ZBb F' u.addrs a with
    | none=>rfl
    | some o=>
      rcases nn a o q with z | z
      · rw [h2] at z;cases z
      · exact absurd z h1
  have none':∀ a,F' a=none→ZBb F' u.addrs a=none:=fun a h=>by unfold ZBb;split <;> first | rfl | exact h
  have ati:((ss.set j (.is u.pv)).set i (.ow lt (.nd nk a0 (xs.map .fz))))[i]?=some (.ow lt (.nd nk a0 (xs.map .fz))):=List.getElem?_set_self (by rw [List.length_set];exact hli)
  have atn:∀ n,n≠i→n≠j→((ss.set j (.is u.pv)).set i (.ow lt (.nd nk a0 (xs.map .fz))))[n]?=ss[n]?:=fun n h1 h2=>by rw [List.getElem?_set_ne (Ne.symm h1),List.getElem?_set_ne (Ne.symm h2)]
  obtain ⟨v1,e1,r1,nd1,q1⟩:=m.st.ok i _ ati
  have kp:∀ (n:Nat) s,n≠i→s≠.pot→ss[n]?=some s→∀ a o,ZBR s σ[n]? a→H a=some o→H' a=some o:=fun n s hn np hs a o ho ea=>
    m.hh a o (ZFG hj (fun z=>by cases z) a fun k hk ek=>S.dis n k s _ a (fun q=>by subst q;rw [hs] at hk;exact np (Option.some.inj hk)) hs hk ho ek) (fun z=>S.dis n i s _ a hn hs hi ho z) ea
  have at_i:∀ (n:Nat) s,(ss.set i (.ow lt (.nd nk a0 (xs.map .fz))))[n]?=some s→(n=i∧s=.ow lt (.nd nk a0 (xs.map .fz)))∨(n≠i∧ss[n]?=some s):=fun n s hn=>by
    by_cases c:n=i
    · subst c;rw [List.getElem?_set_self hli] at hn;exact .inl ⟨rfl,(Option.some.inj hn).symm⟩
    · rw [List.getElem?_set_ne (Ne.symm c)] at hn;exact .inr ⟨c,hn⟩
  have cross:∀ (n:Nat) s (b:Addr),n≠i→ss[n]?=some s→ZBR s σ[n]? b→b∉(OV.nd nk a0 (xs.map .fz)).addrs:=fun n s b hn hs ho hm=>by
    by_cases c:n=j
    · subst c
      rw [hj] at hs
      cases hs
      have:=(q1 b hm).1
      rw [(at_ b ho).1] at this
      exact (at_ b ho).2.2 this
    · exact m.st.dis n i s _ b hn (by rw [atn n hn c];exact hs) ati ho hm
  refine ⟨⟨⟨⟨fun a o ea=>m.st.fh a o (down a o ea).2,S.f0.trans sF,m.st.keep,fun a o ea=>m.st.fresh a o (down a o ea).2,m.st.pots,fun a hA=>none' a (m.st.potF a hA),m.st.a0,fun a hB=>none' a (m.st.bF a hB),m.st.bH,m.st.b0⟩,by rw [List.length_set];exact S.len,fun n s hn=>?_,fun n k s w b hnk hn hk hs hw=>?_⟩,sF,fun a o n z ea=>m.hh a o (ZFG hj (fun z=>by cases z) a n) z ea,nn⟩,nt⟩
  · rcases at_i n s hn with ⟨rfl,rfl⟩ | ⟨h1,hs⟩
    · exact ⟨v1,e1,r1.subF nt hx,nd1,fun a ha=>⟨none' a (q1 a ha).1,(q1 a ha).2⟩⟩
    · by_cases c:n=j
      · subst c
        rw [hj] at hs
        cases hs
        refine ⟨v,e,r.mono sF (fun a ha o ea=>by rw [(at_ a ha).2.1];exact ea),nd,fun a ha=>⟨by unfold ZBb;rw [if_pos ha],(qa a ha).2⟩⟩
      · by_cases np:s=.pot
        · subst np
          obtain ⟨l,el,fl,hl,pt⟩:=m.st.ok n _ ((atn n h1 c).trans hs)
          exact ⟨l,el,none' l fl,hl,pt⟩
        · exact Ok.go S hs sF (fun a o ho ea=>kp n s h1 np hs a o ho ea) newF np
  · rcases at_i n s hn with ⟨rfl,rfl⟩ | ⟨h1,h2⟩
    · rcases at_i k w hk with ⟨e2,rfl⟩ | ⟨h3,h4⟩
      · exact hnk e2.symm
      · exact cross k w b h3 h4 hw hs
    · rcases at_i k w hk with ⟨rfl,rfl⟩ | ⟨h3,h4⟩
      · exact cross n s b h1 h2 hs hw
      · exact S.dis n k s w b hnk h2 h4 hs hw
end
section
variable [Xw]
variable {ss:List Slot} {te:TE} {i j:Nat} {lt:Bool} {t u:OV}
theorem ZHo {k:List PV→Prop} (j:Nat) (hj:ss[j]?=some (.ow false u)) (h:Wn (ss.set j (.is u.pv)) te fun ys=>ZCe ys=true∧k ys):Wn ss te k:=⟨fun E σ F H Q S q=>by
  obtain ⟨S2,nf⟩:=S.lendV hj
  refine h.go E σ _ H Q S2 fun l2 vs2 ys F' H' m f2 h2 h2' rp ⟨hn,kk⟩=>?_
  obtain ⟨M,ht⟩:=S.lendBack hj m
  exact q l2 vs2 ys _ H' M (by unfold ZBb;split <;> first | rfl | exact f2) h2 h2' (rp.sub ht hn) kk⟩
theorem ZHs {k:PV→OV→Prop} (j:Nat) (hj:ss[j]?=some (.ow false u)) (hi:ss[i]?=some (.ow lt t)) (hij:i≠j) (h:Wm (ss.set j (.is u.pv)) i lt t te fun p t'=>nol p=true∧(∃ nk a xs,t'=.nd nk a (List.map .fz xs)∧ZCe xs=true)∧k p t'):Wm ss i lt t te k:=⟨fun E σ F H Q S q=>by
  obtain ⟨S2,nf⟩:=S.lendV hj
  refine h.go E σ _ H Q S2 fun v p t' F' H' m rp ⟨hn,⟨nk,a,xs,et,hx⟩,kk⟩=>?_
  subst et
  obtain ⟨M,ht⟩:=S.lendBackM hj hi hij hx m
  exact q v p _ _ H' M (rp.sub ht hn) kk⟩
end
end Fz
set_option Elab.async false
set_option linter.all false
set_option maxRecDepth 100000
set_option maxHeartbeats 4000000
namespace L2
open PySem PySem.Spec PyProof.Rows
section
variable {X:Cx} {o i value:Expr} {td ty tv:TE} {pos pos':Pos}
theorem ZH9 (hu:X.A.units+1 < cLine) (ho:QE X o td) (hi:QE X i ty) (hs:NoSl i):QE X (.Subscript o i pos) (tDGet td ty):=⟨pe_dget hu ho.h hi.h hs⟩
theorem ZK0 (hu:X.A.units+1 < cLine) (ho:QE X o td) (hi:QE X i ty) (hv:QE X value tv) (hs:swapsWith value (some (.Subscript o i pos')) pos.line X.env=pure false:=by rfl) :
    QS X (.Assign [.Subscript o i pos'] value pos) (sDPut td ty tv):=⟨ps_dput hu ho.h hi.h hv.h hs⟩
theorem qe_dnewK:QE X (.Dict [] [] pos) ZJM:=⟨pe_dnewK⟩
end
end L2
namespace Fz
open PySem PySem.Spec PyProof.Rows L2 Lw
def keyP:Key→PV
  | .inl i=>.int i
  | .inr x=>.str x
def ZAs:List Key→List PV→Key→Option PV
  | k' :: ks,x :: xs,k=>if k'=k then some x else ZAs ks xs k
  | _,_,_=>none
def ZEs (ks:List Key) (k:Key):Bool:=ks.any fun k'=>decide (k'=k)
def ZBF (ks:List Key) (k:Key):List Key:=if ZEs ks k=true then ks else ks++[k]
def ZBk:List Key→List PV→Key→PV→List PV
  | k' :: ks,x :: xs,k,p=>(if k'=k then p else x) :: ZBk ks xs k p
  | _,xs,_,_=>xs
def ZBf (ks:List Key) (xs:List PV) (k:Key) (p:PV):List PV:=if ZEs ks k=true then ZBk ks xs k p else xs++[p]
theorem ZF8 {F:Hp}:∀ ns:List Int,Reps F (ns.map V.int) (ns.map PV.int)
  | []=>.nil
  | x :: t=>.cons (.int x) (ZF8 t)
theorem keyP_v {F:Hp} {v:V} {k:Key} (r:Rep F v (keyP k)):v=kV k:=by
  cases k with
  | inl i=>cases r;rfl
  | inr x=>cases r;rfl
theorem ZJt {F:Hp} {k:Key} {y:PV}:∀ {ks:List Key} {vs:List V} {xs:List PV},Reps F vs xs→ks.length=vs.length→ZAs ks xs k=some y→∃ v,ZEX (ks.zip vs) k=some v∧Rep F v y
  | [],_,_,_,_,h=>by rw [ZAs] at h;cases h;all_goals simp
  | k' :: ks,v :: vs,x :: xs,.cons r t,hl,h=>by
    rw [ZAs] at h
    rw [List.zip_cons_cons]
    by_cases c:k'=k
    · rw [if_pos c] at h
      cases h
      exact ⟨v,ZDW c,r⟩
    · rw [if_neg c] at h
      obtain ⟨w,h1,h2⟩:=ZJt t (by simpa using hl) h
      exact ⟨w,by rw [ZDh c];exact h1,h2⟩
  | k' :: ks,[],xs,_,hl,_=>by simp at hl
section
variable [Xw]
variable {ss:List Slot} {td ty tv:TE} {k:PV→Prop} {nx:List Slot→Prop} {R:Ret} {i:Nat} {lt:Bool}
theorem ZHY (h:Wp ss td fun p=>∃ ks xs,p=.dct ks xs∧Wp ss ty fun q=>∃ key y,q=keyP key∧ZAs ks xs key=some y∧k y):Wp ss (tDGet td ty) k:=⟨fun E σ F H Q S q=>
  h.go E σ F H _ S fun v p F1 H1 m1 r1 ⟨ks,xs,e,h2⟩=>h2.go E σ F1 H1 _ m1.st fun v2 p2 F2 H2 m2 r2 ⟨key,y,e2,hy,kk⟩=>by
    subst e;subst e2
    have r1':=r1.mono m2.ff
    cases r1' with
    | dct ef hl rr=>
      obtain ⟨w,hw,rw_⟩:=ZJt rr hl hy
      refine ⟨_,w,rfl,?_,q w y F2 H2 (m1.trans m2) rw_ kk⟩
      rw [← hw,keyP_v r2]
      exact DGet.k (m2.st.fh _ _ ef)⟩
theorem wx_dnew {k:List Nat→OV→Prop} (h:∀ a,k [] (.nd (.dct []) a (([]:List PV).map .fz))):Wx ss ZJM k:=⟨fun E σ F H Q S q p hp=>by
  have m:=S.make hp (.dK [])
  refine q _ [] (.nd (.dct []) p (([]:List PV).map .fz)) F _ m (.nd (k:=.dct []) (vs:=[]) ZA3 trivial rfl .nil) (by rw [OV.addrs_nd];simp [NK.more,OV.addrsL_nil]) (fun a ha=>?_) (h p)
  rw [OV.addrs_nd] at ha
  have e:a=p:=by simpa [NK.more,OV.addrsL_nil] using ha
  subst e
  exact ⟨S.newF hp,S.new0 hp,.inr hp⟩⟩
theorem ZGj (ks:List Key) (a:Addr) (xs:List PV):(OV.nd (.dct ks) a (xs.map .fz)).addrs=[a]:=by rw [OV.addrs_nd,ZCE];rfl
theorem ZJz:∀ {ks:List Key} {vs:List V} {key:Key},ks.length=vs.length→(ks.zip vs).any (fun kv=>decide (kv.1=key))=ZEs ks key
  | [],vs,key,h=>rfl
  | k' :: ks,w :: vs,key,h=>by
    rw [List.zip_cons_cons,List.any_cons,ZJz (by simpa using h)]
    rfl
  | _ :: _,[],_,h=>by simp at h
def ZCG:List Key→List V→Key→V→List V
  | k' :: ks,x :: xs,k,p=>(if k'=k then p else x) :: ZCG ks xs k p
  | _,xs,_,_=>xs
theorem ZJV:∀ {ks:List Key} {vs:List V} {key:Key} {v:V},(ks.zip vs).map (fun kv=>if kv.1=key then (kv.1,v) else kv)=ks.zip (ZCG ks vs key v)
  | [],vs,key,v=>by simp
  | k' :: ks,w :: vs,key,v=>by
    rw [List.zip_cons_cons,List.map_cons,ZJV,ZCG,List.zip_cons_cons]
    by_cases c:k'=key
    · rw [if_pos c,if_pos c]
    · rw [if_neg c,if_neg c]
  | _ :: _,[],_,_=>by simp [ZCG]
theorem ZGJ:∀ (ks:List Key) (vs:List V) (key:Key) (v:V),(ZCG ks vs key v).length=vs.length
  | [],vs,key,v=>by rw [ZCG];simp
  | k' :: ks,w :: vs,key,v=>by rw [ZCG,List.length_cons,ZGJ,List.length_cons]
  | _ :: _,[],_,_=>by rw [ZCG];simp
theorem ZFB {F:Hp} {key:Key} {v:V} {p:PV} (r:Rep F v p):∀ {ks:List Key} {vs:List V} {xs:List PV},Reps F vs xs→Reps F (ZCG ks vs key v) (ZBk ks xs key p)
  | [],vs,xs,h=>by rw [ZCG,ZBk];exact h;all_goals simp
  | k' :: ks,_,_,.nil=>by rw [ZCG,ZBk];exact .nil;all_goals simp
  | k' :: ks,_,_,.cons q t=>by
    rw [ZCG,ZBk]
    by_cases c:k'=key
    · rw [if_pos c,if_pos c];exact .cons r (ZFB r t)
    · rw [if_neg c,if_neg c];exact .cons q (ZFB r t)
theorem ZJg {ks:List Key} {a:Addr} {xs:List PV} (hi:ss[i]?=some (.ow lt (.nd (.dct ks) a (xs.map .fz)))) (h:Wp ss tv fun p=>Wp ss ty fun q=>∃ key,q=keyP key∧ks.length≤99999∧nx (ss.set i (.ow lt (.nd (.dct (ZBF ks key)) a ((ZBf ks xs key p).map .fz))))):Ws ss (sDPut (ZBi i) ty tv) nx R:=⟨fun E D σ F H S hn hr=>
  h.go E σ F H _ S fun v p F1 H1 m1 rv h2=>by
    obtain ⟨v0,e0,r0,_,_⟩:=m1.st.ok i _ hi
    have ev:v0=.ref a:=by cases r0;rfl
    subst ev
    refine ⟨_,e0,h2.go E σ F1 H1 _ m1.st fun v2 q F2 H2 m2 r2 ⟨key,eq,hz,kk⟩=>?_⟩
    subst eq
    have rv2:=rv.mono m2.ff
    obtain ⟨v3,e3,r3,nd3,q3⟩:=m2.st.ok i _ hi
    cases r3 with
    | @nd _ _ vs _ ha sd ft rr=>
      have rr':=rr.fzs
      have ft':ks.length=vs.length:=ft
      have hzz:(ks.zip vs).length≤99999:=by rw [List.length_zip];omega
      refine ⟨a,_,rfl,by rw [keyP_v r2];exact DPut.k ha (ZEz hzz),?_⟩
      obtain ⟨vs',ft2,rr2,ep⟩:∃ vs':List V,(ZBF ks key).length=vs'.length∧Reps F2 vs' (ZBf ks xs key p)∧ZED (ks.zip vs) key v=(ZBF ks key).zip vs':=by
        unfold ZED ZBF ZBf
        rw [ZJz ft']
        by_cases c:ZEs ks key=true
        · rw [if_pos c,if_pos c,if_pos c]
          exact ⟨ZCG ks vs key v,by rw [ZGJ];exact ft',ZFB rv2 rr',ZJV⟩
        · rw [if_neg c,if_neg c,if_neg c]
          exact ⟨vs++[v],by rw [List.length_append,List.length_append,ft'];rfl,rr'.append (.one rv2),by rw [List.zip_append ft'];rfl⟩
      rw [ep]
      have M:=m2.st.mutO (p:=[]) (n:=.nd (.dct (ZBF ks key)) a ((ZBf ks xs key p).map .fz)) (ho:=.dK ((ZBF ks key).zip vs')) hi OV.at_nil (.nd (k:=.dct (ZBF ks key)) ZA3 trivial ft2 (ZCY rr2)) (by rw [ZGj];simp) fun b hb=>.inl (by rw [ZGj] at hb ⊢;exact hb)
      rw [OV.put_nil] at M
      exact hn _ σ F2 _ kk M (m1.ff.trans m2.ff)⟩
theorem ws_remO {K:PySem.W.Frag} {ns:List Int} {a:Addr} (hi:ss[i]?=some (.ow lt (.nd .lst a ((ns.map PV.int).map .fz)))) (h:Wp ss ty fun q=>∃ y,q=.int y∧y∈ns∧nx (ss.set i (.ow lt (.nd .lst a (((ns.eraseIdx (ns.idxOf y)).map PV.int).map .fz))))):Ws ss (ZFi (tBM K "list" rRemI (ZBi i) (ZAA ty ZAa))) nx R:=⟨fun E D σ F H S hn hr=>by
  obtain ⟨vs0,hv0,_⟩:=S.lstAt (p:=[]) hi OV.at_nil
  obtain ⟨v0,e0,r0,_,_⟩:=S.ok i _ hi
  have ev:v0=.ref a:=by cases r0;rfl
  subst ev
  refine ⟨_,e0,.inl ⟨rfl,_,SqL.of hv0⟩,h.go E σ F H _ S fun v q F1 H1 m1 rv ⟨y,ey,hy,kk⟩=>?_⟩
  subst ey;cases rv
  obtain ⟨vs,hv,rr⟩:=m1.st.lstAt (p:=[]) hi OV.at_nil
  rw [rr.ints] at hv
  refine ⟨a,ns,y,rfl,rfl,hv,hy,?_⟩
  have M:=m1.st.reflat (p:=[]) (ps':=(ns.eraseIdx (ns.idxOf y)).map PV.int) (vs':=(ns.eraseIdx (ns.idxOf y)).map V.int) hi OV.at_nil (ZF8 _)
  rw [OV.put_nil] at M
  exact hn _ σ F1 _ kk M m1.ff⟩
end
end Fz
set_option Elab.async false
set_option linter.all false
set_option maxRecDepth 100000
set_option maxHeartbeats 4000000
namespace Fz
open PySem PySem.Spec PyProof.Rows L2 Lw
section
variable [Xw]
variable {E:Ent0} {ss:List Slot} {σ:L2.St} {F H F1 F' H':Hp} {K:PySem.W.Frag} {js:List Nat} {ta tb tc te ti:TE} {nx:List Slot→Prop} {R:Ret} {k:PV→Prop} {xs:List PV}
end
theorem GoodL.step {ns:List Str} {r:Str} {g:Nat} {cs:List Str} (h:GoodL ns r g cs):GoodL ns r (stG ns g cs:Nat) (stS ns g cs):=by
  unfold stG stS
  cases e:stO ns g cs with
  | none=>exact h
  | some x=>
    have hm:x∈ZAp ns g cs:=by
      unfold stO at e
      exact List.mem_of_mem_head? (by rw [e];rfl)
    obtain ⟨m1,m2⟩:=restL_mem.mp hm
    have:=List.idxOf_lt_length_iff.mpr m1
    exact ⟨h.rule,by show (0:Int)≤((ns.idxOf x+1:Nat):Int);omega,by show ((ns.idxOf x+1:Nat):Int)≤_;omega,wo_up x h.up,fun y hy=>h.sub y (wo_mem.mp hy).1⟩
end Fz
set_option Elab.async false
set_option linter.all false
set_option maxRecDepth 100000
set_option maxHeartbeats 4000000
namespace Fz
open PySem PySem.Spec PyProof.Rows L2 Lw
end Fz
set_option Elab.async false
set_option linter.all false
set_option maxRecDepth 100000
set_option maxHeartbeats 4000000
namespace Fz
open PySem PySem.Spec PyProof.Rows L2 Lw
section
variable [Xw]
end
structure RowOk (m:Nat) (ns:List Str):Prop where
  len:ns.length≤m
  nm:∀ x∈ns,Nm x
  nd:ns.Nodup
theorem RowOk.done {m:Nat} {ns:List Str} {d:Deed} (h:RowOk m ns) (ok:d.Ok m ns):RowOk m (d.done ns):=by
  obtain ⟨a,b,c⟩:=Deed.step ok h.nd h.nm h.len
  exact ⟨c,b,a⟩
structure Lp where
  r:Str
  g:Nat
  cs:List Str
def Lp.P (l:Lp):PV:=ZAu l.r l.g l.cs
def srt (ns:List Str):List Str:=ns.foldr (fun x r=>ZE6 r x) []
theorem srt_mem {x:Str}:∀ {ns:List Str},x∈srt ns↔x∈ns
  | []=>Iff.rfl
  | y :: r=>by
    show x∈ZE6 (srt r) y↔_
    rw [insS_mem,srt_mem (ns:=r),List.mem_cons]
theorem ZIk:∀ {ns:List Str},ns.Nodup→Up (srt ns)
  | [],_=>List.Pairwise.nil
  | y :: r,h=>by
    obtain ⟨h1,h2⟩:=List.nodup_cons.mp h
    exact ZEc (ZIk h2) fun z=>h1 (srt_mem.mp z)
theorem srt_eq {ns ts:List Str} (nd:ns.Nodup) (pm:ts.Perm ns) (st:sortedS ts=true):ts=srt ns:=
  ZEb (ZE4 st (pm.nodup_iff.mpr nd)) (ZIk nd) fun k=>by rw [pm.mem_iff,srt_mem]
def Lp.led (ns:List Str) (d:Deed) (l:Lp):Lp:=⟨l.r,d.gap ns l.g,d.com l.r l.g l.cs⟩
def Lp.stp (ns:List Str) (l:Lp):Lp:=⟨l.r,stG ns l.g l.cs,stS ns l.g l.cs⟩
def Lp.Good (ns:List Str) (l:Lp):Prop:=GoodL ns l.r l.g l.cs
theorem beg_good {ns:List Str} {r:Str} (nd:ns.Nodup) (hr:r∈rules3):GoodL ns r (0:Nat) (srt ns):=⟨hr,by decide,by show (0:Int)≤_;omega,ZIk nd,fun x hx=>srt_mem.mp hx⟩
end Fz
set_option Elab.async false
set_option linter.all false
set_option maxRecDepth 100000
set_option maxHeartbeats 4000000
namespace Fz
open PySem PySem.Spec PyProof.Rows L2 Lw
theorem ZDq:∀ {ks:List Key} {xs:List PV} {k:Key} {p:PV},ks.length=xs.length→ZEs ks k=true→ZAs ks (ZBk ks xs k p) k=some p
  | [],_,_,_,_,h=>by cases h
  | k' :: ks,x :: xs,k,p,hl,h=>by
    rw [ZBk,ZAs]
    by_cases c:k'=k
    · rw [if_pos c,if_pos c]
    · rw [if_neg c]
      refine ZDq (by simpa using hl) ?_
      unfold ZEs at h
      rw [List.any_cons,decide_eq_false c,Bool.false_or] at h
      exact h
  | _ :: _,[],_,_,hl,_=>by simp at hl
theorem ZFL:∀ {ks:List Key} {xs:List PV} {k k2:Key} {p:PV},k2≠k→ZAs ks (ZBk ks xs k p) k2=ZAs ks xs k2
  | [],xs,_,_,_,_=>by rw [ZBk];simp
  | k' :: ks,x :: xs,k,k2,p,h=>by
    rw [ZBk,ZAs,ZAs]
    by_cases c:k'=k2
    · have c2:¬ k'=k:=fun z=>h (c.symm.trans z)
      rw [if_pos c,if_pos c,if_neg c2]
    · rw [if_neg c,if_neg c]
      exact ZFL h
  | _ :: _,[],_,_,_,_=>by rw [ZBk];simp
theorem ZEO:∀ {ks:List Key} {xs:List PV} {k:Key} {p:PV},ks.length=xs.length→ZEs ks k=false→ZAs (ks++[k]) (xs++[p]) k=some p
  | [],[],k,p,_,_=>by rw [List.nil_append,List.nil_append,ZAs,if_pos rfl]
  | k' :: ks,x :: xs,k,p,hl,h=>by
    unfold ZEs at h
    rw [List.any_cons,Bool.or_eq_false_iff] at h
    rw [List.cons_append,List.cons_append,ZAs,if_neg (of_decide_eq_false h.1)]
    exact ZEO (by simpa using hl) h.2
  | [],_ :: _,_,_,hl,_=>by simp at hl
  | _ :: _,[],_,_,hl,_=>by simp at hl
theorem ZF5:∀ {ks:List Key} {xs:List PV} {k k2:Key} {p:PV},ks.length=xs.length→k2≠k→ZAs (ks++[k]) (xs++[p]) k2=ZAs ks xs k2
  | [],[],k,k2,p,_,h=>by
    rw [List.nil_append,List.nil_append,ZAs,if_neg (fun z=>h z.symm)]
  | k' :: ks,x :: xs,k,k2,p,hl,h=>by
    rw [List.cons_append,List.cons_append,ZAs,ZAs]
    split
    · rfl
    · exact ZF5 (by simpa using hl) h
  | [],_ :: _,_,_,_,hl,_=>by simp at hl
  | _ :: _,[],_,_,_,hl,_=>by simp at hl
theorem ZGX:∀ (ks:List Key) (xs:List PV) (k:Key) (p:PV),(ZBk ks xs k p).length=xs.length
  | [],xs,_,_=>by rw [ZBk];simp
  | k' :: ks,x :: xs,k,p=>by rw [ZBk,List.length_cons,ZGX,List.length_cons]
  | _ :: _,[],_,_=>by rw [ZBk];simp
section
variable {ks:List Key} {xs:List PV} {k k2:Key} {p:PV}
theorem ZEh (hl:ks.length=xs.length):ZAs (ZBF ks k) (ZBf ks xs k p) k=some p:=by
  unfold ZBF ZBf
  by_cases c:ZEs ks k=true
  · rw [if_pos c,if_pos c];exact ZDq hl c
  · rw [if_neg c,if_neg c];exact ZEO hl (by simpa using c)
theorem ZFe (hl:ks.length=xs.length) (h:k2≠k):ZAs (ZBF ks k) (ZBf ks xs k p) k2=ZAs ks xs k2:=by
  unfold ZBF ZBf
  by_cases c:ZEs ks k=true
  · rw [if_pos c,if_pos c];exact ZFL h
  · rw [if_neg c,if_neg c];exact ZF5 hl h
theorem ZEf (hl:ks.length=xs.length):(ZBF ks k).length=(ZBf ks xs k p).length∧(ZBF ks k).length≤ks.length+1:=by
  unfold ZBF ZBf
  by_cases c:ZEs ks k=true
  · rw [if_pos c,if_pos c,ZGX];exact ⟨hl,by omega⟩
  · rw [if_neg c,if_neg c,List.length_append,List.length_append,hl];exact ⟨rfl,by simp⟩
end
structure W17 (ns cs:List Str) (ks:List Key) (xs:List PV) (ws:List Int) (c:Int):Prop where
  len:ks.length=xs.length
  has:∀ x∈ns,∃ n:Int,ZAs ks xs (.inr x)=some (.int n)∧n < c
  inj:∀ x∈ns,∀ y∈ns,ZAs ks xs (.inr x)=ZAs ks xs (.inr y)→x=y
  mem:∀ n:Int,n∈ws↔∃ x∈cs,ZAs ks xs (.inr x)=some (.int n)
  nd:ws.Nodup
  sub:∀ x∈cs,x∈ns
section
variable {ns cs:List Str} {ks:List Key} {xs:List PV} {ws:List Int} {c:Int} {x:Str} {n:Int}
theorem W17.small (h:W17 ns cs ks xs ws c):∀ m∈ws,m < c:=fun m hm=>by
  obtain ⟨y,hy,e⟩:=(h.mem m).mp hm
  obtain ⟨m',e',l⟩:=h.has y (h.sub y hy)
  rw [e] at e';cases e';exact l
theorem W17.at (h:W17 ns cs ks xs ws c) (hx:x∈cs):∃ n:Int,ZAs ks xs (.inr x)=some (.int n)∧n∈ws:=by
  obtain ⟨n,e,_⟩:=h.has x (h.sub x hx)
  exact ⟨n,e,(h.mem n).mpr ⟨x,hx,e⟩⟩
theorem W17.nil (h:W17 ns cs ks xs ws c):ws=[]↔cs=[]:=by
  constructor
  · intro e
    cases hc:cs with
    | nil=>rfl
    | cons y t=>
      obtain ⟨n,_,hn⟩:=h.at (x:=y) (by rw [hc];simp)
      rw [e] at hn;cases hn
  · intro e
    cases hw:ws with
    | nil=>rfl
    | cons m t=>
      obtain ⟨y,hy,_⟩:=(h.mem m).mp (by rw [hw];simp)
      rw [e] at hy;cases hy
theorem ZEn {m:Int} (nd:ws.Nodup) (hn:n∈ws):m∈ws.eraseIdx (ws.idxOf n)↔m∈ws∧m≠n:=by
  rw [← List.erase_eq_eraseIdx_of_idxOf rfl,nd.mem_erase_iff]
  exact And.comm
theorem ZGE (nd:ws.Nodup):(ws.eraseIdx (ws.idxOf n)).Nodup:=nd.sublist (List.eraseIdx_sublist _ _)
theorem W17.less {ws':List Int} (h:W17 ns cs ks xs ws c) (hx:x∈ns) (hv:ZAs ks xs (.inr x)=some (.int n)) (hn:ws'.Nodup) (hm:∀ m,m∈ws'↔m∈ws∧m≠n):W17 ns (wo cs x) ks xs ws' c:=by
  refine ⟨h.len,h.has,h.inj,fun m=>?_,hn,fun y hy=>h.sub y (wo_mem.mp hy).1⟩
  rw [hm,h.mem]
  constructor
  · rintro ⟨⟨y,hy,e⟩,ne⟩
    refine ⟨y,wo_mem.mpr ⟨hy,fun z=>ne ?_⟩,e⟩
    subst z
    rw [e] at hv;cases hv;rfl
  · rintro ⟨y,hy,e⟩
    obtain ⟨hy,ne⟩:=wo_mem.mp hy
    refine ⟨⟨y,hy,e⟩,fun z=>ne ?_⟩
    subst z
    exact h.inj y (h.sub y hy) x hx (e.trans hv.symm)
theorem W17.row {ns':List Str} (h:W17 ns cs ks xs ws c) (h1:∀ x∈ns',x∈ns) (h2:∀ x∈cs,x∈ns'):W17 ns' cs ks xs ws c:=
  ⟨h.len,fun x hx=>h.has x (h1 x hx),fun x hx y hy=>h.inj x (h1 x hx) y (h1 y hy),h.mem,h.nd,h2⟩
theorem W17.put {ns':List Str} (h:W17 ns cs ks xs ws c) (hx:x∉ns) (h1:∀ y,y∈ns'↔y=x∨y∈ns):W17 ns' cs (ZBF ks (.inr x)) (ZBf ks xs (.inr x) (.int c)) ws (c+1):=by
  have old:∀ y,y≠x→ZAs (ZBF ks (.inr x)) (ZBf ks xs (.inr x) (.int c)) (.inr y)=ZAs ks xs (.inr y):=fun y hy=>ZFe h.len (fun z=>hy (by injection z))
  have new:ZAs (ZBF ks (.inr x)) (ZBf ks xs (.inr x) (.int c)) (.inr x)=some (.int c):=ZEh h.len
  have lt:∀ y∈ns,ZAs ks xs (.inr y)≠some (.int c):=fun y hy e=>by
    obtain ⟨n,e',l⟩:=h.has y hy
    rw [e] at e';cases e';omega
  have nx:∀ y∈ns,y≠x:=fun y hy z=>hx (z▸hy)
  refine ⟨(ZEf h.len).1,fun y hy=>?_,fun y hy z hz e=>?_,fun m=>?_,h.nd,fun y hy=>(h1 y).mpr (.inr (h.sub y hy))⟩
  · rcases (h1 y).mp hy with rfl | hy
    · exact ⟨c,new,by omega⟩
    · obtain ⟨n,e,l⟩:=h.has y hy
      exact ⟨n,by rw [old y (nx y hy)];exact e,by omega⟩
  · rcases (h1 y).mp hy with rfl | hy
    · rcases (h1 z).mp hz with rfl | hz
      · rfl
      · rw [new,old z (nx z hz)] at e
        exact absurd e.symm (lt z hz)
    · rcases (h1 z).mp hz with rfl | hz
      · rw [new,old y (nx y hy)] at e
        exact absurd e (lt y hy)
      · rw [old y (nx y hy),old z (nx z hz)] at e
        exact h.inj y hy z hz e
  · rw [h.mem]
    constructor
    · rintro ⟨y,hy,e⟩;exact ⟨y,hy,by rw [old y (nx y (h.sub y hy))];exact e⟩
    · rintro ⟨y,hy,e⟩;exact ⟨y,hy,by rw [old y (nx y (h.sub y hy))] at e;exact e⟩
theorem W17.join {ns' cs':List Str} (h:W17 ns cs ks xs ws c) (hx:x∉ns) (h1:∀ y,y∈ns'↔y=x∨y∈ns) (h2:∀ y,y∈cs'↔y=x∨y∈cs):W17 ns' cs' (ZBF ks (.inr x)) (ZBf ks xs (.inr x) (.int c)) (ws++[c]) (c+1):=by
  have w:=h.put hx h1
  refine ⟨w.len,w.has,w.inj,fun m=>?_,?_,fun y hy=>?_⟩
  · rw [List.mem_append,List.mem_singleton,w.mem]
    constructor
    · rintro (⟨y,hy,e⟩ | rfl)
      · exact ⟨y,(h2 y).mpr (.inr hy),e⟩
      · exact ⟨x,(h2 x).mpr (.inl rfl),ZEh h.len⟩
    · rintro ⟨y,hy,e⟩
      rcases (h2 y).mp hy with rfl | hy
      · rw [ZEh h.len] at e;cases e;exact .inr rfl
      · exact .inl ⟨y,hy,e⟩
  · refine List.nodup_append.mpr ⟨h.nd,List.pairwise_singleton _ c,fun a ha b hb e=>?_⟩
    rw [List.mem_singleton.mp hb] at e
    have:=h.small a ha
    omega
  · rcases (h2 y).mp hy with rfl | hy
    · exact (h1 y).mpr (.inl rfl)
    · exact (h1 y).mpr (.inr (h.sub y hy))
end
theorem pickR {q:Int} (h0:0≤q) (h1:q < 3):∃ r:Str,r∈rules3∧L2.atI [PV.str "none", .str "ahead", .str "all"] q=some (.str r):=by
  have:q=0∨q=1∨q=2:=by omega
  rcases this with rfl | rfl | rfl
  · exact ⟨"none", by decide +kernel,rfl⟩
  · exact ⟨"ahead", by decide +kernel,rfl⟩
  · exact ⟨"all", by decide +kernel,rfl⟩
structure B17 (ns:List Str) (i:Nat) (ks:List Key) (xs:List PV):Prop where
  len:ks.length=xs.length
  klen:ks.length≤i
  at_:∀ (j:Nat) x,j < i→ns[j]?=some x→ZAs ks xs (.inr x)=some (.int j)
theorem B17.zero {ns:List Str}:B17 ns 0 [] []:=⟨rfl,Nat.le_refl _,fun j x h=>absurd h (Nat.not_lt_zero _)⟩
theorem B17.put {ns:List Str} {i:Nat} {ks:List Key} {xs:List PV} {x:Str} (h:B17 ns i ks xs) (nd:ns.Nodup) (hx:ns[i]?=some x):B17 ns (i+1) (ZBF ks (.inr x)) (ZBf ks xs (.inr x) (.int i)):=by
  refine ⟨(ZEf h.len).1,by have:=(ZEf (k:=.inr x) (p:=.int i) h.len).2;have:=h.klen;omega,fun j y hj hy=>?_⟩
  by_cases c:j=i
  · subst c
    rw [hx] at hy
    cases hy
    exact ZEh h.len
  · have ne:y≠x:=fun z=>c (by
      subst z
      obtain ⟨h1,e1⟩:=List.getElem?_eq_some_iff.mp hx
      obtain ⟨h2,e2⟩:=List.getElem?_eq_some_iff.mp hy
      exact (List.getElem_inj nd).mp (e2.trans e1.symm))
    rw [ZFe h.len (fun z=>ne (by injection z))]
    exact h.at_ j y (by omega) hy
def rngI (n:Nat):List Int:=(List.range n).map fun i:Nat=>(i:Int)
theorem rngP_I (n:Nat):ZDO n=(rngI n).map .int:=by unfold ZDO rngI;rw [List.map_map];rfl
theorem rngI_mem {n:Nat} {m:Int}:m∈rngI n↔∃ j:Nat,j < n∧m=j:=by
  unfold rngI
  rw [List.mem_map]
  constructor
  · rintro ⟨j,hj,rfl⟩;exact ⟨j,List.mem_range.mp hj,rfl⟩
  · rintro ⟨j,hj,rfl⟩;exact ⟨j,List.mem_range.mpr hj,rfl⟩
theorem rngI_nd (n:Nat):(rngI n).Nodup:=by
  unfold rngI
  exact List.Pairwise.map _ (fun a b h e=>h (by exact_mod_cast e)) List.nodup_range
theorem B17.w {ns:List Str} {ks:List Key} {xs:List PV} (h:B17 ns ns.length ks xs):W17 ns (srt ns) ks xs (rngI ns.length) ns.length:=by
  have at':∀ x∈ns,∃ j:Nat,j < ns.length∧ns[j]?=some x∧ZAs ks xs (.inr x)=some (.int j):=fun x hx=>by
    obtain ⟨j,hj,e⟩:=List.mem_iff_getElem.mp hx
    have e':ns[j]?=some x:=by rw [List.getElem?_eq_getElem hj,e]
    exact ⟨j,hj,e',h.at_ j x hj e'⟩
  refine ⟨h.len,fun x hx=>?_,fun x hx y hy e=>?_,fun m=>?_,rngI_nd _,fun x hx=>srt_mem.mp hx⟩
  · obtain ⟨j,hj,_,e⟩:=at' x hx
    exact ⟨j,e,by omega⟩
  · obtain ⟨j,hj,e1,e2⟩:=at' x hx
    obtain ⟨k,hk,f1,f2⟩:=at' y hy
    rw [e2,f2] at e
    injection e with e
    injection e with e
    have:j=k:=by omega
    subst this
    rw [e1] at f1;cases f1;rfl
  · rw [rngI_mem]
    constructor
    · rintro ⟨j,hj,rfl⟩
      have e:=List.getElem?_eq_getElem hj
      exact ⟨ns[j],srt_mem.mpr (List.getElem_mem hj),h.at_ j _ hj e⟩
    · rintro ⟨x,hx,e⟩
      obtain ⟨j,hj,_,e2⟩:=at' x (srt_mem.mp hx)
      rw [e] at e2;cases e2
      exact ⟨j,hj,rfl⟩
theorem ZDu {ns:List Str} {d:Deed} (ok:d.Ok 40 ns) (h:(∃ x i,d=.move x i)∨∃ lo hi,d=.turn lo hi) {y:Str}:y∈d.done ns↔y∈ns:=by
  rcases h with ⟨x,i,rfl⟩ | ⟨lo,hi,rfl⟩
  · show y∈ins (wo ns x) x i↔_
    rw [ins_mem,wo_mem]
    constructor
    · rintro (rfl | h)
      · exact ok.1
      · exact h.1
    · intro h
      by_cases c:y=x
      · exact .inl c
      · exact .inr ⟨h,c⟩
  · exact ZHG ok.1
theorem dat17 (K:PySem.W.Frag) (l:Lp):dat K 40 (.tup [.non,l.P]):=fun x hx=>by
  simp only [List.mem_cons,List.not_mem_nil,or_false] at hx
  rcases hx with rfl | rfl
  · trivial
  · intro y hy
    simp only [List.mem_cons,List.not_mem_nil,or_false] at hy
    rcases hy with rfl | rfl | rfl
    · trivial
    · trivial
    · intro z hz;obtain ⟨s,_,rfl⟩:=List.mem_map.mp hz;trivial
theorem rest_nil {ns cs:List Str} {g:Nat}:ZAp ns g cs=[]↔∀ x∈cs,x∉ns:=by
  constructor
  · intro e x hx hn
    have:x∈ZAp ns g cs:=restL_mem.mpr ⟨hn,hx⟩
    rw [e] at this;cases this
  · intro h
    cases e:ZAp ns g cs with
    | nil=>rfl
    | cons x t=>
      have:=restL_mem.mp (show x∈ZAp ns g cs by rw [e];simp)
      exact absurd this.1 (h x this.2)
theorem ZJT {ns cs:List Str} {g:Nat} (hs:∀ x∈cs,x∈ns) (hc:cs≠[]):∃ x,stO ns g cs=some x∧x∈ns∧x∈cs∧stS ns g cs=wo cs x:=by
  cases e:ZAp ns g cs with
  | nil=>
    cases hcc:cs with
    | nil=>exact absurd hcc hc
    | cons x t=>
      have hx:x∈cs:=by rw [hcc];simp
      exact absurd (hs x hx) (rest_nil.mp e x hx)
  | cons x t=>
    have e1:stO ns g cs=some x:=by unfold stO;rw [e];rfl
    have m:=restL_mem.mp (show x∈ZAp ns g cs by rw [e];simp)
    exact ⟨x,e1,m.1,m.2,by unfold stS;rw [e1]⟩
theorem ZIg (ks:List Key) (a:Addr) (xs:List PV):(OV.nd (.dct ks) a (xs.map .fz)).pv=.dct ks xs:=by rw [OV.pv,ZDD]
theorem stS_none {ns cs:List Str} {g:Nat} (h:stO ns g cs=none):stS ns g cs=cs:=by unfold stS;rw [h]
structure L17 (m:List Str) (lp:Lp) (ks:List Key) (xs:List PV) (ws:List Int) (c:Int) (gs:List Str) (i:Nat) (ru:Str):Prop where
  row:RowOk 40 m
  gd:lp.Good m
  r:lp.r=ru
  w:W17 m lp.cs ks xs ws c
  kl:ks.length≤40+i
  gn:∀ x∈gs,Nm x∧x∉m
  gl:gs.length≤i
  wl:ws.length≤40+i
theorem L17.stp {m:List Str} {lp:Lp} {ks:List Key} {xs:List PV} {ws ws':List Int} {c:Int} {gs:List Str} {i:Nat} {ru:Str} (L:L17 m lp ks xs ws c gs i ru) (w:W17 m (stS m lp.g lp.cs) ks xs ws' c) (hl:ws'.length≤ws.length):L17 m (lp.stp m) ks xs ws' c gs (i+1) ru:=
  ⟨L.row,(ZJr L.gd).1,L.r,w,by have:=L.kl;omega,L.gn,by have:=L.gl;omega,by have:=L.wl;omega⟩
theorem strs17 {ns:List Str} {k:Nat} (h:k < ns.length):∃ x,x∈ns∧L2.atI (ns.map PV.str) (k:Int)=some (.str x):=
  ⟨ns[k],List.getElem_mem h,ZJo (by rw [List.getElem?_map,List.getElem?_eq_getElem h];rfl)⟩
theorem rngI_len (n:Nat):(rngI n).length=n:=by simp [rngI]
theorem join_all {r:Str} {g j:Nat} (h:decide (V.str r=V.str "all")=true):ZAj r g j=true:=by unfold ZAj;rw [if_pos h]
theorem ZEx {r:Str} {g j:Nat} (h:¬ decide (V.str r=V.str "all")=true) (h2:decide (V.str r=V.str "ahead")=true):ZAj r g j=decide ((g:Int)≤(j:Int)):=by unfold ZAj;rw [if_neg h,if_pos h2]
theorem ZKe {r:Str} {g j:Nat} (h:¬ decide (V.str r=V.str "all")=true) (h2:¬ decide (V.str r=V.str "ahead")=true):ZAj r g j=false:=by unfold ZAj;rw [if_neg h,if_neg h2]
theorem ZGk:∀ (ms:List Str),ZCe (ms.map .str)=true
  | []=>by rw [List.map_nil,ZCe]
  | m :: r=>by rw [List.map_cons,ZCe,ZGk r];simp [nol]
theorem ZJd (r z:Str):ZD5 (.str r) (.str z)=decide (V.str r=V.str z):=by
  show decide (r=z)=_
  rw [Bool.eq_iff_iff,decide_eq_true_iff,decide_eq_true_iff]
  exact ⟨fun h=>by rw [h],fun h=>by injection h⟩
theorem ZGF (ws:List Int) (c:Int):((ws.map PV.int).map OV.fz)++[.fz (.int c)]=(((ws++[c]).map PV.int).map OV.fz):=by rw [List.map_append,List.map_append];rfl
theorem W17.deed {m:List Str} {lp:Lp} {ks:List Key} {xs:List PV} {ws:List Int} {c:Int} {x:Str} {j:Nat} (w:W17 m lp.cs ks xs ws c) (hd:(Deed.put x j).Ok 40 m):W17 (Deed.done m (.put x j)) (Deed.com lp.r lp.g lp.cs (.put x j)) (ZBF ks (.inr x)) (ZBf ks xs (.inr x) (.int c)) (if ZAj lp.r lp.g j=true then ws++[c] else ws) (c+1):=by
  by_cases h:ZAj lp.r lp.g j=true
  · rw [if_pos h,ZIB h]
    exact w.join hd.2.1 (fun y=>ins_mem) fun y=>insS_mem
  · have h':ZAj lp.r lp.g j=false:=by cases e:ZAj lp.r lp.g j <;> simp_all
    rw [if_neg h,ZEl h']
    exact w.put hd.2.1 fun y=>ins_mem
def Mid17 (m:List Str) (lp:Lp) (d:Deed) (ks:List Key) (xs:List PV) (ws:List Int) (c:Int):Prop:=((∃ x j,d=.put x j)∧W17 (d.done m) (d.com lp.r lp.g lp.cs) ks xs ws c)∨((∀ x j,d≠.put x j)∧W17 m lp.cs ks xs ws c)
def ZCs:Pre:=fun l R=>∃ (ks:List Key) (xs:List PV) (a:Addr) (ws:List Int) (x:Str) (n:Int) (ns:List Str),l=[.is (.dct ks xs),.ow true (.nd .lst a ((ws.map PV.int).map .fz)),.is (.str x),.is (.lst (ns.map .str))]∧x∈ns∧ZAs ks xs (.inr x)=some (.int n)∧n∈ws∧R=.mt fun p t'=>p=.bl true∧t'=.nd .lst a (((ws.eraseIdx (ws.idxOf n)).map PV.int).map .fz)
def ZDJ:Pre:=fun l R=>∃ (ns:List Str) (lp:Lp) (ks:List Key) (xs:List PV) (a:Addr) (ws:List Int) (c:Int),l=[.is (.lst (ns.map .str)),.is lp.P,.is (.dct ks xs),.ow true (.nd .lst a ((ws.map PV.int).map .fz))]∧RowOk 40 ns∧lp.Good ns∧W17 ns lp.cs ks xs ws c∧R=.mt fun p t'=>p=.bl true∧∃ ws':List Int,t'=.nd .lst a ((ws'.map PV.int).map .fz)
section
variable [Xw]
variable {ss:List Slot} {te:TE} {i:Nat} {lt:Bool} {t:OV} {nx:List Slot→Prop}
theorem ws_retW {k:PV→Prop} (h:Wm ss i lt t te fun p _=>k p):Ws ss (tRet te) nx (.is k):=⟨fun E D σ F H S hn hr=>
  h.go E σ F H _ S fun v p t' F1 H1 m1 r kk=>hr v F1 H1 m1.st.toFin ⟨p,r,kk⟩⟩
end
end Fz
set_option Elab.async false
set_option linter.all false
set_option maxRecDepth 100000
set_option maxHeartbeats 8000000
set_option exponentiation.threshold 5000
namespace Pf
open PySem PySem.Spec PyProof.Rows L2 Lw
abbrev St:=L2.St
def top (i:Nat):Stmt:=PySem.Challenge.pw_stirround_k17_whole_each_begun_thing_onc.main.body.getD i (.Pass ⟨0,0,0,0⟩)
abbrev ZBX:Stmt:=top 45
abbrev ZBM:Stmt:=top 46
abbrev ZAm:Stmt:=top 47
abbrev ZBJ:Stmt:=top 48
abbrev ZBA:Stmt:=top 49
abbrev ZBU:Stmt:=top 50
abbrev ZB1:Stmt:=top 37
abbrev ZCw:Stmt:=top 31
abbrev ZCM:Stmt:=top 18
abbrev ZAt:Stmt:=top 39
abbrev ZBo:Stmt:=top 30
abbrev ZBB:Stmt:=top 38
abbrev ZAU:Stmt:=top 40
abbrev ZE8:Stmt:=top 34
abbrev ZAW:Stmt:=top 42
abbrev ZBV:Stmt:=top 15
abbrev ZAl:Stmt:=top 36
abbrev ZEI:Stmt:=top 33
abbrev ZAX:Stmt:=top 52
abbrev ZAy:Stmt:=top 53
abbrev ZBL:Stmt:=top 51
abbrev ZBa:Stmt:=top 13
abbrev ZBK:Stmt:=top 20
abbrev ZB3:Stmt:=top 21
abbrev ZAz:Stmt:=top 22
abbrev ZBC:Stmt:=top 19
abbrev ZAe:Stmt:=top 26
abbrev ZAZ:Stmt:=top 27
abbrev ZBp:Stmt:=top 17
abbrev ZCv:Stmt:=top 43
abbrev ZAf:Stmt:=top 41
abbrev ZBZ:Stmt:=top 35
abbrev ZGP:Stmt:=top 32
abbrev ZAw:Stmt:=top 25
abbrev ZBW:Stmt:=top 23
abbrev ZAi:Stmt:=top 24
abbrev ZEG:Stmt:=top 16
abbrev ZCi:Stmt:=top 54
variable {P:Program} {w:World} {K:PySem.W.Frag} {mg:Str→Option Value} {base:Heap} {f:Addr} {fd:FuncData}
open Fz
local macro_rules | `(tactic| walk_at "wp")=>`(tactic| first
  | ((with_reducible refine' wp_l (ZE7 (ZBE ?wk ?_)));(case wk=>rfl))
  | ((with_reducible refine' wp_l (ZEC (ZBE ?wk ?_)));(case wk=>rfl))
  | ((with_reducible refine' wp_l (ZE7 (ZE7 (ZBE ?wk ?_))));(case wk=>rfl))
  | ((with_reducible refine' wp_l (ZEC (ZEC (ZBE ?wk ?_))));(case wk=>rfl))
  | ((with_reducible refine' wp_l (ZEC (ZE7 (ZBE ?wk ?_))));(case wk=>rfl))
  | ((with_reducible refine' ZHZ (ZBE ?wk ?_));(case wk=>rfl))
  | ((with_reducible refine' ZHZ (ZEC (ZBE ?wk ?_)));(case wk=>rfl))
  | ((with_reducible refine' ZHZ (ZE7 (ZBE ?wk ?_)));(case wk=>rfl))
  | ((with_reducible refine' wp_name ?wk ?_);(case wk=>rfl))
  | (with_reducible refine' wp_led ?_)
  | (with_reducible refine' wp_lled ?_)
  | (with_reducible refine' wp_step ?_)
  | (with_reducible refine' wp_lstep ?_)
  | (with_reducible refine' ZHt ?_)
  | (with_reducible refine' wp_undo ?_)
  | (with_reducible refine' ZKi ?_)
  | (with_reducible refine' ZHF ?_)
  | ((with_reducible refine' ZIP ?wk ?_);(case wk=>rfl))
  | (with_reducible refine' wp_eqT0 ?_)
  | (with_reducible refine' wp_neT0 ?_)
  | ((with_reducible refine' ZAL ?wk ?_);(case wk=>rfl))
  | (with_reducible refine' wp_int ?_)
  | (with_reducible refine' ZJL ?_)
  | (with_reducible refine' wp_bl ?_)
  | (with_reducible refine' ZDE ?_)
  | (with_reducible refine' wp_rI ?_)
  | (with_reducible refine' wp_rI0 ?_)
  | (with_reducible refine' wp_rB0 ?_)
  | (with_reducible refine' ZBv ?_)
  | (with_reducible refine' wp_ne ?_)
  | (with_reducible refine' wp_and ?_)
  | (with_reducible refine' wp_or ?_)
  | (with_reducible refine' wp_not ?_)
  | (with_reducible refine' wp_chain ?_)
  | (with_reducible refine' wp_neg ?_)
  | ((with_reducible refine' wp_lenS ?wk ?_);(case wk=>rfl))
  | (with_reducible refine' wp_len ?_)
  | (with_reducible refine' wp_ixL ?_)
  | (with_reducible refine' wp_ixT ?_)
  | (with_reducible refine' wp_ixQ ?_)
  | (with_reducible refine' wp_in0 ?_)
  | (with_reducible refine' wp_in1 ?_)
  | (with_reducible refine' wp_tup ?_)
  | (with_reducible refine' ZGI ?_)
  | (with_reducible refine' wp_eqS0 ?_)
  | (with_reducible refine' wp_eqS1 ?_)
  | (with_reducible refine' wp_eqP ?_)
  | (with_reducible refine' wp_neP ?_)
  | ((with_reducible refine' wp_take ?wk ?_);(case wk=>rfl))
  | (with_reducible refine' wp_place ?_)
  | (with_reducible refine' wp_isB ?_)
  | (with_reducible refine' wp_notB ?_)
  | (refine' ZKH ?_)
  | (with_reducible refine' ZKY ?_)
  | (with_reducible refine' wp_eqN ?_)
  | (with_reducible refine' ZIq ?_)
  | (with_reducible refine' wp_neLT ?_)
  | (refine' wp_max ?wk ?_;(case wk=>rfl))
  | (refine' wp_int1 ?wk ?_;(case wk=>rfl))
  | (refine' wp_abs ?wk ?_;(case wk=>rfl))
  | ((with_reducible refine' ZJZ ?wk ?_);(case wk=>rfl))
  | (refine' wp_min ?wk ?_;(case wk=>rfl))
  | (refine' wp_all ?wk ?_;(case wk=>rfl))
  | (refine' wp_any ?wk ?_;(case wk=>rfl))
  | (refine' ZJ4 ?wk ?_;(case wk=>rfl)))
local macro_rules | `(tactic| walk_at "wn")=>`(tactic| first
  | (refine' wn_rowNP ?wj ?wk ?_;(case wj=>rfl);(case wk=>rfl))
  | (with_reducible refine' ZJl ?_)
  | (with_reducible refine' wn_rest ?_)
  | (with_reducible refine' wn_lrest ?_)
  | (with_reducible refine' ZIl ?_)
  | (with_reducible refine' wn_cat ?_)
  | (with_reducible refine' wn_slice ?_)
  | (with_reducible refine' ZKX ?_)
  | (refine' ZGy ?_)
  | (with_reducible refine' wn_rev ?_)
  | (with_reducible refine' wn_lr ?_)
  | (with_reducible refine' wn_ldone ?_)
  | (refine' wn_list ?wk ?_;(case wk=>rfl))
  | (refine' wn_rowOf ?wj ?wk ?_;(case wj=>rfl);(case wk=>rfl)))
local macro_rules | `(tactic| walk_at "wq")=>`(tactic| first
  | ((with_reducible refine' wq_l (ZBE ?wk ?_));(case wk=>rfl))
  | ((with_reducible refine' wq_l (ZE7 (ZBE ?wk ?_)));(case wk=>rfl))
  | ((with_reducible refine' wq_l (ZEC (ZBE ?wk ?_)));(case wk=>rfl))
  | ((with_reducible refine' wq_own ?wk ?_);(case wk=>rfl))
  | ((with_reducible refine' wq_sq ?wk ?_);(case wk=>rfl))
  | ((with_reducible refine' ZCa ?wk ?_);(case wk=>rfl))
  | ((with_reducible refine' wq_isT ?wk ?_);(case wk=>rfl))
  | (with_reducible refine' ZKZ ?_)
  | (refine ZCK (ZCj ?_);walk_at "wn")
  | (refine ZCK ?_;walk_at "wp"))
local macro_rules | `(tactic| walk_at "wz")=>`(tactic| first
  | ((with_reducible refine' wz_sq ?wk ?_);(case wk=>rfl))
  | (with_reducible refine' ZGN ?_)
  | (refine ZCL (ZCj ?_);walk_at "wn")
  | (refine ZCL ?_;walk_at "wp"))
local macro_rules | `(tactic| walk_at "wt")=>`(tactic| first
  | (with_reducible refine' ZAR ?_)
  | (with_reducible refine' wt_b ?_)
  | (with_reducible refine' wt_true ?_)
  | (with_reducible refine' wt_not ?_)
  | (with_reducible refine' ZC7 ?_)
  | (with_reducible refine' wt_or ?_))
local macro_rules | `(tactic| walk_at "we")=>`(tactic| first
  | (with_reducible refine' ZHQ ?_)
  | (with_reducible refine' ZH8 ?_)
  | (with_reducible refine' wo_none ?_)
  | (with_reducible refine' wo_some ?_)
  | (with_reducible refine' wi_rng ?_)
  | (with_reducible refine' wi_rng2 ?_)
  | (with_reducible refine' ZJs ?_)
  | (with_reducible refine' wi_sq ?_))
local macro_rules | `(tactic| walk_at "w")=>`(tactic| first
  | ((with_reducible show ∃ _,_=OV.tp _∧_);refine ⟨_,rfl,?_⟩)
  | ((with_reducible show ∃ _,_=OV.fz _∧_);refine ⟨_,rfl,?_⟩)
  | ((with_reducible show ∃ _ _,_=OV.nd NK.lst _ (List.map OV.fz _)∧_);refine ⟨_,_,rfl,?_⟩)
  | ((with_reducible show ∃ _ _,_=OV.nd NK.lst _ _∧_);refine ⟨_,_,rfl,?_⟩)
  | ((with_reducible show ∃ _ _ _,_=PV.int _∧_∧_∧_);refine ⟨_,_,_,rfl,rfl,rfl,?_⟩)
  | ((with_reducible show ∃ _ _ _,_=ZAu _ _ _∧_);refine ⟨_,_,_,rfl,?_⟩)
  | ((with_reducible show ∃ _,_=dP _∧_);refine ⟨_,rfl,?_⟩)
  | ((with_reducible show Wp _ _ _);first | walk_at "wp" | (refine ZCj ?_;walk_at "wn"))
  | ((with_reducible show Wn _ _ _);walk_at "wn")
  | ((with_reducible show Wq _ _ _);walk_at "wq")
  | ((with_reducible show Wz _ _ _);walk_at "wz")
  | ((with_reducible show Wt _ _ _);walk_at "wt")
  | ((with_reducible show We _ _ _);walk_at "we")
  | ((with_reducible show Wo _ _ _);walk_at "we")
  | ((with_reducible show Wi _ _ _);walk_at "we")
  | ((with_reducible show Ws _ _ _ _);first
    | (with_reducible refine' ZAn ?_)
    | (with_reducible refine' ZAr ?_)
    | (with_reducible refine' ZBT ?_)
    | (with_reducible refine' ZAY ?_)
    | ((with_reducible refine' ZGg ?wk ?_);(case wk=>rfl))
    | ((with_reducible refine' ZK7 ?wk ?_);(case wk=>rfl))
    | ((with_reducible refine' ZJ9 ?wk ?_);(case wk=>rfl))
    | ((with_reducible refine' ws_pot ?wk ?_);(case wk=>rfl))
    | ((with_reducible refine' ZDZ ?_);walk_at "wn")
    | ((with_reducible refine' ZFU ?_);walk_at "wp")
    | ((with_reducible refine' ws_retO ?wk ?_);(case wk=>rfl))
    | ((with_reducible refine' ws_retN ?_);walk_at "wn")
    | ((with_reducible refine' ws_ret ?_);walk_at "wp"))
  | ((with_reducible show ∃ _,_=PV.int _∧_);refine ⟨_,rfl,?_⟩)
  | ((with_reducible show ∃ _,_=PV.str _∧_);refine ⟨_,rfl,?_⟩)
  | ((with_reducible show ∃ _,_=PV.bl _∧_);refine ⟨_,rfl,?_⟩)
  | ((with_reducible show _=false∧_);refine ⟨rfl,?_⟩)
  | ((with_reducible show _=true∧_);refine ⟨rfl,?_⟩)
  | ((with_reducible show (_:Bool)=_∧_);refine ⟨rfl,?_⟩)
  | ((with_reducible show ∃ _ _,_=PV.int _∧L2.atI _ _=some _∧_);refine ⟨_,_,rfl,rfl,?_⟩)
  | ((with_reducible show ∃ _,(_=PV.lst _∧_)∨(_=PV.tup _∧_));first | refine ⟨_,.inl ⟨rfl,?_⟩⟩ | refine ⟨_,.inr ⟨rfl,?_⟩⟩)
  | ((with_reducible show ∃ _,_=List.map _ _∧_);first | refine ⟨_,rfl,?_⟩ | refine ⟨[],rfl,?_⟩ | refine ⟨_,cutP_map _ _ _ _,?_⟩ | refine ⟨_,map_app _ _ _,?_⟩ | refine ⟨_,map_bl _ _,?_⟩))
local macro_rules | `(tactic| walk_at "ww")=>`(tactic| repeat walk_at "w")
theorem sc__law_pot:FnScope ["script", "k", "cell", "rest_here"] ["script", "k"] (ZA4 ZBX):=⟨rfl,rfl,rfl,by decide +kernel,rfl,by decide +kernel,by decide +kernel⟩
theorem ZHp (F:Fun K "_law_pot" "_law_pot" ZBX f fd) (bd:Binds K fd ["script", "k"] []) (m:mg "_law_pot" = some (.ref f)) (b_len:mg "len" = none) :
    Has P w K mg base "_law_pot" 1 ["script", "k"] (spPot K):=by
  refine Has.mk F bd m (F.okq (k:=0) sc__law_pot (fun vs H Q E h=>?_) (fun cdv A outer s H vs Q E hr h=>?_))
  · obtain ⟨a,ns,k,rfl,hS,k0,k1,q⟩:=h;rfl
  obtain ⟨a,ns,k,rfl,hS,k0,k1,q⟩:=h
  refine ⟨_,(ZA8 rfl (ZAN (i:=2) sc__law_pot.nd rfl (Or.inl rfl) ZA2)
      (ZA8 rfl (ZBD (ZAS (ZA6 ZGU (qv 1) (ZAK ZAJ (by rfl) b_len (by decide +kernel) (ZA0 (qv 0) ZA1)) (ZAF _)) (ZA7 rfl (ZAN (i:=2) sc__law_pot.nd rfl (Or.inl rfl) (ZAP ZCd (ZAD ZB2 (qv 0) (qv 1) (fun _ _=>rfl)) (ZAP ZCT (ZAP ZCT (ZAP ZCT (ZAP ZE0 ZA2 ZA2) (ZAP ZE0 ZA2 ZA2)) (ZAP ZE0 ZA2 ZA2)) (ZAP ZE0 ZA2 ZA2))))) ZAI))
      (ZA8 rfl (ZAN (i:=3) sc__law_pot.nd rfl (Or.inl rfl) ZA2)
      (ZA8 rfl (ZBD (ZAS (ZA6 ZHz (qv 2) (ZAP ZE0 ZA2 ZA2) (ZAF _)) (ZA7 rfl (ZAN (i:=3) sc__law_pot.nd rfl (Or.inl rfl) (qv 2))) ZAI))
      (ZA7 rfl (ZAH (ZBq (ZA0 (qv 3) (ZA0 (ZAP ZCd (ZAP ZCT (ZAP ZBP (ZAP ZBP (ZAP ZCd (qv 2) ZA2) (ZAP ZCT ZA2 (qv 1))) ZA2) ZA2) ZA2) ZA1))))))))),?_⟩
  have hl:(ns.map V.int).length=ns.length:=List.length_map _
  refine ⟨fun σ' H'=>∃ c:Int,σ'=[some (.ref a),some (.int k),some (.int c),none]∧H=H'∧0≤c∧c < 10 ^ 256,?_,?_⟩
  · refine ⟨_,rfl,_,rfl,a,_,rfl,.inl hS,_,_,rfl,rfl,_,rfl,?_⟩
    refine ZAg (fun c=>?_) (fun c=>?_)
    · have c':k < (((ns.map V.int).length:Nat):Int):=of_decide_eq_true c
      rw [hl] at c'
      have hk:k.toNat < ns.length:=by omega
      have hv:atI (ns.map V.int) k=some (.int ns[k.toNat]):=ZF9 k0 (by rw [List.getElem?_map,List.getElem?_eq_getElem hk] <;> rfl)
      refine ⟨_,rfl,_,rfl,a,_,_,_,rfl,rfl,hS,hv,_,_,rfl,rfl,⟨by decide,by decide,by decide +kernel⟩,_,_,rfl,rfl,⟨by decide,by decide,by decide +kernel⟩,_,_,rfl,rfl,⟨by decide +kernel,by decide +kernel⟩,_,_,rfl,rfl,⟨by decide,by decide,by decide +kernel⟩,_,_,rfl,rfl,⟨by decide +kernel,by decide +kernel⟩,
        _,_,rfl,rfl,⟨by decide,by decide,by decide +kernel⟩,_,_,rfl,rfl,⟨by decide +kernel,by decide +kernel⟩,_,_,rfl,rfl,(by show (0:Int) < _;decide +kernel),?_⟩
      exact ⟨_,rfl,rfl,Int.emod_nonneg _ (by decide +kernel),Int.emod_lt_of_pos _ (by decide +kernel)⟩
    · exact ⟨0,rfl,rfl,by decide,by decide +kernel⟩
  rintro σ' H' ⟨c,rfl,rfl,c0,c1⟩
  refine ⟨fun σ' H'=>∃ d:Int,σ'=[some (.ref a),some (.int k),some (.int c),some (.int d)]∧H=H'∧0≤d∧d < 10 ^ 256,?_,?_⟩
  · refine ⟨_,rfl,_,_,rfl,rfl,⟨by decide,by decide,by decide +kernel⟩,_,_,rfl,rfl,_,rfl,?_⟩
    refine ZAg (fun _=>?_) (fun _=>?_)
    · exact ⟨_,rfl,c,rfl,rfl,c0,c1⟩
    · exact ⟨0,rfl,rfl,by decide,by decide +kernel⟩
  rintro σ' H' ⟨d,rfl,rfl,d0,d1⟩
  have e0:0≤c % 2147483629:=Int.emod_nonneg _ (by decide)
  have e1:c % 2147483629 < 2147483629:=Int.emod_lt_of_pos _ (by decide)
  refine ⟨_,rfl,_,rfl,_,_,rfl,rfl,(by show (0:Int) < 2147483629;decide),_,rfl,_,_,rfl,rfl,⟨by decide +kernel,ZBm (by omega) (by omega)⟩,_,_,rfl,rfl,_,_,rfl,rfl,_,_,rfl,rfl,⟨ZBm (by omega) (by omega),by decide +kernel⟩,_,_,rfl,rfl,(by show (0:Int) < 2147483647;decide),?_⟩
  refine ⟨(by show 2≤sizeLine;decide),fun p hp=>?_⟩
  exact q p _ hp (ZA5 hp _) ⟨d,_,ZA3,d0,d1,Int.emod_nonneg _ (by decide),Int.emod_lt_of_pos _ (by decide)⟩
theorem sc__law_take:FnScope ["pot", "many", "found"] ["pot", "many"] (ZA4 ZBM):=⟨rfl,rfl,rfl,by decide +kernel,rfl,by decide +kernel,by decide +kernel⟩
theorem ZGx (F:Fun K "_law_take" "_law_take" ZBM f fd) (bd:Binds K fd ["pot", "many"] []) (m:mg "_law_take" = some (.ref f))  :
    Has P w K mg base "_law_take" 1 ["pot", "many"] (ZEJ):=by
  refine Has.mk F bd m (F.okq (k:=0) sc__law_take (fun vs H Q E h=>?_) (fun cdv A outer s H vs Q E hr h=>?_))
  · obtain ⟨p,m,rfl,⟨a,b,hp,a0,a1,b0,b1⟩,m0,m1,q⟩:=h;rfl
  obtain ⟨p,m,rfl,⟨a,b,hp,a0,a1,b0,b1⟩,m0,m1,q⟩:=h
  refine ⟨_,(ZA8 rfl (ZAS (ZA6 op_gt (ZAD ZB2 (qv 0) ZA2 (fun _ _=>rfl)) ZA2 (ZAF _)) (ZA8 rfl (ZAN (i:=2) sc__law_take.nd rfl (Or.inl rfl) (ZAP ZCd (ZAD ZB2 (qv 0) ZA2 (fun _ _=>rfl)) (qv 1)))
      (ZA8 rfl (ZHB (ZAP ZFT (ZAD ZB2 (qv 0) ZA2 (fun _ _=>rfl)) (qv 1)) (qg_sub (qv 0) ZA2 ZHj))
      (ZA7 rfl (ZAH (qv 2))))) ZAI)
      (ZA8 rfl (ZHB (ZAP ZCd (ZAP ZBP (ZAP ZCT (ZAD ZB2 (qv 0) ZA2 (fun _ _=>rfl)) ZA2) ZA2) ZA2) (qg_sub (qv 0) ZA2 ZHj))
      (ZA7 rfl (ZAH (ZAP ZCd (ZAP ZFT (ZAP ZCd (ZAP ZCT (ZAD ZB2 (qv 0) ZA2 (fun _ _=>rfl)) (ZAD ZB2 (qv 0) ZA2 (fun _ _=>rfl))) ZA2) ZA2) (qv 1)))))),?_⟩
  refine ⟨_,rfl,p,_,_,_,rfl,rfl,SqL.of hp,rfl,_,_,rfl,rfl,_,rfl,?_⟩
  refine ZAg (fun c=>?_) (fun c=>?_)
  · have c':0 < a:=of_decide_eq_true c
    refine ⟨_,rfl,p,_,_,_,rfl,rfl,SqL.of hp,rfl,_,rfl,_,_,rfl,rfl,m0,?_⟩
    refine ⟨_,rfl,p,_,_,_,rfl,rfl,SqL.of hp,rfl,_,rfl,_,_,rfl,rfl,⟨m0,ZBm (by omega) (by omega)⟩,?_⟩
    refine ⟨_,rfl,p,_,_,_,rfl,rfl,hp,rfl,?_⟩
    refine ⟨_,rfl,?_⟩
    refine q _ _ (Int.emod_nonneg _ (by omega)) (Int.emod_lt_of_pos _ m0) ⟨⟨a / m,b,ZA3,Int.ediv_nonneg a0 (by omega),Int.lt_of_le_of_lt (Int.ediv_le_self _ a0) a1,b0,b1⟩,SameX.upd⟩
  · refine ⟨_,rfl,p,_,_,_,rfl,rfl,SqL.of hp,rfl,_,_,rfl,rfl,⟨ZBm (by omega) (by omega),by decide +kernel⟩,_,_,rfl,rfl,_,_,rfl,rfl,(by show (0:Int) < 2147483647;decide),?_⟩
    refine ⟨_,rfl,p,_,_,_,rfl,rfl,hp,rfl,?_⟩
    have hb0:0≤(b * 69621+12345) % 2147483647:=Int.emod_nonneg _ (by decide)
    have hb1:(b * 69621+12345) % 2147483647 < 2147483647:=Int.emod_lt_of_pos _ (by decide)
    generalize hb:(b * 69621+12345) % 2147483647=b' at hb0 hb1
    have hp':(upd H p (.lst [.int a,.int ((b * 69621+12345) % 2147483647)])) p=some (.lst [.int a,.int b']):=by rw [ZA3,hb]
    refine ⟨_,rfl,p,_,_,_,rfl,rfl,SqL.of hp',rfl,_,rfl,p,_,_,_,rfl,rfl,SqL.of hp',rfl,_,_,rfl,rfl,⟨ZBm (by omega) (by omega),ZBm (by omega) (by omega)⟩,_,_,rfl,rfl,(by show (0:Int) < 2147483629;decide),?_⟩
    refine ⟨_,_,rfl,rfl,⟨(by show (0:Int) < 64;decide),by decide +kernel⟩,_,rfl,_,_,rfl,rfl,m0,?_⟩
    exact q _ _ (Int.emod_nonneg _ (by omega)) (Int.emod_lt_of_pos _ m0) ⟨⟨a,b',hp',a0,a1,hb0,hb1⟩,SameX.upd⟩
theorem sc__law_letters:FnScope ["number", "word"] ["number"] (ZA4 ZAm):=⟨rfl,rfl,rfl,by decide +kernel,rfl,by decide +kernel,by decide +kernel⟩
theorem ZER (F:Fun K "_law_letters" "_law_letters" ZAm f fd) (bd:Binds K fd ["number"] []) (m:mg "_law_letters" = some (.ref f))  :
    Has P w K mg base "_law_letters" 1 ["number"] (ZGp):=by
  refine Has.mk F bd m (F.okq (k:=0) sc__law_letters (fun vs H Q E h=>?_) (fun cdv A outer s H vs Q E hr h=>?_))
  · obtain ⟨r,rfl,r0,r1,q⟩:=h;rfl
  obtain ⟨r,rfl,r0,r1,q⟩:=h
  refine ⟨_,(ZA8 rfl (ZAN (i:=1) sc__law_letters.nd rfl (Or.inl rfl) ZAM)
      (ZA8 rfl (ZBD (ZF1 PassesOwn.never (ZI0 (ZA6 ZAk (qv 1) ZAM (ZAF _)) (ZF3 (ZA6 op_gt (qv 0) ZA2 (ZAF _)))).pt (ZA8 rfl (ZAN (i:=1) sc__law_letters.nd rfl (Or.inl rfl) (ZAP ZFI (qv 1) (ZAD ix_str ZAM (ZAP ZCd (qv 0) ZA2) (fun _ _=>rfl))))
      (ZA7 rfl (ZAN (i:=0) sc__law_letters.nd rfl (Or.inl rfl) (ZAP ZFT (qv 0) ZA2))))))
      (ZA7 rfl (ZAH (qv 1))))),?_⟩
  obtain ⟨n,rfl⟩:=Int.eq_ofNat_of_zero_le r0
  have hn:n < 26 ^ 8:=by omega
  rw [Int.toNat_natCast] at q
  refine ⟨fun σ' H'=>∃ v,σ'=[some v,some (.str (ZBy (MA.lets n)))]∧H=H',?_,?_⟩
  · refine ⟨fun m σ' H'=>∃ (k:Nat) (pre:List Nat),σ'=[some (.int k),some (.str (ZBy pre))]∧H=H'∧((pre=[]∧k=n∧m=n+2)∨(pre≠[]∧m=k+1∧(0 < k→pre++MA.lets k=MA.lets n)∧(k=0→pre=MA.lets n))),⟨n+2,n,[],rfl,rfl,.inl ⟨rfl,rfl,rfl⟩⟩,?_⟩
    rintro m σ' H' ⟨k,pre,rfl,rfl,hI⟩
    refine ⟨_,rfl,rfl,_,rfl,?_⟩
    refine ZAg (fun c=>iteT ?_) (fun c=>⟨_,rfl,_,_,rfl,rfl,_,rfl,?_⟩)
    · have hp:pre=[]:=strL_empty.mp (of_decide_eq_true c)
      obtain ⟨_,hk,hm⟩ | ⟨h,_⟩:=hI
      · have he:pre++MA.lets k=MA.lets n:=by rw [hp,hk];rfl
        have hlen:pre.length+1≤8:=by
          have h1:=congrArg List.length he
          rw [List.length_append] at h1
          have h2:=MA.lets_len 7 n hn
          have h3:=MA.lets_pos k
          omega
        refine ⟨fun σ' H'=>σ'=[some (.int ((k:Int) / 26)),some (.str (ZBy pre++⟨#[97+((k:Int) % 26).toNat]⟩))]∧H=H',?_,?_⟩
        · rintro σ' H' ⟨rfl,rfl⟩
          have nx:=ZGO he
          have e1:((k:Int) % 26).toNat=k % 26:=by omega
          have e2:(k:Int) / 26=((k / 26:Nat):Int):=by omega
          exact ⟨k / 26+1,by omega,k / 26,pre++[97+k % 26],by rw [e1,e2,ZGC],rfl,.inr ⟨by simp,rfl,nx.1,nx.2⟩⟩
        · refine ⟨_,rfl,_,rfl,_,_,rfl,rfl,(by show (0:Int) < 26;decide),_,_,_,rfl,rfl,(by decide +kernel),abc_at (Int.emod_nonneg _ (by decide)) (Int.emod_lt_of_pos _ (by decide)),_,_,rfl,rfl,?_,?_⟩
          · rw [ZDS];exact small (show pre.length+1≤_ by omega)
          · exact ⟨_,rfl,_,_,rfl,rfl,⟨(by show (0:Int) < 26;decide),by decide +kernel⟩,rfl,rfl⟩
      · exact absurd hp h
    · have hp:pre≠[]:=fun h=>c (decide_eq_true (strL_empty.mpr h))
      obtain ⟨h,_⟩ | ⟨_,hm,h1,h2⟩:=hI
      · exact absurd h hp
      refine ZAg (fun c2=>?_) (fun c2=>?_)
      · have hk:0 < k:=by have:(0:Int) < k:=of_decide_eq_true c2;omega
        have he:=h1 hk
        have hlen:pre.length+1≤8:=by
          have h1:=congrArg List.length he
          rw [List.length_append] at h1
          have h2:=MA.lets_len 7 n hn
          have h3:=MA.lets_pos k
          omega
        refine ⟨fun σ' H'=>σ'=[some (.int ((k:Int) / 26)),some (.str (ZBy pre++⟨#[97+((k:Int) % 26).toNat]⟩))]∧H=H',?_,?_⟩
        · rintro σ' H' ⟨rfl,rfl⟩
          have nx:=ZGO he
          have e1:((k:Int) % 26).toNat=k % 26:=by omega
          have e2:(k:Int) / 26=((k / 26:Nat):Int):=by omega
          exact ⟨k / 26+1,by omega,k / 26,pre++[97+k % 26],by rw [e1,e2,ZGC],rfl,.inr ⟨by simp,rfl,nx.1,nx.2⟩⟩
        · refine ⟨_,rfl,_,rfl,_,_,rfl,rfl,(by show (0:Int) < 26;decide),_,_,_,rfl,rfl,(by decide +kernel),abc_at (Int.emod_nonneg _ (by decide)) (Int.emod_lt_of_pos _ (by decide)),_,_,rfl,rfl,?_,?_⟩
          · rw [ZDS];exact small (show pre.length+1≤_ by omega)
          · exact ⟨_,rfl,_,_,rfl,rfl,⟨(by show (0:Int) < 26;decide),by decide +kernel⟩,rfl,rfl⟩
      · have hk:k=0:=by
          have:¬ (0:Int) < k:=fun z=>c2 (decide_eq_true z)
          omega
        exact ⟨_,by rw [h2 hk],rfl⟩
  · rintro σ' H' ⟨v,rfl,rfl⟩
    exact ⟨_,rfl,q⟩
theorem sc__law_name:FnScope ["pot", "names", "some", "way", "name", "number"] ["pot", "names"] (ZA4 ZBJ):=⟨rfl,rfl,rfl,by decide +kernel,rfl,by decide +kernel,by decide +kernel⟩
theorem ZHO (F:Fun K "_law_name" "_law_name" ZBJ f fd) (bd:Binds K fd ["pot", "names"] []) (m:mg "_law_name" = some (.ref f)) (h__law_letters:Has P w K mg base "_law_letters" 1 ["number"] (ZGp)) (h__law_take:Has P w K mg base "_law_take" 1 ["pot", "many"] (ZEJ)) (b_len:mg "len" = none) :
    Has P w K mg base "_law_name" 2 ["pot", "names"] (ZH4 K):=by
  refine Has.mk F bd m (F.okq (k:=1) sc__law_name (fun vs H Q E h=>?_) (fun cdv A outer s H vs Q E hr h=>?_))
  · obtain ⟨p,q,ns,rfl,hp,hS,hne,hN,hL,K1⟩:=h;rfl
  obtain ⟨p,q,ns,rfl,hp,hS,hne,hN,hL,K1⟩:=h
  refine ⟨_,(ZA8 rfl (ZAN (i:=2) sc__law_name.nd rfl (Or.inl rfl) (ZAv (ZA0 ZAM (ZA0 ZAM (ZA0 ZAM (ZA0 ZAM (ZA0 ZAM (ZA0 ZAM (ZA0 ZAM (ZA0 ZAM (ZA0 ZAM (ZA0 ZAM (ZA0 ZAM (ZA0 ZAM (ZA0 ZAM ZA1)))))))))))))))
      (ZA8 rfl (ZAN (i:=3) sc__law_name.nd rfl (Or.inl rfl) (ZAB h__law_take hr (by decide) (ZA0 (qv 0) (ZA0 ZA2 ZA1))))
      (ZA8 rfl (ZAN (i:=4) sc__law_name.nd rfl (Or.inl rfl) (ZAD ZA9 (qv 2) (ZAB h__law_take hr (by decide) (ZA0 (qv 0) (ZA0 ZA2 ZA1))) (fun _ _=>rfl)))
      (ZA8 rfl (ZBD (ZAS (ZA6 ZAk (qv 3) ZA2 (ZAF _)) (ZA7 rfl (ZAN (i:=4) sc__law_name.nd rfl (Or.inl rfl) (ZAB h__law_letters hr (by decide) (ZA0 (ZAB h__law_take hr (by decide) (ZA0 (qv 0) (ZA0 (ZAP ZIs (ZAP ZE0 ZA2 ZA2) ZA2) ZA1))) ZA1)))) ZAI))
      (ZA8 rfl (ZBD (ZAS (ZCP (ZA6 ZAk (qv 3) ZA2 (ZAF _)) (ZBz (ZA6 (ZHA hr.units0) (qv 1) (ZBq ZA1) (ZAF _)))).pt (ZA8 rfl (ZAN (i:=4) sc__law_name.nd rfl (Or.inl rfl) (ZAD ZB2 (qv 1) (ZAB h__law_take hr (by decide) (ZA0 (qv 0) (ZA0 (ZAK ZAJ (by rfl) b_len (by decide +kernel) (ZA0 (qv 1) ZA1)) ZA1))) (fun _ _=>rfl)))
      (ZA7 rfl (ZAN (i:=4) sc__law_name.nd rfl (Or.inl rfl) (ZBO sl_str (ZAP ZFI (qv 4) (ZAB h__law_letters hr (by decide) (ZA0 (ZAB h__law_take hr (by decide) (ZA0 (qv 0) (ZA0 ZA2 ZA1))) ZA1))) ZC0 (ZBd ZA2))))) ZAI))
      (ZA8 rfl (ZBD (ZAS (ZCP (ZA6 ZAk (qv 3) ZA2 (ZAF _)) (ZBz (ZA6 (ZHA hr.units0) (qv 1) (ZBq ZA1) (ZAF _)))).pt (ZA8 rfl (ZAN (i:=4) sc__law_name.nd rfl (Or.inl rfl) (ZAD ZB2 (qv 1) (ZAB h__law_take hr (by decide) (ZA0 (qv 0) (ZA0 (ZAK ZAJ (by rfl) b_len (by decide +kernel) (ZA0 (qv 1) ZA1)) ZA1))) (fun _ _=>rfl)))
      (ZA7 rfl (ZAN (i:=4) sc__law_name.nd rfl (Or.inl rfl) (ZBO sl_str (qv 4) ZC0 (ZBd (ZAP ZBP ZA2 (ZAB h__law_take hr (by decide) (ZA0 (qv 0) (ZA0 (ZAK ZDx (by rfl) b_len (by decide +kernel) (ZA0 (qv 4) ZA1)) ZA1))))))))) ZAI))
      (ZA8 rfl (ZAN (i:=5) sc__law_name.nd rfl (Or.inl rfl) ZA2)
      (ZA8 rfl (ZBD (ZF1 PassesOwn.never (ZA6 ZCC (qv 4) (qv 1) (by with_unfolding_all rfl)) (ZA8 rfl (ZAN (i:=4) sc__law_name.nd rfl (Or.inl rfl) (ZAB h__law_letters hr (by decide) (ZA0 (qv 5) ZA1)))
      (ZA7 rfl (ZAN (i:=5) sc__law_name.nd rfl (Or.inl rfl) (ZAP ZBP (qv 5) ZA2))))))
      (ZA7 rfl (ZAH (qv 4))))))))))),?_⟩
  have hl:(ns.map V.str).length=ns.length:=List.length_map _
  refine ⟨(by show 13≤sizeLine;decide +kernel),fun sm hsm=>?_⟩
  have hsp:sm≠p:=by
    obtain ⟨_,_,e,_⟩:=hp
    exact (ZAT e hsm).symm
  have g0:PStep p H (upd H sm (.tup menuV)):=PStep.of hp (ZA5 hsm _)
  refine ⟨_,rfl,p,4,rfl,g0.pot,by decide,by decide,fun way H1 w0 w1 s1=>?_⟩
  refine ⟨_,rfl,_,rfl,p,13,rfl,s1.pot,by decide,by decide,fun i H2 i0 i1 s2=>?_⟩
  have h2:H2 sm=some (.tup menuV):=s2.at' (s1.at' ZA3 hsp) hsp
  obtain ⟨x,hx,nx⟩:=menu_at i0 i1
  refine ⟨sm,_,_,_,rfl,rfl,SqT.of h2,hx,?_⟩
  have g2:=g0.trans (s1.trans s2)
  refine ⟨fun σ' H'=>∃ x,σ'=[some (.ref p),some (.ref q),some (.ref sm),some (.int way),some (.str x),none]∧Nm x∧PStep p H H',?_,?_⟩
  · refine ⟨_,rfl,rfl,_,rfl,?_⟩
    refine ZAg (fun c=>?_) (fun c=>?_)
    · refine ⟨_,rfl,_,_,rfl,rfl,⟨by decide,by decide,by decide +kernel⟩,_,_,rfl,rfl,p,_,rfl,g2.pot,lt268a,lt268b,fun r H3 r0 r1 s3=>?_⟩
      have r2:r < 26 ^ 8:=Int.lt_trans r1 lt268j
      exact ⟨r,rfl,r0,r2,_,rfl,ZHW (lt268n r0 r2),g2.trans s3⟩
    · exact ⟨x,rfl,nx,g2⟩
  clear h2 hx nx s2 g2 i0 i1
  rintro σ' H3 ⟨y,rfl,ny,g3⟩
  refine ⟨fun σ' H'=>∃ x,σ'=[some (.ref p),some (.ref q),some (.ref sm),some (.int way),some (.str x),none]∧Nm x∧PStep p H H',?_,?_⟩
  · refine ⟨_,rfl,rfl,_,rfl,?_⟩
    refine ZAg (fun c=>?_) (fun c=>ZD4 ⟨y,rfl,ny,g3⟩)
    refine ⟨_,rfl,(by show 0≤sizeLine;decide),fun e he=>?_⟩
    have g4:=g3.trans (PStep.of g3.pot (ZA5 he (.lst [])))
    have hSq:=g4.sqL hS hne
    refine ⟨q,e,_,[],rfl,rfl,.inl ⟨hSq,SqL.of ZA3⟩,ZAV ns,rfl,_,rfl,?_⟩
    rw [ZCn]
    refine ZAg (fun c2=>?_) (fun c2=>⟨y,rfl,ny,g4⟩)
    have hpos:0 < ns.length:=by
      cases ns with
      | nil=>simp at c2
      | cons a r=>simp
    refine ⟨_,rfl,_,rfl,_,rfl,q,_,rfl,.inl hSq,p,_,rfl,g4.pot,(by rw [hl];omega),(by rw [hl];omega),fun i H5 i0 i1 s5=>?_⟩
    rw [hl] at i1
    have g5:=g4.trans s5
    obtain ⟨z,hz,hzm,_⟩:=ZDb i0 i1
    have nz:=hN z hzm
    refine ⟨q,_,_,_,rfl,rfl,g5.sqL hS hne,hz,?_⟩
    refine ⟨_,rfl,_,rfl,p,26,rfl,g5.pot,by decide,by decide,fun r H6 r0 r1 s6=>?_⟩
    have g6:=g5.trans s6
    have r2:r < 26 ^ 8:=Int.lt_trans r1 lt268k
    refine ⟨r,rfl,r0,r2,?_⟩
    have nl:=ZHW (n:=r.toNat) (lt268n r0 r2)
    have hlen:z.length+(ZBy (MA.lets r.toNat)).length≤16:=by have:=nz.2.1;have:=nl.2.1;omega
    refine ⟨_,_,rfl,rfl,small (by omega),?_⟩
    refine ⟨_,rfl,_,rfl,small (by rw [ZFg];omega),?_⟩
    refine ⟨_,rfl,ZHr (by decide) (by decide) (by rw [ZFg];have:=nz.1;omega) (fun c hc=>?_),g6⟩
    rw [ZFN] at hc
    rcases List.mem_append.mp hc with hc | hc
    · exact nz.2.2 c hc
    · exact nl.2.2 c hc
  clear ny g3
  rintro σ' H3 ⟨y,rfl,ny,g3⟩
  refine ⟨fun σ' H'=>∃ x,σ'=[some (.ref p),some (.ref q),some (.ref sm),some (.int way),some (.str x),none]∧Nm x∧PStep p H H',?_,?_⟩
  · refine ⟨_,rfl,rfl,_,rfl,?_⟩
    refine ZAg (fun c=>?_) (fun c=>ZD4 ⟨y,rfl,ny,g3⟩)
    refine ⟨_,rfl,(by show 0≤sizeLine;decide),fun e he=>?_⟩
    have g4:=g3.trans (PStep.of g3.pot (ZA5 he (.lst [])))
    have hSq:=g4.sqL hS hne
    refine ⟨q,e,_,[],rfl,rfl,.inl ⟨hSq,SqL.of ZA3⟩,ZAV ns,rfl,_,rfl,?_⟩
    rw [ZCn]
    refine ZAg (fun c2=>?_) (fun c2=>⟨y,rfl,ny,g4⟩)
    have hpos:0 < ns.length:=by
      cases ns with
      | nil=>simp at c2
      | cons a r=>simp
    refine ⟨_,rfl,_,rfl,_,rfl,q,_,rfl,.inl hSq,p,_,rfl,g4.pot,(by rw [hl];omega),(by rw [hl];omega),fun i H5 i0 i1 s5=>?_⟩
    rw [hl] at i1
    have g5:=g4.trans s5
    obtain ⟨z,hz,hzm,_⟩:=ZDb i0 i1
    have nz:=hN z hzm
    refine ⟨q,_,_,_,rfl,rfl,g5.sqL hS hne,hz,?_⟩
    have nz1:=nz.1
    have nz2:=nz.2.1
    refine ⟨_,rfl,_,rfl,_,rfl,_,rfl,small (by omega),p,_,rfl,g5.pot,(by omega),(by omega),fun r H6 r0 r1 s6=>?_⟩
    refine ⟨_,_,rfl,rfl,_,rfl,_,rfl,small (by omega),?_⟩
    exact ⟨_,rfl,ZHr (by omega) (by omega) nz1 nz.2.2,g5.trans s6⟩
  clear ny g3
  rintro σ' H3 ⟨y,rfl,ny,g3⟩
  refine ⟨fun σ' H'=>∃ x v,σ'=[some (.ref p),some (.ref q),some (.ref sm),some (.int way),some (.str x),some v]∧Nm x∧x∉ns∧H3=H',?_,?_⟩
  · refine ⟨fun m σ' H'=>∃ (k:Nat) (x:Str),σ'=[some (.ref p),some (.ref q),some (.ref sm),some (.int way),some (.str x),some (.int k)]∧H3=H'∧Nm x∧m=ns.length+1 - k∧k≤ns.length+1∧(0 < k→x=ZBy (MA.lets (k - 1)))∧(∀ j,j+1 < k→ZBy (MA.lets j)∈ns),
      ⟨ns.length+1,0,y,rfl,rfl,ny,rfl,Nat.zero_le _,fun h=>absurd h (by decide),fun j h=>absurd h (by omega)⟩,?_⟩
    rintro m σ' H' ⟨k,x,rfl,rfl,nx,rfl,hk,hx,hj⟩
    refine ⟨_,rfl,_,rfl,q,_,rfl,.inl (g3.sqL hS hne),rfl,ZAV ns,_,rfl,?_⟩
    rw [if_neg (by decide),ZBg]
    refine ZAg (fun c=>?_) (fun c=>⟨x,_,rfl,nx,fun z=>c (decide_eq_true z),rfl⟩)
    have hin:x∈ns:=of_decide_eq_true c
    have hall:∀ j,j < k→ZBy (MA.lets j)∈ns:=fun j hj'=>by
      by_cases e:j+1 < k
      · exact hj j e
      · have e2:j=k - 1:=by omega
        rw [e2,← hx (by omega)];exact hin
    have hkn:=ZKa hall
    refine ⟨fun σ' H'=>σ'=[some (.ref p),some (.ref q),some (.ref sm),some (.int way),some (.str (ZBy (MA.lets k))),some (.int ((k:Int)+1))]∧H3=H',?_,?_⟩
    · rintro σ' H' ⟨rfl,rfl⟩
      exact ⟨ns.length+1 - (k+1),by omega,k+1,ZBy (MA.lets k),rfl,rfl,ZHW (Nat.lt_of_le_of_lt (Nat.le_trans hkn hL) lt268),rfl,by omega,fun _=>rfl,fun j hj'=>hall j (by omega)⟩
    · refine ⟨_,rfl,k,rfl,by omega,?_,?_⟩
      · have:(k:Int)≤1000:=by omega
        exact Int.lt_of_le_of_lt this lt268i
      · rw [Int.toNat_natCast]
        exact ⟨_,rfl,_,_,rfl,rfl,rfl,rfl⟩
  rintro σ' H' ⟨x,v,rfl,nx,hx,rfl⟩
  exact ⟨_,rfl,K1 x H3 nx hx g3⟩
theorem sc__law_names:FnScope ["pot", "many", "names", "k"] ["pot", "many"] (ZA4 ZBA):=⟨rfl,rfl,rfl,by decide +kernel,rfl,by decide +kernel,by decide +kernel⟩
theorem ZFq (F:Fun K "_law_names" "_law_names" ZBA f fd) (bd:Binds K fd ["pot", "many"] []) (m:mg "_law_names" = some (.ref f)) (h__law_name:Has P w K mg base "_law_name" 2 ["pot", "names"] (ZH4 K)) (b_range:mg "range" = none) :
    Has P w K mg base "_law_names" 3 ["pot", "many"] (ZJY):=by
  refine Has.mk F bd m (F.okq (k:=2) sc__law_names (fun vs H Q E h=>?_) (fun cdv A outer s H vs Q E hr h=>?_))
  · obtain ⟨p,m,rfl,hp,m0,m1,q⟩:=h;rfl
  obtain ⟨p,m,rfl,hp,m0,m1,q⟩:=h
  refine ⟨_,(ZA8 rfl (ZAN (i:=2) sc__law_names.nd rfl (Or.inl rfl) (ZBq ZA1))
      (ZA8 rfl (ZBD (ZIv PassesOwn.never rfl (ZGs rfl b_range (ZA0 (qv 1) ZA1)) (ZC3 (i:=3) sc__law_names.nd rfl (Or.inl rfl)) (ZA7 rfl (ZAq (ZGH PySem.F.plainAttrs_list PySem.F.slot_list_append PySem.F.type_list_append ZEE (qv 2) (ZA0 (ZAB h__law_name hr (by decide) (ZA0 (qv 0) (ZA0 (qv 2) ZA1))) ZA1))))))
      (ZA7 rfl (ZAH (qv 2))))),?_⟩
  refine ⟨(by show 0≤sizeLine;decide),fun l hl=>?_⟩
  have hne:=hp.ne hl
  refine ⟨fun σ' H'=>∃ (ns:List Str) (v:Option V),σ'=[some (.ref p),some (.int m),some (.ref l),v]∧PStep p H H'∧H' l=some (.lst (ns.map V.str))∧(ns.length:Int)=m∧(∀ x∈ns,Nm x)∧ns.Nodup,?_,?_⟩
  · refine ⟨_,rfl,m,rfl,by omega,by omega,ZKq (n:=m.toNat) (fun i σ' H'=>∃ (ns:List Str) (v:Option V),σ'=[some (.ref p),some (.int m),some (.ref l),v]∧PStep p H H'∧H' l=some (.lst (ns.map V.str))∧ns.length=i∧(∀ x∈ns,Nm x)∧ns.Nodup) ?_ ?_ ?_⟩
    · exact ⟨[],none,rfl,(PStep.of hp (Same.refl H)).upd hl hne,ZA3,rfl,fun x hx=>absurd hx (by simp),by simp⟩
    · rintro i σ' H' hi ⟨ns,v,rfl,g,e,hlen,hN,nd⟩
      refine ⟨_,rfl,.inl ⟨rfl,_,SqL.of e⟩,_,rfl,_,rfl,p,l,ns,rfl,g.pot,SqL.of e,hne,hN,by omega,fun x H2 nx hx s2=>?_⟩
      refine ⟨l,_,_,rfl,rfl,s2.at' e hne,Nat.lt_of_le_of_lt (m:=100) (by rw [List.length_map];omega) (by decide +kernel),?_⟩
      refine ⟨ns++[x],_,rfl,(g.trans s2).upd hl hne,by rw [ZA3,List.map_append];rfl,by rw [List.length_append];simp [hlen],fun y hy=>?_,ZDA nd hx⟩
      rcases List.mem_append.mp hy with h | h
      · exact hN y h
      · have:y=x:=by simpa using h
        rw [this];exact nx
    · rintro σ' H' ⟨ns,v,rfl,g,e,hlen,hN,nd⟩
      exact ⟨ns,v,rfl,g,e,by omega,hN,nd⟩
  rintro σ' H' ⟨ns,v,rfl,g,e,hlen,hN,nd⟩
  exact ⟨_,rfl,q l H' ns hl g e hlen hN nd⟩
theorem sc__law_row:FnScope ["pot", "most", "many"] ["pot", "most"] (ZA4 ZBU):=⟨rfl,rfl,rfl,by decide +kernel,rfl,by decide +kernel,by decide +kernel⟩
theorem ZHl (F:Fun K "_law_row" "_law_row" ZBU f fd) (bd:Binds K fd ["pot", "most"] []) (m:mg "_law_row" = some (.ref f)) (h__law_names:Has P w K mg base "_law_names" 3 ["pot", "many"] (ZJY)) (h__law_take:Has P w K mg base "_law_take" 1 ["pot", "many"] (ZEJ)) :
    Has P w K mg base "_law_row" 4 ["pot", "most"] (spRow):=by
  refine Has.mk F bd m (F.okq (k:=3) sc__law_row (fun vs H Q E h=>?_) (fun cdv A outer s H vs Q E hr h=>?_))
  · obtain ⟨p,m,rfl,hp,m0,m1,q⟩:=h;rfl
  obtain ⟨p,m,rfl,hp,m0,m1,q⟩:=h
  refine ⟨_,(ZA8 rfl (ZAN (i:=2) sc__law_row.nd rfl (Or.inl rfl) (ZAB h__law_take hr (by decide) (ZA0 (qv 0) (ZA0 (ZAP ZBP (qv 1) ZA2) ZA1))))
      (ZA8 rfl (ZBD (ZAS (ZA6 ZAk (ZAB h__law_take hr (by decide) (ZA0 (qv 0) (ZA0 ZA2 ZA1))) ZA2 (ZAF _)) (ZA7 rfl (ZAN (i:=2) sc__law_row.nd rfl (Or.inl rfl) (ZAD ZA9 (ZAv (ZA0 ZA2 (ZA0 ZA2 (ZA0 (qv 1) ZA1)))) (ZAB h__law_take hr (by decide) (ZA0 (qv 0) (ZA0 ZA2 ZA1))) (fun _ _=>rfl)))) ZAI))
      (ZA7 rfl (ZAH (ZAB h__law_names hr (by decide) (ZA0 (qv 0) (ZA0 (qv 2) ZA1))))))),?_⟩
  refine ⟨_,rfl,_,rfl,_,_,rfl,rfl,p,_,rfl,hp,by omega,by omega,fun many H1 n0 n1 s1=>?_⟩
  refine ⟨fun σ' H'=>∃ k:Int,σ'=[some (.ref p),some (.int m),some (.int k)]∧0≤k∧k≤m∧PStep p H H',?_,?_⟩
  · refine ⟨_,rfl,p,8,rfl,s1.pot,by decide,by decide,fun r H2 r0 r1 s2=>?_⟩
    have g2:=s1.trans s2
    refine ⟨rfl,_,rfl,?_⟩
    refine ZAg (fun _=>?_) (fun _=>⟨many,rfl,n0,by omega,g2⟩)
    refine ⟨_,rfl,(by show 3≤sizeLine;decide +kernel),fun t ht=>?_⟩
    have hne:=g2.pot.ne ht
    have g3:=g2.trans (PStep.of g2.pot (ZA5 ht (.tup [.int 0,.int 1,.int m])))
    refine ⟨_,rfl,p,3,rfl,g3.pot,by decide,by decide,fun j H4 j0 j1 s4=>?_⟩
    obtain ⟨k,hk,k0,k1⟩:=pick3 j0 j1 m0
    exact ⟨t,_,_,_,rfl,rfl,SqT.of (s4.at' ZA3 hne),hk,k,rfl,k0,k1,g3.trans s4⟩
  rintro σ' H' ⟨k,rfl,k0,k1,g⟩
  refine ⟨_,rfl,_,rfl,p,k,rfl,g.pot,k0,by omega,fun l H' ns hl s e hlen hN nd=>?_⟩
  exact q l H' ns (g.none hl) (g.trans s) e (by omega) hN nd
theorem ZG0:FnScope ["rule"] ["rule"] (ZA4 ZB1):=⟨rfl,rfl,rfl,by decide +kernel,rfl,by decide +kernel,by decide +kernel⟩
theorem ZFo {k_RULES:Addr} (F:Fun K "check_rule" "check_rule" ZB1 f fd) (bd:Binds K fd ["rule"] []) (m:mg "check_rule" = some (.ref f)) (c_RULES:mg "RULES" = some (.ref k_RULES)) (t_RULES:∀ H,SqT K H k_RULES [.str "none", .str "ahead", .str "all"]) :
    Has P w K mg base "check_rule" 1 ["rule"] (ZGh):=by
  refine Has.mk F bd m (F.okq (k:=0) ZG0 (fun vs H Q E h=>?_) (fun cdv A outer s H vs Q E hr h=>?_))
  · obtain ⟨r,rfl,hr3,q⟩:=h;rfl
  obtain ⟨r,rfl,hr3,q⟩:=h
  refine ⟨_,(ZA7 rfl (ZAS (ZA6 ZBS (qv 0) (ZDs (v:=.ref k_RULES) (by rfl) c_RULES rfl) (by with_unfolding_all rfl)) (ZA7 rfl ZBG) ZAI)),?_⟩
  refine ⟨_,rfl,k_RULES,_,rfl,.inr (t_RULES H),rfl,rfl,_,rfl,?_⟩
  have er:inV (.str r) (rules3.map V.str)=decide (r∈rules3):=ZBg r rules3
  show if (!inV (.str r) (rules3.map V.str))=true then _ else _
  rw [er,decide_eq_true hr3]
  exact ZD4 q
theorem sc_begun:FnScope ["row", "rule"] ["row", "rule"] (ZA4 ZCw):=⟨rfl,rfl,rfl,by decide +kernel,rfl,by decide +kernel,by decide +kernel⟩
theorem ok_begun (F:Fun K "begun" "begun" ZCw f fd) (bd:Binds K fd ["row", "rule"] []) (m:mg "begun" = some (.ref f)) (h_check_rule:Has P w K mg base "check_rule" 1 ["rule"] (ZGh)) (b_sorted:mg "sorted" = none) (b_tuple:mg "tuple" = none) :
    Has P w K mg base "begun" 2 ["row", "rule"] (ZFC K):=by
  refine Has.mk F bd m (F.okq (k:=1) sc_begun (fun vs H Q E h=>?_) (fun cdv A outer s H vs Q E hr h=>?_))
  · obtain ⟨a,tp,ns,r,rfl,hS,hr3,hz,q⟩:=h;rfl
  obtain ⟨a,tp,ns,r,rfl,hS,hr3,hz,q⟩:=h
  refine ⟨_,(ZA8 rfl (ZAq (ZAB h_check_rule hr (by decide) (ZA0 (qv 1) ZA1)))
      (ZA7 rfl (ZAH (ZAv (ZA0 (qv 1) (ZA0 ZA2 (ZA0 (ZB5 ZC5 (by rfl) b_tuple (by decide +kernel) (ZA0 (ZAK ZDd (by rfl) b_sorted (by decide +kernel) (ZA0 (qv 0) ZA1)) ZA1)) ZA1))))))),?_⟩
  refine ⟨_,rfl,r,rfl,hr3,?_⟩
  refine ⟨_,rfl,_,rfl,a,tp,ns,rfl,hS,hz,fun l ts hl hp hs=>?_⟩
  have n1:=ZA5 hl (.lst (ts.map V.str))
  refine ⟨l,_,rfl,.inl ⟨SqL.of ZA3,fun c hc=>?_⟩⟩
  have n2:=ZA5 hc (.tup (ts.map V.str))
  refine ⟨(by show 3≤sizeLine;decide),fun t ht=>?_⟩
  have n3:=ZA5 ht (.tup [.str r,.int 0,.ref c])
  exact q t c _ ts (Same.none (n1.trans n2) ht) (Same.none n1 hc) (n1.trans (n2.trans n3)) hp hs ⟨ZA3,n3 _ _ ZA3⟩
theorem ZKn:FnScope ["row", "gap"] ["row", "gap"] (ZA4 ZCM):=⟨rfl,rfl,rfl,by decide +kernel,rfl,by decide +kernel,by decide +kernel⟩
theorem ZK9 (F:Fun K "is_gap" "is_gap" ZCM f fd) (bd:Binds K fd ["row", "gap"] []) (m:mg "is_gap" = some (.ref f)) (b_len:mg "len" = none) :
    Has P w K mg base "is_gap" 1 ["row", "gap"] (ZJn K):=by
  refine Has.mk F bd m (F.okq (k:=0) ZKn (fun vs H Q E h=>?_) (fun cdv A outer s H vs Q E hr h=>?_))
  · obtain ⟨a,tp,ns,g,rfl,hS,q⟩:=h;rfl
  obtain ⟨a,tp,ns,g,rfl,hS,q⟩:=h
  refine ⟨_,(ZA7 rfl (ZAH (ZHc ZCh ZCh ZA2 (qv 1) (ZAK ZAJ (by rfl) b_len (by decide +kernel) (ZA0 (qv 0) ZA1))))),?_⟩
  have hl:=ZE3 ns
  refine ⟨_,rfl,_,_,rfl,rfl,_,rfl,?_⟩
  refine ZAg (fun c=>?_) (fun c=>?_)
  · refine ⟨_,rfl,a,_,rfl,hS.or,_,_,rfl,rfl,?_⟩
    rw [hl]
    have e:gapB ns.length g=decide (g≤(ns.length:Int)):=by unfold gapB;rw [c];rfl
    show Q (.bl (decide (g≤(ns.length:Int)))) H
    rw [← e];exact q
  · have e:gapB ns.length g=false:=by unfold gapB;rw [Bool.eq_false_iff.mpr c];rfl
    show Q (.bl false) H
    rw [← e];exact q
theorem ZH3:FnScope ["row", "coming"] ["row", "coming"] (ZA4 ZAt):=⟨rfl,rfl,rfl,by decide +kernel,rfl,by decide +kernel,by decide +kernel⟩
def ZFW:Scope:={ kind:=.function,names:=[(".0", .local),("name", .local),("row", .free)],isGenerator:=false,isCoroutine:=false,more:=[] }
theorem ZF7:CompScope ["row", "coming"] (ZA4 ZAt) ZFW "name" ["row"] [0]:=⟨rfl,by decide +kernel,by decide +kernel,rfl,rfl,by decide +kernel,by decide +kernel,by decide +kernel,by decide +kernel⟩
theorem ZHU (F:Fun K "is_coming" "is_coming" ZAt f fd) (bd:Binds K fd ["row", "coming"] []) (m:mg "is_coming" = some (.ref f)) (b_all:mg "all" = none) (b_list:mg "list" = none) (b_set:mg "set" = none) (b_sorted:mg "sorted" = none) :
    Has P w K mg base "is_coming" 1 ["row", "coming"] (ZEu K):=by
  refine Has.mk F bd m (F.okq (k:=0) ZH3 (fun vs H Q E h=>?_) (fun cdv A outer s H vs Q E hr h=>?_))
  · obtain ⟨a,tp,ns,c,ss,rfl,hS,hC,h64,q⟩:=h;rfl
  obtain ⟨a,tp,ns,c,ss,rfl,hS,hC,h64,q⟩:=h
  refine ⟨_,(ZA7 rfl (ZAH (ZFK (ZC1 (ZJB hr.units0) (ZB5 ZBQ (by rfl) b_list (by decide +kernel) (ZA0 (qv 1) ZA1)) (ZAK (ZGz rfl) (by rfl) b_sorted (by decide +kernel) (ZA0 (ZB5 (ZKm rfl) (by rfl) b_set (by decide +kernel) (ZA0 (qv 1) ZA1)) ZA1)) (ZAF _)) (ZF4 (ZAK (ZHi rfl) (by rfl) b_all (by decide +kernel) (ZA0 (ZDV rfl ZF7 (ZGZ (qv 1)) (fun _ _ _ _=>by exact ZK3) (fun _ _ _ _=>by exact (ZC1 (show OpR _ (compareOp .In) (rIn K false) from ZCC) (qv 1) (qv 0) (by with_unfolding_all rfl)))) ZA1)))))),?_⟩
  have hl:=ZE3 ss
  refine ⟨_,rfl,c,_,rfl,.inr hC,fun l1 hl1=>?_⟩
  have n1:=ZA5 hl1 (.lst (ss.map V.str))
  refine ⟨_,rfl,c,true,ss,rfl,n1.sqT hC,by omega,fun l2 hl2=>?_⟩
  have n2:=ZA5 hl2 (ZGY P w l2 (fun k'=>(dd ss).any (· == k')) (dd ss).length)
  refine ⟨l2,_,_,rfl,ZA3,by have:=ZJO ss;omega,fun l3 ts hl3 e1 e2 e3=>?_⟩
  have n3:=ZA5 hl3 (.lst (ts.map V.str))
  have s3:=n1.trans (n2.trans n3)
  refine ⟨l1,l3,_,_,rfl,rfl,.inl ⟨SqL.of (n3 _ _ (n2 _ _ ZA3)),SqL.of ZA3⟩,ZAV ss,ZAV ts,_,rfl,?_⟩
  have hu:ZCc (ss.map V.str) (ts.map V.str)=upB ss:=by rw [eqVs_dec];unfold upB;rw [decide_eq_decide];exact ZJJ e1 e2 e3
  show if ZCc (ss.map V.str) (ts.map V.str)=true then _ else _
  rw [hu]
  refine ZAg (fun c1=>?_) (fun c1=>?_)
  · have hC3:=s3.sqT hC
    refine ⟨_,rfl,true,c,_,rfl,hC3,fun acc hacc=>ZEi (tp:=true) (fun _=>true) (fun v=>.bl (inV v (ns.map V.str))) hC3 hacc (by rw [hl];exact small (by omega)) (fun i v H' Q' _ _ h=>h H' (Same.refl _)) (fun i v H' Q' hv _ s4 h=>?_) (fun H' s4 e4=>?_)⟩
    · obtain ⟨x,rfl,hm⟩:=ZDm hv
      exact ⟨_,rfl,_,rfl,a,_,rfl,((s3.trans s4).sq hS).or,rfl,ZAV ns,h _ (Same.refl _)⟩
    · rw [all_in] at e4
      refine ⟨acc,_,rfl,SqL.of e4,?_⟩
      rw [all_map]
      have e:(upB ss && inB ns ss)=inB ns ss:=by rw [c1];rfl
      show Q (.bl (inB ns ss)) H'
      rw [← e];exact q _ (s3.trans s4)
  · have e:(upB ss && inB ns ss)=false:=by rw [Bool.eq_false_iff.mpr c1];rfl
    rw [← e];exact q _ s3
theorem ZIb:FnScope ["row", "thing"] ["row", "thing"] (ZA4 ZBo):=⟨rfl,rfl,rfl,by decide +kernel,rfl,by decide +kernel,by decide +kernel⟩
theorem ZIj {k_RULES:Addr} (F:Fun K "is_loop" "is_loop" ZBo f fd) (bd:Binds K fd ["row", "thing"] []) (m:mg "is_loop" = some (.ref f)) (h_is_coming:Has P w K mg base "is_coming" 1 ["row", "coming"] (ZEu K)) (h_is_gap:Has P w K mg base "is_gap" 1 ["row", "gap"] (ZJn K)) (c_RULES:mg "RULES" = some (.ref k_RULES)) (t_RULES:∀ H,SqT K H k_RULES [.str "none", .str "ahead", .str "all"]) :
    Has P w K mg base "is_loop" 2 ["row", "thing"] (ZFV K):=by
  refine Has.mk F bd m (F.okq (k:=1) ZIb (fun vs H Q E h=>?_) (fun cdv A outer s H vs Q E hr h=>?_))
  · obtain ⟨a,tp,ns,t,r,g,ss,rfl,hS,⟨c,hT,hC⟩,h64,q⟩:=h;rfl
  obtain ⟨a,tp,ns,t,r,g,ss,rfl,hS,⟨c,hT,hC⟩,h64,q⟩:=h
  refine ⟨_,(ZA7 rfl (ZAH (ZFK (ZC1 ZCC (ZAD ZA9 (qv 1) ZA2 (fun _ _=>rfl)) (ZDs (v:=.ref k_RULES) (by rfl) c_RULES rfl) (by with_unfolding_all rfl)) (ZFK (ZAB h_is_gap hr (by decide) (ZA0 (qv 0) (ZA0 (ZAD ZA9 (qv 1) ZA2 (fun _ _=>rfl)) ZA1))) (ZF4 (ZAB h_is_coming hr (by decide) (ZA0 (qv 0) (ZA0 (ZAD ZA9 (qv 1) ZA2 (fun _ _=>rfl)) ZA1)))))))),?_⟩
  refine ⟨_,rfl,t,_,_,_,rfl,rfl,hT,rfl,k_RULES,_,rfl,.inr (t_RULES H),rfl,rfl,_,rfl,?_⟩
  have er:inV (.str r) (rules3.map V.str)=decide (r∈rules3):=ZBg r rules3
  show if inV (.str r) (rules3.map V.str)=true then _ else _
  rw [er]
  refine ZAg (fun c1=>?_) (fun c1=>?_)
  · refine ⟨_,rfl,_,rfl,t,_,_,_,rfl,rfl,hT,rfl,a,tp,ns,g,rfl,hS,_,rfl,?_⟩
    refine ZAg (fun c2=>?_) (fun c2=>?_)
    · refine ⟨_,rfl,_,rfl,t,_,_,_,rfl,rfl,hT,rfl,a,tp,ns,c,ss,rfl,hS,hC,h64,fun H' s'=>?_⟩
      have e:isLp ns r g ss=(upB ss && inB ns ss):=by unfold isLp;rw [c1,c2];rfl
      rw [← e];exact q _ s'
    · have e:isLp ns r g ss=false:=by unfold isLp;rw [c1,Bool.eq_false_iff.mpr c2];rfl
      rw [← e];exact q _ (Same.refl _)
  · have e:isLp ns r g ss=false:=by unfold isLp;rw [Bool.eq_false_iff.mpr c1];rfl
    rw [← e];exact q _ (Same.refl _)
theorem ZG8:FnScope ["row", "loop"] ["row", "loop"] (ZA4 ZBB):=⟨rfl,rfl,rfl,by decide +kernel,rfl,by decide +kernel,by decide +kernel⟩
theorem ZFv (F:Fun K "check_loop" "check_loop" ZBB f fd) (bd:Binds K fd ["row", "loop"] []) (m:mg "check_loop" = some (.ref f)) (h_is_loop:Has P w K mg base "is_loop" 2 ["row", "thing"] (ZFV K)) :
    Has P w K mg base "check_loop" 3 ["row", "loop"] (ZE9 K):=by
  refine Has.mk F bd m (F.okq (k:=2) ZG8 (fun vs H Q E h=>?_) (fun cdv A outer s H vs Q E hr h=>?_))
  · obtain ⟨a,tp,ns,t,r,g,ss,rfl,hS,hL,h64,ok,q⟩:=h;rfl
  obtain ⟨a,tp,ns,t,r,g,ss,rfl,hS,hL,h64,ok,q⟩:=h
  refine ⟨_,(ZA7 rfl (ZAS (ZCg (ZFY (ZAB h_is_loop hr (by decide) (ZA0 (qv 0) (ZA0 (qv 1) ZA1))))) (ZA7 rfl ZBG) ZAI)),?_⟩
  refine ⟨_,rfl,_,rfl,a,tp,ns,t,r,g,ss,rfl,hS,hL,h64,fun H' s1=>⟨_,rfl,?_⟩⟩
  refine ZB0 (by rw [ok];decide) ?_
  exact q _ s1
theorem ZDo:FnScope ["things", "loop"] ["things", "loop"] (ZA4 ZAU):=⟨rfl,rfl,rfl,by decide +kernel,rfl,by decide +kernel,by decide +kernel⟩
def ZD2:Scope:={ kind:=.function,names:=[(".0", .local),("name", .local),("loop", .free)],isGenerator:=false,isCoroutine:=false,more:=[] }
theorem ZD1:CompScope ["things", "loop"] (ZA4 ZAU) ZD2 "name" ["loop"] [1]:=⟨rfl,by decide +kernel,by decide +kernel,rfl,rfl,by decide +kernel,by decide +kernel,by decide +kernel,by decide +kernel⟩
theorem ZDj (F:Fun K "things_to_come" "things_to_come" ZAU f fd) (bd:Binds K fd ["things", "loop"] []) (m:mg "things_to_come" = some (.ref f))  :
    Has P w K mg base "things_to_come" 1 ["things", "loop"] (ZIJ K):=by
  refine Has.mk F bd m (F.okq (k:=0) ZDo (fun vs H Q E h=>?_) (fun cdv A outer s H vs Q E hr h=>?_))
  · obtain ⟨a,tp,ns,t,r,g,ss,rfl,hS,⟨c,hT,hC⟩,hz,q⟩:=h;rfl
  obtain ⟨a,tp,ns,t,r,g,ss,rfl,hS,⟨c,hT,hC⟩,hz,q⟩:=h
  refine ⟨_,(ZA7 rfl (ZAH (ZDV rfl ZD1 (ZGZ (qv 0)) (fun _ _ _ _=>by exact (ZDU (ZA6 (show OpR _ (compareOp .In) (rIn K false) from ZCC) (qv 1) (ZAD (show IxR _ (rIxT K) from ZA9) (qv 0) ZA2 (fun _ _=>rfl)) (by with_unfolding_all rfl)))) (fun _ _ _ _=>by exact (qv 1))))),?_⟩
  have hl:=ZE3 ns
  refine ⟨_,rfl,tp,a,_,rfl,hS,fun acc hacc=>ZEi (fun v=>inV v (ss.map V.str)) (fun v=>v) hS hacc (by rw [hl];exact small (by omega)) (fun i v H' Q' hv s1 h=>?_) (fun i v H' Q' hv _ s1 h=>?_) (fun H' s1 e1=>?_)⟩
  · obtain ⟨x,rfl,_⟩:=ZDm hv
    exact ⟨_,rfl,_,rfl,t,_,_,_,rfl,rfl,s1.sqT hT,rfl,c,_,rfl,.inr (s1.sqT hC),rfl,ZAV ss,_,rfl,h _ (Same.refl _)⟩
  · exact ⟨_,rfl,h _ (Same.refl _)⟩
  · rw [filt_in] at e1
    exact q acc H' hacc s1 e1
theorem sc_rest:FnScope ["row", "loop", "gap"] ["row", "loop"] (ZA4 ZE8):=⟨rfl,rfl,rfl,by decide +kernel,rfl,by decide +kernel,by decide +kernel⟩
theorem ok_rest (F:Fun K "rest" "rest" ZE8 f fd) (bd:Binds K fd ["row", "loop"] []) (m:mg "rest" = some (.ref f)) (h_check_loop:Has P w K mg base "check_loop" 3 ["row", "loop"] (ZE9 K)) (h_things_to_come:Has P w K mg base "things_to_come" 1 ["things", "loop"] (ZIJ K)) :
    Has P w K mg base "rest" 4 ["row", "loop"] (ZIx K):=by
  refine Has.mk F bd m (F.okq (k:=3) sc_rest (fun vs H Q E h=>?_) (fun cdv A outer s H vs Q E hr h=>?_))
  · obtain ⟨a,tp,ns,t,r,g,ss,rfl,hS,hL,h64,ok,hz,q⟩:=h;rfl
  obtain ⟨a,tp,ns,t,r,g,ss,rfl,hS,hL,h64,ok,hz,q⟩:=h
  refine ⟨_,(ZA8 rfl (ZAq (ZAB h_check_loop hr (by decide) (ZA0 (qv 0) (ZA0 (qv 1) ZA1))))
      (ZA8 rfl (ZAN (i:=2) sc_rest.nd rfl (Or.inl rfl) (ZAD ZA9 (qv 1) ZA2 (fun _ _=>rfl)))
      (ZA7 rfl (ZAH (ZAP ZFf (ZAB h_things_to_come hr (by decide) (ZA0 (ZBO ZDI (qv 0) (ZBd (qv 2)) ZC0) (ZA0 (qv 1) ZA1))) (ZAB h_things_to_come hr (by decide) (ZA0 (ZBO ZDI (qv 0) ZC0 (ZBd (qv 2))) (ZA0 (qv 1) ZA1)))))))),?_⟩
  have hl:=ZE3 ns
  refine ⟨_,rfl,_,rfl,a,tp,ns,t,r,g,ss,rfl,HOq.sq hS,hL,h64,ok,fun H1 s1=>?_⟩
  obtain ⟨c,hT,hC⟩:=id hL
  have hT1:=s1.sqT hT
  refine ⟨_,rfl,t,_,_,_,rfl,rfl,hT1,rfl,?_⟩
  have e1:=s1 _ _ hS
  refine ⟨_,rfl,_,rfl,_,rfl,a,tp,_,rfl,HOq.sq e1,fun p2 H2 s2 e2=>?_⟩
  rw [ZFD,← List.map_drop] at e2
  have k2:=s1.trans s2
  refine ⟨_,rfl,p2,tp,ns.drop g,t,r,g,ss,rfl,e2,hL.same k2,by rw [List.length_drop];omega,fun l3 H3 hl3 s3 e3=>?_⟩
  have k3:=k2.trans s3
  refine ⟨_,rfl,_,rfl,_,rfl,a,tp,_,rfl,HOq.sq (k3 _ _ hS),fun p4 H4 s4 e4=>?_⟩
  rw [ZJH,← List.map_take] at e4
  have k4:=k3.trans s4
  refine ⟨_,rfl,p4,tp,ns.take g,t,r,g,ss,rfl,e4,hL.same k4,by rw [List.length_take];omega,fun l5 H5 hl5 s5 e5=>?_⟩
  have k5:=k4.trans s5
  have z1:=List.length_filter_le (inL ss) (ns.drop g)
  have z2:=List.length_filter_le (inL ss) (ns.take g)
  rw [List.length_drop] at z1
  rw [List.length_take] at z2
  refine ⟨l3,l5,_,_,rfl,rfl,s5 _ _ (s4 _ _ e3),e5,small (by rw [List.length_map,List.length_map];omega),fun l6 hl6=>?_⟩
  refine q l6 _ (Same.none k5 hl6) (k5.trans (ZA5 hl6 _)) ?_
  rw [ZA3,← List.map_append];rfl
theorem ZDr:FnScope ["coming", "gone"] ["coming", "gone"] (ZA4 ZAW):=⟨rfl,rfl,rfl,by decide +kernel,rfl,by decide +kernel,by decide +kernel⟩
def ZD3:Scope:={ kind:=.function,names:=[(".0", .local),("name", .local),("gone", .free)],isGenerator:=false,isCoroutine:=false,more:=[] }
theorem ZCz:CompScope ["coming", "gone"] (ZA4 ZAW) ZD3 "name" ["gone"] [1]:=⟨rfl,by decide +kernel,by decide +kernel,rfl,rfl,by decide +kernel,by decide +kernel,by decide +kernel,by decide +kernel⟩
theorem ZDk (F:Fun K "coming_without" "coming_without" ZAW f fd) (bd:Binds K fd ["coming", "gone"] []) (m:mg "coming_without" = some (.ref f)) (b_tuple:mg "tuple" = none) :
    Has P w K mg base "coming_without" 1 ["coming", "gone"] (ZHH K):=by
  refine Has.mk F bd m (F.okq (k:=0) ZDr (fun vs H Q E h=>?_) (fun cdv A outer s H vs Q E hr h=>?_))
  · obtain ⟨c,ss,x,rfl,hC,hz,q⟩:=h;rfl
  obtain ⟨c,ss,x,rfl,hC,hz,q⟩:=h
  refine ⟨_,(ZA7 rfl (ZAH (ZB5 ZC5 (by rfl) b_tuple (by decide +kernel) (ZA0 (ZDV rfl ZCz (ZGZ (qv 0)) (fun _ _ _ _=>by exact (ZDU (ZA6 op_ne (qv 1) (qv 0) (ZAF _)))) (fun _ _ _ _=>by exact (qv 1))) ZA1)))),?_⟩
  have hl:=ZE3 ss
  have hC':SqB K true H c (ss.map V.str):=hC
  refine ⟨_,rfl,true,c,_,rfl,hC',fun acc hacc=>ZEi (neqV (.str x)) (fun v=>v) hC' hacc (by rw [hl];exact small (by omega)) (fun i v H' Q' hv s1 h=>?_) (fun i v H' Q' hv _ s1 h=>?_) (fun H' s1 e1=>?_)⟩
  · obtain ⟨y,rfl,_⟩:=ZDm hv
    exact ⟨_,rfl,_,rfl,rfl,_,rfl,h _ (Same.refl _)⟩
  · exact ⟨_,rfl,h _ (Same.refl _)⟩
  · rw [wo_map] at e1
    refine ⟨acc,_,rfl,.inl ⟨SqL.of e1,fun t ht=>?_⟩⟩
    exact q t _ (Same.none s1 ht) (s1.trans (ZA5 ht _)) ZA3
theorem ZIE:FnScope ["row", "name"] ["row", "name"] (ZA4 ZBV):=⟨rfl,rfl,rfl,by decide +kernel,rfl,by decide +kernel,by decide +kernel⟩
theorem ZIM (F:Fun K "place_of" "place_of" ZBV f fd) (bd:Binds K fd ["row", "name"] []) (m:mg "place_of" = some (.ref f))  :
    Has P w K mg base "place_of" 1 ["row", "name"] (ZCu):=by
  refine Has.mk F bd m (F.okq (k:=0) ZIE (fun vs H Q E h=>?_) (fun cdv A outer s H vs Q E hr h=>?_))
  · obtain ⟨a,tp,ns,x,rfl,hS,hx,q⟩:=h;rfl
  obtain ⟨a,tp,ns,x,rfl,hS,hx,q⟩:=h
  refine ⟨_,(ZA8 rfl (ZAS (ZA6 ZBS (qv 1) (qv 0) (by with_unfolding_all rfl)) (ZA7 rfl ZBG) ZAI)
      (ZA7 rfl (ZAH (qe_or2 (ZGH PySem.F.plainAttrs_list PySem.F.slot_list_index PySem.F.type_list_index ZKA (qv 0) (ZA0 (qv 1) ZA1)) (ZGH PySem.F.plainAttrs_tuple PySem.F.slot_tuple_index PySem.F.type_tuple_index ZKC (qv 0) (ZA0 (qv 1) ZA1)))))),?_⟩
  refine ⟨_,rfl,_,rfl,a,_,rfl,(HOq.sq (K:=K) hS).or,rfl,ZAV ns,_,rfl,?_⟩
  refine ZB0 (by show ¬ (!inV (V.str x) (ns.map V.str))=true;rw [ZBg,decide_eq_true hx];decide) ?_
  cases tp with
  | false=>exact .inl ⟨_,rfl,.inl ⟨rfl,_,SqL.of hS⟩,_,rfl,a,ns,x,rfl,rfl,SqL.of hS,hx,q⟩
  | true=>exact .inr ⟨_,rfl,.inr (.inr (.inr (.inr ⟨rfl,_,hS⟩))),_,rfl,a,ns,x,rfl,rfl,SqT.of hS,hx,q⟩
theorem ZEV:FnScope ["row", "loop", "name"] ["row", "loop", "name"] (ZA4 ZAl):=⟨rfl,rfl,rfl,by decide +kernel,rfl,by decide +kernel,by decide +kernel⟩
theorem ZES (F:Fun K "loop_telling" "loop_telling" ZAl f fd) (bd:Binds K fd ["row", "loop", "name"] []) (m:mg "loop_telling" = some (.ref f)) (h_coming_without:Has P w K mg base "coming_without" 1 ["coming", "gone"] (ZHH K)) (h_place_of:Has P w K mg base "place_of" 1 ["row", "name"] (ZCu)) :
    Has P w K mg base "loop_telling" 2 ["row", "loop", "name"] (ZJb K):=by
  refine Has.mk F bd m (F.okq (k:=1) ZEV (fun vs H Q E h=>?_) (fun cdv A outer s H vs Q E hr h=>?_))
  · obtain ⟨a,tp,ns,t,r,g,ss,x,rfl,hS,hL,h64,hx,q⟩:=h;rfl
  obtain ⟨a,tp,ns,t,r,g,ss,x,rfl,hS,hL,h64,hx,q⟩:=h
  refine ⟨_,(ZA7 rfl (ZAH (ZAv (ZA0 (ZAD ZA9 (qv 1) ZA2 (fun _ _=>rfl)) (ZA0 (ZAP ZBP (ZAB h_place_of hr (by decide) (ZA0 (qv 0) (ZA0 (qv 2) ZA1))) ZA2) (ZA0 (ZAB h_coming_without hr (by decide) (ZA0 (ZAD ZA9 (qv 1) ZA2 (fun _ _=>rfl)) (ZA0 (qv 2) ZA1))) ZA1)))))),?_⟩
  obtain ⟨c,hT',hC'⟩:=id hL
  have hT:SqT K H t _:=SqT.of hT'
  have hC:SqT K H c _:=SqT.of hC'
  refine ⟨_,rfl,t,_,_,_,rfl,rfl,hT,rfl,_,rfl,_,rfl,a,tp,ns,x,rfl,hS,hx,_,_,rfl,rfl,?_⟩
  refine ⟨_,rfl,t,_,_,_,rfl,rfl,hT,rfl,_,rfl,c,ss,x,rfl,hC,by omega,fun c3 H3 hc3 s3 e3=>?_⟩
  refine ⟨(by show 3≤sizeLine;decide),fun t4 ht4=>?_⟩
  have n4:=ZA5 ht4 (.tup [.str r,.int ((ns.idxOf x:Nat)+1),.ref c3])
  exact q t4 c3 _ (Same.none s3 ht4) hc3 (s3.trans n4) ⟨ZA3,n4 _ _ e3⟩
theorem sc_step:FnScope ["row", "loop", "order"] ["row", "loop"] (ZA4 ZEI):=⟨rfl,rfl,rfl,by decide +kernel,rfl,by decide +kernel,by decide +kernel⟩
theorem ok_step (F:Fun K "step" "step" ZEI f fd) (bd:Binds K fd ["row", "loop"] []) (m:mg "step" = some (.ref f)) (h_loop_telling:Has P w K mg base "loop_telling" 2 ["row", "loop", "name"] (ZJb K)) (h_rest:Has P w K mg base "rest" 4 ["row", "loop"] (ZIx K)) :
    Has P w K mg base "step" 5 ["row", "loop"] (ZEe K):=by
  refine Has.mk F bd m (F.okq (k:=4) sc_step (fun vs H Q E h=>?_) (fun cdv A outer s H vs Q E hr h=>?_))
  · obtain ⟨a,tp,ns,t,r,g,ss,rfl,hS,hL,h64,ok,hz,q⟩:=h;rfl
  obtain ⟨a,tp,ns,t,r,g,ss,rfl,hS,hL,h64,ok,hz,q⟩:=h
  refine ⟨_,(ZA8 rfl (ZAN (i:=2) sc_step.nd rfl (Or.inl rfl) (ZAB h_rest hr (by decide) (ZA0 (qv 0) (ZA0 (qv 1) ZA1))))
      (ZA8 rfl (ZAS (ZA6 (ZJB hr.units0) (qv 2) (ZBq ZA1) (ZAF _)) (ZA7 rfl (ZAH (ZAv (ZA0 ZEr (ZA0 (qv 1) ZA1))))) ZAI)
      (ZA7 rfl (ZAH (ZAv (ZA0 (ZAD ZB2 (qv 2) ZA2 (fun _ _=>rfl)) (ZA0 (ZAB h_loop_telling hr (by decide) (ZA0 (qv 0) (ZA0 (qv 1) (ZA0 (ZAD ZB2 (qv 2) ZA2 (fun _ _=>rfl)) ZA1)))) ZA1))))))),?_⟩
  refine ⟨_,rfl,_,rfl,a,tp,ns,t,r,g,ss,rfl,hS,hL.at,h64,ok,hz,fun l1 H1 hl1 s1 e1=>?_⟩
  obtain ⟨c,hT',hC'⟩:=id hL
  have hT:SqT K H t _:=SqT.of hT'
  have hC:SqT K H c _:=SqT.of hC'
  refine ⟨_,rfl,(by show 0≤sizeLine;decide),fun l2 hl2=>?_⟩
  have n2:=ZA5 hl2 (.lst [])
  have k2:=s1.trans n2
  refine ⟨l1,l2,_,[],rfl,rfl,.inl ⟨SqL.of (n2 _ _ e1),SqL.of ZA3⟩,ZAV _,rfl,_,rfl,?_⟩
  show if ZCc ((ZAp ns g ss).map V.str) []=true then _ else _
  rw [ZCn]
  refine ZAg (fun c1=>?_) (fun c1=>?_)
  · have er:ZAp ns g ss=[]:=by simpa using c1
    refine ⟨_,rfl,(by show 2≤sizeLine;decide),fun t' ht'=>?_⟩
    exact q t' _ (Same.none k2 ht') (k2.trans (ZA5 ht' _)) (.inl ⟨er,ZA3⟩)
  · obtain ⟨x,rst,er⟩:∃ x rst,ZAp ns g ss=x :: rst:=by
      cases h:ZAp ns g ss with
      | nil=>rw [h] at c1;simp at c1
      | cons x rst=>exact ⟨x,rst,rfl⟩
    have hx:x∈ns∧x∈ss:=restL_mem.mp (by rw [er];exact List.mem_cons_self)
    have e2:=n2 _ _ e1
    rw [er] at e2
    generalize hH2:upd H1 l2 (.lst [])=H2 at n2 k2 e2
    refine ⟨_,rfl,l1,_,_,_,rfl,rfl,SqL.of e2,ZJj,?_⟩
    refine ⟨_,rfl,_,rfl,_,rfl,l1,_,_,_,rfl,rfl,SqL.of e2,ZJj,a,tp,ns,t,r,g,ss,x,rfl,k2 _ _ hS,hL.same k2,h64,hx.1,fun t4 c4 H4 ht4 hc4 s4 e4=>?_⟩
    refine ⟨(by show 2≤sizeLine;decide),fun t5 ht5=>?_⟩
    have n5:=ZA5 ht5 (.tup [.str x,.ref t4])
    have k5:=k2.trans (s4.trans n5)
    exact q t5 _ (Same.none (k2.trans s4) ht5) k5 (.inr ⟨x,rst,t4,c4,er,Same.none k2 ht4,Same.none k2 hc4,ZA3,e4.same n5⟩)
theorem ZDL:FnScope ["numbers", "wanted", "name", "row"] ["numbers", "wanted", "name", "row"] (ZA4 ZAX):=⟨rfl,rfl,rfl,by decide +kernel,rfl,by decide +kernel,by decide +kernel⟩
theorem ZBj  : ∀ ss R,ZCs ss R→ss.length=4:=by rintro _ _ ⟨ks,xs,a,ws,x,n,ns,rfl,_,_,_,rfl⟩;rfl
theorem ZDF (F:Fun K "_law_told_right" "_law_told_right" ZAX f fd) (bd:Binds K fd ["numbers", "wanted", "name", "row"] []) (m:mg "_law_told_right" = some (.ref f))  :
    Has P w K mg base "_law_told_right" 1 ["numbers", "wanted", "name", "row"] (spM ZCs):=by
  refine Has.mk F bd m (F.okq (k:=0) ZDL (fun vs H Q E h=>Fz.spM_len ZBj h) (fun cdv A outer s H vs Q E hr h=>?_))
  refine ⟨_,(ZA8 rfl (ZAS (ZI0 (ZA6 ZBS (qv 2) (qv 3) (by with_unfolding_all rfl)) (ZF3 (ZA6 ZBS (ZH9 (ZHm hr) (qv 0) (qv 2) (fun _ _=>rfl)) (qv 1) (by with_unfolding_all rfl)))).pt (ZA7 rfl (ZAH ZI4)) ZAI)
      (ZA8 rfl (ZAq (ZGH PySem.F.plainAttrs_list PySem.F.slot_list_remove PySem.F.type_list_remove mr_remI (qv 1) (ZA0 (ZH9 (ZHm hr) (qv 0) (qv 2) (fun _ _=>rfl)) ZA1)))
      (ZA7 rfl (ZAH ZI4)))),?_⟩
  refine Fz.fn_runM h ZBj ?_
  rintro _ _ ⟨ks,xs,a,ws,x,n,ns,rfl,hx,hv,hn,rfl⟩
  show Ws [_,_,_,_] _ _ _
  refine ZAn (ZBT (wt_or (ZAR (wp_in1 ?_))))
  walk_at "ww"
  refine ZB0 (by rw [decide_eq_true hx];decide) ?_
  refine ZAR (wp_inI1 (ZHY (ZAL rfl ⟨ks,xs,rfl,ZAL rfl ⟨.inr x,_,rfl,hv,n,rfl,wq_l (ZBE rfl ⟨a,_,rfl,ws,rfl,_,rfl,ZB0 (by rw [decide_eq_true hn];decide) (ZAY ?_)⟩)⟩⟩)))
  refine ZAn (ws_remO rfl (ZHY (ZAL rfl ⟨ks,xs,rfl,ZAL rfl ⟨.inr x,_,rfl,hv,n,rfl,hn,?_⟩⟩)))
  exact ZJQ (i:=1) rfl (wp_bl ⟨rfl,rfl⟩)
theorem sc__law_ended:FnScope ["row", "loop", "numbers", "wanted", "name"] ["row", "loop", "numbers", "wanted"] (ZA4 ZAy):=⟨rfl,rfl,rfl,by decide +kernel,rfl,by decide +kernel,by decide +kernel⟩
theorem ZCZ  : ∀ ss R,ZDJ ss R→ss.length=4:=by rintro _ _ ⟨ns,lp,ks,xs,a,ws,c,rfl,_,_,_,rfl⟩;rfl
theorem ZFs (F:Fun K "_law_ended" "_law_ended" ZAy f fd) (bd:Binds K fd ["row", "loop", "numbers", "wanted"] []) (m:mg "_law_ended" = some (.ref f)) (h__law_told_right:Has P w K mg base "_law_told_right" 1 ["numbers", "wanted", "name", "row"] (spM ZCs)) (h_step:Has P w K mg base "step" 5 ["row", "loop"] (ZEe K)) :
    Has P w K mg base "_law_ended" 6 ["row", "loop", "numbers", "wanted"] (spM ZDJ):=by
  refine Has.mk F bd m (F.okq (k:=5) sc__law_ended (fun vs H Q E h=>Fz.spM_len ZCZ h) (fun cdv A outer s H vs Q E hr h=>?_))
  refine ⟨_,(ZA8 rfl (ZBD (ZF1 PassesOwn.never (ZA6 (op_neN hr.units0) (qv 3) (ZBq ZA1) (ZAF _)) (ZA8 rfl (ZHB (ZAB h_step hr (by decide) (ZA0 (qv 0) (ZA0 (qv 1) ZA1))) (ZIc rfl (ZCF (ZC3 (i:=4) sc__law_ended.nd rfl (Or.inl rfl)) (ZCF (ZC3 (i:=1) sc__law_ended.nd rfl (Or.inl rfl)) ZH0))))
      (ZA7 rfl (ZAS (ZI0 (ZA6 op_isN (qv 4) ZEr (ZAF _)) (ZF3 (ZCg (ZFY (ZAB h__law_told_right hr (by decide) (ZA0 (qv 2) (ZA0 (qv 3) (ZA0 (qv 4) (ZA0 (qv 0) ZA1))))))))).pt (ZA7 rfl (ZAH ZI4)) ZAI)))))
      (ZA7 rfl (ZAH (ZC1 (Fz.op_eqP hr.units) (ZAB h_step hr (by decide) (ZA0 (qv 0) (ZA0 (qv 1) ZA1))) (ZAv (ZA0 ZEr (ZA0 (qv 1) ZA1))) (ZAF _))))),?_⟩
  refine Fz.fn_runM h ZCZ ?_
  rintro _ _ ⟨ns,lp,ks,xs,a,ws,c,rfl,ro,gd,w,rfl⟩
  show Ws [_,_,_,_,.any] _ _ _
  have rl:=ro.len
  refine ZAn (ZAr (ws_while (fun m ss'=>∃ (lp':Lp) (ws':List Int) (s4:Slot),ss'=[.is (.lst (ns.map .str)),.is lp'.P,.is (.dct ks xs),.ow true (.nd .lst a ((ws'.map PV.int).map .fz)),s4]∧lp'.Good ns∧W17 ns lp'.cs ks xs ws' c∧m=ws'.length) ws.length ⟨lp,ws,_,rfl,gd,w,rfl⟩ ?_))
  rintro m ss' ⟨lp',ws',s4,rfl,gd',w',rfl⟩
  refine ZAR (ZIq (wq_l (ZBE rfl ⟨a,_,rfl,rfl,?_⟩)))
  refine ZCK (ZCj (ZIl (ZH8 ⟨by simp,_,.inl ⟨rfl,rfl,rfl,_,rfl,?_⟩⟩)))
  rw [List.length_map]
  refine ZAg (fun cc=>?_) (fun cc=>?_)
  · have hne:ws'≠[]:=fun z=>by rw [z] at cc;cases cc
    have hc:lp'.cs≠[]:=fun z=>hne (w'.nil.mpr z)
    obtain ⟨x,hx,xn,xc,es⟩:=ZJT (g:=lp'.g) w'.sub hc
    obtain ⟨n,hv,hn⟩:=w'.at xc
    refine ZAn (ZJW (wp_step (ZCa rfl ⟨ns,rfl,ZAL rfl ⟨lp'.r,lp'.g,lp'.cs,rfl,gd',by omega,?_⟩⟩)))
    rw [ZIN,hx]
    refine ZHD ⟨_,_,rfl,?_⟩
    refine ws_ifM (i:=3) (lt:=true) (t:=.nd .lst a ((ws'.map PV.int).map .fz)) (wtm_or rfl (ZAR (ZH5 (ZAL rfl (ZDE ⟨rfl,_,rfl,ZB0 (fun z=>by cases z) ?_⟩)))))
    refine ZJu (wtm_b (ZHC rfl (ZCB (ZAL rfl (ZEo rfl (ZDe (ZAL rfl (ZDe (ZAL rfl (ZHE ⟨_,⟨ks,xs,a,ws',x,n,ns,rfl,xn,hv,hn,rfl⟩,?_⟩))))))))))
    rintro _ _ ⟨rfl,rfl⟩
    refine ⟨_,_,rfl,true,rfl,ZD4 (ZAY ?_)⟩
    have hlt:(ws'.eraseIdx (ws'.idxOf n)).length < ws'.length:=by
      have:=List.idxOf_lt_length_iff.mpr hn
      rw [List.length_eraseIdx,if_pos this];omega
    refine ⟨_,hlt,lp'.stp ns,_,_,rfl,(ZJr gd').1,?_,rfl⟩
    show W17 ns (stS ns lp'.g lp'.cs) ks xs _ c
    rw [es]
    exact w'.less xn hv (ZGE w'.nd) fun m=>ZEn w'.nd hn
  · have hw:ws'=[]:=by
      cases ws' with
      | nil=>rfl
      | cons y t=>exact absurd rfl cc
    have hc:=w'.nil.mp hw
    refine ZJQ (i:=3) rfl (wp_eqP (wp_step (ZCa rfl ⟨ns,rfl,ZAL rfl ⟨lp'.r,lp'.g,lp'.cs,rfl,gd',by omega,?_⟩⟩)))
    have e:ZDl ns lp'.r lp'.g lp'.cs=.tup [.non,lp'.P]:=by
      unfold ZDl
      rw [rest_nil.mpr (fun x hx=>by rw [hc] at hx;cases hx)]
      rfl
    rw [e]
    refine wp_tup (ZHQ (ZDE (ZHQ (ZAL rfl (ZH8 ⟨by simp,?_⟩)))))
    have d:=dat17 K lp'
    exact ⟨d,d,by rw [eqP_refl 40 d],ws',rfl⟩
theorem sc__law_deed:FnScope ["pot", "row", "most", "way", "low", "name"] ["pot", "row", "most"] (ZA4 ZBL):=⟨rfl,rfl,rfl,by decide +kernel,rfl,by decide +kernel,by decide +kernel⟩
theorem ZH1 (F:Fun K "_law_deed" "_law_deed" ZBL f fd) (bd:Binds K fd ["pot", "row", "most"] []) (m:mg "_law_deed" = some (.ref f)) (h__law_name:Has P w K mg base "_law_name" 2 ["pot", "names"] (ZH4 K)) (h__law_take:Has P w K mg base "_law_take" 1 ["pot", "many"] (ZEJ)) (b_len:mg "len" = none) :
    Has P w K mg base "_law_deed" 3 ["pot", "row", "most"] (ZJG):=by
  refine Has.mk F bd m (F.okq (k:=2) sc__law_deed (fun vs H Q E h=>?_) (fun cdv A outer s H vs Q E hr h=>?_))
  · obtain ⟨p,a,m,ns,rfl,hp,hS,hne,hN,hz,m1,m2,q⟩:=h;rfl
  obtain ⟨p,a,m,ns,rfl,hp,hS,hne,hN,hz,m1,m2,q⟩:=h
  refine ⟨_,(ZA8 rfl (ZAN (i:=3) sc__law_deed.nd rfl (Or.inl rfl) (ZAB h__law_take hr (by decide) (ZA0 (qv 0) (ZA0 ZA2 ZA1))))
      (ZA8 rfl (ZAS (ZI0 (ZCP (ZA6 ZGU (qv 3) ZA2 (ZAF _)) (ZBz (ZA6 ZGU (ZAK ZAJ (by rfl) b_len (by decide +kernel) (ZA0 (qv 1) ZA1)) (qv 2) (ZAF _)))).pt (ZF3 (ZA6 (ZJB hr.units0) (qv 1) (ZBq ZA1) (ZAF _)))).pt (ZA8 rfl (ZAS (ZA6 ZHz (ZAK ZAJ (by rfl) b_len (by decide +kernel) (ZA0 (qv 1) ZA1)) (qv 2) (ZAF _)) (ZA7 rfl (ZAH (ZAv (ZA0 ZAM (ZA0 ZA2 (ZA0 ZA2 ZA1)))))) ZAI)
      (ZA7 rfl (ZAH (ZAv (ZA0 ZAM (ZA0 (ZAB h__law_name hr (by decide) (ZA0 (qv 0) (ZA0 (qv 1) ZA1))) (ZA0 (ZAB h__law_take hr (by decide) (ZA0 (qv 0) (ZA0 (ZAP ZBP (ZAK ZAJ (by rfl) b_len (by decide +kernel) (ZA0 (qv 1) ZA1)) ZA2) ZA1))) ZA1))))))) ZAI)
      (ZA8 rfl (ZAS (ZA6 ZAk (qv 3) ZA2 (ZAF _)) (ZA8 rfl (ZAN (i:=4) sc__law_deed.nd rfl (Or.inl rfl) (ZAB h__law_take hr (by decide) (ZA0 (qv 0) (ZA0 (ZAP ZBP (ZAK ZAJ (by rfl) b_len (by decide +kernel) (ZA0 (qv 1) ZA1)) ZA2) ZA1))))
      (ZA7 rfl (ZAH (ZAv (ZA0 ZAM (ZA0 (qv 4) (ZA0 (ZAP ZBP (qv 4) (ZAB h__law_take hr (by decide) (ZA0 (qv 0) (ZA0 (ZAP ZBP (ZAP ZIs (ZAK ZAJ (by rfl) b_len (by decide +kernel) (ZA0 (qv 1) ZA1)) (qv 4)) ZA2) ZA1)))) ZA1))))))) ZAI)
      (ZA8 rfl (ZAN (i:=5) sc__law_deed.nd rfl (Or.inl rfl) (ZAD ZB2 (qv 1) (ZAB h__law_take hr (by decide) (ZA0 (qv 0) (ZA0 (ZAK ZAJ (by rfl) b_len (by decide +kernel) (ZA0 (qv 1) ZA1)) ZA1))) (fun _ _=>rfl)))
      (ZA8 rfl (ZAS (ZA6 ZAk (qv 3) ZA2 (ZAF _)) (ZA7 rfl (ZAH (ZAv (ZA0 ZAM (ZA0 (qv 5) (ZA0 (ZAB h__law_take hr (by decide) (ZA0 (qv 0) (ZA0 (ZAK ZAJ (by rfl) b_len (by decide +kernel) (ZA0 (qv 1) ZA1)) ZA1))) ZA1)))))) ZAI)
      (ZA7 rfl (ZAH (ZAv (ZA0 ZAM (ZA0 (qv 5) ZA1)))))))))),?_⟩
  have hl:=ZE3 ns
  have zz:∀ n:Nat,n≤3→n≤sizeLine:=fun n h=>Nat.le_trans h (by decide +kernel)
  refine ⟨_,rfl,p,5,rfl,hp,by decide,by decide,fun way H1 w0 w1 s1=>?_⟩
  have e1:=s1.at' hS hne
  have em:decide (ns.map V.str=[])=true→ns=[]:=fun h=>List.map_eq_nil_iff.mp (of_decide_eq_true h)
  have em2:¬ decide (ns.map V.str=[])=true→0 < ns.length:=fun h=>by
    cases ns with
    | nil=>exact absurd (decide_eq_true rfl) h
    | cons y r=>simp
  refine ⟨_,rfl,_,_,rfl,rfl,_,rfl,?_⟩
  refine ZAg (fun cA=>?_) (fun cA=>ZD4 ?_)
  · refine ⟨_,rfl,a,_,rfl,.inl (SqL.of e1),_,rfl,_,_,rfl,rfl,_,rfl,?_⟩
    refine ZAg (fun cB=>iteT ?_) (fun cB=>?_)
    · have hlt:ns.length < m:=by have:=of_decide_eq_true cB;rw [hl] at this;omega
      have gg:=s1
      have eH:=e1
      refine ⟨_,rfl,a,_,rfl,.inl (SqL.of eH),_,rfl,_,_,rfl,rfl,_,rfl,ZB0 (by rw [hl,decide_eq_false (by omega)];decide) ?_⟩
      refine ⟨_,rfl,_,rfl,p,a,ns,rfl,gg.pot,SqL.of eH,hne,hN,by omega,fun x H3 nx hx s3=>?_⟩
      have e3:=s3.at' eH hne
      refine ⟨_,rfl,_,rfl,a,_,rfl,.inl (SqL.of e3),_,_,rfl,rfl,p,_,rfl,s3.pot,by omega,by rw [hl];omega,fun i H4 i0 i1 s4=>?_⟩
      rw [hl] at i1
      obtain ⟨i,rfl⟩:=Int.eq_ofNat_of_zero_le i0
      refine ⟨zz _ (by simp),fun t ht=>?_⟩
      have g4:=gg.trans (s3.trans s4)
      exact q (.put x i) t _ (g4.none ht) (g4.trans (PStep.of g4.pot (ZA5 ht _))) ZA3 ⟨nx,hx,by omega,by omega⟩
    · have hge:¬ ns.length < m:=fun z=>cB (decide_eq_true (by rw [hl];omega))
      refine ⟨_,rfl,(by show 0≤sizeLine;decide),fun e he=>?_⟩
      have s2:=PStep.of s1.pot (ZA5 he (.lst []))
      have gg:=s1.trans s2
      have eH:=s2.at' e1 hne
      refine ⟨a,e,_,[],rfl,rfl,.inl ⟨SqL.of eH,SqL.of ZA3⟩,ZAV ns,rfl,_,rfl,?_⟩
      show if ZCc (ns.map V.str) []=true then _ else _
      rw [ZCn]
      refine ZAg (fun cC=>?_) (fun cC=>?_)
      · exact absurd (by rw [em cC];show 0 < m;omega) hge
      · have hpos:=em2 cC
        refine ⟨_,rfl,rfl,_,rfl,?_⟩
        refine ZAg (fun c4=>?_) (fun c4=>?_)
        · refine ⟨_,rfl,_,rfl,a,_,rfl,.inl (SqL.of eH),_,_,rfl,rfl,p,_,rfl,gg.pot,by omega,by rw [hl];omega,fun lo H3 l0 l1 s3=>?_⟩
          rw [hl] at l1
          obtain ⟨lo,rfl⟩:=Int.eq_ofNat_of_zero_le l0
          have e3:=s3.at' eH hne
          refine ⟨_,rfl,_,rfl,_,rfl,_,rfl,a,_,rfl,.inl (SqL.of e3),_,rfl,_,_,rfl,rfl,_,_,rfl,rfl,p,_,rfl,s3.pot,by rw [hl];omega,by rw [hl];omega,fun k H4 k0 k1 s4=>?_⟩
          rw [hl] at k1
          obtain ⟨k,rfl⟩:=Int.eq_ofNat_of_zero_le k0
          refine ⟨_,_,rfl,rfl,zz _ (by simp),fun t ht=>?_⟩
          have g4:=gg.trans (s3.trans s4)
          exact q (.turn lo (lo+k)) t _ (g4.none ht) (g4.trans (PStep.of g4.pot (ZA5 ht _))) (by rw [ZA3];rfl) ⟨by omega,by omega⟩
        · refine ⟨_,rfl,_,rfl,_,rfl,a,_,rfl,.inl (SqL.of eH),p,_,rfl,gg.pot,by rw [hl];omega,by rw [hl];omega,fun i H3 i0 i1 s3=>?_⟩
          rw [hl] at i1
          have e3:=s3.at' eH hne
          obtain ⟨x,hx,hxm,_⟩:=ZDb i0 i1
          refine ⟨a,_,_,_,rfl,rfl,SqL.of e3,hx,?_⟩
          have g3:=gg.trans s3
          refine ⟨_,rfl,rfl,_,rfl,?_⟩
          refine ZAg (fun c3=>?_) (fun c3=>?_)
          · refine ⟨_,rfl,_,rfl,_,rfl,a,_,rfl,.inl (SqL.of e3),p,_,rfl,s3.pot,by rw [hl];omega,by rw [hl];omega,fun k H4 k0 k1 s4=>?_⟩
            rw [hl] at k1
            obtain ⟨k,rfl⟩:=Int.eq_ofNat_of_zero_le k0
            have g4:=g3.trans s4
            refine ⟨zz _ (by simp),fun t ht=>?_⟩
            exact q (.move x k) t _ (g4.none ht) (g4.trans (PStep.of g4.pot (ZA5 ht _))) ZA3 ⟨hxm,by omega⟩
          · refine ⟨_,rfl,zz _ (by simp),fun t ht=>?_⟩
            exact q (.take x) t _ (g3.none ht) (g3.trans (PStep.of g3.pot (ZA5 ht _))) ZA3 hxm
  · skip
    refine ⟨_,rfl,(by show 0≤sizeLine;decide),fun e he=>?_⟩
    have s2:=PStep.of s1.pot (ZA5 he (.lst []))
    have gg:=s1.trans s2
    have eH:=s2.at' e1 hne
    refine ⟨a,e,_,[],rfl,rfl,.inl ⟨SqL.of eH,SqL.of ZA3⟩,ZAV ns,rfl,_,rfl,?_⟩
    show if ZCc (ns.map V.str) []=true then _ else _
    rw [ZCn]
    refine ZAg (fun cC=>?_) (fun cC=>?_)
    · have hlt:ns.length < m:=by rw [em cC];show 0 < m;omega
      refine ⟨_,rfl,a,_,rfl,.inl (SqL.of eH),_,rfl,_,_,rfl,rfl,_,rfl,ZB0 (by rw [hl,decide_eq_false (by omega)];decide) ?_⟩
      refine ⟨_,rfl,_,rfl,p,a,ns,rfl,gg.pot,SqL.of eH,hne,hN,by omega,fun x H3 nx hx s3=>?_⟩
      have e3:=s3.at' eH hne
      refine ⟨_,rfl,_,rfl,a,_,rfl,.inl (SqL.of e3),_,_,rfl,rfl,p,_,rfl,s3.pot,by omega,by rw [hl];omega,fun i H4 i0 i1 s4=>?_⟩
      rw [hl] at i1
      obtain ⟨i,rfl⟩:=Int.eq_ofNat_of_zero_le i0
      refine ⟨zz _ (by simp),fun t ht=>?_⟩
      have g4:=gg.trans (s3.trans s4)
      exact q (.put x i) t _ (g4.none ht) (g4.trans (PStep.of g4.pot (ZA5 ht _))) ZA3 ⟨nx,hx,by omega,by omega⟩
    · have hpos:=em2 cC
      refine ⟨_,rfl,rfl,_,rfl,?_⟩
      refine ZAg (fun c4=>?_) (fun c4=>?_)
      · refine ⟨_,rfl,_,rfl,a,_,rfl,.inl (SqL.of eH),_,_,rfl,rfl,p,_,rfl,gg.pot,by omega,by rw [hl];omega,fun lo H3 l0 l1 s3=>?_⟩
        rw [hl] at l1
        obtain ⟨lo,rfl⟩:=Int.eq_ofNat_of_zero_le l0
        have e3:=s3.at' eH hne
        refine ⟨_,rfl,_,rfl,_,rfl,_,rfl,a,_,rfl,.inl (SqL.of e3),_,rfl,_,_,rfl,rfl,_,_,rfl,rfl,p,_,rfl,s3.pot,by rw [hl];omega,by rw [hl];omega,fun k H4 k0 k1 s4=>?_⟩
        rw [hl] at k1
        obtain ⟨k,rfl⟩:=Int.eq_ofNat_of_zero_le k0
        refine ⟨_,_,rfl,rfl,zz _ (by simp),fun t ht=>?_⟩
        have g4:=gg.trans (s3.trans s4)
        exact q (.turn lo (lo+k)) t _ (g4.none ht) (g4.trans (PStep.of g4.pot (ZA5 ht _))) (by rw [ZA3];rfl) ⟨by omega,by omega⟩
      · refine ⟨_,rfl,_,rfl,_,rfl,a,_,rfl,.inl (SqL.of eH),p,_,rfl,gg.pot,by rw [hl];omega,by rw [hl];omega,fun i H3 i0 i1 s3=>?_⟩
        rw [hl] at i1
        have e3:=s3.at' eH hne
        obtain ⟨x,hx,hxm,_⟩:=ZDb i0 i1
        refine ⟨a,_,_,_,rfl,rfl,SqL.of e3,hx,?_⟩
        have g3:=gg.trans s3
        refine ⟨_,rfl,rfl,_,rfl,?_⟩
        refine ZAg (fun c3=>?_) (fun c3=>?_)
        · refine ⟨_,rfl,_,rfl,_,rfl,a,_,rfl,.inl (SqL.of e3),p,_,rfl,s3.pot,by rw [hl];omega,by rw [hl];omega,fun k H4 k0 k1 s4=>?_⟩
          rw [hl] at k1
          obtain ⟨k,rfl⟩:=Int.eq_ofNat_of_zero_le k0
          have g4:=g3.trans s4
          refine ⟨zz _ (by simp),fun t ht=>?_⟩
          exact q (.move x k) t _ (g4.none ht) (g4.trans (PStep.of g4.pot (ZA5 ht _))) ZA3 ⟨hxm,by omega⟩
        · refine ⟨_,rfl,zz _ (by simp),fun t ht=>?_⟩
          exact q (.take x) t _ (g3.none ht) (g3.trans (PStep.of g3.pot (ZA5 ht _))) ZA3 hxm
theorem ZJ8:FnScope ["text"] ["text"] (ZA4 ZBa):=⟨rfl,rfl,rfl,by decide +kernel,rfl,by decide +kernel,by decide +kernel⟩
def ZH2:Scope:={ kind:=.function,names:=[(".0", .local),("sign", .local),("LETTERS", .globalImplicit)],isGenerator:=false,isCoroutine:=false,more:=[] }
theorem ZHK:CompScope ["text"] (ZA4 ZBa) ZH2 "sign" [] []:=⟨rfl,by decide +kernel,by decide +kernel,rfl,rfl,by decide +kernel,by decide +kernel,by decide +kernel,by decide +kernel⟩
theorem ZIa {k_LETTERS:Tok} {k_MOST_LETTERS:Tok} (F:Fun K "is_name" "is_name" ZBa f fd) (bd:Binds K fd ["text"] []) (m:mg "is_name" = some (.ref f)) (b_all:mg "all" = none) (b_len:mg "len" = none) (c_LETTERS:mg "LETTERS" = some (.str "abcdefghijklmnopqrstuvwxyz" k_LETTERS)) (c_MOST_LETTERS:mg "MOST_LETTERS" = some (.int 8 k_MOST_LETTERS)) :
    Has P w K mg base "is_name" 1 ["text"] (ZHa):=by
  refine Has.mk F bd m (F.okq (k:=0) ZJ8 (fun vs H Q E h=>?_) (fun cdv A outer s H vs Q E hr h=>?_))
  · obtain ⟨x,rfl,hx,q⟩:=h;rfl
  obtain ⟨x,rfl,hx,q⟩:=h
  refine ⟨_,(ZA7 rfl (ZAH (ZFK (ZHc ZCh ZCh ZA2 (ZAK ZDx (by rfl) b_len (by decide +kernel) (ZA0 (qv 0) ZA1)) (ZDs (v:=.int 8) (by rfl) c_MOST_LETTERS ⟨_,rfl⟩)) (ZF4 (ZAK (ZHi rfl) (by rfl) b_all (by decide +kernel) (ZA0 (ZDV rfl ZHK (qi_str (qv 0)) (fun _ _ _ _=>by exact ZK3) (fun _ _ _ _=>by exact (ZC1 ZKj (qv 0) (ZDs (v:=.str "abcdefghijklmnopqrstuvwxyz") (by rfl) c_LETTERS ⟨_,rfl⟩) (by with_unfolding_all rfl)))) ZA1)))))),?_⟩
  refine ⟨_,rfl,_,rfl,small (by omega),_,_,rfl,rfl,_,rfl,?_⟩
  refine ZAg (fun c=>?_) (fun c=>⟨_,rfl,ZD4 ?_⟩)
  · refine ⟨_,_,rfl,rfl,_,rfl,?_⟩
    refine ZAg (fun c2=>?_) (fun c2=>?_)
    · refine ⟨_,rfl,x,rfl,fun acc hacc=>comp_str (fun _=>true) inV1 hacc (by rw [← Array.length_toList,← ZBc];exact small (by omega)) (fun i v H' Q' _ _ h=>h H' (Same.refl _)) (fun i v H' Q' hv _ _ h=>?_) (fun H' s1 e1=>?_)⟩
      · obtain ⟨cc,rfl⟩:=ZKV hv
        exact ⟨_,rfl,_,_,rfl,rfl,h H' (Same.refl _)⟩
      · rw [signs_in] at e1
        refine ⟨acc,_,rfl,SqL.of e1,?_⟩
        rw [all_map]
        have e:isNm x=x.cps.toList.all inAbc:=by unfold isNm;rw [c,c2];rfl
        rw [← e];exact q H' s1
    · have e:isNm x=false:=by unfold isNm;rw [Bool.eq_false_iff.mpr c2];simp
      rw [← e];exact q H (Same.refl _)
  · have e:isNm x=false:=by unfold isNm;rw [Bool.eq_false_iff.mpr c];simp
    rw [← e];exact q H (Same.refl _)
theorem ZHI:FnScope ["row", "name", "at"] ["row", "name", "at"] (ZA4 ZBK):=⟨rfl,rfl,rfl,by decide +kernel,rfl,by decide +kernel,by decide +kernel⟩
theorem ZHT {k_MOST_THINGS:Tok} (F:Fun K "check_put" "check_put" ZBK f fd) (bd:Binds K fd ["row", "name", "at"] []) (m:mg "check_put" = some (.ref f)) (h_is_name:Has P w K mg base "is_name" 1 ["text"] (ZHa)) (b_len:mg "len" = none) (c_MOST_THINGS:mg "MOST_THINGS" = some (.int 40 k_MOST_THINGS)) :
    Has P w K mg base "check_put" 2 ["row", "name", "at"] (ZIU):=by
  refine Has.mk F bd m (F.okq (k:=1) ZHI (fun vs H Q E h=>?_) (fun cdv A outer s H vs Q E hr h=>?_))
  · obtain ⟨a,tp,ns,x,i,rfl,hS,⟨h1,h2,h3,h4⟩,q⟩:=h;rfl
  obtain ⟨a,tp,ns,x,i,rfl,hS,⟨h1,h2,h3,h4⟩,q⟩:=h
  refine ⟨_,(ZA8 rfl (ZAS (ZCg (ZFY (ZAB h_is_name hr (by decide) (ZA0 (qv 1) ZA1)))) (ZA7 rfl ZBG) ZAI)
      (ZA8 rfl (ZAS (ZA6 ZCC (qv 1) (qv 0) (by with_unfolding_all rfl)) (ZA7 rfl ZBG) ZAI)
      (ZA8 rfl (ZAS (ZCg (ZDX ZCh ZCh ZA2 (qv 2) (ZAK ZAJ (by rfl) b_len (by decide +kernel) (ZA0 (qv 0) ZA1)))) (ZA7 rfl ZBG) ZAI)
      (ZA7 rfl (ZAS (ZA6 ZHz (ZAK ZAJ (by rfl) b_len (by decide +kernel) (ZA0 (qv 0) ZA1)) (ZDs (v:=.int 40) (by rfl) c_MOST_THINGS ⟨_,rfl⟩) (ZAF _)) (ZA7 rfl ZBG) ZAI))))),?_⟩
  have hl:=ZE3 ns
  refine ⟨_,rfl,x,rfl,by have:=h1.2.1;omega,fun H1 s1=>⟨_,rfl,?_⟩⟩
  refine ZB0 (by rw [nm_isNm h1];decide) ?_
  have e1:=s1 _ _ hS
  refine ⟨_,rfl,_,rfl,a,_,rfl,(HOq.sq (K:=K) e1).or,rfl,ZAV ns,_,rfl,?_⟩
  refine ZB0 (by show ¬ (inV (V.str x) (ns.map V.str))=true;rw [ZBg,decide_eq_false h2];decide) ?_
  refine ⟨_,rfl,_,_,rfl,rfl,_,rfl,iteP (decide_eq_true (by omega)) ?_⟩
  refine ⟨_,rfl,a,_,rfl,(HOq.sq (K:=K) e1).or,_,_,rfl,rfl,_,rfl,iteNS (by rw [hl];omega) ?_⟩
  refine ⟨_,rfl,a,_,rfl,(HOq.sq (K:=K) e1).or,_,_,rfl,rfl,_,rfl,ZB0 (by rw [hl,decide_eq_false (by omega)];decide) ?_⟩
  exact q _ s1
theorem ZG3:FnScope ["row", "name", "at"] ["row", "name", "at"] (ZA4 ZB3):=⟨rfl,rfl,rfl,by decide +kernel,rfl,by decide +kernel,by decide +kernel⟩
theorem ZG6 (F:Fun K "check_move" "check_move" ZB3 f fd) (bd:Binds K fd ["row", "name", "at"] []) (m:mg "check_move" = some (.ref f)) (h_place_of:Has P w K mg base "place_of" 1 ["row", "name"] (ZCu)) (b_len:mg "len" = none) :
    Has P w K mg base "check_move" 2 ["row", "name", "at"] (ZGG):=by
  refine Has.mk F bd m (F.okq (k:=1) ZG3 (fun vs H Q E h=>?_) (fun cdv A outer s H vs Q E hr h=>?_))
  · obtain ⟨a,tp,ns,x,i,rfl,hS,⟨h1,h2⟩,q⟩:=h;rfl
  obtain ⟨a,tp,ns,x,i,rfl,hS,⟨h1,h2⟩,q⟩:=h
  refine ⟨_,(ZA8 rfl (ZAq (ZAB h_place_of hr (by decide) (ZA0 (qv 0) (ZA0 (qv 1) ZA1))))
      (ZA7 rfl (ZAS (ZCg (ZDX ZCh ZGU ZA2 (qv 2) (ZAK ZAJ (by rfl) b_len (by decide +kernel) (ZA0 (qv 0) ZA1)))) (ZA7 rfl ZBG) ZAI))),?_⟩
  have hl:=ZE3 ns
  refine ⟨_,rfl,_,rfl,a,tp,ns,x,rfl,hS,h1,?_⟩
  refine ⟨_,rfl,_,_,rfl,rfl,_,rfl,iteP (decide_eq_true (by omega)) ?_⟩
  refine ⟨_,rfl,a,_,rfl,(HOq.sq (K:=K) hS).or,_,_,rfl,rfl,_,rfl,iteNS (by rw [hl];omega) ?_⟩
  exact q
theorem ZFj:FnScope ["row", "low", "high"] ["row", "low", "high"] (ZA4 ZAz):=⟨rfl,rfl,rfl,by decide +kernel,rfl,by decide +kernel,by decide +kernel⟩
theorem ZFw (F:Fun K "check_turn" "check_turn" ZAz f fd) (bd:Binds K fd ["row", "low", "high"] []) (m:mg "check_turn" = some (.ref f)) (b_len:mg "len" = none) :
    Has P w K mg base "check_turn" 1 ["row", "low", "high"] (ZGc):=by
  refine Has.mk F bd m (F.okq (k:=0) ZFj (fun vs H Q E h=>?_) (fun cdv A outer s H vs Q E hr h=>?_))
  · obtain ⟨a,tp,ns,lo,hi,rfl,hS,⟨h1,h2⟩,q⟩:=h;rfl
  obtain ⟨a,tp,ns,lo,hi,rfl,hS,⟨h1,h2⟩,q⟩:=h
  refine ⟨_,(ZA8 rfl (ZAS (ZCg (ZDX ZCh ZCh ZA2 (qv 1) (ZAK ZAJ (by rfl) b_len (by decide +kernel) (ZA0 (qv 0) ZA1)))) (ZA7 rfl ZBG) ZAI)
      (ZA7 rfl (ZAS (ZCg (ZDX ZCh ZCh (qv 1) (qv 2) (ZAK ZAJ (by rfl) b_len (by decide +kernel) (ZA0 (qv 0) ZA1)))) (ZA7 rfl ZBG) ZAI))),?_⟩
  have hl:=ZE3 ns
  refine ⟨_,rfl,_,_,rfl,rfl,_,rfl,iteP (decide_eq_true (by omega)) ?_⟩
  refine ⟨_,rfl,a,_,rfl,(HOq.sq (K:=K) hS).or,_,_,rfl,rfl,_,rfl,iteNS (by rw [hl];omega) ?_⟩
  refine ⟨_,rfl,_,rfl,_,_,rfl,rfl,_,rfl,iteP (decide_eq_true (by omega)) ?_⟩
  refine ⟨_,rfl,a,_,rfl,(HOq.sq (K:=K) hS).or,_,_,rfl,rfl,_,rfl,iteNS (by rw [hl];omega) ?_⟩
  exact q
theorem ZG2:FnScope ["row", "deed"] ["row", "deed"] (ZA4 ZBC):=⟨rfl,rfl,rfl,by decide +kernel,rfl,by decide +kernel,by decide +kernel⟩
theorem ZFx (F:Fun K "check_deed" "check_deed" ZBC f fd) (bd:Binds K fd ["row", "deed"] []) (m:mg "check_deed" = some (.ref f)) (h_check_move:Has P w K mg base "check_move" 2 ["row", "name", "at"] (ZGG)) (h_check_put:Has P w K mg base "check_put" 2 ["row", "name", "at"] (ZIU)) (h_check_turn:Has P w K mg base "check_turn" 1 ["row", "low", "high"] (ZGc)) (h_place_of:Has P w K mg base "place_of" 1 ["row", "name"] (ZCu)) :
    Has P w K mg base "check_deed" 3 ["row", "deed"] (spChk):=by
  refine Has.mk F bd m (F.okq (k:=2) ZG2 (fun vs H Q E h=>?_) (fun cdv A outer s H vs Q E hr h=>?_))
  · obtain ⟨a,t,tp,ns,d,rfl,hS,hT,hd,q⟩:=h;rfl
  obtain ⟨a,t,tp,ns,d,rfl,hS,hT,hd,q⟩:=h
  refine ⟨_,(ZA7 rfl (ZAS (ZA6 ZAk (ZAD ZA9 (qv 1) ZA2 (fun _ _=>rfl)) ZAM (ZAF _)) (ZA7 rfl (ZAq (ZAB h_check_put hr (by decide) (ZA0 (qv 0) (ZA0 (ZAD ZA9 (qv 1) ZA2 (fun _ _=>rfl)) (ZA0 (ZAD ZA9 (qv 1) ZA2 (fun _ _=>rfl)) ZA1)))))) (ZA7 rfl (ZAS (ZA6 ZAk (ZAD ZA9 (qv 1) ZA2 (fun _ _=>rfl)) ZAM (ZAF _)) (ZA7 rfl (ZAq (ZAB h_place_of hr (by decide) (ZA0 (qv 0) (ZA0 (ZAD ZA9 (qv 1) ZA2 (fun _ _=>rfl)) ZA1))))) (ZA7 rfl (ZAS (ZA6 ZAk (ZAD ZA9 (qv 1) ZA2 (fun _ _=>rfl)) ZAM (ZAF _)) (ZA7 rfl (ZAq (ZAB h_check_move hr (by decide) (ZA0 (qv 0) (ZA0 (ZAD ZA9 (qv 1) ZA2 (fun _ _=>rfl)) (ZA0 (ZAD ZA9 (qv 1) ZA2 (fun _ _=>rfl)) ZA1)))))) (ZA7 rfl (ZAq (ZAB h_check_turn hr (by decide) (ZA0 (qv 0) (ZA0 (ZAD ZA9 (qv 1) ZA2 (fun _ _=>rfl)) (ZA0 (ZAD ZA9 (qv 1) ZA2 (fun _ _=>rfl)) ZA1)))))))))))),?_⟩
  cases d with
  | put x i=>
    refine ⟨_,rfl,t,_,_,_,rfl,rfl,SqT.of hT,rfl,rfl,_,rfl,iteP (by decide +kernel) ?_⟩
    exact ⟨_,rfl,_,rfl,t,_,_,_,rfl,rfl,SqT.of hT,rfl,_,rfl,t,_,_,_,rfl,rfl,SqT.of hT,rfl,a,tp,ns,x,i,rfl,hS,hd,q⟩
  | take x=>
    refine ⟨_,rfl,t,_,_,_,rfl,rfl,SqT.of hT,rfl,rfl,_,rfl,ZB0 (by decide +kernel) ?_⟩
    refine ⟨_,rfl,t,_,_,_,rfl,rfl,SqT.of hT,rfl,rfl,_,rfl,iteP (by decide +kernel) ?_⟩
    exact ⟨_,rfl,_,rfl,t,_,_,_,rfl,rfl,SqT.of hT,rfl,a,tp,ns,x,rfl,hS,hd,q _ (Same.refl _)⟩
  | move x i=>
    refine ⟨_,rfl,t,_,_,_,rfl,rfl,SqT.of hT,rfl,rfl,_,rfl,ZB0 (by decide +kernel) ?_⟩
    refine ⟨_,rfl,t,_,_,_,rfl,rfl,SqT.of hT,rfl,rfl,_,rfl,ZB0 (by decide +kernel) ?_⟩
    refine ⟨_,rfl,t,_,_,_,rfl,rfl,SqT.of hT,rfl,rfl,_,rfl,iteP (by decide +kernel) ?_⟩
    exact ⟨_,rfl,_,rfl,t,_,_,_,rfl,rfl,SqT.of hT,rfl,_,rfl,t,_,_,_,rfl,rfl,SqT.of hT,rfl,a,tp,ns,x,i,rfl,hS,hd,q _ (Same.refl _)⟩
  | turn lo hi=>
    refine ⟨_,rfl,t,_,_,_,rfl,rfl,SqT.of hT,rfl,rfl,_,rfl,ZB0 (by decide +kernel) ?_⟩
    refine ⟨_,rfl,t,_,_,_,rfl,rfl,SqT.of hT,rfl,rfl,_,rfl,ZB0 (by decide +kernel) ?_⟩
    refine ⟨_,rfl,t,_,_,_,rfl,rfl,SqT.of hT,rfl,rfl,_,rfl,ZB0 (by decide +kernel) ?_⟩
    exact ⟨_,rfl,_,rfl,t,_,_,_,rfl,rfl,SqT.of hT,rfl,_,rfl,t,_,_,_,rfl,rfl,SqT.of hT,rfl,a,tp,ns,lo,hi,rfl,hS,hd,q _ (Same.refl _)⟩
theorem ZDg:FnScope ["gap", "at"] ["gap", "at"] (ZA4 ZAe):=⟨rfl,rfl,rfl,by decide +kernel,rfl,by decide +kernel,by decide +kernel⟩
theorem ZDP (F:Fun K "gap_behind_put" "gap_behind_put" ZAe f fd) (bd:Binds K fd ["gap", "at"] []) (m:mg "gap_behind_put" = some (.ref f))  :
    Has P w K mg base "gap_behind_put" 1 ["gap", "at"] (ZIT):=by
  refine Has.mk F bd m (F.okq (k:=0) ZDg (fun vs H Q E h=>?_) (fun cdv A outer s H vs Q E hr h=>?_))
  · obtain ⟨g,i,rfl,q⟩:=h;rfl
  obtain ⟨g,i,rfl,q⟩:=h
  refine ⟨_,(ZA8 rfl (ZAS (ZA6 ZGU (qv 1) (qv 0) (ZAF _)) (ZA7 rfl (ZAH (ZAP ZBP (qv 0) ZA2))) ZAI)
      (ZA7 rfl (ZAH (qv 0)))),?_⟩
  refine ⟨_,rfl,_,rfl,_,_,rfl,rfl,_,rfl,?_⟩
  refine ZAg (fun c=>?_) (fun c=>?_)
  · have c':(i:Int) < (g:Int):=of_decide_eq_true c
    have e:((ZFZ i g:Nat):Int)=(g:Int)+1:=by unfold ZFZ;rw [if_pos (by omega)];omega
    rw [e] at q
    exact ⟨_,rfl,_,_,rfl,rfl,q⟩
  · have c':¬ (i:Int) < (g:Int):=fun z=>c (decide_eq_true z)
    have e:ZFZ i g=g:=by unfold ZFZ;rw [if_neg (by omega)]
    rw [e] at q
    exact ⟨_,rfl,q⟩
theorem ZDN:FnScope ["gap", "place"] ["gap", "place"] (ZA4 ZAZ):=⟨rfl,rfl,rfl,by decide +kernel,rfl,by decide +kernel,by decide +kernel⟩
theorem ZDH (F:Fun K "gap_behind_take" "gap_behind_take" ZAZ f fd) (bd:Binds K fd ["gap", "place"] []) (m:mg "gap_behind_take" = some (.ref f))  :
    Has P w K mg base "gap_behind_take" 1 ["gap", "place"] (ZGV):=by
  refine Has.mk F bd m (F.okq (k:=0) ZDN (fun vs H Q E h=>?_) (fun cdv A outer s H vs Q E hr h=>?_))
  · obtain ⟨g,p,rfl,q⟩:=h;rfl
  obtain ⟨g,p,rfl,q⟩:=h
  refine ⟨_,(ZA8 rfl (ZAS (ZA6 ZGU (qv 1) (qv 0) (ZAF _)) (ZA7 rfl (ZAH (ZAP ZIs (qv 0) ZA2))) ZAI)
      (ZA7 rfl (ZAH (qv 0)))),?_⟩
  refine ⟨_,rfl,_,rfl,_,_,rfl,rfl,_,rfl,?_⟩
  refine ZAg (fun c=>?_) (fun c=>?_)
  · have c':(p:Int) < (g:Int):=of_decide_eq_true c
    have e:((ZCf p g:Nat):Int)=(g:Int) - 1:=by unfold ZCf;rw [if_pos (by omega)];omega
    rw [e] at q
    exact ⟨_,rfl,_,_,rfl,rfl,q⟩
  · have c':¬ (p:Int) < (g:Int):=fun z=>c (decide_eq_true z)
    have e:ZCf p g=g:=by unfold ZCf;rw [if_neg (by omega)]
    rw [e] at q
    exact ⟨_,rfl,q⟩
theorem ZIh:FnScope ["row", "gap", "deed"] ["row", "gap", "deed"] (ZA4 ZBp):=⟨rfl,rfl,rfl,by decide +kernel,rfl,by decide +kernel,by decide +kernel⟩
theorem ZJ2 (F:Fun K "gap_led" "gap_led" ZBp f fd) (bd:Binds K fd ["row", "gap", "deed"] []) (m:mg "gap_led" = some (.ref f)) (h_gap_behind_put:Has P w K mg base "gap_behind_put" 1 ["gap", "at"] (ZIT)) (h_gap_behind_take:Has P w K mg base "gap_behind_take" 1 ["gap", "place"] (ZGV)) (h_place_of:Has P w K mg base "place_of" 1 ["row", "name"] (ZCu)) :
    Has P w K mg base "gap_led" 3 ["row", "gap", "deed"] (ZIW):=by
  refine Has.mk F bd m (F.okq (k:=2) ZIh (fun vs H Q E h=>?_) (fun cdv A outer s H vs Q E hr h=>?_))
  · obtain ⟨a,t,tp,ns,g,d,rfl,hS,hT,ok,q⟩:=h;rfl
  obtain ⟨a,t,tp,ns,g,d,rfl,hS,hT,ok,q⟩:=h
  refine ⟨_,(ZA8 rfl (ZAS (ZA6 ZAk (ZAD ZA9 (qv 2) ZA2 (fun _ _=>rfl)) ZAM (ZAF _)) (ZA7 rfl (ZAH (ZAB h_gap_behind_put hr (by decide) (ZA0 (qv 1) (ZA0 (ZAD ZA9 (qv 2) ZA2 (fun _ _=>rfl)) ZA1))))) ZAI)
      (ZA8 rfl (ZAS (ZA6 ZAk (ZAD ZA9 (qv 2) ZA2 (fun _ _=>rfl)) ZAM (ZAF _)) (ZA7 rfl (ZAH (ZAB h_gap_behind_take hr (by decide) (ZA0 (qv 1) (ZA0 (ZAB h_place_of hr (by decide) (ZA0 (qv 0) (ZA0 (ZAD ZA9 (qv 2) ZA2 (fun _ _=>rfl)) ZA1))) ZA1))))) ZAI)
      (ZA8 rfl (ZAS (ZA6 ZAk (ZAD ZA9 (qv 2) ZA2 (fun _ _=>rfl)) ZAM (ZAF _)) (ZA7 rfl (ZAH (ZAB h_gap_behind_put hr (by decide) (ZA0 (ZAB h_gap_behind_take hr (by decide) (ZA0 (qv 1) (ZA0 (ZAB h_place_of hr (by decide) (ZA0 (qv 0) (ZA0 (ZAD ZA9 (qv 2) ZA2 (fun _ _=>rfl)) ZA1))) ZA1))) (ZA0 (ZAD ZA9 (qv 2) ZA2 (fun _ _=>rfl)) ZA1))))) ZAI)
      (ZA7 rfl (ZAH (qv 1)))))),?_⟩
  have e1:=hT
  have a1:=hS
  refine ⟨_,rfl,t,_,_,_,rfl,rfl,SqT.of e1,ZDi d,rfl,_,rfl,ZAg (fun c1=>?_) (fun c1=>?_)⟩
  · obtain ⟨x,i,rfl⟩:=ZJf c1
    exact ⟨_,rfl,_,rfl,t,_,_,_,rfl,rfl,SqT.of e1,rfl,g,i,rfl,q⟩
  refine ⟨_,rfl,t,_,_,_,rfl,rfl,SqT.of e1,ZDi d,rfl,_,rfl,ZAg (fun c2=>?_) (fun c2=>?_)⟩
  · obtain ⟨x,rfl⟩:=com_tk c2
    exact ⟨_,rfl,_,rfl,_,rfl,t,_,_,_,rfl,rfl,SqT.of e1,rfl,a,tp,ns,x,rfl,a1,ok,g,_,rfl,q⟩
  refine ⟨_,rfl,t,_,_,_,rfl,rfl,SqT.of e1,ZDi d,rfl,_,rfl,ZAg (fun c3=>?_) (fun c3=>?_)⟩
  · obtain ⟨x,i,rfl⟩:=com_mv c3
    exact ⟨_,rfl,_,rfl,_,rfl,t,_,_,_,rfl,rfl,SqT.of e1,rfl,a,tp,ns,x,rfl,a1,ok.1,g,_,rfl,_,rfl,t,_,_,_,rfl,rfl,SqT.of e1,rfl,_,i,rfl,q⟩
  obtain ⟨lo,hi,rfl⟩:=com_tn c1 c2 c3
  exact ⟨_,rfl,q⟩
theorem sc_joins:FnScope ["loop", "at"] ["loop", "at"] (ZA4 ZCv):=⟨rfl,rfl,rfl,by decide +kernel,rfl,by decide +kernel,by decide +kernel⟩
theorem ok_joins (F:Fun K "joins" "joins" ZCv f fd) (bd:Binds K fd ["loop", "at"] []) (m:mg "joins" = some (.ref f))  :
    Has P w K mg base "joins" 1 ["loop", "at"] (ZK1):=by
  refine Has.mk F bd m (F.okq (k:=0) sc_joins (fun vs H Q E h=>?_) (fun cdv A outer s H vs Q E hr h=>?_))
  · obtain ⟨t,r,g,i,c,rfl,hT,q⟩:=h;rfl
  obtain ⟨t,r,g,i,c,rfl,hT,q⟩:=h
  refine ⟨_,(ZA7 rfl (ZAH (qe_or (ZC1 ZAk (ZAD ZA9 (qv 0) ZA2 (fun _ _=>rfl)) ZAM (ZAF _)) (ZF4 (ZFK (ZC1 ZAk (ZAD ZA9 (qv 0) ZA2 (fun _ _=>rfl)) ZAM (ZAF _)) (ZF4 (ZC1 ZHz (qv 1) (ZAD ZA9 (qv 0) ZA2 (fun _ _=>rfl)) (ZAF _)))))))),?_⟩
  refine ⟨_,rfl,t,_,_,_,rfl,rfl,SqT.of hT,rfl,rfl,_,rfl,?_⟩
  refine ZAg (fun c1=>?_) (fun c1=>?_)
  · have e:ZAj r g i=true:=by unfold ZAj;rw [if_pos c1]
    rw [e] at q;exact q
  · refine ⟨_,rfl,t,_,_,_,rfl,rfl,SqT.of hT,rfl,rfl,_,rfl,?_⟩
    refine ZAg (fun c2=>?_) (fun c2=>?_)
    · have e:ZAj r g i=decide ((g:Int)≤(i:Int)):=by unfold ZAj;rw [if_neg c1,if_pos c2]
      rw [e] at q
      exact ⟨_,rfl,_,rfl,t,_,_,_,rfl,rfl,SqT.of hT,rfl,_,_,rfl,rfl,q⟩
    · have e:ZAj r g i=false:=by unfold ZAj;rw [if_neg c1,if_neg c2]
      rw [e] at q;exact q
theorem ZEH:FnScope ["loop", "deed"] ["loop", "deed"] (ZA4 ZAf):=⟨rfl,rfl,rfl,by decide +kernel,rfl,by decide +kernel,by decide +kernel⟩
theorem ZE1 (F:Fun K "coming_behind" "coming_behind" ZAf f fd) (bd:Binds K fd ["loop", "deed"] []) (m:mg "coming_behind" = some (.ref f)) (h_coming_without:Has P w K mg base "coming_without" 1 ["coming", "gone"] (ZHH K)) (h_joins:Has P w K mg base "joins" 1 ["loop", "at"] (ZK1)) (b_sorted:mg "sorted" = none) (b_tuple:mg "tuple" = none) :
    Has P w K mg base "coming_behind" 2 ["loop", "deed"] (ZDn):=by
  refine Has.mk F bd m (F.okq (k:=1) ZEH (fun vs H Q E h=>?_) (fun cdv A outer s H vs Q E hr h=>?_))
  · obtain ⟨tl,t,c,r,g,ss,d,rfl,⟨hL,hC⟩,hT,hz,up,hx,q⟩:=h;rfl
  obtain ⟨tl,t,c,r,g,ss,d,rfl,⟨hL,hC⟩,hT,hz,up,hx,q⟩:=h
  refine ⟨_,(ZA8 rfl (ZAS (ZA6 ZAk (ZAD ZA9 (qv 1) ZA2 (fun _ _=>rfl)) ZAM (ZAF _)) (ZA7 rfl (ZAH (ZAB h_coming_without hr (by decide) (ZA0 (ZAD ZA9 (qv 0) ZA2 (fun _ _=>rfl)) (ZA0 (ZAD ZA9 (qv 1) ZA2 (fun _ _=>rfl)) ZA1))))) ZAI)
      (ZA8 rfl (ZAS (ZCP (ZA6 ZAk (ZAD ZA9 (qv 1) ZA2 (fun _ _=>rfl)) ZAM (ZAF _)) (ZBz (ZFY (ZAB h_joins hr (by decide) (ZA0 (qv 0) (ZA0 (ZAD ZA9 (qv 1) ZA2 (fun _ _=>rfl)) ZA1)))))).pt (ZA7 rfl (ZAH (ZB5 ZC5 (by rfl) b_tuple (by decide +kernel) (ZA0 (ZAK ZDd (by rfl) b_sorted (by decide +kernel) (ZA0 (ZAP op_catA (ZAD ZA9 (qv 0) ZA2 (fun _ _=>rfl)) (ZAv (ZA0 (ZAD ZA9 (qv 1) ZA2 (fun _ _=>rfl)) ZA1))) ZA1)) ZA1)))) ZAI)
      (ZA7 rfl (ZAH (ZAD ZA9 (qv 0) ZA2 (fun _ _=>rfl)))))),?_⟩
  refine ⟨_,rfl,t,_,_,_,rfl,rfl,SqT.of hT,ZDi d,rfl,_,rfl,ZAg (fun c2=>?_) (fun c2=>?_)⟩
  · obtain ⟨x,rfl⟩:=com_tk c2
    exact ⟨_,rfl,tl,_,_,_,rfl,rfl,SqT.of hL,rfl,_,rfl,t,_,_,_,rfl,rfl,SqT.of hT,rfl,c,ss,x,rfl,SqT.of hC,by omega,fun l H' hl s e=>q l H' (.inl hl) s e⟩
  refine ⟨_,rfl,t,_,_,_,rfl,rfl,SqT.of hT,ZDi d,rfl,_,rfl,ZAg (fun c1=>?_) (fun c1=>ZD4 ⟨_,rfl,tl,_,_,_,rfl,rfl,SqT.of hL,rfl,q c _ (.inr rfl) (Same.refl _) (by rw [com_rest c1 c2];exact hC)⟩)⟩
  obtain ⟨x,i,rfl⟩:=ZJf c1
  refine ⟨_,rfl,_,rfl,t,_,_,_,rfl,rfl,SqT.of hT,rfl,tl,r,g,i,c,rfl,hL,_,rfl,?_⟩
  refine ZAg (fun hj=>?_) (fun hj=>⟨_,rfl,tl,_,_,_,rfl,rfl,SqT.of hL,rfl,q c _ (.inr rfl) (Same.refl _) (by rw [ZEl (Bool.eq_false_iff.mpr hj)];exact hC)⟩)
  refine ⟨_,rfl,tl,_,_,_,rfl,rfl,SqT.of hL,rfl,_,rfl,t,_,_,_,rfl,rfl,SqT.of hT,rfl,(by show 1≤sizeLine;decide),fun t1 ht1=>?_⟩
  have n1:=ZA5 ht1 (.tup [.str x])
  refine ⟨c,t1,_,_,rfl,rfl,SqT.of (n1 _ _ hC),SqT.of ZA3,by simp,small (by rw [ZE3];simp;omega),fun p2 H2 s2 e2=>?_⟩
  have e2':SqT K H2 p2 ((ss++[x]).map V.str):=by rw [List.map_append];exact e2
  refine ⟨p2,true,ss++[x],rfl,e2',by rw [List.length_append];simp;omega,fun l3 ts hl3 hp hs=>?_⟩
  have n3:=ZA5 hl3 (.lst (ts.map V.str))
  refine ⟨l3,_,rfl,.inl ⟨SqL.of ZA3,fun c4 hc4=>?_⟩⟩
  exact q c4 _ (.inl (Same.none (n1.trans (s2.trans n3)) hc4)) (n1.trans (s2.trans (n3.trans (ZA5 hc4 _)))) (by rw [ZA3,ZHq hp hs up (hx x i rfl),ZIB hj])
theorem ZI8:FnScope ["row", "loop", "deed"] ["row", "loop", "deed"] (ZA4 ZBZ):=⟨rfl,rfl,rfl,by decide +kernel,rfl,by decide +kernel,by decide +kernel⟩
theorem ZIA (F:Fun K "loop_led" "loop_led" ZBZ f fd) (bd:Binds K fd ["row", "loop", "deed"] []) (m:mg "loop_led" = some (.ref f)) (h_coming_behind:Has P w K mg base "coming_behind" 2 ["loop", "deed"] (ZDn)) (h_gap_led:Has P w K mg base "gap_led" 3 ["row", "gap", "deed"] (ZIW)) :
    Has P w K mg base "loop_led" 4 ["row", "loop", "deed"] (ZEw):=by
  refine Has.mk F bd m (F.okq (k:=3) ZI8 (fun vs H Q E h=>?_) (fun cdv A outer s H vs Q E hr h=>?_))
  · obtain ⟨a,tl,t,c,tp,ns,r,g,ss,d,rfl,hS,⟨hL1,hC1⟩,hT,ok,gd,hz,q⟩:=h;rfl
  obtain ⟨a,tl,t,c,tp,ns,r,g,ss,d,rfl,hS,⟨hL1,hC1⟩,hT,ok,gd,hz,q⟩:=h
  refine ⟨_,(ZA7 rfl (ZAH (ZAv (ZA0 (ZAD ZA9 (qv 1) ZA2 (fun _ _=>rfl)) (ZA0 (ZAB h_gap_led hr (by decide) (ZA0 (qv 0) (ZA0 (ZAD ZA9 (qv 1) ZA2 (fun _ _=>rfl)) (ZA0 (qv 2) ZA1)))) (ZA0 (ZAB h_coming_behind hr (by decide) (ZA0 (qv 1) (ZA0 (qv 2) ZA1))) ZA1)))))),?_⟩
  have hlen:=gd.len
  have g1:=gd.g1
  refine ⟨_,rfl,tl,_,_,_,rfl,rfl,SqT.of hL1,rfl,_,rfl,_,rfl,tl,_,_,_,rfl,rfl,SqT.of hL1,rfl,_,rfl,a,t,tp,ns,g,d,rfl,hS,hT,ok,?_⟩
  refine ⟨_,rfl,_,rfl,tl,t,c,r,g,ss,d,rfl,⟨hL1,hC1⟩,hT,by omega,gd.up,ZKc gd ok,fun c3 H3 f3 s3 e3=>?_⟩
  refine ⟨(by show 3≤sizeLine;decide),fun t4 ht4=>?_⟩
  have n4:=ZA5 ht4 (.tup [.str r,.int (d.gap ns g:Nat),.ref c3])
  exact q t4 c3 _ (Same.none s3 ht4) f3 (s3.trans n4) ⟨ZA3,n4 _ _ e3⟩
theorem sc_led:FnScope ["row", "loop", "deed"] ["row", "loop", "deed"] (ZA4 ZGP):=⟨rfl,rfl,rfl,by decide +kernel,rfl,by decide +kernel,by decide +kernel⟩
theorem ok_led (F:Fun K "led" "led" ZGP f fd) (bd:Binds K fd ["row", "loop", "deed"] []) (m:mg "led" = some (.ref f)) (h_check_deed:Has P w K mg base "check_deed" 3 ["row", "deed"] (spChk)) (h_check_loop:Has P w K mg base "check_loop" 3 ["row", "loop"] (ZE9 K)) (h_loop_led:Has P w K mg base "loop_led" 4 ["row", "loop", "deed"] (ZEw)) :
    Has P w K mg base "led" 5 ["row", "loop", "deed"] (ZEw):=by
  refine Has.mk F bd m (F.okq (k:=4) sc_led (fun vs H Q E h=>?_) (fun cdv A outer s H vs Q E hr h=>?_))
  · obtain ⟨a,tl,t,c0,tp,ns,r,g,ss,d,rfl,hS,hL,hT,ok,gd,hz,q⟩:=h;rfl
  obtain ⟨a,tl,t,c0,tp,ns,r,g,ss,d,rfl,hS,hL,hT,ok,gd,hz,q⟩:=h
  refine ⟨_,(ZA8 rfl (ZAq (ZAB h_check_loop hr (by decide) (ZA0 (qv 0) (ZA0 (qv 1) ZA1))))
      (ZA8 rfl (ZAq (ZAB h_check_deed hr (by decide) (ZA0 (qv 0) (ZA0 (qv 2) ZA1))))
      (ZA7 rfl (ZAH (ZAB h_loop_led hr (by decide) (ZA0 (qv 0) (ZA0 (qv 1) (ZA0 (qv 2) ZA1)))))))),?_⟩
  have hlen:=gd.len
  refine ⟨_,rfl,_,rfl,a,tp,ns,tl,r,g,ss,rfl,HOq.sq hS,hL.h.at,by omega,gd.isLp,fun H1 s1=>?_⟩
  refine ⟨_,rfl,_,rfl,a,t,tp,ns,d,rfl,s1 _ _ hS,s1 _ _ hT,ok,fun H2 s2=>?_⟩
  have k2:=s1.trans s2
  exact ⟨_,rfl,_,rfl,_,rfl,a,tl,t,c0,tp,ns,r,g,ss,d,rfl,k2 _ _ hS,hL.same k2,k2 _ _ hT,ok,gd,hz,fun t4 c4 H4 ht4 f4 s4 e4=>q t4 c4 H4 (Same.none k2 ht4) (f4.imp (Same.none k2) id) (k2.trans s4) e4⟩
theorem ZG4:FnScope ["row", "low", "high"] ["row", "low", "high"] (ZA4 ZAw):=⟨rfl,rfl,rfl,by decide +kernel,rfl,by decide +kernel,by decide +kernel⟩
theorem ZG5 (F:Fun K "row_turned" "row_turned" ZAw f fd) (bd:Binds K fd ["row", "low", "high"] []) (m:mg "row_turned" = some (.ref f)) (b_list:mg "list" = none) (b_reversed:mg "reversed" = none) :
    Has P w K mg base "row_turned" 1 ["row", "low", "high"] (ZIX):=by
  refine Has.mk F bd m (F.okq (k:=0) ZG4 (fun vs H Q E h=>?_) (fun cdv A outer s H vs Q E hr h=>?_))
  · obtain ⟨a,tp,ns,lo,hi,rfl,hS,hz,h1,h2,q⟩:=h;rfl
  obtain ⟨a,tp,ns,lo,hi,rfl,hS,hz,h1,h2,q⟩:=h
  refine ⟨_,(ZA7 rfl (ZAH (ZAP ZFf (ZAP ZFf (ZB5 ZBQ (by rfl) b_list (by decide +kernel) (ZA0 (ZBO ZDI (qv 0) ZC0 (ZBd (qv 1))) ZA1)) (qe_rev rfl rfl b_list rfl b_reversed (ZA0 (ZBO ZDI (qv 0) (ZBd (qv 1)) (ZBd (qv 2))) ZA1))) (ZB5 ZBQ (by rfl) b_list (by decide +kernel) (ZA0 (ZBO ZDI (qv 0) (ZBd (qv 2)) ZC0) ZA1))))),?_⟩
  have hl:=ZE3 ns
  have zz:∀ n:Nat,n≤2001→n≤sizeLine:=fun n h=>Nat.le_trans h (by decide +kernel)
  refine ⟨_,rfl,_,rfl,_,rfl,a,tp,_,rfl,HOq.sq hS,fun p1 H1 s1 e1=>?_⟩
  rw [ZJH] at e1
  refine ⟨p1,_,rfl,e1.or,fun l1 n1=>?_⟩
  have t1:=ZA5 n1 (.lst ((ns.map V.str).take lo))
  have s2:=s1.trans t1
  refine ⟨_,rfl,_,rfl,_,rfl,_,rfl,_,rfl,a,tp,_,rfl,HOq.sq (s2 _ _ hS),fun p3 H3 s3 e3=>?_⟩
  rw [cut_mid _ h1 (by rw [hl];exact h2)] at e3
  refine ⟨p3,tp,_,rfl,e3,fun l4 n4=>?_⟩
  have t4:=ZA5 n4 (.lst (((ns.map V.str).drop lo).take (hi - lo)).reverse)
  refine ⟨l1,l4,_,_,rfl,rfl,t4 _ _ (s3 _ _ ZA3),ZA3,zz _ (by simp only [List.length_take,List.length_reverse,List.length_drop];omega),fun l5 n5=>?_⟩
  have t5:=ZA5 n5 (.lst ((ns.map V.str).take lo++(((ns.map V.str).drop lo).take (hi - lo)).reverse))
  have s5:=s2.trans (s3.trans (t4.trans t5))
  refine ⟨_,rfl,_,rfl,_,rfl,a,tp,_,rfl,HOq.sq (s5 _ _ hS),fun p6 H6 s6 e6=>?_⟩
  rw [ZFD] at e6
  refine ⟨p6,_,rfl,e6.or,fun l7 n7=>?_⟩
  have t7:=ZA5 n7 (.lst ((ns.map V.str).drop hi))
  refine ⟨l5,l7,_,_,rfl,rfl,t7 _ _ (s6 _ _ ZA3),ZA3,zz _ (by simp only [List.length_append,List.length_take,List.length_drop,List.length_reverse];omega),fun l8 n8=>?_⟩
  have s7:=s5.trans (s6.trans t7)
  refine q l8 _ (Same.none s7 n8) (s7.trans (ZA5 n8 _)) ?_
  rw [ZA3]
  unfold trn
  simp only [List.map_append,List.map_take,List.map_drop,List.map_reverse,List.append_assoc]
theorem ZI3:FnScope ["row", "name", "at"] ["row", "name", "at"] (ZA4 ZBW):=⟨rfl,rfl,rfl,by decide +kernel,rfl,by decide +kernel,by decide +kernel⟩
theorem ZIV (F:Fun K "row_with" "row_with" ZBW f fd) (bd:Binds K fd ["row", "name", "at"] []) (m:mg "row_with" = some (.ref f)) (b_list:mg "list" = none) :
    Has P w K mg base "row_with" 1 ["row", "name", "at"] (spWith):=by
  refine Has.mk F bd m (F.okq (k:=0) ZI3 (fun vs H Q E h=>?_) (fun cdv A outer s H vs Q E hr h=>?_))
  · obtain ⟨a,tp,ns,x,i,rfl,hS,hz,q⟩:=h;rfl
  obtain ⟨a,tp,ns,x,i,rfl,hS,hz,q⟩:=h
  refine ⟨_,(ZA7 rfl (ZAH (ZAP ZFf (ZAP ZFf (ZB5 ZBQ (by rfl) b_list (by decide +kernel) (ZA0 (ZBO ZDI (qv 0) ZC0 (ZBd (qv 2))) ZA1)) (ZBq (ZA0 (qv 1) ZA1))) (ZB5 ZBQ (by rfl) b_list (by decide +kernel) (ZA0 (ZBO ZDI (qv 0) (ZBd (qv 2)) ZC0) ZA1))))),?_⟩
  have hl:=ZE3 ns
  have zz:∀ n:Nat,n≤2001→n≤sizeLine:=fun n h=>Nat.le_trans h (by decide +kernel)
  refine ⟨_,rfl,_,rfl,_,rfl,a,tp,_,rfl,HOq.sq hS,fun p1 H1 s1 e1=>?_⟩
  rw [ZJH] at e1
  refine ⟨p1,_,rfl,e1.or,fun l1 n1=>?_⟩
  have t1:=ZA5 n1 (.lst ((ns.map V.str).take i))
  refine ⟨_,rfl,zz _ (by show 1≤2001;decide),fun l2 n2=>?_⟩
  have t2:=ZA5 n2 (.lst [.str x])
  refine ⟨l1,l2,_,_,rfl,rfl,t2 _ _ ZA3,ZA3,zz _ (by simp only [List.length_take,List.length_singleton];omega),fun l3 n3=>?_⟩
  have t3:=ZA5 n3 (.lst ((ns.map V.str).take i++[.str x]))
  have s3:=s1.trans (t1.trans (t2.trans t3))
  refine ⟨_,rfl,_,rfl,_,rfl,a,tp,_,rfl,HOq.sq (s3 _ _ hS),fun p4 H4 s4 e4=>?_⟩
  rw [ZFD] at e4
  refine ⟨p4,_,rfl,e4.or,fun l5 n5=>?_⟩
  have t5:=ZA5 n5 (.lst ((ns.map V.str).drop i))
  refine ⟨l3,l5,_,_,rfl,rfl,t5 _ _ (s4 _ _ ZA3),ZA3,zz _ (by simp only [List.length_append,List.length_take,List.length_drop,List.length_singleton];omega),fun l6 n6=>?_⟩
  have s5:=s3.trans (s4.trans t5)
  refine q l6 _ (Same.none s5 n6) (s5.trans (ZA5 n6 _)) ?_
  rw [ZA3]
  unfold ins
  simp only [List.map_append,List.map_take,List.map_cons,List.map_drop,List.append_assoc,List.singleton_append]
theorem ZFJ:FnScope ["row", "name"] ["row", "name"] (ZA4 ZAi):=⟨rfl,rfl,rfl,by decide +kernel,rfl,by decide +kernel,by decide +kernel⟩
def ZE2:Scope:={ kind:=.function,names:=[(".0", .local),("thing", .local),("name", .free)],isGenerator:=false,isCoroutine:=false,more:=[] }
theorem ZEA:CompScope ["row", "name"] (ZA4 ZAi) ZE2 "thing" ["name"] [1]:=⟨rfl,by decide +kernel,by decide +kernel,rfl,rfl,by decide +kernel,by decide +kernel,by decide +kernel,by decide +kernel⟩
theorem ZFF (F:Fun K "row_without" "row_without" ZAi f fd) (bd:Binds K fd ["row", "name"] []) (m:mg "row_without" = some (.ref f))  :
    Has P w K mg base "row_without" 1 ["row", "name"] (ZGu):=by
  refine Has.mk F bd m (F.okq (k:=0) ZFJ (fun vs H Q E h=>?_) (fun cdv A outer s H vs Q E hr h=>?_))
  · obtain ⟨a,tp,ns,x,rfl,hS,hz,q⟩:=h;rfl
  obtain ⟨a,tp,ns,x,rfl,hS,hz,q⟩:=h
  refine ⟨_,(ZA7 rfl (ZAH (ZDV rfl ZEA (ZGZ (qv 0)) (fun _ _ _ _=>by exact (ZDU (ZA6 op_ne (qv 1) (qv 0) (ZAF _)))) (fun _ _ _ _=>by exact (qv 1))))),?_⟩
  have hl:=ZE3 ns
  refine ⟨_,rfl,tp,a,_,rfl,HOq.sq hS,fun acc hacc=>ZEi (neqV (.str x)) (fun v=>v) (HOq.sq hS) hacc (by rw [hl];exact small (by omega)) (fun i v H' Q' hv s1 h=>?_) (fun i v H' Q' hv _ s1 h=>?_) (fun H' s1 e1=>?_)⟩
  · obtain ⟨y,rfl,hm⟩:=ZDm hv
    exact ⟨_,rfl,_,rfl,rfl,_,rfl,h H' (Same.refl _)⟩
  · exact ⟨_,rfl,h H' (Same.refl _)⟩
  · rw [wo_map] at e1
    exact q acc H' hacc s1 e1
theorem sc_done:FnScope ["row", "deed"] ["row", "deed"] (ZA4 ZEG):=⟨rfl,rfl,rfl,by decide +kernel,rfl,by decide +kernel,by decide +kernel⟩
theorem ok_done (F:Fun K "done" "done" ZEG f fd) (bd:Binds K fd ["row", "deed"] []) (m:mg "done" = some (.ref f)) (h_check_deed:Has P w K mg base "check_deed" 3 ["row", "deed"] (spChk)) (h_row_turned:Has P w K mg base "row_turned" 1 ["row", "low", "high"] (ZIX)) (h_row_with:Has P w K mg base "row_with" 1 ["row", "name", "at"] (spWith)) (h_row_without:Has P w K mg base "row_without" 1 ["row", "name"] (ZGu)) :
    Has P w K mg base "done" 4 ["row", "deed"] (ZJ0):=by
  refine Has.mk F bd m (F.okq (k:=3) sc_done (fun vs H Q E h=>?_) (fun cdv A outer s H vs Q E hr h=>?_))
  · obtain ⟨a,t,tp,ns,d,rfl,hS,hT,hd,hz,q⟩:=h;rfl
  obtain ⟨a,t,tp,ns,d,rfl,hS,hT,hd,hz,q⟩:=h
  refine ⟨_,(ZA8 rfl (ZAq (ZAB h_check_deed hr (by decide) (ZA0 (qv 0) (ZA0 (qv 1) ZA1))))
      (ZA8 rfl (ZAS (ZA6 ZAk (ZAD ZA9 (qv 1) ZA2 (fun _ _=>rfl)) ZAM (ZAF _)) (ZA7 rfl (ZAH (ZAB h_row_with hr (by decide) (ZA0 (qv 0) (ZA0 (ZAD ZA9 (qv 1) ZA2 (fun _ _=>rfl)) (ZA0 (ZAD ZA9 (qv 1) ZA2 (fun _ _=>rfl)) ZA1)))))) ZAI)
      (ZA8 rfl (ZAS (ZA6 ZAk (ZAD ZA9 (qv 1) ZA2 (fun _ _=>rfl)) ZAM (ZAF _)) (ZA7 rfl (ZAH (ZAB h_row_without hr (by decide) (ZA0 (qv 0) (ZA0 (ZAD ZA9 (qv 1) ZA2 (fun _ _=>rfl)) ZA1))))) ZAI)
      (ZA8 rfl (ZAS (ZA6 ZAk (ZAD ZA9 (qv 1) ZA2 (fun _ _=>rfl)) ZAM (ZAF _)) (ZA7 rfl (ZAH (ZAB h_row_with hr (by decide) (ZA0 (ZAB h_row_without hr (by decide) (ZA0 (qv 0) (ZA0 (ZAD ZA9 (qv 1) ZA2 (fun _ _=>rfl)) ZA1))) (ZA0 (ZAD ZA9 (qv 1) ZA2 (fun _ _=>rfl)) (ZA0 (ZAD ZA9 (qv 1) ZA2 (fun _ _=>rfl)) ZA1)))))) ZAI)
      (ZA7 rfl (ZAH (ZAB h_row_turned hr (by decide) (ZA0 (qv 0) (ZA0 (ZAD ZA9 (qv 1) ZA2 (fun _ _=>rfl)) (ZA0 (ZAD ZA9 (qv 1) ZA2 (fun _ _=>rfl)) ZA1)))))))))),?_⟩
  refine ⟨_,rfl,_,rfl,a,t,tp,ns,d,rfl,hS,hT,hd,fun H1 s1=>?_⟩
  have hT1:=s1 _ _ hT
  have hS1:=s1 _ _ hS
  have fin:ZCU H1 Q (d.done ns):=fun l H' n s e=>q l H' (Same.none s1 n) (s1.trans s) e
  cases d with
  | put x i=>
    refine ⟨_,rfl,t,_,_,_,rfl,rfl,SqT.of hT1,rfl,rfl,_,rfl,iteP (by decide +kernel) ?_⟩
    exact ⟨_,rfl,_,rfl,t,_,_,_,rfl,rfl,SqT.of hT1,rfl,_,rfl,t,_,_,_,rfl,rfl,SqT.of hT1,rfl,a,tp,ns,x,i,rfl,hS1,by omega,fin⟩
  | take x=>
    refine ⟨_,rfl,t,_,_,_,rfl,rfl,SqT.of hT1,rfl,rfl,_,rfl,ZB0 (by decide +kernel) ?_⟩
    refine ⟨_,rfl,t,_,_,_,rfl,rfl,SqT.of hT1,rfl,rfl,_,rfl,iteP (by decide +kernel) ?_⟩
    exact ⟨_,rfl,_,rfl,t,_,_,_,rfl,rfl,SqT.of hT1,rfl,a,tp,ns,x,rfl,hS1,by omega,fin⟩
  | move x i=>
    refine ⟨_,rfl,t,_,_,_,rfl,rfl,SqT.of hT1,rfl,rfl,_,rfl,ZB0 (by decide +kernel) ?_⟩
    refine ⟨_,rfl,t,_,_,_,rfl,rfl,SqT.of hT1,rfl,rfl,_,rfl,ZB0 (by decide +kernel) ?_⟩
    refine ⟨_,rfl,t,_,_,_,rfl,rfl,SqT.of hT1,rfl,rfl,_,rfl,iteP (by decide +kernel) ?_⟩
    refine ⟨_,rfl,_,rfl,t,_,_,_,rfl,rfl,SqT.of hT1,rfl,a,tp,ns,x,rfl,hS1,by omega,fun l2 H2 n2 s2 e2=>?_⟩
    have hT2:=s2 _ _ hT1
    have hw:(wo ns x).length≤ns.length:=List.length_filter_le _ _
    exact ⟨_,rfl,t,_,_,_,rfl,rfl,SqT.of hT2,rfl,_,rfl,t,_,_,_,rfl,rfl,SqT.of hT2,rfl,l2,false,wo ns x,x,i,rfl,e2,by omega,fun l H' n s e=>fin l H' (Same.none s2 n) (s2.trans s) e⟩
  | turn lo hi=>
    refine ⟨_,rfl,t,_,_,_,rfl,rfl,SqT.of hT1,rfl,rfl,_,rfl,ZB0 (by decide +kernel) ?_⟩
    refine ⟨_,rfl,t,_,_,_,rfl,rfl,SqT.of hT1,rfl,rfl,_,rfl,ZB0 (by decide +kernel) ?_⟩
    refine ⟨_,rfl,t,_,_,_,rfl,rfl,SqT.of hT1,rfl,rfl,_,rfl,ZB0 (by decide +kernel) ?_⟩
    exact ⟨_,rfl,_,rfl,t,_,_,_,rfl,rfl,SqT.of hT1,rfl,_,rfl,t,_,_,_,rfl,rfl,SqT.of hT1,rfl,a,tp,ns,lo,hi,rfl,hS1,by omega,hd.1,hd.2,fin⟩
theorem sc_law:FnScope ["script", "pot", "row", "rule", "loop", "numbers", "k", "name", "wanted", "count", "gone", "here", "deed"] ["script"] (ZA4 ZCi):=⟨rfl,rfl,rfl,by decide +kernel,rfl,by decide +kernel,by decide +kernel⟩
def cc_law_0:Scope:={ kind:=.function,names:=[(".0", .local),("number", .local),("deed", .free),("numbers", .free)],isGenerator:=false,isCoroutine:=false,more:=[] }
theorem cs_law_0:CompScope ["script", "pot", "row", "rule", "loop", "numbers", "k", "name", "wanted", "count", "gone", "here", "deed"] (ZA4 ZCi) cc_law_0 "number" ["deed", "numbers"] [12,5]:=⟨rfl,by decide +kernel,by decide +kernel,rfl,rfl,by decide +kernel,by decide +kernel,by decide +kernel,by decide +kernel⟩
def cc_law_1:Scope:={ kind:=.function,names:=[(".0", .local),("name", .local),("row", .free)],isGenerator:=false,isCoroutine:=false,more:=[] }
theorem cs_law_1:CompScope ["script", "pot", "row", "rule", "loop", "numbers", "k", "name", "wanted", "count", "gone", "here", "deed"] (ZA4 ZCi) cc_law_1 "name" ["row"] [2]:=⟨rfl,by decide +kernel,by decide +kernel,rfl,rfl,by decide +kernel,by decide +kernel,by decide +kernel,by decide +kernel⟩
theorem ok_law (F:Fun K "law" "law" ZCi f fd) (bd:Binds K fd ["script"] []) (m:mg "law" = some (.ref f)) (h__law_deed:Has P w K mg base "_law_deed" 3 ["pot", "row", "most"] (ZJG)) (h__law_ended:Has P w K mg base "_law_ended" 6 ["row", "loop", "numbers", "wanted"] (spM ZDJ)) (h__law_pot:Has P w K mg base "_law_pot" 1 ["script", "k"] (spPot K)) (h__law_row:Has P w K mg base "_law_row" 4 ["pot", "most"] (spRow)) (h__law_take:Has P w K mg base "_law_take" 1 ["pot", "many"] (ZEJ)) (h__law_told_right:Has P w K mg base "_law_told_right" 1 ["numbers", "wanted", "name", "row"] (spM ZCs)) (h_begun:Has P w K mg base "begun" 2 ["row", "rule"] (ZFC K)) (h_done:Has P w K mg base "done" 4 ["row", "deed"] (ZJ0)) (h_led:Has P w K mg base "led" 5 ["row", "loop", "deed"] (ZEw)) (h_step:Has P w K mg base "step" 5 ["row", "loop"] (ZEe K)) (b_enumerate:mg "enumerate" = none) (b_len:mg "len" = none) (b_list:mg "list" = none) (b_max:mg "max" = none) (b_min:mg "min" = none) (b_range:mg "range" = none) :
    FnOk P w K mg base CX0 7 f fd ["script"] (ZHh K):=by
  refine (F.okq (k:=6) sc_law (fun vs H Q E h=>by obtain ⟨a,ns,rfl,_⟩:=h;rfl) (fun cdv A outer s H vs Q E hr h=>?_))
  refine ⟨_,(ZA8 rfl (ZAN (i:=1) sc_law.nd rfl (Or.inl rfl) (ZAB h__law_pot hr (by decide) (ZA0 (qv 0) (ZA0 ZA2 ZA1))))
      (ZA8 rfl (ZAN (i:=2) sc_law.nd rfl (Or.inr rfl) (ZAB h__law_row hr (by decide) (ZA0 (qv 1) (ZA0 (ZAD ZA9 (ZAv (ZA0 ZA2 (ZA0 ZA2 (ZA0 ZA2 (ZA0 ZA2 ZA1))))) (ZAB h__law_take hr (by decide) (ZA0 (qv 1) (ZA0 ZA2 ZA1))) (fun _ _=>rfl)) ZA1))))
      (ZA8 rfl (ZAN (i:=3) sc_law.nd rfl (Or.inl rfl) (ZAD ZA9 (ZAv (ZA0 ZAM (ZA0 ZAM (ZA0 ZAM ZA1)))) (ZAB h__law_take hr (by decide) (ZA0 (qv 1) (ZA0 ZA2 ZA1))) (fun _ _=>rfl)))
      (ZA8 rfl (ZAN (i:=4) sc_law.nd rfl (Or.inl rfl) (ZAB h_begun hr (by decide) (ZA0 (qv 2) (ZA0 (qv 3) ZA1))))
      (ZA8 rfl (ZAN (i:=5) sc_law.nd rfl (Or.inr rfl) qe_dnewK)
      (ZA8 rfl (ZBD (ZIv PassesOwn.never rfl (qi_enum2 rfl b_enumerate (ZA0 (qv 2) ZA1)) (ZIc rfl (ZCF (ZC3 (i:=6) sc_law.nd rfl (Or.inl rfl)) (ZCF (ZC3 (i:=7) sc_law.nd rfl (Or.inl rfl)) ZH0))) (ZA7 rfl (ZK0 (ZHm hr) (qv 5) (qv 7) (qv 6)))))
      (ZA8 rfl (ZAN (i:=8) sc_law.nd rfl (Or.inl rfl) (qe_lrng rfl rfl b_list rfl b_range (ZA0 (ZAK ZCt (by rfl) b_len (by decide +kernel) (ZA0 (qv 2) ZA1)) ZA1)))
      (ZA8 rfl (ZAN (i:=9) sc_law.nd rfl (Or.inl rfl) (ZAK ZCt (by rfl) b_len (by decide +kernel) (ZA0 (qv 2) ZA1)))
      (ZA8 rfl (ZAN (i:=10) sc_law.nd rfl (Or.inl rfl) (ZBq ZA1))
      (ZA8 rfl (ZBD (ZIv PassesOwn.never rfl (ZGs rfl b_range (ZA0 (ZAK (ZKk rfl) (by rfl) b_max (by decide +kernel) (ZA0 ZA2 (ZA0 (ZAK (ZKP rfl) (by rfl) b_min (by decide +kernel) (ZA0 (ZAK ZCt (by rfl) b_len (by decide +kernel) (ZA0 (qv 0) ZA1)) (ZA0 ZA2 ZA1))) ZA1))) ZA1)) (ZC3 (i:=6) sc_law.nd rfl (Or.inl rfl)) (ZA8 rfl (ZAN (i:=11) sc_law.nd rfl (Or.inl rfl) (ZAB h__law_pot hr (by decide) (ZA0 (qv 0) (ZA0 (ZAP ZBP (qv 6) ZA2) ZA1))))
      (ZA7 rfl (ZAS (ZA6 ZAk (ZAB h__law_take hr (by decide) (ZA0 (qv 11) (ZA0 ZA2 ZA1))) ZA2 (ZAF _)) (ZA8 rfl (ZHB (ZAB h_step hr (by decide) (ZA0 (qv 2) (ZA0 (qv 4) ZA1))) (ZIc rfl (ZCF (ZC3 (i:=7) sc_law.nd rfl (Or.inl rfl)) (ZCF (ZC3 (i:=4) sc_law.nd rfl (Or.inl rfl)) ZH0))))
      (ZA8 rfl (ZAS (ZCP (ZA6 op_isN (qv 7) ZEr (ZAF _)) (ZBz (ZA6 (op_neN hr.units0) (qv 8) (ZBq ZA1) (ZAF _)))).pt (ZA7 rfl (ZAH ZI4)) ZAI)
      (ZA7 rfl (ZAS (ZCP (ZA6 op_notN (qv 7) ZEr (ZAF _)) (ZBz (ZCg (ZFY (ZAB h__law_told_right hr (by decide) (ZA0 (qv 5) (ZA0 (qv 8) (ZA0 (qv 7) (ZA0 (qv 2) ZA1))))))))).pt (ZA7 rfl (ZAH ZI4)) ZAI)))) (ZA8 rfl (ZAN (i:=12) sc_law.nd rfl (Or.inr rfl) (ZAB h__law_deed hr (by decide) (ZA0 (qv 11) (ZA0 (qv 2) (ZA0 ZA2 ZA1)))))
      (ZA8 rfl (ZBD (ZAS (ZCP (ZA6 ZAk (ZAD ZA9 (qv 12) ZA2 (fun _ _=>rfl)) ZAM (ZAF _)) (ZCP (ZA6 (ZHA hr.units0) (qv 10) (ZBq ZA1) (ZAF _)) (ZBz (ZA6 ZAk (ZAB h__law_take hr (by decide) (ZA0 (qv 11) (ZA0 ZA2 ZA1))) ZA2 (ZAF _))))).pt (ZA7 rfl (ZAN (i:=12) sc_law.nd rfl (Or.inr rfl) (ZAv (ZA0 ZAM (ZA0 (ZAD ZB2 (qv 10) (ZAB h__law_take hr (by decide) (ZA0 (qv 11) (ZA0 (ZAK ZCt (by rfl) b_len (by decide +kernel) (ZA0 (qv 10) ZA1)) ZA1))) (fun _ _=>rfl)) (ZA0 (ZAD ZA9 (qv 12) ZA2 (fun _ _=>rfl)) ZA1)))))) ZAI))
      (ZA8 rfl (ZBD (ZAS (ZA6 ZAk (ZAD ZA9 (qv 12) ZA2 (fun _ _=>rfl)) ZAM (ZAF _)) (ZA8 rfl (ZK0 (ZHm hr) (qv 5) (ZAD ZA9 (qv 12) ZA2 (fun _ _=>rfl)) (qv 9))
      (ZA8 rfl (ZBD (ZAS (ZI0 (ZA6 ZAk (qv 3) ZAM (ZAF _)) (ZF3 (ZCP (ZA6 ZAk (qv 3) ZAM (ZAF _)) (ZBz (ZA6 ZHz (ZAD ZA9 (qv 12) ZA2 (fun _ _=>rfl)) (ZAD ZA9 (qv 4) ZA2 (fun _ _=>rfl)) (ZAF _)))).pt)).pt (ZA7 rfl (ZAq (ZGH PySem.F.plainAttrs_list PySem.F.slot_list_append PySem.F.type_list_append ZEE (qv 8) (ZA0 (qv 9) ZA1)))) ZAI))
      (ZA7 rfl (ZAN (i:=9) sc_law.nd rfl (Or.inl rfl) (ZAP ZBP (qv 9) ZA2))))) ZAI))
      (ZA8 rfl (ZBD (ZAS (ZA6 ZAk (ZAD ZA9 (qv 12) ZA2 (fun _ _=>rfl)) ZAM (ZAF _)) (ZA8 rfl (ZJh (i:=8) sc_law.nd rfl (Or.inl rfl) rfl cs_law_0 (ZGZ (qv 8)) (fun _ _ _ _=>by exact (ZDU (ZA6 op_ne (qv 2) (ZH9 (ZHm hr) (qv 1) (ZAD (show IxR _ (rIxT K) from ZA9) (qv 0) ZA2 (fun _ _=>rfl)) (fun _ _=>rfl)) (ZAF _)))) (fun _ _ _ _=>by exact (qv 2)))
      (ZA7 rfl (ZAq (ZGH PySem.F.plainAttrs_list PySem.F.slot_list_append PySem.F.type_list_append ZEE (qv 10) (ZA0 (ZAD ZA9 (qv 12) ZA2 (fun _ _=>rfl)) ZA1))))) ZAI))
      (ZA8 rfl (ZAN (i:=4) sc_law.nd rfl (Or.inl rfl) (ZAB h_led hr (by decide) (ZA0 (qv 2) (ZA0 (qv 4) (ZA0 (qv 12) ZA1)))))
      (ZA8 rfl (ZAN (i:=2) sc_law.nd rfl (Or.inr rfl) (ZAB h_done hr (by decide) (ZA0 (qv 2) (ZA0 (qv 12) ZA1))))
      (ZA7 rfl (ZJh (i:=10) sc_law.nd rfl (Or.inl rfl) rfl cs_law_1 (ZGZ (qv 10)) (fun _ _ _ _=>by exact (ZDU (ZA6 (show OpR _ (compareOp .NotIn) (rIn K true) from ZBS) (qv 1) (qv 0) (by with_unfolding_all rfl)))) (fun _ _ _ _=>by exact (qv 1)))))))))))))))
      (ZA7 rfl (ZAH (ZAB h__law_ended hr (by decide) (ZA0 (qv 2) (ZA0 (qv 4) (ZA0 (qv 5) (ZA0 (qv 8) ZA1))))))))))))))))),?_⟩
  refine Fz.law_run h ?_
  intro sc h63
  show Ws [_,.any,.any,.any,.any,.any,.any,.any,.any,.any,.any,.any,.any] _ _ _
  walk_at "ww"
  refine ⟨by decide,by decide,?_⟩
  walk_at "ww"
  refine ⟨by simp,?_⟩
  walk_at "ww"
  refine ⟨by decide,by decide,fun r h0 h1=>?_⟩
  obtain ⟨v,hv,v0,v1⟩:=pick4 h0 h1
  refine ⟨_,_,rfl,hv,_,rfl,v0,by omega,fun ns hz hN nd=>?_⟩
  have ro:RowOk 40 ns:=⟨by omega,hN,nd⟩
  refine ZGM 2 rfl ?_
  walk_at "ww"
  refine ⟨by simp,?_⟩
  walk_at "ww"
  refine ⟨by decide,by decide,fun q q0 q1=>?_⟩
  obtain ⟨ru,hru,er⟩:=pickR q0 q1
  refine ⟨_,_,rfl,er,?_⟩
  have rl:=ro.len
  refine ZAn (ZFU (ZHt (ZCa rfl ⟨ns,rfl,ZAL rfl ⟨ru,rfl,hru,by omega,fun ts pm st=>?_⟩⟩)))
  obtain rfl:=srt_eq nd pm st
  refine ZAn (ws_asgX (wx_dnew fun a=>?_))
  refine ZAn (ZAr (ws_for (fun _ i ss'=>∃ (ks:List Key) (xs:List PV) (s6 s7:Slot),ss'=[.raw (ZB9 K sc),.pot,.is (.lst (ns.map .str)),.is (.str ru),.is (ZAu ru 0 (srt ns)),.ow false (.nd (.dct ks) a (xs.map .fz)),s6,s7,.any,.any,.any,.any,.any]∧B17 ns i ks xs) ?_))
  refine ZJs (ZCL (ZAL rfl ⟨_,.inl ⟨rfl,⟨[],[],_,_,rfl,B17.zero⟩,?_,?_⟩⟩))
  · rintro i p ss' hp ⟨ks,xs,s6,s7,rfl,hb⟩
    obtain ⟨x,hx,rfl⟩:=enumP_of hp
    rw [List.getElem?_map] at hx
    cases hy:ns[i]? with
    | none=>rw [hy] at hx;cases hx
    | some y=>
    rw [hy] at hx
    cases hx
    have hlt:=(List.getElem?_eq_some_iff.mp hy).1
    refine ZHD ⟨_,_,rfl,?_⟩
    refine ZJg rfl (ZAL rfl (ZAL rfl ⟨.inr y,rfl,by have:=hb.klen;omega,?_⟩))
    exact ⟨_,_,_,_,rfl,hb.put nd hy⟩
  · rintro ss' ⟨ks,xs,s6,s7,rfl,hb⟩
    rw [ZCy,List.length_map] at hb
    refine ZAn (ZDZ (wn_lr ?_))
    walk_at "ww"
    rw [List.length_map]
    refine ⟨by omega,by omega,?_⟩
    rw [show ((ns.length:Nat):Int).toNat=ns.length by omega,rngP_I]
    refine ws_toO 8 rfl fun b0=>?_
    walk_at "ww"
    rw [List.length_map]
    refine ⟨by simp,?_⟩
    refine ZAn (ZAr (ws_for (fun _ i ss'=>∃ (m:List Str) (lp:Lp) (ks:List Key) (xs:List PV) (b:Addr) (ws:List Int) (c:Int) (gs:List Str) (s6 s7 s11 s12:Slot),ss'=[.raw (ZB9 K sc),.pot,.is (.lst (m.map .str)),.is (.str ru),.is lp.P,.ow false (.nd (.dct ks) a (xs.map .fz)),s6,s7,.ow false (.nd .lst b ((ws.map PV.int).map .fz)),.is (.int c),.own (gs.map .str),s11,s12]∧L17 m lp ks xs ws c gs i ru) ?_))
    walk_at "ww"
    refine ⟨by split <;> (try split) <;> omega,by split <;> (try split) <;> omega,⟨ns,⟨ru,0,srt ns⟩,ks,xs,b0,rngI ns.length,ns.length,[],_,_,_,_,rfl,⟨ro,beg_good nd hru,rfl,hb.w,by have:=hb.klen;omega,fun x h=>absurd h List.not_mem_nil,Nat.zero_le _,by rw [rngI_len];omega⟩⟩,?_,?_⟩
    · clear hb
      rintro i p ss' hp ⟨m,lp,ks,xs,b,ws,c,gs,s6,s7,s11,s12,rfl,L⟩
      obtain ⟨hk,rfl⟩:=rngP_at hp
      have hi60:i < 61:=by
        revert hk
        split <;> (try split) <;> omega
      clear hp hk
      have ml:=L.row.len
      have nl:=L.gl
      have kl:=L.kl
      have wl:=L.wl
      refine wg_name ?_
      walk_at "ww"
      refine ⟨by omega,by omega,?_⟩
      walk_at "ww"
      refine ⟨by decide,by decide,fun t t0 t1=>?_⟩
      walk_at "ww"
      refine ZAg (fun cc=>?_) (fun cc=>?_)
      · refine ZAn (ZJW (wp_step (ZCa rfl ⟨m,rfl,ZAL rfl ⟨lp.r,lp.g,lp.cs,rfl,L.gd,by omega,?_⟩⟩)))
        rw [ZIN]
        refine ZHD ⟨_,_,rfl,?_⟩
        by_cases hc:lp.cs=[]
        · have hx:stO m lp.g lp.cs=none:=by unfold stO;rw [rest_nil.mpr (fun x hx=>by rw [hc] at hx;cases hx)];rfl
          have hw:=L.w.nil.mpr hc
          have es:=stS_none hx
          rw [hx]
          refine ZAn (ZBT (ZC7 (ZAR (ZH5 (ZAL rfl (ZDE ⟨rfl,_,rfl,iteY rfl ?_⟩))))))
          refine ZAR (ZIq (wq_l (ZBE rfl ⟨b,_,rfl,rfl,?_⟩)))
          refine ZCK (ZCj (ZIl (ZH8 ⟨by simp,_,.inl ⟨rfl,rfl,rfl,_,rfl,ZB0 (by rw [hw];decide) (ZAY ?_)⟩⟩)))
          refine ZBT (ZC7 (ZAR (ZIG (ZAL rfl (ZDE ⟨rfl,_,rfl,ZB0 (by decide) (ZD4 (ZAY ?_))⟩)))))
          exact ⟨m,lp.stp m,ks,xs,b,ws,c,gs,_,_,_,_,rfl,L.stp (by rw [es];exact L.w) (Nat.le_refl _)⟩
        · obtain ⟨x,hx,xn,xc,es⟩:=ZJT (g:=lp.g) L.w.sub hc
          obtain ⟨n,hv,hn⟩:=L.w.at xc
          rw [hx]
          refine ZAn (ZBT (ZC7 (ZAR (ZH5 (ZAL rfl (ZDE ⟨rfl,_,rfl,ZB0 (by simp [optP,isNon]) (ZD4 (ZAY ?_))⟩))))))
          refine ws_ifM (i:=8) (lt:=false) (t:=.nd .lst b ((ws.map PV.int).map .fz)) (wtm_and rfl (ZAR (ZIG (ZAL rfl (ZDE ⟨rfl,_,rfl,iteY rfl ?_⟩)))))
          refine ZJu (wtm_b (ZHs 5 rfl rfl (by decide) ?_))
          rw [ZIg]
          refine ZHC rfl (ZCB (ZAL rfl (ZEo rfl (ZDe (ZAL rfl (ZDe (ZAL rfl (ZHE ⟨_,⟨ks,xs,b,ws,x,n,m,rfl,xn,hv,hn,rfl⟩,?_⟩))))))))
          rintro _ _ ⟨rfl,rfl⟩
          refine ⟨_,_,rfl,rfl,⟨_,_,_,rfl,ZCD _⟩,true,rfl,ZD4 (ZAY ?_)⟩
          exact ⟨m,lp.stp m,ks,xs,b,_,c,gs,_,_,_,_,rfl,L.stp (by rw [es];exact L.w.less xn hv (ZGE L.w.nd) fun k=>ZEn L.w.nd hn) (List.length_eraseIdx_le _ _)⟩
      · refine ZAn (ZFU (ZJZ rfl (ZCa rfl ⟨rfl,m,rfl,wp_int ⟨40,rfl,L.row.nm,ml,by decide,by decide,fun d0 hd0=>?_⟩⟩)))
        refine ZEd (fun ss'=>∃ d:Deed,ss'=[.raw (ZB9 K sc),.pot,.is (.lst (m.map .str)),.is (.str ru),.is lp.P,.ow false (.nd (.dct ks) a ((xs).map .fz)),.is (.int i),s7,.ow false (.nd .lst b (((ws).map PV.int).map .fz)),.is (.int (c)),.own ((gs).map .str),.pot,.is (dP d)]∧d.Ok 40 m) ?_ ?_
        · cases d0 with
          | put x j=>
            unfold dP
            refine ZAr (ZBT (ZC7 (ZAR (ZBv ?_))))
            walk_at "ww"
            refine iteY (by decide +kernel) ?_
            refine ZC7 ?_
            walk_at "ww"
            refine ⟨by simp,_,.inl ⟨rfl,rfl,[],rfl,_,rfl,ZAg (fun c1=>?_) (fun c1=>ZD4 (ZAY ⟨_,rfl,hd0⟩))⟩⟩
            have gp:0 < gs.length:=List.length_pos_iff.mpr (fun z=>by rw [z] at c1;cases c1)
            walk_at "ww"
            refine ⟨by decide,by decide,fun u u0 u1=>?_⟩
            walk_at "ww"
            refine ZAg (fun c2=>?_) (fun c2=>ZAY ⟨_,rfl,hd0⟩)
            walk_at "ww"
            rw [List.length_map]
            refine ⟨by omega,by omega,fun w w0 w1=>?_⟩
            obtain ⟨n,rfl⟩:=Int.eq_ofNat_of_zero_le w0
            obtain ⟨y,hy,ey⟩:=strs17 (ns:=gs) (k:=n) (by omega)
            refine ⟨_,_,rfl,ey,?_⟩
            walk_at "ww"
            exact ⟨by simp,.put y j,rfl,(L.gn y hy).1,(L.gn y hy).2,hd0.2.2.1,hd0.2.2.2⟩
          | take x=>
            unfold dP
            refine ZAr (ZBT (ZC7 (ZAR (ZBv ?_))))
            walk_at "ww"
            exact ZB0 (by decide +kernel) (ZD4 (ZAY ⟨_,rfl,hd0⟩))
          | move x j=>
            unfold dP
            refine ZAr (ZBT (ZC7 (ZAR (ZBv ?_))))
            walk_at "ww"
            exact ZB0 (by decide +kernel) (ZD4 (ZAY ⟨_,rfl,hd0⟩))
          | turn lo hi=>
            unfold dP
            refine ZAr (ZBT (ZC7 (ZAR (ZBv ?_))))
            walk_at "ww"
            exact ZB0 (by decide +kernel) (ZD4 (ZAY ⟨_,rfl,hd0⟩))
        clear d0 hd0
        rintro _ ⟨d,rfl,hd⟩
        refine ZEd (fun ss'=>∃ (d:Deed) (ks':List Key) (xs':List PV) (ws':List Int) (c':Int),ss'=[.raw (ZB9 K sc),.pot,.is (.lst (m.map .str)),.is (.str ru),.is lp.P,.ow false (.nd (.dct ks') a ((xs').map .fz)),.is (.int i),s7,.ow false (.nd .lst b (((ws').map PV.int).map .fz)),.is (.int (c')),.own ((gs).map .str),.pot,.is (dP d)]∧d.Ok 40 m∧ks'.length≤ks.length+1∧ws'.length≤ws.length+1∧Mid17 m lp d ks' xs' ws' c') ?_ ?_
        · cases d with
          | put x j=>
            unfold dP
            refine ZAr (ZBT (ZAR (ZBv ?_)))
            walk_at "ww"
            refine iteY (by decide +kernel) ?_
            refine ZAn (ZJg rfl (ZAL rfl ?_))
            walk_at "ww"
            refine ⟨.inr x,rfl,by omega,?_⟩
            refine ZEd (fun ss'=>ss'=[.raw (ZB9 K sc),.pot,.is (.lst (m.map .str)),.is (.str ru),.is lp.P,.ow false (.nd (.dct (ZBF ks (.inr x))) a ((ZBf ks xs (.inr x) (.int c)).map .fz)),.is (.int i),s7,.ow false (.nd .lst b (((if ZAj ru lp.g j=true then ws++[c] else ws).map PV.int).map .fz)),.is (.int (c)),.own ((gs).map .str),.pot,.is (dP (.put x j))]) ?_ ?_
            · refine ZAr (ZBT (wt_or (ZAR (ZBv (ZAL rfl (ZJL ⟨rfl,_,rfl,?_⟩))))))
              rw [ZJd]
              refine ZAg (fun c1=>iteY rfl ?_) (fun c1=>?_)
              · have J:=join_all (g:=lp.g) (j:=j) c1
                refine ZJc (ZBE rfl ⟨false,b,_,rfl,rfl,by rw [List.length_map,List.length_map];omega,wx_p (ZAL rfl ⟨by simp,?_⟩)⟩)
                rw [OV.put_nil,ZGF,if_pos J]
                rfl
              · refine ZC7 (ZAR (ZBv (ZAL rfl (ZJL ⟨rfl,_,rfl,?_⟩))))
                rw [ZJd]
                refine ZAg (fun c2=>?_) (fun c2=>ZD4 (ZAY ?_))
                · have J0:=ZEx (g:=lp.g) (j:=j) c1 c2
                  unfold Lp.P ZAu
                  refine ZAR ?_
                  walk_at "ww"
                  refine ZAg (fun c3=>?_) (fun c3=>ZAY ?_)
                  · have J:ZAj ru lp.g j=true:=by rw [J0];exact c3
                    refine ZJc (ZBE rfl ⟨false,b,_,rfl,rfl,by rw [List.length_map,List.length_map];omega,wx_p (ZAL rfl ⟨by simp,?_⟩)⟩)
                    rw [OV.put_nil,ZGF,if_pos J]
                    rfl
                  · have J:¬ ZAj ru lp.g j=true:=by rw [J0];exact c3
                    rw [if_neg J]
                    rfl
                · have J:¬ ZAj ru lp.g j=true:=by rw [ZKe c1 c2];decide
                  rw [if_neg J]
                  rfl
            rintro _ rfl
            refine ZFU ?_
            walk_at "ww"
            exact ⟨.put x j,_,_,_,_,rfl,hd,(ZEf (k:=.inr x) (p:=.int c) L.w.len).2,by split <;> simp,.inl ⟨⟨x,j,rfl⟩,by rw [← L.r];exact L.w.deed hd⟩⟩
          | take x=>
            unfold dP
            refine ZAr (ZBT (ZAR (ZBv ?_)))
            walk_at "ww"
            exact ZB0 (by decide +kernel) (ZAY ⟨_,ks,xs,ws,c,rfl,hd,by omega,by omega,.inr ⟨fun _ _ z=>by (cases z),L.w⟩⟩)
          | move x j=>
            unfold dP
            refine ZAr (ZBT (ZAR (ZBv ?_)))
            walk_at "ww"
            exact ZB0 (by decide +kernel) (ZAY ⟨_,ks,xs,ws,c,rfl,hd,by omega,by omega,.inr ⟨fun _ _ z=>by (cases z),L.w⟩⟩)
          | turn lo hi=>
            unfold dP
            refine ZAr (ZBT (ZAR (ZBv ?_)))
            walk_at "ww"
            exact ZB0 (by decide +kernel) (ZAY ⟨_,ks,xs,ws,c,rfl,hd,by omega,by omega,.inr ⟨fun _ _ z=>by (cases z),L.w⟩⟩)
        clear hd d
        rintro _ ⟨d,ks',xs',ws',c',rfl,hd,kl',wl',md⟩
        refine ZEd (fun ss'=>∃ (d:Deed) (ks':List Key) (xs':List PV) (b':Addr) (ws':List Int) (c':Int) (gs':List Str),ss'=[.raw (ZB9 K sc),.pot,.is (.lst (m.map .str)),.is (.str ru),.is lp.P,.ow false (.nd (.dct ks') a ((xs').map .fz)),.is (.int i),s7,.ow false (.nd .lst b' (((ws').map PV.int).map .fz)),.is (.int (c')),.own ((gs').map .str),.pot,.is (dP d)]∧d.Ok 40 m∧ks'.length≤ks.length+1∧ws'.length≤ws.length+1∧W17 (d.done m) (d.com lp.r lp.g lp.cs) ks' xs' ws' c'∧(∀ x∈gs',Nm x)∧gs'.length≤gs.length+1) ?_ ?_
        · cases d with
          | take x=>
            have w:W17 m lp.cs ks' xs' ws' c':=by
              rcases md with ⟨⟨_,_,z⟩,_⟩ | ⟨_,w⟩
              · cases z
              · exact w
            obtain ⟨n,hv,_⟩:=w.has x hd
            unfold dP
            refine ZAr (ZBT (ZAR (ZBv ?_)))
            walk_at "ww"
            refine iteY (by decide +kernel) ?_
            refine ZAn (ZDZ (ZHo 5 rfl (ZHo 8 rfl ?_)))
            rw [ZIg,pv_lst]
            refine ZHg PV.int (fun k=>!ZD5 (.int k) (.int n)) PV.int ?_ (fun x y h=>by injection h)
            refine wi_sq (ZCL (ZAL rfl ⟨_,.inl ⟨rfl,ws',rfl,by omega,fun k hk=>?_,fun k hk _=>ZAL rfl rfl,ZCD _,ZCD _,?_⟩⟩))
            · refine ZAR (wp_ne (ZAL rfl (ZHY (ZAL rfl ⟨ks',xs',rfl,?_⟩))))
              walk_at "ww"
              exact ⟨.inr x,_,rfl,hv,rfl,_,rfl,rfl⟩
            refine ws_toO 8 rfl fun b2=>?_
            refine ZGg rfl ?_
            walk_at "ww"
            have fl:(ws'.filter fun k=>!ZD5 (.int k) (.int n)).length≤ws'.length:=List.length_filter_le _ _
            refine ⟨by rw [List.length_map];omega,.take x,ks',xs',b2,ws'.filter fun k=>!ZD5 (.int k) (.int n),c',gs++[x],by rw [List.map_append];rfl,hd,kl',by omega,?_,fun y hy=>?_,by rw [List.length_append];exact Nat.le_refl _⟩
            · have w2:=w.less (ws':=ws'.filter fun k=>!ZD5 (.int k) (.int n)) hd hv (w.nd.filter _) fun k=>by
                rw [List.mem_filter]
                simp [ZD5]
              exact w2.row (fun y hy=>(wo_mem.mp hy).1) fun y hy=>wo_mem.mpr ⟨w.sub y (wo_mem.mp hy).1,(wo_mem.mp hy).2⟩
            · rcases List.mem_append.mp hy with hy | hy
              · exact (L.gn y hy).1
              · rw [List.mem_singleton.mp hy];exact L.row.nm x hd
          | put x j=>
            unfold dP
            refine ZAr (ZBT (ZAR (ZBv ?_)))
            walk_at "ww"
            refine ZB0 (by decide +kernel) (ZAY ⟨_,ks',xs',b,ws',c',gs,rfl,hd,by omega,by omega,?_,fun x hx=>(L.gn x hx).1,by omega⟩)
            rcases md with ⟨_,w⟩ | ⟨z,_⟩
            · exact w
            · exact absurd rfl (z x j)
          | move x j=>
            unfold dP
            refine ZAr (ZBT (ZAR (ZBv ?_)))
            walk_at "ww"
            refine ZB0 (by decide +kernel) (ZAY ⟨_,ks',xs',b,ws',c',gs,rfl,hd,by omega,by omega,?_,fun x hx=>(L.gn x hx).1,by omega⟩)
            rcases md with ⟨⟨_,_,z⟩,_⟩ | ⟨_,w⟩
            · cases z
            · exact w.row (fun y hy=>(ZDu hd (.inl ⟨_,_,rfl⟩)).mp hy) fun y hy=>(ZDu hd (.inl ⟨_,_,rfl⟩)).mpr (w.sub y hy)
          | turn lo hi=>
            unfold dP
            refine ZAr (ZBT (ZAR (ZBv ?_)))
            walk_at "ww"
            refine ZB0 (by decide +kernel) (ZAY ⟨_,ks',xs',b,ws',c',gs,rfl,hd,by omega,by omega,?_,fun x hx=>(L.gn x hx).1,by omega⟩)
            rcases md with ⟨⟨_,_,z⟩,_⟩ | ⟨_,w⟩
            · cases z
            · exact w.row (fun y hy=>(ZDu hd (.inr ⟨_,_,rfl⟩)).mp hy) fun y hy=>(ZDu hd (.inr ⟨_,_,rfl⟩)).mpr (w.sub y hy)
        clear hd d kl' wl' md
        rintro _ ⟨d,ks',xs',b',ws',c',gs',rfl,hd,kl',wl',w,gn',gl'⟩
        refine ZAn (ZFU (wp_led (ZCa rfl ⟨m,rfl,ZAL rfl ⟨lp.r,lp.g,lp.cs,rfl,ZAL rfl ⟨d,rfl,hd,L.gd,ml,?_⟩⟩⟩)))
        refine ZAn (ZDZ (ZJl (ZCa rfl ⟨m,rfl,ZAL rfl ⟨d,rfl,hd,ml,?_⟩⟩)))
        refine ZGM 2 rfl ?_
        refine ZDZ (wn_lend 10 rfl (ZHg PV.str (fun y=>!decide (y∈d.done m)) PV.str ?_ str_inj))
        refine wi_sq (ZCL (ZAL rfl ⟨_,.inl ⟨rfl,gs',rfl,by omega,fun y hy=>by walk_at "ww"; rfl,fun y hy _=>ZAL rfl rfl,?_,?_⟩⟩))
        · exact ZGk _
        have fl:(gs'.filter fun y=>!decide (y∈d.done m)).length≤gs'.length:=List.length_filter_le _ _
        have ro2:=L.row.done hd
        exact ⟨d.done m,lp.led m d,ks',xs',b',ws',c',gs'.filter fun y=>!decide (y∈d.done m),_,_,_,_,rfl,⟨ro2,GoodL.led L.gd hd L.row.nd,L.r,w,by omega,fun y hy=>⟨gn' y (List.mem_filter.mp hy).1,by simpa using (List.mem_filter.mp hy).2⟩,by omega,by omega⟩⟩
    · rintro ss' ⟨m,lp,ks,xs,b,ws,c,gs,s6,s7,s11,s12,rfl,L⟩
      refine ws_retW (i:=8) (lt:=false) (t:=.nd .lst b ((ws.map PV.int).map .fz)) (ZHs 5 rfl rfl (by decide) ?_)
      rw [ZIg]
      refine ZHC rfl (ZCB (ZAL rfl (ZCB (ZAL rfl (ZCB (ZAL rfl (ZEo rfl (ZHE ⟨_,⟨m,lp,ks,xs,b,ws,c,rfl,L.row,L.gd,L.w,rfl⟩,?_⟩))))))))
      rintro _ _ ⟨rfl,ws',rfl⟩
      exact ⟨_,_,rfl,rfl,⟨_,_,_,rfl,ZCD _⟩,rfl⟩
theorem all_mk {l:PySem.W.OpenLaw} {w:World} {K:PySem.W.Frag} {h:Heap} {mg:Str→Option Value} {fa f1 f2 f3 f4 f5 f6 f7 f8 f9 f10 f11 f12 f13 f14 f15 f16 f17 f18 f19 f20 f21 f22 f23 f24 f25 f26 f27 f28 f29 f30 f31 f32 f33 f34 f35 f36 f37 f38:Addr} (X:K.In h) (G:h.Ns mainGlobals mg) (hfa:mg "law" = some (.ref fa))
    {od1 od2 od3 od4 od5 od6 od7 od8 od9 od10 od11 od12 od13 od14 od15 od16 od17 od18 od19 od20 od21 od22 od23 od24 od25 od26 od27 od28 od29 od30 od31 od32 od33 od34 od35 od36 od37 od38 an1 an2 an3 an4 an5 an6 an7 an8 an9 an10 an11 an12 an13 an14 an15 an16 an17 an18 an19 an20 an21 an22 an23 an24 an25 an26 an27 an28 an29 an30 an31 an32 an33 an34 an35 an36 an37 an38:Option Addr} {sl1 sl2 sl3 sl4 sl5 sl6 sl7 sl8 sl9 sl10 sl11 sl12 sl13 sl14 sl15 sl16 sl17 sl18 sl19 sl20 sl21 sl22 sl23 sl24 sl25 sl26 sl27 sl28 sl29 sl30 sl31 sl32 sl33 sl34 sl35 sl36 sl37 sl38:Array (Option Value)} {oc1 oc2 oc3 oc4 oc5 oc6 oc7 oc8 oc9 oc10 oc11 oc12 oc13 oc14 oc15 oc16 oc17 oc18 oc19 oc20 oc21 oc22 oc23 oc24 oc25 oc26 oc27 oc28 oc29 oc30 oc31 oc32 oc33 oc34 oc35 oc36 oc37 oc38 kV1 kV2 kV3 kV4 kV5 kV6 kV7 kV8 kV9 kV10 kV11 kV12 kV13 kV14 kV15 kV16 kV17 kV18 kV19 kV20 kV21 kV22 kV23 kV24 kV25 kV26 kV27 kV28 kV29 kV30 kV31 kV32 kV33 kV34 kV35 kV36 kV37 kV38 dc1 dc2 dc3 dc4 dc5 dc6 dc7 dc8 dc9 dc10 dc11 dc12 dc13 dc14 dc15 dc16 dc17 dc18 dc19 dc20 dc21 dc22 dc23 dc24 dc25 dc26 dc27 dc28 dc29 dc30 dc31 dc32 dc33 dc34 dc35 dc36 dc37 dc38 pm1 pm2 pm3 pm4 pm5 pm6 pm7 pm8 pm9 pm10 pm11 pm12 pm13 pm14 pm15 pm16 pm17 pm18 pm19 pm20 pm21 pm22 pm23 pm24 pm25 pm26 pm27 pm28 pm29 pm30 pm31 pm32 pm33 pm34 pm35 pm36 pm37 pm38 cd1 cd2 cd3 cd4 cd5 cd6 cd7 cd8 cd9 cd10 cd11 cd12 cd13 cd14 cd15 cd16 cd17 cd18 cd19 cd20 cd21 cd22 cd23 cd24 cd25 cd26 cd27 cd28 cd29 cd30 cd31 cd32 cd33 cd34 cd35 cd36 cd37 cd38 ct1 ct2 ct3 ct4 ct5 ct6 ct7 ct8 ct9 ct10 ct11 ct12 ct13 ct14 ct15 ct16 ct17 ct18 ct19 ct20 ct21 ct22 ct23 ct24 ct25 ct26 ct27 ct28 ct29 ct30 ct31 ct32 ct33 ct34 ct35 ct36 ct37 ct38:Value} {k_LETTERS:Tok} {k_MOST_LETTERS:Tok} {k_MOST_THINGS:Tok} {k_RULES:Addr}
    (a1:PySem.W.nsIn K mainGlobals "_law_pot" = some (some (.ref f1))) (l1:K.lookup f1=some ⟨oc1,od1,.func (PySem.W.fnOf "_law_pot" "_law_pot" (ZAG ZBX) (ZAC ZBX) (ZA4 ZBX) .none kV1 dc1 pm1 an1 cd1 ct1),sl1⟩) (c1:PySem.W.codeIn K cd1 "_law_pot" = true) (k1:PySem.W.keepIn K (.ref f1)=true)
    (a2:PySem.W.nsIn K mainGlobals "_law_take" = some (some (.ref f2))) (l2:K.lookup f2=some ⟨oc2,od2,.func (PySem.W.fnOf "_law_take" "_law_take" (ZAG ZBM) (ZAC ZBM) (ZA4 ZBM) .none kV2 dc2 pm2 an2 cd2 ct2),sl2⟩) (c2:PySem.W.codeIn K cd2 "_law_take" = true) (k2:PySem.W.keepIn K (.ref f2)=true)
    (a3:PySem.W.nsIn K mainGlobals "_law_letters" = some (some (.ref f3))) (l3:K.lookup f3=some ⟨oc3,od3,.func (PySem.W.fnOf "_law_letters" "_law_letters" (ZAG ZAm) (ZAC ZAm) (ZA4 ZAm) .none kV3 dc3 pm3 an3 cd3 ct3),sl3⟩) (c3:PySem.W.codeIn K cd3 "_law_letters" = true) (k3:PySem.W.keepIn K (.ref f3)=true)
    (a4:PySem.W.nsIn K mainGlobals "_law_name" = some (some (.ref f4))) (l4:K.lookup f4=some ⟨oc4,od4,.func (PySem.W.fnOf "_law_name" "_law_name" (ZAG ZBJ) (ZAC ZBJ) (ZA4 ZBJ) .none kV4 dc4 pm4 an4 cd4 ct4),sl4⟩) (c4:PySem.W.codeIn K cd4 "_law_name" = true) (k4:PySem.W.keepIn K (.ref f4)=true)
    (a5:PySem.W.nsIn K mainGlobals "_law_names" = some (some (.ref f5))) (l5:K.lookup f5=some ⟨oc5,od5,.func (PySem.W.fnOf "_law_names" "_law_names" (ZAG ZBA) (ZAC ZBA) (ZA4 ZBA) .none kV5 dc5 pm5 an5 cd5 ct5),sl5⟩) (c5:PySem.W.codeIn K cd5 "_law_names" = true) (k5:PySem.W.keepIn K (.ref f5)=true)
    (a6:PySem.W.nsIn K mainGlobals "_law_row" = some (some (.ref f6))) (l6:K.lookup f6=some ⟨oc6,od6,.func (PySem.W.fnOf "_law_row" "_law_row" (ZAG ZBU) (ZAC ZBU) (ZA4 ZBU) .none kV6 dc6 pm6 an6 cd6 ct6),sl6⟩) (c6:PySem.W.codeIn K cd6 "_law_row" = true) (k6:PySem.W.keepIn K (.ref f6)=true)
    (a7:PySem.W.nsIn K mainGlobals "check_rule" = some (some (.ref f7))) (l7:K.lookup f7=some ⟨oc7,od7,.func (PySem.W.fnOf "check_rule" "check_rule" (ZAG ZB1) (ZAC ZB1) (ZA4 ZB1) .none kV7 dc7 pm7 an7 cd7 ct7),sl7⟩) (c7:PySem.W.codeIn K cd7 "check_rule" = true) (k7:PySem.W.keepIn K (.ref f7)=true)
    (a8:PySem.W.nsIn K mainGlobals "begun" = some (some (.ref f8))) (l8:K.lookup f8=some ⟨oc8,od8,.func (PySem.W.fnOf "begun" "begun" (ZAG ZCw) (ZAC ZCw) (ZA4 ZCw) .none kV8 dc8 pm8 an8 cd8 ct8),sl8⟩) (c8:PySem.W.codeIn K cd8 "begun" = true) (k8:PySem.W.keepIn K (.ref f8)=true)
    (a9:PySem.W.nsIn K mainGlobals "is_gap" = some (some (.ref f9))) (l9:K.lookup f9=some ⟨oc9,od9,.func (PySem.W.fnOf "is_gap" "is_gap" (ZAG ZCM) (ZAC ZCM) (ZA4 ZCM) .none kV9 dc9 pm9 an9 cd9 ct9),sl9⟩) (c9:PySem.W.codeIn K cd9 "is_gap" = true) (k9:PySem.W.keepIn K (.ref f9)=true)
    (a10:PySem.W.nsIn K mainGlobals "is_coming" = some (some (.ref f10))) (l10:K.lookup f10=some ⟨oc10,od10,.func (PySem.W.fnOf "is_coming" "is_coming" (ZAG ZAt) (ZAC ZAt) (ZA4 ZAt) .none kV10 dc10 pm10 an10 cd10 ct10),sl10⟩) (c10:PySem.W.codeIn K cd10 "is_coming" = true) (k10:PySem.W.keepIn K (.ref f10)=true)
    (a11:PySem.W.nsIn K mainGlobals "is_loop" = some (some (.ref f11))) (l11:K.lookup f11=some ⟨oc11,od11,.func (PySem.W.fnOf "is_loop" "is_loop" (ZAG ZBo) (ZAC ZBo) (ZA4 ZBo) .none kV11 dc11 pm11 an11 cd11 ct11),sl11⟩) (c11:PySem.W.codeIn K cd11 "is_loop" = true) (k11:PySem.W.keepIn K (.ref f11)=true)
    (a12:PySem.W.nsIn K mainGlobals "check_loop" = some (some (.ref f12))) (l12:K.lookup f12=some ⟨oc12,od12,.func (PySem.W.fnOf "check_loop" "check_loop" (ZAG ZBB) (ZAC ZBB) (ZA4 ZBB) .none kV12 dc12 pm12 an12 cd12 ct12),sl12⟩) (c12:PySem.W.codeIn K cd12 "check_loop" = true) (k12:PySem.W.keepIn K (.ref f12)=true)
    (a13:PySem.W.nsIn K mainGlobals "things_to_come" = some (some (.ref f13))) (l13:K.lookup f13=some ⟨oc13,od13,.func (PySem.W.fnOf "things_to_come" "things_to_come" (ZAG ZAU) (ZAC ZAU) (ZA4 ZAU) .none kV13 dc13 pm13 an13 cd13 ct13),sl13⟩) (c13:PySem.W.codeIn K cd13 "things_to_come" = true) (k13:PySem.W.keepIn K (.ref f13)=true)
    (a14:PySem.W.nsIn K mainGlobals "rest" = some (some (.ref f14))) (l14:K.lookup f14=some ⟨oc14,od14,.func (PySem.W.fnOf "rest" "rest" (ZAG ZE8) (ZAC ZE8) (ZA4 ZE8) .none kV14 dc14 pm14 an14 cd14 ct14),sl14⟩) (c14:PySem.W.codeIn K cd14 "rest" = true) (k14:PySem.W.keepIn K (.ref f14)=true)
    (a15:PySem.W.nsIn K mainGlobals "coming_without" = some (some (.ref f15))) (l15:K.lookup f15=some ⟨oc15,od15,.func (PySem.W.fnOf "coming_without" "coming_without" (ZAG ZAW) (ZAC ZAW) (ZA4 ZAW) .none kV15 dc15 pm15 an15 cd15 ct15),sl15⟩) (c15:PySem.W.codeIn K cd15 "coming_without" = true) (k15:PySem.W.keepIn K (.ref f15)=true)
    (a16:PySem.W.nsIn K mainGlobals "place_of" = some (some (.ref f16))) (l16:K.lookup f16=some ⟨oc16,od16,.func (PySem.W.fnOf "place_of" "place_of" (ZAG ZBV) (ZAC ZBV) (ZA4 ZBV) .none kV16 dc16 pm16 an16 cd16 ct16),sl16⟩) (c16:PySem.W.codeIn K cd16 "place_of" = true) (k16:PySem.W.keepIn K (.ref f16)=true)
    (a17:PySem.W.nsIn K mainGlobals "loop_telling" = some (some (.ref f17))) (l17:K.lookup f17=some ⟨oc17,od17,.func (PySem.W.fnOf "loop_telling" "loop_telling" (ZAG ZAl) (ZAC ZAl) (ZA4 ZAl) .none kV17 dc17 pm17 an17 cd17 ct17),sl17⟩) (c17:PySem.W.codeIn K cd17 "loop_telling" = true) (k17:PySem.W.keepIn K (.ref f17)=true)
    (a18:PySem.W.nsIn K mainGlobals "step" = some (some (.ref f18))) (l18:K.lookup f18=some ⟨oc18,od18,.func (PySem.W.fnOf "step" "step" (ZAG ZEI) (ZAC ZEI) (ZA4 ZEI) .none kV18 dc18 pm18 an18 cd18 ct18),sl18⟩) (c18:PySem.W.codeIn K cd18 "step" = true) (k18:PySem.W.keepIn K (.ref f18)=true)
    (a19:PySem.W.nsIn K mainGlobals "_law_told_right" = some (some (.ref f19))) (l19:K.lookup f19=some ⟨oc19,od19,.func (PySem.W.fnOf "_law_told_right" "_law_told_right" (ZAG ZAX) (ZAC ZAX) (ZA4 ZAX) .none kV19 dc19 pm19 an19 cd19 ct19),sl19⟩) (c19:PySem.W.codeIn K cd19 "_law_told_right" = true) (k19:PySem.W.keepIn K (.ref f19)=true)
    (a20:PySem.W.nsIn K mainGlobals "_law_ended" = some (some (.ref f20))) (l20:K.lookup f20=some ⟨oc20,od20,.func (PySem.W.fnOf "_law_ended" "_law_ended" (ZAG ZAy) (ZAC ZAy) (ZA4 ZAy) .none kV20 dc20 pm20 an20 cd20 ct20),sl20⟩) (c20:PySem.W.codeIn K cd20 "_law_ended" = true) (k20:PySem.W.keepIn K (.ref f20)=true)
    (a21:PySem.W.nsIn K mainGlobals "_law_deed" = some (some (.ref f21))) (l21:K.lookup f21=some ⟨oc21,od21,.func (PySem.W.fnOf "_law_deed" "_law_deed" (ZAG ZBL) (ZAC ZBL) (ZA4 ZBL) .none kV21 dc21 pm21 an21 cd21 ct21),sl21⟩) (c21:PySem.W.codeIn K cd21 "_law_deed" = true) (k21:PySem.W.keepIn K (.ref f21)=true)
    (a22:PySem.W.nsIn K mainGlobals "is_name" = some (some (.ref f22))) (l22:K.lookup f22=some ⟨oc22,od22,.func (PySem.W.fnOf "is_name" "is_name" (ZAG ZBa) (ZAC ZBa) (ZA4 ZBa) .none kV22 dc22 pm22 an22 cd22 ct22),sl22⟩) (c22:PySem.W.codeIn K cd22 "is_name" = true) (k22:PySem.W.keepIn K (.ref f22)=true)
    (a23:PySem.W.nsIn K mainGlobals "check_put" = some (some (.ref f23))) (l23:K.lookup f23=some ⟨oc23,od23,.func (PySem.W.fnOf "check_put" "check_put" (ZAG ZBK) (ZAC ZBK) (ZA4 ZBK) .none kV23 dc23 pm23 an23 cd23 ct23),sl23⟩) (c23:PySem.W.codeIn K cd23 "check_put" = true) (k23:PySem.W.keepIn K (.ref f23)=true)
    (a24:PySem.W.nsIn K mainGlobals "check_move" = some (some (.ref f24))) (l24:K.lookup f24=some ⟨oc24,od24,.func (PySem.W.fnOf "check_move" "check_move" (ZAG ZB3) (ZAC ZB3) (ZA4 ZB3) .none kV24 dc24 pm24 an24 cd24 ct24),sl24⟩) (c24:PySem.W.codeIn K cd24 "check_move" = true) (k24:PySem.W.keepIn K (.ref f24)=true)
    (a25:PySem.W.nsIn K mainGlobals "check_turn" = some (some (.ref f25))) (l25:K.lookup f25=some ⟨oc25,od25,.func (PySem.W.fnOf "check_turn" "check_turn" (ZAG ZAz) (ZAC ZAz) (ZA4 ZAz) .none kV25 dc25 pm25 an25 cd25 ct25),sl25⟩) (c25:PySem.W.codeIn K cd25 "check_turn" = true) (k25:PySem.W.keepIn K (.ref f25)=true)
    (a26:PySem.W.nsIn K mainGlobals "check_deed" = some (some (.ref f26))) (l26:K.lookup f26=some ⟨oc26,od26,.func (PySem.W.fnOf "check_deed" "check_deed" (ZAG ZBC) (ZAC ZBC) (ZA4 ZBC) .none kV26 dc26 pm26 an26 cd26 ct26),sl26⟩) (c26:PySem.W.codeIn K cd26 "check_deed" = true) (k26:PySem.W.keepIn K (.ref f26)=true)
    (a27:PySem.W.nsIn K mainGlobals "gap_behind_put" = some (some (.ref f27))) (l27:K.lookup f27=some ⟨oc27,od27,.func (PySem.W.fnOf "gap_behind_put" "gap_behind_put" (ZAG ZAe) (ZAC ZAe) (ZA4 ZAe) .none kV27 dc27 pm27 an27 cd27 ct27),sl27⟩) (c27:PySem.W.codeIn K cd27 "gap_behind_put" = true) (k27:PySem.W.keepIn K (.ref f27)=true)
    (a28:PySem.W.nsIn K mainGlobals "gap_behind_take" = some (some (.ref f28))) (l28:K.lookup f28=some ⟨oc28,od28,.func (PySem.W.fnOf "gap_behind_take" "gap_behind_take" (ZAG ZAZ) (ZAC ZAZ) (ZA4 ZAZ) .none kV28 dc28 pm28 an28 cd28 ct28),sl28⟩) (c28:PySem.W.codeIn K cd28 "gap_behind_take" = true) (k28:PySem.W.keepIn K (.ref f28)=true)
    (a29:PySem.W.nsIn K mainGlobals "gap_led" = some (some (.ref f29))) (l29:K.lookup f29=some ⟨oc29,od29,.func (PySem.W.fnOf "gap_led" "gap_led" (ZAG ZBp) (ZAC ZBp) (ZA4 ZBp) .none kV29 dc29 pm29 an29 cd29 ct29),sl29⟩) (c29:PySem.W.codeIn K cd29 "gap_led" = true) (k29:PySem.W.keepIn K (.ref f29)=true)
    (a30:PySem.W.nsIn K mainGlobals "joins" = some (some (.ref f30))) (l30:K.lookup f30=some ⟨oc30,od30,.func (PySem.W.fnOf "joins" "joins" (ZAG ZCv) (ZAC ZCv) (ZA4 ZCv) .none kV30 dc30 pm30 an30 cd30 ct30),sl30⟩) (c30:PySem.W.codeIn K cd30 "joins" = true) (k30:PySem.W.keepIn K (.ref f30)=true)
    (a31:PySem.W.nsIn K mainGlobals "coming_behind" = some (some (.ref f31))) (l31:K.lookup f31=some ⟨oc31,od31,.func (PySem.W.fnOf "coming_behind" "coming_behind" (ZAG ZAf) (ZAC ZAf) (ZA4 ZAf) .none kV31 dc31 pm31 an31 cd31 ct31),sl31⟩) (c31:PySem.W.codeIn K cd31 "coming_behind" = true) (k31:PySem.W.keepIn K (.ref f31)=true)
    (a32:PySem.W.nsIn K mainGlobals "loop_led" = some (some (.ref f32))) (l32:K.lookup f32=some ⟨oc32,od32,.func (PySem.W.fnOf "loop_led" "loop_led" (ZAG ZBZ) (ZAC ZBZ) (ZA4 ZBZ) .none kV32 dc32 pm32 an32 cd32 ct32),sl32⟩) (c32:PySem.W.codeIn K cd32 "loop_led" = true) (k32:PySem.W.keepIn K (.ref f32)=true)
    (a33:PySem.W.nsIn K mainGlobals "led" = some (some (.ref f33))) (l33:K.lookup f33=some ⟨oc33,od33,.func (PySem.W.fnOf "led" "led" (ZAG ZGP) (ZAC ZGP) (ZA4 ZGP) .none kV33 dc33 pm33 an33 cd33 ct33),sl33⟩) (c33:PySem.W.codeIn K cd33 "led" = true) (k33:PySem.W.keepIn K (.ref f33)=true)
    (a34:PySem.W.nsIn K mainGlobals "row_turned" = some (some (.ref f34))) (l34:K.lookup f34=some ⟨oc34,od34,.func (PySem.W.fnOf "row_turned" "row_turned" (ZAG ZAw) (ZAC ZAw) (ZA4 ZAw) .none kV34 dc34 pm34 an34 cd34 ct34),sl34⟩) (c34:PySem.W.codeIn K cd34 "row_turned" = true) (k34:PySem.W.keepIn K (.ref f34)=true)
    (a35:PySem.W.nsIn K mainGlobals "row_with" = some (some (.ref f35))) (l35:K.lookup f35=some ⟨oc35,od35,.func (PySem.W.fnOf "row_with" "row_with" (ZAG ZBW) (ZAC ZBW) (ZA4 ZBW) .none kV35 dc35 pm35 an35 cd35 ct35),sl35⟩) (c35:PySem.W.codeIn K cd35 "row_with" = true) (k35:PySem.W.keepIn K (.ref f35)=true)
    (a36:PySem.W.nsIn K mainGlobals "row_without" = some (some (.ref f36))) (l36:K.lookup f36=some ⟨oc36,od36,.func (PySem.W.fnOf "row_without" "row_without" (ZAG ZAi) (ZAC ZAi) (ZA4 ZAi) .none kV36 dc36 pm36 an36 cd36 ct36),sl36⟩) (c36:PySem.W.codeIn K cd36 "row_without" = true) (k36:PySem.W.keepIn K (.ref f36)=true)
    (a37:PySem.W.nsIn K mainGlobals "done" = some (some (.ref f37))) (l37:K.lookup f37=some ⟨oc37,od37,.func (PySem.W.fnOf "done" "done" (ZAG ZEG) (ZAC ZEG) (ZA4 ZEG) .none kV37 dc37 pm37 an37 cd37 ct37),sl37⟩) (c37:PySem.W.codeIn K cd37 "done" = true) (k37:PySem.W.keepIn K (.ref f37)=true)
    (a38:PySem.W.nsIn K mainGlobals "law" = some (some (.ref f38))) (l38:K.lookup f38=some ⟨oc38,od38,.func (PySem.W.fnOf "law" "law" (ZAG ZCi) (ZAC ZCi) (ZA4 ZCi) .none kV38 dc38 pm38 an38 cd38 ct38),sl38⟩) (c38:PySem.W.codeIn K cd38 "law" = true) (k38:PySem.W.keepIn K (.ref f38)=true)
    (z_all:PySem.W.nsIn K mainGlobals "all" = some none)
    (z_enumerate:PySem.W.nsIn K mainGlobals "enumerate" = some none)
    (z_len:PySem.W.nsIn K mainGlobals "len" = some none)
    (z_list:PySem.W.nsIn K mainGlobals "list" = some none)
    (z_max:PySem.W.nsIn K mainGlobals "max" = some none)
    (z_min:PySem.W.nsIn K mainGlobals "min" = some none)
    (z_range:PySem.W.nsIn K mainGlobals "range" = some none)
    (z_reversed:PySem.W.nsIn K mainGlobals "reversed" = some none)
    (z_set:PySem.W.nsIn K mainGlobals "set" = some none)
    (z_sorted:PySem.W.nsIn K mainGlobals "sorted" = some none)
    (z_tuple:PySem.W.nsIn K mainGlobals "tuple" = some none)
    (e_LETTERS:PySem.W.nsIn K mainGlobals "LETTERS" = some (some (.str "abcdefghijklmnopqrstuvwxyz" k_LETTERS)))
    (e_MOST_LETTERS:PySem.W.nsIn K mainGlobals "MOST_LETTERS" = some (some (.int 8 k_MOST_LETTERS)))
    (e_MOST_THINGS:PySem.W.nsIn K mainGlobals "MOST_THINGS" = some (some (.int 40 k_MOST_THINGS)))
    (e_RULES:PySem.W.nsIn K mainGlobals "RULES" = some (some (.ref k_RULES)))
    {od_RULES:Option Addr} {sl_RULES:Array (Option Value)} {nn_RULES:Nat} {q0_RULES q1_RULES q2_RULES:Tok} (y_RULES:K.lookup k_RULES=some ⟨.type "tuple", od_RULES,.seq #[.str "none" q0_RULES,.str "ahead" q1_RULES,.str "all" q2_RULES] nn_RULES,sl_RULES⟩)
    : ∃ fd:FuncData,(∀ (s:Shared) (v:Value),BindsTo s fd ⟨[v],[]⟩ [("script", v)])∧∀ base:Heap,K.In base→base.Ns mainGlobals mg→FnOk l.prog w K mg base CX0 7 fa fd ["script"] (ZHh K):=by
  have e:=hfa.symm.trans (PySem.W.mg_of X G a38)
  cases e
  have F1:=ZAO (st:=ZBX) l1 c1 k1
  have d1:=F1.binds (ps:=["script", "k"]) fun _ _ _ _ _ _ us hl=>match us,hl with | [_,_],_=>rfl
  have F2:=ZAO (st:=ZBM) l2 c2 k2
  have d2:=F2.binds (ps:=["pot", "many"]) fun _ _ _ _ _ _ us hl=>match us,hl with | [_,_],_=>rfl
  have F3:=ZAO (st:=ZAm) l3 c3 k3
  have d3:=F3.binds (ps:=["number"]) fun _ _ _ _ _ _ us hl=>match us,hl with | [_],_=>rfl
  have F4:=ZAO (st:=ZBJ) l4 c4 k4
  have d4:=F4.binds (ps:=["pot", "names"]) fun _ _ _ _ _ _ us hl=>match us,hl with | [_,_],_=>rfl
  have F5:=ZAO (st:=ZBA) l5 c5 k5
  have d5:=F5.binds (ps:=["pot", "many"]) fun _ _ _ _ _ _ us hl=>match us,hl with | [_,_],_=>rfl
  have F6:=ZAO (st:=ZBU) l6 c6 k6
  have d6:=F6.binds (ps:=["pot", "most"]) fun _ _ _ _ _ _ us hl=>match us,hl with | [_,_],_=>rfl
  have F7:=ZAO (st:=ZB1) l7 c7 k7
  have d7:=F7.binds (ps:=["rule"]) fun _ _ _ _ _ _ us hl=>match us,hl with | [_],_=>rfl
  have F8:=ZAO (st:=ZCw) l8 c8 k8
  have d8:=F8.binds (ps:=["row", "rule"]) fun _ _ _ _ _ _ us hl=>match us,hl with | [_,_],_=>rfl
  have F9:=ZAO (st:=ZCM) l9 c9 k9
  have d9:=F9.binds (ps:=["row", "gap"]) fun _ _ _ _ _ _ us hl=>match us,hl with | [_,_],_=>rfl
  have F10:=ZAO (st:=ZAt) l10 c10 k10
  have d10:=F10.binds (ps:=["row", "coming"]) fun _ _ _ _ _ _ us hl=>match us,hl with | [_,_],_=>rfl
  have F11:=ZAO (st:=ZBo) l11 c11 k11
  have d11:=F11.binds (ps:=["row", "thing"]) fun _ _ _ _ _ _ us hl=>match us,hl with | [_,_],_=>rfl
  have F12:=ZAO (st:=ZBB) l12 c12 k12
  have d12:=F12.binds (ps:=["row", "loop"]) fun _ _ _ _ _ _ us hl=>match us,hl with | [_,_],_=>rfl
  have F13:=ZAO (st:=ZAU) l13 c13 k13
  have d13:=F13.binds (ps:=["things", "loop"]) fun _ _ _ _ _ _ us hl=>match us,hl with | [_,_],_=>rfl
  have F14:=ZAO (st:=ZE8) l14 c14 k14
  have d14:=F14.binds (ps:=["row", "loop"]) fun _ _ _ _ _ _ us hl=>match us,hl with | [_,_],_=>rfl
  have F15:=ZAO (st:=ZAW) l15 c15 k15
  have d15:=F15.binds (ps:=["coming", "gone"]) fun _ _ _ _ _ _ us hl=>match us,hl with | [_,_],_=>rfl
  have F16:=ZAO (st:=ZBV) l16 c16 k16
  have d16:=F16.binds (ps:=["row", "name"]) fun _ _ _ _ _ _ us hl=>match us,hl with | [_,_],_=>rfl
  have F17:=ZAO (st:=ZAl) l17 c17 k17
  have d17:=F17.binds (ps:=["row", "loop", "name"]) fun _ _ _ _ _ _ us hl=>match us,hl with | [_,_,_],_=>rfl
  have F18:=ZAO (st:=ZEI) l18 c18 k18
  have d18:=F18.binds (ps:=["row", "loop"]) fun _ _ _ _ _ _ us hl=>match us,hl with | [_,_],_=>rfl
  have F19:=ZAO (st:=ZAX) l19 c19 k19
  have d19:=F19.binds (ps:=["numbers", "wanted", "name", "row"]) fun _ _ _ _ _ _ us hl=>match us,hl with | [_,_,_,_],_=>rfl
  have F20:=ZAO (st:=ZAy) l20 c20 k20
  have d20:=F20.binds (ps:=["row", "loop", "numbers", "wanted"]) fun _ _ _ _ _ _ us hl=>match us,hl with | [_,_,_,_],_=>rfl
  have F21:=ZAO (st:=ZBL) l21 c21 k21
  have d21:=F21.binds (ps:=["pot", "row", "most"]) fun _ _ _ _ _ _ us hl=>match us,hl with | [_,_,_],_=>rfl
  have F22:=ZAO (st:=ZBa) l22 c22 k22
  have d22:=F22.binds (ps:=["text"]) fun _ _ _ _ _ _ us hl=>match us,hl with | [_],_=>rfl
  have F23:=ZAO (st:=ZBK) l23 c23 k23
  have d23:=F23.binds (ps:=["row", "name", "at"]) fun _ _ _ _ _ _ us hl=>match us,hl with | [_,_,_],_=>rfl
  have F24:=ZAO (st:=ZB3) l24 c24 k24
  have d24:=F24.binds (ps:=["row", "name", "at"]) fun _ _ _ _ _ _ us hl=>match us,hl with | [_,_,_],_=>rfl
  have F25:=ZAO (st:=ZAz) l25 c25 k25
  have d25:=F25.binds (ps:=["row", "low", "high"]) fun _ _ _ _ _ _ us hl=>match us,hl with | [_,_,_],_=>rfl
  have F26:=ZAO (st:=ZBC) l26 c26 k26
  have d26:=F26.binds (ps:=["row", "deed"]) fun _ _ _ _ _ _ us hl=>match us,hl with | [_,_],_=>rfl
  have F27:=ZAO (st:=ZAe) l27 c27 k27
  have d27:=F27.binds (ps:=["gap", "at"]) fun _ _ _ _ _ _ us hl=>match us,hl with | [_,_],_=>rfl
  have F28:=ZAO (st:=ZAZ) l28 c28 k28
  have d28:=F28.binds (ps:=["gap", "place"]) fun _ _ _ _ _ _ us hl=>match us,hl with | [_,_],_=>rfl
  have F29:=ZAO (st:=ZBp) l29 c29 k29
  have d29:=F29.binds (ps:=["row", "gap", "deed"]) fun _ _ _ _ _ _ us hl=>match us,hl with | [_,_,_],_=>rfl
  have F30:=ZAO (st:=ZCv) l30 c30 k30
  have d30:=F30.binds (ps:=["loop", "at"]) fun _ _ _ _ _ _ us hl=>match us,hl with | [_,_],_=>rfl
  have F31:=ZAO (st:=ZAf) l31 c31 k31
  have d31:=F31.binds (ps:=["loop", "deed"]) fun _ _ _ _ _ _ us hl=>match us,hl with | [_,_],_=>rfl
  have F32:=ZAO (st:=ZBZ) l32 c32 k32
  have d32:=F32.binds (ps:=["row", "loop", "deed"]) fun _ _ _ _ _ _ us hl=>match us,hl with | [_,_,_],_=>rfl
  have F33:=ZAO (st:=ZGP) l33 c33 k33
  have d33:=F33.binds (ps:=["row", "loop", "deed"]) fun _ _ _ _ _ _ us hl=>match us,hl with | [_,_,_],_=>rfl
  have F34:=ZAO (st:=ZAw) l34 c34 k34
  have d34:=F34.binds (ps:=["row", "low", "high"]) fun _ _ _ _ _ _ us hl=>match us,hl with | [_,_,_],_=>rfl
  have F35:=ZAO (st:=ZBW) l35 c35 k35
  have d35:=F35.binds (ps:=["row", "name", "at"]) fun _ _ _ _ _ _ us hl=>match us,hl with | [_,_,_],_=>rfl
  have F36:=ZAO (st:=ZAi) l36 c36 k36
  have d36:=F36.binds (ps:=["row", "name"]) fun _ _ _ _ _ _ us hl=>match us,hl with | [_,_],_=>rfl
  have F37:=ZAO (st:=ZEG) l37 c37 k37
  have d37:=F37.binds (ps:=["row", "deed"]) fun _ _ _ _ _ _ us hl=>match us,hl with | [_,_],_=>rfl
  have F38:=ZAO (st:=ZCi) l38 c38 k38
  have d38:=F38.binds (ps:=["script"]) fun _ _ _ _ _ _ us hl=>match us,hl with | [_],_=>rfl
  have b_all:=PySem.W.mg_none_of X G z_all
  have b_enumerate:=PySem.W.mg_none_of X G z_enumerate
  have b_len:=PySem.W.mg_none_of X G z_len
  have b_list:=PySem.W.mg_none_of X G z_list
  have b_max:=PySem.W.mg_none_of X G z_max
  have b_min:=PySem.W.mg_none_of X G z_min
  have b_range:=PySem.W.mg_none_of X G z_range
  have b_reversed:=PySem.W.mg_none_of X G z_reversed
  have b_set:=PySem.W.mg_none_of X G z_set
  have b_sorted:=PySem.W.mg_none_of X G z_sorted
  have b_tuple:=PySem.W.mg_none_of X G z_tuple
  have c_LETTERS:=PySem.W.mg_of X G e_LETTERS
  have c_MOST_LETTERS:=PySem.W.mg_of X G e_MOST_LETTERS
  have c_MOST_THINGS:=PySem.W.mg_of X G e_MOST_THINGS
  have c_RULES:=PySem.W.mg_of X G e_RULES
  have t_RULES:∀ H,SqT K H k_RULES [.str "none", .str "ahead", .str "all"]:=fun H=>.inr ⟨_,_,_,y_RULES,rfl,rfl,(by show 3≤sizeLine;decide +kernel),(.cons ⟨_,rfl⟩ (.cons ⟨_,rfl⟩ (.cons ⟨_,rfl⟩ .nil)))⟩
  refine ⟨PySem.W.fnOf "law" "law" (ZAG ZCi) (ZAC ZCi) (ZA4 ZCi) .none kV38 dc38 pm38 an38 cd38 ct38,fun s v=>.of_eq rfl,fun base _ _=>?_⟩
  have h__law_pot:=ZHp (P:=l.prog) (w:=w) (base:=base)  F1 d1 (PySem.W.mg_of X G a1) b_len
  have h__law_take:=ZGx (P:=l.prog) (w:=w) (base:=base)  F2 d2 (PySem.W.mg_of X G a2)
  have h__law_letters:=ZER (P:=l.prog) (w:=w) (base:=base)  F3 d3 (PySem.W.mg_of X G a3)
  have h__law_name:=ZHO (P:=l.prog) (w:=w) (base:=base)  F4 d4 (PySem.W.mg_of X G a4) h__law_letters h__law_take b_len
  have h__law_names:=ZFq (P:=l.prog) (w:=w) (base:=base)  F5 d5 (PySem.W.mg_of X G a5) h__law_name b_range
  have h__law_row:=ZHl (P:=l.prog) (w:=w) (base:=base)  F6 d6 (PySem.W.mg_of X G a6) h__law_names h__law_take
  have h_check_rule:=ZFo (P:=l.prog) (w:=w) (base:=base)  F7 d7 (PySem.W.mg_of X G a7) c_RULES t_RULES
  have h_begun:=ok_begun (P:=l.prog) (w:=w) (base:=base)  F8 d8 (PySem.W.mg_of X G a8) h_check_rule b_sorted b_tuple
  have h_is_gap:=ZK9 (P:=l.prog) (w:=w) (base:=base)  F9 d9 (PySem.W.mg_of X G a9) b_len
  have h_is_coming:=ZHU (P:=l.prog) (w:=w) (base:=base)  F10 d10 (PySem.W.mg_of X G a10) b_all b_list b_set b_sorted
  have h_is_loop:=ZIj (P:=l.prog) (w:=w) (base:=base)  F11 d11 (PySem.W.mg_of X G a11) h_is_coming h_is_gap c_RULES t_RULES
  have h_check_loop:=ZFv (P:=l.prog) (w:=w) (base:=base)  F12 d12 (PySem.W.mg_of X G a12) h_is_loop
  have h_things_to_come:=ZDj (P:=l.prog) (w:=w) (base:=base)  F13 d13 (PySem.W.mg_of X G a13)
  have h_rest:=ok_rest (P:=l.prog) (w:=w) (base:=base)  F14 d14 (PySem.W.mg_of X G a14) h_check_loop h_things_to_come
  have h_coming_without:=ZDk (P:=l.prog) (w:=w) (base:=base)  F15 d15 (PySem.W.mg_of X G a15) b_tuple
  have h_place_of:=ZIM (P:=l.prog) (w:=w) (base:=base)  F16 d16 (PySem.W.mg_of X G a16)
  have h_loop_telling:=ZES (P:=l.prog) (w:=w) (base:=base)  F17 d17 (PySem.W.mg_of X G a17) h_coming_without h_place_of
  have h_step:=ok_step (P:=l.prog) (w:=w) (base:=base)  F18 d18 (PySem.W.mg_of X G a18) h_loop_telling h_rest
  have h__law_told_right:=ZDF (P:=l.prog) (w:=w) (base:=base)  F19 d19 (PySem.W.mg_of X G a19)
  have h__law_ended:=ZFs (P:=l.prog) (w:=w) (base:=base)  F20 d20 (PySem.W.mg_of X G a20) h__law_told_right h_step
  have h__law_deed:=ZH1 (P:=l.prog) (w:=w) (base:=base)  F21 d21 (PySem.W.mg_of X G a21) h__law_name h__law_take b_len
  have h_is_name:=ZIa (P:=l.prog) (w:=w) (base:=base)  F22 d22 (PySem.W.mg_of X G a22) b_all b_len c_LETTERS c_MOST_LETTERS
  have h_check_put:=ZHT (P:=l.prog) (w:=w) (base:=base)  F23 d23 (PySem.W.mg_of X G a23) h_is_name b_len c_MOST_THINGS
  have h_check_move:=ZG6 (P:=l.prog) (w:=w) (base:=base)  F24 d24 (PySem.W.mg_of X G a24) h_place_of b_len
  have h_check_turn:=ZFw (P:=l.prog) (w:=w) (base:=base)  F25 d25 (PySem.W.mg_of X G a25) b_len
  have h_check_deed:=ZFx (P:=l.prog) (w:=w) (base:=base)  F26 d26 (PySem.W.mg_of X G a26) h_check_move h_check_put h_check_turn h_place_of
  have h_gap_behind_put:=ZDP (P:=l.prog) (w:=w) (base:=base)  F27 d27 (PySem.W.mg_of X G a27)
  have h_gap_behind_take:=ZDH (P:=l.prog) (w:=w) (base:=base)  F28 d28 (PySem.W.mg_of X G a28)
  have h_gap_led:=ZJ2 (P:=l.prog) (w:=w) (base:=base)  F29 d29 (PySem.W.mg_of X G a29) h_gap_behind_put h_gap_behind_take h_place_of
  have h_joins:=ok_joins (P:=l.prog) (w:=w) (base:=base)  F30 d30 (PySem.W.mg_of X G a30)
  have h_coming_behind:=ZE1 (P:=l.prog) (w:=w) (base:=base)  F31 d31 (PySem.W.mg_of X G a31) h_coming_without h_joins b_sorted b_tuple
  have h_loop_led:=ZIA (P:=l.prog) (w:=w) (base:=base)  F32 d32 (PySem.W.mg_of X G a32) h_coming_behind h_gap_led
  have h_led:=ok_led (P:=l.prog) (w:=w) (base:=base)  F33 d33 (PySem.W.mg_of X G a33) h_check_deed h_check_loop h_loop_led
  have h_row_turned:=ZG5 (P:=l.prog) (w:=w) (base:=base)  F34 d34 (PySem.W.mg_of X G a34) b_list b_reversed
  have h_row_with:=ZIV (P:=l.prog) (w:=w) (base:=base)  F35 d35 (PySem.W.mg_of X G a35) b_list
  have h_row_without:=ZFF (P:=l.prog) (w:=w) (base:=base)  F36 d36 (PySem.W.mg_of X G a36)
  have h_done:=ok_done (P:=l.prog) (w:=w) (base:=base)  F37 d37 (PySem.W.mg_of X G a37) h_check_deed h_row_turned h_row_with h_row_without
  exact ok_law (P:=l.prog) (w:=w) (base:=base)  F38 d38 (PySem.W.mg_of X G a38) h__law_deed h__law_ended h__law_pot h__law_row h__law_take h__law_told_right h_begun h_done h_led h_step b_enumerate b_len b_list b_max b_min b_range
theorem walk {l:PySem.W.OpenLaw} {q:Program} {loose:List Str} {XP:(Str→Option Value)→Heap→Prop} {YP:World→Heap→Prop} {d:DefRec} {K:Params→PySem.W.Frag} (hn:l.most=some 63) (hdf:d.params.defaults=[])
    (hY:∀ (w:World) (h:Heap),YP w h→(K w.params).In h)
    (F:∀ (w:World) (mg:Str→Option Value) (fa:Addr) (h:Heap),(K w.params).In h→h.Ns mainGlobals mg→mg d.name=some (.ref fa)→
      ∃ fd:FuncData,(∀ (s:Shared) (u:Value),BindsTo s fd ⟨[u],[]⟩ [("script", u)])∧∀ base:Heap,(K w.params).In base→base.Ns mainGlobals mg→FnOk l.prog w (K w.params) mg base CX0 7 fa fd ["script"] (ZHh (K w.params))) :
    PySem.W.WalkO q loose XP YP l.row.toRowW d [] (fun f vs=>PySem.call f vs):=
  L2.walk_of (n:=63) (k:=7) (x := "script") (CX:=fun _=>CX0) (sp:=fun w=>ZHh (K w.params)) hn (by decide) hdf ⟨rfl,by decide,by decide⟩ hY F (fun _ _ a ns hl _ hS=>⟨a,ns,rfl,hS,hl,fun _=>rfl⟩) fun _ _ _ _ _ z=>z
end Pf
open PySem PySem.W PyProof.Rows
set_option maxRecDepth 100000 in
set_option maxHeartbeats 0 in
theorem PySem.Challenge.cw_stirround_k17_whole_each_begun_thing_onc_holds : PySem.Challenge.rw_stirround_k17_whole_each_begun_thing_onc.Holds := by
  w_on;o_law;k_head;(case hw=>w_witness2)
  k_fill
  refine Pf.walk (l:=PySem.Challenge.rw_stirround_k17_whole_each_begun_thing_onc) rfl rfl (fun w h Y=>PySem.W.kIn_of Y) ?F
  case F=>
    intro w mg fa h KX G hmg
    refine' Pf.all_mk KX G hmg ?a1 ?l1 ?c1 ?k1 ?a2 ?l2 ?c2 ?k2 ?a3 ?l3 ?c3 ?k3 ?a4 ?l4 ?c4 ?k4 ?a5 ?l5 ?c5 ?k5 ?a6 ?l6 ?c6 ?k6 ?a7 ?l7 ?c7 ?k7 ?a8 ?l8 ?c8 ?k8 ?a9 ?l9 ?c9 ?k9 ?a10 ?l10 ?c10 ?k10 ?a11 ?l11 ?c11 ?k11 ?a12 ?l12 ?c12 ?k12 ?a13 ?l13 ?c13 ?k13 ?a14 ?l14 ?c14 ?k14 ?a15 ?l15 ?c15 ?k15 ?a16 ?l16 ?c16 ?k16 ?a17 ?l17 ?c17 ?k17 ?a18 ?l18 ?c18 ?k18 ?a19 ?l19 ?c19 ?k19 ?a20 ?l20 ?c20 ?k20 ?a21 ?l21 ?c21 ?k21 ?a22 ?l22 ?c22 ?k22 ?a23 ?l23 ?c23 ?k23 ?a24 ?l24 ?c24 ?k24 ?a25 ?l25 ?c25 ?k25 ?a26 ?l26 ?c26 ?k26 ?a27 ?l27 ?c27 ?k27 ?a28 ?l28 ?c28 ?k28 ?a29 ?l29 ?c29 ?k29 ?a30 ?l30 ?c30 ?k30 ?a31 ?l31 ?c31 ?k31 ?a32 ?l32 ?c32 ?k32 ?a33 ?l33 ?c33 ?k33 ?a34 ?l34 ?c34 ?k34 ?a35 ?l35 ?c35 ?k35 ?a36 ?l36 ?c36 ?k36 ?a37 ?l37 ?c37 ?k37 ?a38 ?l38 ?c38 ?k38 ?z_all ?z_enumerate ?z_len ?z_list ?z_max ?z_min ?z_range ?z_reversed ?z_set ?z_sorted ?z_tuple ?e_LETTERS ?e_MOST_LETTERS ?e_MOST_THINGS ?e_RULES ?y_RULES
    (case a1=>k_is);(case l1=>k_is);(case c1=>k_is);(case k1=>k_is)
    (case a2=>k_is);(case l2=>k_is);(case c2=>k_is);(case k2=>k_is)
    (case a3=>k_is);(case l3=>k_is);(case c3=>k_is);(case k3=>k_is)
    (case a4=>k_is);(case l4=>k_is);(case c4=>k_is);(case k4=>k_is)
    (case a5=>k_is);(case l5=>k_is);(case c5=>k_is);(case k5=>k_is)
    (case a6=>k_is);(case l6=>k_is);(case c6=>k_is);(case k6=>k_is)
    (case a7=>k_is);(case l7=>k_is);(case c7=>k_is);(case k7=>k_is)
    (case a8=>k_is);(case l8=>k_is);(case c8=>k_is);(case k8=>k_is)
    (case a9=>k_is);(case l9=>k_is);(case c9=>k_is);(case k9=>k_is)
    (case a10=>k_is);(case l10=>k_is);(case c10=>k_is);(case k10=>k_is)
    (case a11=>k_is);(case l11=>k_is);(case c11=>k_is);(case k11=>k_is)
    (case a12=>k_is);(case l12=>k_is);(case c12=>k_is);(case k12=>k_is)
    (case a13=>k_is);(case l13=>k_is);(case c13=>k_is);(case k13=>k_is)
    (case a14=>k_is);(case l14=>k_is);(case c14=>k_is);(case k14=>k_is)
    (case a15=>k_is);(case l15=>k_is);(case c15=>k_is);(case k15=>k_is)
    (case a16=>k_is);(case l16=>k_is);(case c16=>k_is);(case k16=>k_is)
    (case a17=>k_is);(case l17=>k_is);(case c17=>k_is);(case k17=>k_is)
    (case a18=>k_is);(case l18=>k_is);(case c18=>k_is);(case k18=>k_is)
    (case a19=>k_is);(case l19=>k_is);(case c19=>k_is);(case k19=>k_is)
    (case a20=>k_is);(case l20=>k_is);(case c20=>k_is);(case k20=>k_is)
    (case a21=>k_is);(case l21=>k_is);(case c21=>k_is);(case k21=>k_is)
    (case a22=>k_is);(case l22=>k_is);(case c22=>k_is);(case k22=>k_is)
    (case a23=>k_is);(case l23=>k_is);(case c23=>k_is);(case k23=>k_is)
    (case a24=>k_is);(case l24=>k_is);(case c24=>k_is);(case k24=>k_is)
    (case a25=>k_is);(case l25=>k_is);(case c25=>k_is);(case k25=>k_is)
    (case a26=>k_is);(case l26=>k_is);(case c26=>k_is);(case k26=>k_is)
    (case a27=>k_is);(case l27=>k_is);(case c27=>k_is);(case k27=>k_is)
    (case a28=>k_is);(case l28=>k_is);(case c28=>k_is);(case k28=>k_is)
    (case a29=>k_is);(case l29=>k_is);(case c29=>k_is);(case k29=>k_is)
    (case a30=>k_is);(case l30=>k_is);(case c30=>k_is);(case k30=>k_is)
    (case a31=>k_is);(case l31=>k_is);(case c31=>k_is);(case k31=>k_is)
    (case a32=>k_is);(case l32=>k_is);(case c32=>k_is);(case k32=>k_is)
    (case a33=>k_is);(case l33=>k_is);(case c33=>k_is);(case k33=>k_is)
    (case a34=>k_is);(case l34=>k_is);(case c34=>k_is);(case k34=>k_is)
    (case a35=>k_is);(case l35=>k_is);(case c35=>k_is);(case k35=>k_is)
    (case a36=>k_is);(case l36=>k_is);(case c36=>k_is);(case k36=>k_is)
    (case a37=>k_is);(case l37=>k_is);(case c37=>k_is);(case k37=>k_is)
    (case a38=>k_is);(case l38=>k_is);(case c38=>k_is);(case k38=>k_is)
    (case z_all=>k_is);(case z_enumerate=>k_is);(case z_len=>k_is);(case z_list=>k_is)
    (case z_max=>k_is);(case z_min=>k_is);(case z_range=>k_is);(case z_reversed=>k_is)
    (case z_set=>k_is);(case z_sorted=>k_is);(case z_tuple=>k_is);(case e_LETTERS=>k_is)
    (case e_MOST_LETTERS=>k_is);(case e_MOST_THINGS=>k_is);(case e_RULES=>k_is);(case y_RULES=>k_is)
#print axioms PySem.Challenge.cw_stirround_k17_whole_each_begun_thing_onc_holds
