import PyProof.Rows.All
import Wide.All
import OpenK.AllK
import Wide.FinOn
import Lean
import PyProof.EqAt
import PyProof.EqKinds
import PyProof.TupleCall
import PyProof.StrLawsTight
import PyProof.Rows.StrJoin2
import PyProof.Rows.StrSplitJoin
import KE.KTab
import PyProof.ZipIter
import PyProof.Rows.TupIter
import PyProof.Rows.SortWalk
import PyProof.Rows.SortStr
import PyProof.ConsumeWalk
import KE.KRevSl
import KE.KTryMore
import PyProof.NsDelKeeps
import PyProof.NeKinds
import KE.KIntText
import KE.KDictLaws
import PyProof.DictIter
import PyProof.DictWalks
import PyProof.DictItems
import KE.KSortTup
import KE.KDictList
import PyProof.SetKind
import PyProof.SetRoads
import PyProof.Rows.SetFrom
import PyProof.CollectWalk
import PyProof.CollectIter
import PyProof.Rows.SortShell
import PyProof.Rows.MinMaxN
import KE.KNestM
import KE.KLam
import KE.KMinKey
import PyProof.Rows.CallKwBuiltin
import KE.RegKTryMore
import PySem.Challenge.RW_marchmend_k51_broken_cells
set_option Elab.async false
set_option linter.all false
set_option maxRecDepth 100000
set_option maxHeartbeats 8000000
namespace L2
open PySem PySem.Spec PyProof.Rows
abbrev Key:=Sum Int Str
def keyIs:Key→Value→Bool
 | .inl k,v=>Value.isInt k v
 | .inr x,v=>Value.isStrOf x v
def keyH (w:World):Key→Int
 | .inl k=>hashInt k
 | .inr x=>hashStr w x
theorem yaq:∀ {k:Key}{v:Value},keyIs k v=true→(∃ i t,k=Sum.inl i∧v=Value.int i t)∨(∃ x t,k=Sum.inr x∧v=Value.str x t)
 | .inl i,v,h=>by
  obtain ⟨t,e⟩:=Value.isInt_shape (k:=i) (v:=v) h
  exact .inl ⟨i,t,rfl,e⟩
 | .inr x,v,h=>by
  obtain ⟨t,e⟩:=Value.isStrOf_shape (x:=x) (v:=v) h
  exact .inr ⟨x,t,rfl,e⟩
theorem key_ll (a b:Int):decide ((Sum.inl a:Key)=Sum.inl b)=(a == b):=by
 by_cases e:a=b
 ·subst e;simp
 ·have h:¬ (Sum.inl a:Key)=Sum.inl b:=fun q=>e (Sum.inl.inj q)
  rw[decide_eq_false h]
  exact (beq_eq_false_iff_ne.mpr e).symm
theorem key_rr (a b:Str):decide ((Sum.inr a:Key)=Sum.inr b)=decide (a=b):=by
 by_cases e:a=b
 ·subst e;simp
 ·have h:¬ (Sum.inr a:Key)=Sum.inr b:=fun q=>e (Sum.inr.inj q)
  rw[decide_eq_false h,decide_eq_false e]
theorem key_lr (a:Int) (b:Str):decide ((Sum.inl a:Key)=Sum.inr b)=false:=decide_eq_false (fun q=>nomatch q)
theorem key_rl (a:Str) (b:Int):decide ((Sum.inr a:Key)=Sum.inl b)=false:=decide_eq_false (fun q=>nomatch q)
def yhh (prog:Program) (w:World):PySem.KeyKind prog w Key where
 is:=keyIs
 hash:=keyH w
 inj:=fun v a b ha hb=>by
  rcases yaq ha with ⟨i,t,rfl,rfl⟩|⟨x,t,rfl,rfl⟩
  ·rcases yaq hb with ⟨j,u,rfl,e⟩|⟨y,u,rfl,e⟩
   ·injection e with e1 _;rw[e1]
   ·exact nomatch e
  ·rcases yaq hb with ⟨j,u,rfl,e⟩|⟨y,u,rfl,e⟩
   ·exact nomatch e
   ·injection e with e1 _;rw[e1]
 byValue:=fun k v h=>by
  rcases yaq h with ⟨i,t,rfl,rfl⟩|⟨x,t,rfl,rfl⟩<;>rfl
 pyHash:=fun hv h=>by
  rcases yaq hv with ⟨i,t,rfl,rfl⟩|⟨x,t,rfl,rfl⟩
  ·exact wpAny_pyHash_int h
  ·exact wpAny_pyHash_str h
 eqBool:=fun hu hv h=>by
  rcases yaq hu with ⟨i,t,rfl,rfl⟩|⟨x,t,rfl,rfl⟩
  ·rcases yaq hv with ⟨j,u,rfl,rfl⟩|⟨y,u,rfl,rfl⟩
   ·rw[key_ll] at h;exact wpAny_eqBool_int h
   ·rw[key_lr] at h;exact SeqAt.EqAt.int_str i t y u _ _ _ _ h
  ·rcases yaq hv with ⟨j,u,rfl,rfl⟩|⟨y,u,rfl,rfl⟩
   ·rw[key_rl] at h;exact SeqAt.EqAt.str_int x t j u _ _ _ _ h
   ·rw[key_rr] at h;exact wpAny_eqBool_str h
 «strs»:=fun k x t v h=>by
  rcases yaq h with ⟨i,u,rfl,e⟩|⟨y,u,rfl,e⟩
  ·exact nomatch e
  ·injection e with e1 _
   subst e1
   cases v<;>rfl
end L2
namespace L2
open PySem PySem.Spec PyProof.Rows
inductive V where
 | non|bl (b:Bool)|int (i:Int)|str (x:Str)|byt (b:Array UInt8)|flt (b:UInt64)|ref (a:Addr)|ty (n:String)
 deriving DecidableEq
def RelV:V→Value→Prop
 | .non,u=>u=Value.none
 | .bl b,u=>u=Value.bool b
 | .int i,u=>∃ t,u=Value.int i t
 | .str x,u=>∃ t,u=Value.str x t
 | .byt b,u=>∃ t,u=Value.bytes b t
 | .flt b,u=>∃ t,u=Value.float b t
 | .ref a,u=>u=Value.ref a
 | .ty n,u=>u=Value.type n
abbrev Vals:List V→List Value→Prop:=Paired RelV
theorem Vals.length {xs:List V}{us:List Value} (r:Vals xs us):xs.length=us.length:=Paired.length r
theorem Vals.get:∀ {xs:List V}{us:List Value}{i:Nat}{x:V},Vals xs us→xs[i]?=some x→∃ u,us[i]?=some u∧RelV x u
 | _,_,_,_,.nil,e=>by simp at e
 | _,_,0,_,.cons r _,e=>by simp at e;subst e;exact ⟨_,rfl,r⟩
 | _,_,i+1,x,.cons _ t,e=>by
  obtain ⟨u,h1,h2⟩:=Vals.get (i:=i) (x:=x) t (by simpa using e)
  exact ⟨u,by simpa using h1,h2⟩
theorem Vals.append:∀ {xs ys:List V}{us ws:List Value},Vals xs us→Vals ys ws→Vals (xs++ys) (us++ws)
 | _,_,_,_,.nil,s=>s
 | _,_,_,_,.cons r t,s=>.cons r (Vals.append t s)
theorem Vals.take:∀ {xs:List V}{us:List Value} (n:Nat),Vals xs us→Vals (xs.take n) (us.take n)
 | _,_,0,_=>.nil
 | _,_,_+1,.nil=>.nil
 | _,_,n+1,.cons r t=>.cons r (Vals.take n t)
theorem Vals.drop:∀ {xs:List V}{us:List Value} (n:Nat),Vals xs us→Vals (xs.drop n) (us.drop n)
 | _,_,0,r=>r
 | _,_,_+1,.nil=>.nil
 | _,_,n+1,.cons _ t=>Vals.drop n t
def RelO:Option V→Option Value→Prop
 | some v,some u=>RelV v u
 | none,none=>True
 | _,_=>False
def KV {κ:Type}:List (κ×V)→List (κ×Value)→Prop:=Paired fun (p:κ×V) (q:κ×Value)=>p.1=q.1∧RelV p.2 q.2
def kV:Key→V
 | .inl i=>.int i
 | .inr x=>.str x
inductive HO where
 /-- a list -/
 | lst (xs:List V)
 /-- a tuple (never changes) -/
 | tup (xs:List V)
 /-- a dict whose keys are ints and texts;one whose keys are tuples of ints and texts (the empty one is both) -/
 | dK (kvs:List (Key×V))|dT (kvs:List (List Key×V))
 /-- a set of ints: its members,its size -/
 | set (S:Int→Bool) (n:Nat)
 /-- an instance of the class at C,its dict at dx,its attributes -/
 | ins (C dx:Addr) (fs:List (Str×V))
 /-- the dict of the instance at x -/
 | own (x:Addr)
 /-- the dict of an exception -/
 | xd (fs:List (Str×V))
 /-- a bound method,f of x -/
 | met (f x:Addr)
 /-- a range object lo,lo+1,.. below hi -/
 | rng (lo hi:Int)
 /-- a thing that is known to the object (the script;a dict while a loop walks it): read,never written while it is so -/
 | frz (o:Obj) (u:HO)
 /-- a code object's table -/
 | tbl (ps:Array Value)
 /-- any other thing,by what is true of its one object (a def of one's own: SetO a S n:=HO.ext fun h=>..) -/
 | ext (φ:Heap→Prop)
abbrev Hp:=Addr→Option HO
def upd (H:Hp) (a:Addr) (o:HO):Hp:=fun b=>if b=a then some o else H b
theorem yaa {H:Hp}{a:Addr}{o:HO}:upd H a o a=some o:=by unfold upd;rw[if_pos rfl]
theorem yae {H:Hp}{a b:Addr}{o:HO} (h:b≠a):upd H a o b=H b:=by unfold upd;rw[if_neg h]
theorem qae {H:Hp}{a b:Addr}{o:HO} (h:H a=some o) (h':H b=none):a≠b:=by
 intro e;subst e;rw[h] at h';cases h'
section
variable (P:Program) (w:World)
def yav (H:Hp) (h:Heap) (a:Addr):HO→Prop
 | .lst xs=>xs.length≤sizeLine∧∃ (its:List Value) (n:Nat),Vals xs its∧h.get? a=some { cls:=.type "list",data:=.seq its.toArray n }
 | .tup xs=>xs.length≤sizeLine∧∃ its:List Value,Vals xs its∧IsTup h a its.toArray
 | .dK kvs=>kvs.length≤sizeLine∧(a == sysModules)=false∧∃ vs,KV kvs vs∧h.DictOf (yhh P w) a vs
 | .dT kvs=>kvs.length≤sizeLine∧(a == sysModules)=false∧∃ xs:List (List Key×Addr×Value),
   Paired (fun (p:List Key×V) (q:List Key×Addr×Value)=>p.1=q.1∧H q.2.1=some (.tup (p.1.map kV))∧RelV p.2 q.2.2) kvs xs∧
   ∃ o es ep,h.get? a=some o∧o.ExactDict∧o.data=.dict es ep∧es.toList=xs.map (entryOfKey (tupleKind (yhh P w)))∧(xs.map (·.1)).Nodup
 | .set S n=>h.SetOf (intKind P w) a S n
 | .ins C dx fs=>H dx=some (.own a)∧fs.length≤1000∧dx≠a∧h.get? a=some (PySem.W.instObj C dx)∧
   ∃ mA,h.Ns1 dx mA∧(∀ f,RelO (fs.lookup f) (mA f))∧PySem.Within mA (fs.map (·.1))
 | .own _=>∃ o,h.get? a=some o
 | .xd fs=>∃ mA,h.Ns1 a mA∧∀ f,RelO (fs.lookup f) (mA f)
 | .rng lo hi=>∃ t u v,h.get? a=some { cls:=.type "range",data:=.fields #[.int lo t,.int hi u,.int 1 v] }
 | .frz o u=>h.get? a=some o∧yav H h a u
 | .tbl ps=>h.get? a=some { cls:=.none,data:=.fields ps }
 | .met f x=>h.get? a=some (PySem.W.methodObj (.ref f) (.ref x))
 | .ext φ=>φ h∧(∃ o,h.get? a=some o)∧∀ h1 h2:Heap,φ h1→(∀ o,h1.get? a=some o→h2.get? a=some o)→φ h2
def HOk (H:Hp) (h:Heap):Prop:=∀ a o,H a=some o→yav P w H h a o
end
section
variable {P:Program}{w:World}{H H':Hp}{h h':Heap}{a:Addr}{o:HO}
theorem yav.lt (x:yav P w H h a o):a<h.objs.size:=by
 cases o with
 | lst xs=>obtain ⟨_,_,_,_,e⟩:=x;exact Heap.lt_size e
 | tup xs=>obtain ⟨_,_,_,p⟩:=x;exact p.lt
 | dK kvs=>obtain ⟨_,_,_,_,o,_,_,e,_⟩:=x;exact Heap.lt_size e
 | dT kvs=>obtain ⟨_,_,_,_,o,_,_,e,_⟩:=x;exact Heap.lt_size e
 | set S n=>obtain ⟨o,_,_,_,e,_⟩:=x;exact Heap.lt_size e
 | ins C dx fs=>obtain ⟨_,_,_,e,_⟩:=x;exact Heap.lt_size e
 | own y=>obtain ⟨_,e⟩:=x;exact Heap.lt_size e
 | xd fs=>obtain ⟨_,⟨_,_,_,e,_⟩,_⟩:=x;exact Heap.lt_size e
 | rng lo hi=>obtain ⟨_,_,_,e⟩:=x;exact Heap.lt_size e
 | frz ob u=>obtain ⟨e,_⟩:=x;exact Heap.lt_size e
 | tbl ps=>exact Heap.lt_size (show h.get? a=some _ from x)
 | met f y=>exact Heap.lt_size (show h.get? a=some _ from x)
 | ext φ=>obtain ⟨_,⟨_,e⟩,_⟩:=x;exact Heap.lt_size e
theorem Paired.mapP {α β:Type}{F G:α→β→Prop}:∀ {l₁:List α}{l₂:List β},Paired F l₁ l₂→(∀ a b,F a b→G a b)→Paired G l₁ l₂
 | _,_,.nil,_=>.nil
 | _,_,.cons r t,f=>.cons (f _ _ r) (Paired.mapP t f)
theorem yav.stay (x:yav P w H h a o) (k:∀ b u,(b=a∨H b=some (.own a))→h.get? b=some u→h'.get? b=some u)
  (ho:∀ b,H b=some (.own a)→H' b=some (.own a)) (ht:∀ b xs,H b=some (.tup xs)→H' b=some (.tup xs)):yav P w H' h' a o:=by
 induction o with
 | lst xs=>obtain ⟨z,its,n,r,e⟩:=x;exact ⟨z,its,n,r,k _ _ (.inl rfl) e⟩
 | tup xs=>obtain ⟨z,its,r,ob,e,c⟩:=x;exact ⟨z,its,r,ob,k _ _ (.inl rfl) e,c⟩
 | dK kvs=>obtain ⟨z,y,vs,r,ob,es,ep,e,c⟩:=x;exact ⟨z,y,vs,r,ob,es,ep,k _ _ (.inl rfl) e,c⟩
 | dT kvs=>
  obtain ⟨z,y,xs,r,ob,es,ep,e,c⟩:=x
  exact ⟨z,y,xs,Paired.mapP r fun p q z=>⟨z.1,ht _ _ z.2.1,z.2.2⟩,ob,es,ep,k _ _ (.inl rfl) e,c⟩
 | set S n=>obtain ⟨ob,es,ep,t,e,c⟩:=x;exact ⟨ob,es,ep,t,k _ _ (.inl rfl) e,c⟩
 | ins C dx fs=>
  obtain ⟨d,z,ne,e,mA,⟨od,es,ep,e2,c⟩,r⟩:=x
  exact ⟨ho _ d,z,ne,k _ _ (.inl rfl) e,mA,⟨od,es,ep,k _ _ (.inr d) e2,c⟩,r⟩
 | own y=>obtain ⟨ob,e⟩:=x;exact ⟨ob,k _ _ (.inl rfl) e⟩
 | xd fs=>obtain ⟨mA,⟨od,es,ep,e,c⟩,r⟩:=x;exact ⟨mA,⟨od,es,ep,k _ _ (.inl rfl) e,c⟩,r⟩
 | rng lo hi=>obtain ⟨t,u,v,e⟩:=x;exact ⟨t,u,v,k _ _ (.inl rfl) e⟩
 | frz ob u ih=>obtain ⟨e,q⟩:=x;exact ⟨k _ _ (.inl rfl) e,ih q⟩
 | tbl ps=>
  have e:h.get? a=some { cls:=.none,data:=.fields ps }:=x
  show h'.get? a=some { cls:=.none,data:=.fields ps }
  exact k a _ (.inl rfl) e
 | met f y=>
  have e:h.get? a=some (PySem.W.methodObj (.ref f) (.ref y)):=x
  show h'.get? a=some (PySem.W.methodObj (.ref f) (.ref y))
  exact k a _ (.inl rfl) e
 | ext φ=>obtain ⟨p,⟨o,e⟩,st⟩:=x;exact ⟨st _ _ p fun o q=>k _ _ (.inl rfl) q,⟨o,k _ _ (.inl rfl) e⟩,st⟩
theorem HOk.lt (x:HOk P w H h) (e:H a=some o):a<h.objs.size:=(x a o e).lt
theorem HOk.fresh (x:HOk P w H h) (e:h.objs.size≤a):H a=none:=by
 cases q:H a with
 | none=>rfl
 | some u=>exact absurd (Nat.lt_of_lt_of_le (x.lt q) e) (Nat.lt_irrefl _)
theorem HOk.kept (x:HOk P w H h) (k:∀ b u,h.get? b=some u→h'.get? b=some u):HOk P w H h':=fun a o e=>
 (x a o e).stay (fun b u _ q=>k b u q) (fun _ q=>q) fun _ _ q=>q
theorem HOk.laid (x:HOk P w H h) (k:∀ b u,h.get? b=some u→h'.get? b=some u) (hp:h.objs.size≤a) (new:yav P w (upd H a o) h' a o):HOk P w (upd H a o) h':=fun b u e=>by
 have hn:=x.fresh hp
 by_cases hb:b=a
 ·subst hb;rw[yaa] at e;cases e;exact new
 ·rw[yae hb] at e
  exact (x b u e).stay (fun c v _ q=>k c v q) (fun c q=>by rw[yae (qae q hn)];exact q) fun c xs q=>by rw[yae (qae q hn)];exact q
end
def Rd (H:Hp) (a:Addr) (u:HO):Prop:=H a=some u∨∃ o,H a=some (.frz o u)
theorem Rd.ok {P:Program}{w:World}{H:Hp}{h:Heap}{a:Addr}{u:HO} (r:Rd H a u) (x:HOk P w H h):yav P w H h a u:=by
 rcases r with r|⟨o,r⟩
 ·exact x a u r
 ·obtain ⟨_,q⟩:=x a _ r
  exact q
def Mut:Option HO→Prop
 | some (.lst _)=>True
 | some (.dK _)=>True
 | some (.dT _)=>True
 | some (.set _ _)=>True
 | some (.ins _ _ _)=>True
 | some (.ext _)=>True
 | _=>False
section
variable {P:Program}{w:World}{H:Hp}{h h':Heap}{x e:Addr}{o':HO}
theorem HOk.write (ok:HOk P w H h) (mu:Mut (H x)) (he:e=x∨H e=some (.own x)) (k:∀ b u,b≠e→h.get? b=some u→h'.get? b=some u) (heo:∃ u,h'.get? e=some u)
  (new:yav P w (upd H x o') h' x o'):HOk P w (upd H x o') h':=fun b u q=>by
 have nown:∀ c y,H c=some (.own y)→c≠x:=fun c y r z=>by subst z;rw[r] at mu;exact mu
 have ntup:∀ c xs,H c=some (.tup xs)→c≠x:=fun c xs r z=>by subst z;rw[r] at mu;exact mu
 by_cases hb:b=x
 ·subst hb;rw[yaa] at q;cases q;exact new
 ·rw[yae hb] at q
  by_cases hbe:b=e
  ·have q':H b=some (.own x):=by
    rcases he with z|z
    ·exact absurd (hbe.trans z) hb
    ·rw[hbe];exact z
   rw[q] at q';cases q'
   obtain ⟨v,hv⟩:=heo
   exact ⟨v,by rw[hbe];exact hv⟩
  ·refine (ok b u q).stay (fun c v hc r=>k c v ?_ r) (fun c r=>by rw[yae (nown c b r)];exact r) fun c xs r=>by rw[yae (ntup c xs r)];exact r
   rcases hc with rfl|hc
   ·exact hbe
   ·rintro rfl
    rcases he with z|z
    ·exact nown c b hc z
    ·rw[hc] at z;cases z;exact hb rfl
end
structure Un (fs ex:List Addr) (H H':Hp) (h h':Heap):Prop where
 keep:∀ b o,h.get? b=some o→H b=none→b∉fs→b∉ex→h'.get? b=some o
 slot:∀ b o,h.get? b=some o→H b=none→b∈fs→b∉ex→∃ sl,h'.get? b=some { o with slots:=sl }
 free:∀ b o,h.get? b=some o→H b=none→b∉ex→H' b=none
 there:∀ b o,h.get? b=some o→b∉ex→∃ o',h'.get? b=some o'
 tups:∀ b xs,H b=some (.tup xs)→H' b=some (.tup xs)
 frzs:∀ b o u,H b=some (.frz o u)→H' b=some (.frz o u)
 tbls:∀ b ps,H b=some (.tbl ps)→∃ more,H' b=some (.tbl (ps++more))
section
variable {fs fs' ex ex':List Addr}{H H1 H2:Hp}{h h1 h2 h':Heap}{a x e:Addr}{o:HO}
theorem Un.any (u:Un fs ex H H1 h h1) {b:Addr}{ob:Obj} (q:h.get? b=some ob) (n:H b=none) (hx:b∉ex):∃ sl,h1.get? b=some { ob with slots:=sl }:=by
 by_cases hb:b∈fs
 ·exact u.slot b ob q n hb hx
 ·exact ⟨ob.slots,u.keep b ob q n hb hx⟩
theorem Un.kept (k:∀ b u,h.get? b=some u→h'.get? b=some u):Un fs ex H H h h':=
 ⟨fun b ob q _ _ _=>k b ob q,fun b ob q _ _ _=>⟨ob.slots,k b ob q⟩,fun _ _ _ n _=>n,fun b ob q _=>⟨ob,k b ob q⟩,fun _ _ q=>q,fun _ _ _ q=>q,fun _ ps q=>⟨#[],by rw[q];simp⟩⟩
theorem Un.refl:Un fs ex H H h h:=Un.kept fun _ _ q=>q
theorem Un.laid (k:∀ b u,h.get? b=some u→h'.get? b=some u) (hp:h.objs.size≤a) (hn:H a=none):Un fs ex H (upd H a o) h h' where
 keep:=fun b u q _ _ _=>k b u q
 slot:=fun b u q _ _ _=>⟨u.slots,k b u q⟩
 free:=fun b u q n _=>by rw[yae (Nat.ne_of_lt (Nat.lt_of_lt_of_le (Heap.lt_size q) hp))];exact n
 there:=fun b u q _=>⟨u,k b u q⟩
 tups:=fun b xs q=>by rw[yae (qae q hn)];exact q
 frzs:=fun b u xs q=>by rw[yae (qae q hn)];exact q
 tbls:=fun b ps q=>⟨#[],by rw[yae (qae q hn),q];simp⟩
theorem Un.write (mu:Mut (H x)) (he:e=x∨H e=some (.own x)) (k:∀ b u,b≠e→h.get? b=some u→h'.get? b=some u) (heo:∃ u,h'.get? e=some u):Un fs ex H (upd H x o) h h':=by
 have hx:∀ b,H b=none→b≠x:=fun b n z=>by subst z;rw[n] at mu;exact mu
 have hb:∀ b,H b=none→b≠e:=fun b n z=>by
  subst z
  rcases he with r|r
  ·exact hx b n r
  ·rw[n] at r;cases r
 have hm:∀ b u,H b=some u→¬ Mut (some u)→b≠x:=fun b u q nm z=>by subst z;rw[q] at mu;exact nm mu
 refine ⟨fun b u q n _ _=>k b u (hb b n) q,fun b u q n _ _=>⟨u.slots,k b u (hb b n) q⟩,fun b u q n _=>by rw[yae (hx b n)];exact n,fun b u q _=>?_,
  fun b xs q=>by rw[yae (hm b _ q fun z=>z)];exact q,fun b u xs q=>by rw[yae (hm b _ q fun z=>z)];exact q,fun b ps q=>⟨#[],by rw[yae (hm b _ q fun z=>z),q];simp⟩⟩
 by_cases hbe:b=e
 ·subst hbe;exact heo
 ·exact ⟨u,k b u hbe q⟩
end
def trk (h:Heap) (H:Hp):List Addr:=(List.range h.objs.size).filter fun a=>(H a).isSome
def hidT (h:Heap) (H:Hp):Heap:=PySem.W.hideAll h (trk h H)
theorem ygx (h:Heap) (H:Hp):(hidT h H).objs.size=h.objs.size:=PySem.W.hideAll_size _ _
theorem hidT_get {h:Heap}{H:Hp}{b:Addr}{o:Obj} (e:h.get? b=some o) (n:H b=none):(hidT h H).get? b=some o:=
 PySem.W.hideAll_get _ e fun hm=>by
  have q:(H b).isSome=true:=(List.mem_filter.mp hm).2
  rw[n] at q;simp at q
theorem of_hidT {h:Heap}{H:Hp}{b:Addr}{o:Obj} (e:(hidT h H).get? b=some o):h.get? b=some o∧H b=none:=by
 have e':h.get? b=some o:=PySem.W.of_hideAll (trk h H) e
 refine ⟨e',?_⟩
 cases q:H b with
 | none=>rfl
 | some x=>
  have hm:b∈trk h H:=List.mem_filter.mpr ⟨List.mem_range.mpr (Heap.lt_size e'),by simp[q]⟩
  have z:(hidT h H).get? b=none:=PySem.W.hideAll_none (trk h H) hm
  rw[z] at e;cases e
structure Mod (K:PySem.W.Frag) (mg:Str→Option Value) (base:Heap):Prop where
 kin:K.In base
 glob:base.Ns mainGlobals mg
 blt:∃ mb,base.Ns builtinsNs mb∧∀ x:Str,x≠"__name__"→mb x=bootBuiltins x
 nolimit:base.NoLimit
structure Cx where
 prog:Program
 w:World
 K:PySem.W.Frag
 mg:Str→Option Value
 base:Heap
 A:Around
 N:List Str
 s₀:Shared
 H₀:Hp
 env:Env
 outer:List Env
 stack:List Env
 ex:List Addr
 fn:Str→Bool
 calm:Bool
 pn:List (Addr×Obj)
 xe:Value→Shared→Prop
def frs (l:List Env):List Addr:=l.filterMap (·.frame)
abbrev Cx.fs (X:Cx):List Addr:=frs X.outer
def Vis (sc:Scope) (x:Str):Prop:=sc.names.lookup x=some .local∨sc.names.lookup x=some .cell∨sc.names.lookup x=some .free
def Loc (sc:Scope) (x:Str):Prop:=sc.names.lookup x=some .local∨sc.names.lookup x=some .cell
def Look (env:Env) (h:Heap) (m:Str→Option Value) (x:Str) (u:Value):Prop:=
 (env.kindOf x=some .local∧m x=some u)∨((env.kindOf x=some .cell∨env.kindOf x=some .free)∧∃ c,env.cells.lookup x=some c∧h.IsCell c (some u))
structure Cx.Ok (X:Cx):Prop where
 mod:Mod X.K X.mg X.base
 kind:X.env.scope.kind=.function
 glob:X.env.globals=mainGlobals
 blt:X.env.builtins=builtinsNs
 above:X.s₀.heap.objs.size≤X.env.locals
 inj:∀ x y c,X.env.cells.lookup x=some c→X.env.cells.lookup y=some c→x=y
 has:∀ x,(X.env.kindOf x=some .cell∨X.env.kindOf x=some .free)→∃ c,X.env.cells.lookup x=some c
 cab:∀ x c,X.fn x=true→X.env.cells.lookup x=some c→X.s₀.heap.objs.size≤c
 hd:X.calm=true→X.A.handled=none
 frames:X.A.frames=some X.stack
 stk:X.stack=X.outer∨(X.stack=X.env::X.outer∧X.env.frame=some X.env.locals)
 exf:∀ b∈X.ex,b≠X.env.locals∧∀ x c,X.env.cells.lookup x=some c→c≠b
 bs:∀ b o,X.base.get? b=some o→X.s₀.heap.get? b=some o∧X.H₀ b=none
 bsz:X.base.objs.size≤X.s₀.heap.objs.size
 noex:∀ b o,X.base.get? b=some o→b∉X.ex
 exfs:∀ b∈X.ex,b∉X.fs
 funs:X.s₀.heap.FunFrames X.base X.outer
 frf:∀ b∈X.fs,X.H₀ b=none
structure Inv (X:Cx) (pins:List (Addr×Obj)) (σ:List (Option V)) (H:Hp) (s:Shared):Prop where
 ok:X.Ok
 os:s.os=X.s₀.os
 bare:AllBare s.gens
 base:Un X.fs X.ex X.H₀ H X.s₀.heap s.heap
 loc:∃ m,s.heap.Ns X.env.locals m∧∀ (i:Nat) (x:Str) (v:V),X.N[i]?=some x→σ[i]?=some (some v)→Vis X.env.scope x→∃ u,RelV v u∧Look X.env s.heap m x u
 cell:∀ x c,X.env.cells.lookup x=some c→∃ v,s.heap.IsCell c v
 free:H X.env.locals=none
 freeC:∀ x c,X.env.cells.lookup x=some c→H c=none
 pin:∀ p∈X.pn++pins,s.heap.get? p.1=some p.2∧H p.1=none∧p.1≠X.env.locals∧p.1∉X.fs∧∀ v,p.2.data≠.cell v
 hok:HOk X.prog X.w H s.heap
 len:σ.length=X.N.length
section
variable {X:Cx}{pins:List (Addr×Obj)}{σ:List (Option V)}{H H':Hp}{s:Shared}{h':Heap}
theorem Cx.Ok.nofr (ok:X.Ok) {b:Addr}{o:Obj} (e:X.base.get? b=some o):b∉X.fs:=fun hb=>by
 have:=(ok.funs.mem hb).1
 rw[e] at this;cases this
theorem Inv.bs (I:Inv X pins σ H s):∀ b o,X.base.get? b=some o→s.heap.get? b=some o∧H b=none:=fun b o e=>
 ⟨I.base.keep b o (I.ok.bs b o e).1 (I.ok.bs b o e).2 (I.ok.nofr e) (I.ok.noex b o e),I.base.free b o (I.ok.bs b o e).1 (I.ok.bs b o e).2 (I.ok.noex b o e)⟩
theorem Inv.bk (I:Inv X pins σ H s):∀ b o,X.base.get? b=some o→s.heap.get? b=some o:=fun b o e=>(I.bs b o e).1
theorem Inv.mod (I:Inv X pins σ H s):Mod X.K X.mg X.base:=I.ok.mod
theorem Inv.kIn (I:Inv X pins σ H s):X.K.In s.heap:=I.ok.mod.kin.keeps I.bk
theorem Inv.lt (I:Inv X pins σ H s):X.env.locals<s.heap.objs.size:=let ⟨_,hn,_⟩:=I.loc;hn.lt
theorem Inv.sz (I:Inv X pins σ H s):X.s₀.heap.objs.size≤s.heap.objs.size:=Nat.le_trans I.ok.above (Nat.le_of_lt I.lt)
theorem Inv.nofs (I:Inv X pins σ H s) {a:Addr} (h:s.heap.objs.size≤a):a∉X.fs:=fun hb=>by
 obtain ⟨_,o,ho,_⟩:=I.ok.funs.mem hb
 exact absurd (Nat.lt_of_lt_of_le (Heap.lt_size ho) (Nat.le_trans I.sz h)) (Nat.lt_irrefl _)
theorem Inv.cne (I:Inv X pins σ H s):∀ x c,X.env.cells.lookup x=some c→c≠X.env.locals:=fun x c e z=>by
 obtain ⟨v,o,ho,hd⟩:=I.cell x c e
 obtain ⟨m,⟨o',es,ep,ho',hd',_⟩,_⟩:=I.loc
 rw[z,ho'] at ho;cases ho;rw[hd'] at hd;cases hd
theorem Inv.funs (I:Inv X pins σ H s):s.heap.FunFrames X.base X.outer:=by
 have all:∀ (l:List Env),(∀ b∈frs l,b∈X.fs)→X.s₀.heap.FunFrames X.base l→s.heap.FunFrames X.base l:=by
  intro l
  induction l with
  | nil=>intro _ _;trivial
  | cons env r ih=>
   intro hs hl
   obtain ⟨hk,⟨L,o,hf,hn,ho,hd⟩,hr⟩:=hl
   have hL:L∈X.fs:=hs L (by unfold frs;rw[List.filterMap_cons,hf];exact List.mem_cons_self)
   obtain ⟨sl,e⟩:=I.base.slot L o ho (I.ok.frf L hL) hL fun z=>I.ok.exfs L z hL
   exact ⟨hk,⟨L,_,hf,hn,e,hd⟩,ih (fun b hb=>hs b (by unfold frs;rw[List.filterMap_cons,hf];exact List.mem_cons_of_mem _ hb)) hr⟩
 exact all X.outer (fun _ hb=>hb) I.ok.funs
theorem Inv.stack (I:Inv X pins σ H s):s.heap.FunFrames X.base X.stack:=by
 rcases I.ok.stk with e|⟨e,hf⟩
 ·rw[e];exact I.funs
 ·rw[e]
  obtain ⟨m,hn,_⟩:=I.loc
  refine .cons (by rw[I.ok.kind];decide) hf hn ?_ I.funs
  exact Heap.get?_none_of_le (Nat.le_trans I.ok.bsz I.ok.above)
theorem Inv.stkSub (I:Inv X pins σ H s):∀ b∈frs X.stack,b∈X.env.locals::X.fs:=fun b hb=>by
 rcases I.ok.stk with e|⟨e,hf⟩
 ·rw[e] at hb;exact List.mem_cons_of_mem _ hb
 ·rw[e] at hb
  unfold frs at hb
  rw[List.filterMap_cons,hf] at hb
  exact hb
theorem Inv.stkFree (I:Inv X pins σ H s):∀ b∈frs X.stack,H b=none:=fun b hb=>by
 rcases List.mem_cons.mp (I.stkSub b hb) with e|hb
 ·rw[e];exact I.free
 ·obtain ⟨_,o,ho,_⟩:=I.ok.funs.mem hb
  exact I.base.free b o ho (I.ok.frf b hb) fun z=>I.ok.exfs b z hb
theorem Inv.step {g':Array GenState}{t':Nat}{d':Drawn}{ch:List Addr} (I:Inv X pins σ H s)
  (hch:∀ b∈ch,(b∈X.ex∨X.s₀.heap.objs.size≤b)∧b≠X.env.locals∧(∀ x c,X.env.cells.lookup x=some c→c≠b)∧∀ p∈X.pn++pins,p.1≠b)
  (keep:∀ b o,b≠X.env.locals→b∉X.fs→b∉ch→s.heap.get? b=some o→H b=none→h'.get? b=some o)
  (slot:∀ b o,b≠X.env.locals→b∈X.fs→b∉ch→s.heap.get? b=some o→H b=none→∃ sl,h'.get? b=some { o with slots:=sl }) (free:∀ b o,b∉ch→s.heap.get? b=some o→H b=none→H' b=none)
  (there:∀ b o,b∉ch→s.heap.get? b=some o→∃ o',h'.get? b=some o')
  (tups:∀ b xs,H b=some (.tup xs)→H' b=some (.tup xs)) (frzs:∀ b o u,H b=some (.frz o u)→H' b=some (.frz o u)) (tbls:∀ b ps,H b=some (.tbl ps)→∃ more,H' b=some (.tbl (ps++more)))
  (ns:∀ m,s.heap.Ns X.env.locals m→h'.Ns X.env.locals m) (hok:HOk X.prog X.w H' h') (hg:AllBare g') :
  Inv X pins σ H' { s with heap:=h',gens:=g',drawn:=d',toks:=t' }:=by
 have neL:∀ b o,X.s₀.heap.get? b=some o→b≠X.env.locals:=fun b o e=>Nat.ne_of_lt (Nat.lt_of_lt_of_le (Heap.lt_size e) I.ok.above)
 have neC:∀ b o,X.s₀.heap.get? b=some o→b∉X.ex→b∉ch:=fun b o e hx hb=>by
  rcases (hch b hb).1 with z|z
  ·exact hx z
  ·exact absurd (Nat.lt_of_lt_of_le (Heap.lt_size e) z) (Nat.lt_irrefl _)
 have cellK:∀ x c,X.env.cells.lookup x=some c→∀ v,s.heap.IsCell c v→h'.IsCell c v:=fun x c e v ⟨o,ho,hd⟩=>by
  have nch:c∉ch:=fun z=>(hch c z).2.2.1 x c e rfl
  by_cases hc:c∈X.fs
  ·obtain ⟨sl,q⟩:=slot c o (I.cne x c e) hc nch ho (I.freeC x c e)
   exact ⟨_,q,hd⟩
  ·exact ⟨o,keep c o (I.cne x c e) hc nch ho (I.freeC x c e),hd⟩
 refine ⟨I.ok,I.os,hg,⟨fun b o e n hb hx=>?_,fun b o e n hb hx=>?_,fun b o e n hx=>?_,fun b o e hx=>?_,fun b xs e=>tups b xs (I.base.tups b xs e),fun b o xs e=>frzs b o xs (I.base.frzs b o xs e),fun b ps e=>?_⟩,?_,fun x c e=>?_,?_,fun x c e=>?_,fun p hp=>?_,hok,I.len⟩
 ·exact keep b o (neL b o e) hb (neC b o e hx) (I.base.keep b o e n hb hx) (I.base.free b o e n hx)
 ·obtain ⟨sl,e1⟩:=I.base.slot b o e n hb hx
  obtain ⟨sl',e2⟩:=slot b _ (neL b o e) hb (neC b o e hx) e1 (I.base.free b o e n hx)
  exact ⟨sl',e2⟩
 ·obtain ⟨o',e1⟩:=I.base.there b o e hx
  exact free b o' (neC b o e hx) e1 (I.base.free b o e n hx)
 ·obtain ⟨o',e1⟩:=I.base.there b o e hx
  exact there b o' (neC b o e hx) e1
 ·obtain ⟨m1,e1⟩:=I.base.tbls b ps e
  obtain ⟨m2,e2⟩:=tbls b _ e1
  exact ⟨m1++m2,by rw[e2,Array.append_assoc]⟩
 ·obtain ⟨m,hn,hl⟩:=I.loc
  refine ⟨m,ns m hn,fun i x v e1 e2 e3=>?_⟩
  obtain ⟨u,r,l⟩:=hl i x v e1 e2 e3
  refine ⟨u,r,?_⟩
  rcases l with l|⟨k,c,e,z⟩
  ·exact .inl l
  ·exact .inr ⟨k,c,e,cellK x c e _ z⟩
 ·obtain ⟨v,z⟩:=I.cell x c e
  exact ⟨v,cellK x c e v z⟩
 ·obtain ⟨m,⟨o,_,_,ho,_⟩,_⟩:=I.loc
  exact free _ o (fun z=>(hch _ z).2.1 rfl) ho I.free
 ·obtain ⟨v,o,ho,hd⟩:=I.cell x c e
  exact free c o (fun z=>(hch c z).2.2.1 x c e rfl) ho (I.freeC x c e)
 ·obtain ⟨e,n,ne,nf,d⟩:=I.pin p hp
  have nch:p.1∉ch:=fun z=>(hch p.1 z).2.2.2 p hp rfl
  exact ⟨keep p.1 p.2 ne nf nch e n,free p.1 p.2 nch e n,ne,nf,d⟩
theorem Inv.un {t':Nat} (I:Inv X pins σ H s) (u:Un X.fs [] H H' s.heap h') (hok:HOk X.prog X.w H' h'):Inv X pins σ H' { s with heap:=h',toks:=t' }:=by
 obtain ⟨m,⟨o,es,ep,ho,r⟩,_⟩:=id I.loc
 obtain ⟨sl,hL⟩:=u.any ho I.free (by simp)
 exact I.step (g':=s.gens) (d':=s.drawn) (ch:=[]) (fun _ z=>nomatch z) (fun b o _ hb _ e n=>u.keep b o e n hb (by simp)) (fun b o _ hb _ e n=>u.slot b o e n hb (by simp)) (fun b o _ e n=>u.free b o e n (by simp)) (fun b o _ e=>u.there b o e (by simp)) u.tups u.frzs u.tbls (fun m' hm=>by
  obtain ⟨o',es',ep',ho',r'⟩:=hm
  rw[ho] at ho';cases ho'
  exact ⟨_,es',ep',hL,r'⟩) hok I.bare
theorem Inv.call {g':Array GenState}{t':Nat}{d':Drawn}{ch:List Addr} (I:Inv X pins σ H s) (u:Un (frs X.stack) ch H H' s.heap h') (hok:HOk X.prog X.w H' h') (hg:AllBare g')
  (hch:∀ b∈ch,(b∈X.ex∨X.s₀.heap.objs.size≤b)∧b≠X.env.locals∧(∀ x c,X.env.cells.lookup x=some c→c≠b)∧∀ p∈X.pn++pins,p.1≠b) :
  Inv X pins σ H' { s with heap:=h',gens:=g',drawn:=d',toks:=t' }:=by
 obtain ⟨m,⟨o,es,ep,ho,r⟩,_⟩:=id I.loc
 obtain ⟨sl,hL⟩:=u.any ho I.free fun z=>(hch _ z).2.1 rfl
 exact I.step (ch:=ch) hch (fun b o hL hb hc e n=>u.keep b o e n (fun z=>(List.mem_cons.mp (I.stkSub b z)).elim hL hb) hc) (fun b o _ _ hc e n=>u.any e n hc) (fun b o hc e n=>u.free b o e n hc) (fun b o hc e=>u.there b o e hc) u.tups u.frzs u.tbls (fun m' hm=>by
  obtain ⟨o',es',ep',ho',r'⟩:=hm
  rw[ho] at ho';cases ho'
  exact ⟨_,es',ep',hL,r'⟩) hok hg
theorem Inv.turned {t':Nat}{it:Addr} (I:Inv X pins σ H s) (k:∀ b o,b≠it→s.heap.get? b=some o→h'.get? b=some o) (hn:H it=none) (hL:it≠X.env.locals)
  (h1:it∈X.ex∨X.s₀.heap.objs.size≤it) (h2:∀ x c,X.env.cells.lookup x=some c→c≠it) (h3:∀ p∈X.pn++pins,p.1≠it):Inv X pins σ H { s with heap:=h',toks:=t' }:=by
 have nit:∀ b u,H b=some u→b≠it:=fun b u e z=>by rw[z,hn] at e;cases e
 refine I.step (g':=s.gens) (d':=s.drawn) (ch:=[it]) (fun b hb=>?_) (fun b o _ _ hc e _=>k b o (fun z=>hc (by simp[z])) e) (fun b o _ _ hc e _=>⟨o.slots,k b o (fun z=>hc (by simp[z])) e⟩) (fun _ _ _ _ n=>n)
  (fun b o hc e=>⟨o,k b o (fun z=>hc (by simp[z])) e⟩) (fun _ _ e=>e) (fun _ _ _ e=>e) (fun b ps e=>⟨#[],by rw[e];simp⟩) (fun m hm=>?_) (fun b u e=>?_) I.bare
 ·have e:b=it:=by simpa using hb
  subst e
  exact ⟨h1,hL,h2,h3⟩
 ·obtain ⟨o,es,ep,ho,r⟩:=hm
  exact ⟨o,es,ep,k _ o (Ne.symm hL) ho,r⟩
 ·refine (I.hok b u e).stay (fun c v hc q=>k c v ?_ q) (fun _ q=>q) fun _ _ q=>q
  rcases hc with z|z
  ·rw[z];exact nit b u e
  ·exact nit c _ z
theorem Inv.tok (I:Inv X pins σ H s) (t:Nat):Inv X pins σ H { s with toks:=t }:=I.un (h':=s.heap) (t':=t) Un.refl I.hok
theorem Inv.kept {t':Nat} (I:Inv X pins σ H s) (k:∀ b u,s.heap.get? b=some u→h'.get? b=some u):Inv X pins σ H { s with heap:=h',toks:=t' }:=I.un (Un.kept k) (I.hok.kept k)
theorem Inv.laid {a:Addr}{o:HO}{t':Nat} (I:Inv X pins σ H s) (k:∀ b u,s.heap.get? b=some u→h'.get? b=some u) (hp:s.heap.objs.size≤a) (new:yav X.prog X.w (upd H a o) h' a o) :
  Inv X pins σ (upd H a o) { s with heap:=h',toks:=t' }:=I.un (Un.laid k hp (I.hok.fresh hp)) (I.hok.laid k hp new)
theorem Inv.write {x e:Addr}{o:HO}{t':Nat} (I:Inv X pins σ H s) (mu:Mut (H x)) (he:e=x∨H e=some (.own x)) (k:∀ b u,b≠e→s.heap.get? b=some u→h'.get? b=some u) (heo:∃ u,h'.get? e=some u)
  (new:yav X.prog X.w (upd H x o) h' x o):Inv X pins σ (upd H x o) { s with heap:=h',toks:=t' }:=I.un (Un.write mu he k heo) (I.hok.write mu he k heo new)
theorem Inv.weak {σ':List (Option V)} (I:Inv X pins σ H s) (hl:σ'.length=σ.length) (w:∀ (i:Nat) v,σ'[i]?=some (some v)→σ[i]?=some (some v)):Inv X pins σ' H s:=
 ⟨I.ok,I.os,I.bare,I.base,let ⟨m,hn,hl'⟩:=I.loc;⟨m,hn,fun i x v e1 e2 e3=>hl' i x v e1 (w i v e2) e3⟩,I.cell,I.free,I.freeC,I.pin,I.hok,hl.trans I.len⟩
theorem Inv.pins_of {pins':List (Addr×Obj)} (I:Inv X pins σ H s) (h:∀ p∈pins',s.heap.get? p.1=some p.2∧H p.1=none∧p.1≠X.env.locals∧p.1∉X.fs∧∀ v,p.2.data≠.cell v):Inv X pins' σ H s:=
 ⟨I.ok,I.os,I.bare,I.base,I.loc,I.cell,I.free,I.freeC,fun p hp=>(List.mem_append.mp hp).elim (fun z=>I.pin p (List.mem_append_left _ z)) (h p),I.hok,I.len⟩
theorem qee {N:List Str} (hN:N.Nodup) {i j:Nat}{x:Str} (a:N[i]?=some x) (b:N[j]?=some x):i=j:=by
 obtain ⟨h1,e1⟩:=List.getElem?_eq_some_iff.mp a
 obtain ⟨h2,e2⟩:=List.getElem?_eq_some_iff.mp b
 exact (List.getElem_inj hN).mp (e1.trans e2.symm)
theorem yhd {M:Model}{A:Around}{E:Value→Shared→Prop}{i:Nat}{x:Str}{v:V}{u:Value}{Q:Unit→Shared→Prop} (I:Inv X pins σ H s) (hN:X.N.Nodup) (hi:X.N[i]?=some x) (hx:Loc X.env.scope x) (r:RelV v u)
  (h:∀ s',Inv X pins (σ.set i (some v)) H s'→(∃ a,Heap.SameBut a s.heap s'.heap∧(a=X.env.locals∨X.env.cells.lookup x=some a))→Q () s') (hf:X.fn x=true∨X.env.scope.names.lookup x=some .local:=by first|exact .inl rfl|exact .inr rfl|assumption):wpAny M A (storeName X.env x u) Q E s:=by
 obtain ⟨m,hn,hl⟩:=id I.loc
 have hcls:(X.env.scope.kind == .class||(X.env.scope.kind == .module&&X.env.locals != X.env.globals))=false:=by rw[I.ok.kind];rfl
 have hiσ:i<σ.length:=by rw[I.len];exact (List.getElem?_eq_some_iff.mp hi).1
 have cne:=I.cne
 have tracked:∀ {a:Addr}{h':Heap},(∃ o,s.heap.get? a=some o∧H a=none)→Heap.SameBut a s.heap h'→HOk X.prog X.w H h':=fun {a h'} ha hs b ob e=>by
  obtain ⟨_,_,hfree⟩:=ha
  refine (I.hok b ob e).stay (fun c w' hc q=>(hs.2 c ?_).trans q) (fun _ q=>q) fun _ _ q=>q
  rintro rfl
  rcases hc with rfl|hc
  ·rw[hfree] at e;cases e
  ·rw[hfree] at hc;cases hc
 rcases hx with hk|hk
 ·refine wpAny_storeName_local hk hn (fun h' hn' hs=>?_) hcls
  obtain ⟨oL,_,_,hoL,_⟩:=id hn
  refine h _ ⟨I.ok,I.os,I.bare,⟨fun b o e n hb hx=>?_,fun b o e n hb hx=>?_,I.base.free,fun b o e hx=>?_,I.base.tups,I.base.frzs,I.base.tbls⟩,⟨_,hn',fun j y v' e1 e2 e3=>?_⟩,fun y c e=>?_,I.free,I.freeC,fun p hp=>?_,tracked ⟨oL,hoL,I.free⟩ hs,by simpa using I.len⟩ ⟨_,hs,.inl rfl⟩
  ·exact (hs.2 b (Nat.ne_of_lt (Nat.lt_of_lt_of_le (Heap.lt_size e) I.ok.above))).trans (I.base.keep b o e n hb hx)
  ·obtain ⟨sl,e1⟩:=I.base.slot b o e n hb hx
   exact ⟨sl,(hs.2 b (Nat.ne_of_lt (Nat.lt_of_lt_of_le (Heap.lt_size e) I.ok.above))).trans e1⟩
  ·obtain ⟨o',e1⟩:=I.base.there b o e hx
   exact ⟨o',(hs.2 b (Nat.ne_of_lt (Nat.lt_of_lt_of_le (Heap.lt_size e) I.ok.above))).trans e1⟩
  ·by_cases hj:j=i
   ·subst hj
    rw[hi] at e1;cases e1
    rw[List.getElem?_set_self hiσ] at e2
    cases e2
    exact ⟨u,r,.inl ⟨hk,by simp⟩⟩
   ·rw[List.getElem?_set_ne (Ne.symm hj)] at e2
    obtain ⟨u',r',q⟩:=hl j y v' e1 e2 e3
    refine ⟨u',r',?_⟩
    rcases q with ⟨k,e⟩|⟨k,c,e,z⟩
    ·refine .inl ⟨k,?_⟩
     have:y≠x:=fun e=>hj (qee hN e1 (e ▸ hi))
     simp[this,e]
    ·exact .inr ⟨k,c,e,z.sameBut hs (cne y c e)⟩
  ·obtain ⟨w',z⟩:=I.cell y c e
   exact ⟨w',z.sameBut hs (cne y c e)⟩
  ·obtain ⟨e,n,ne,nf,d⟩:=I.pin p hp
   exact ⟨(hs.2 p.1 ne).trans e,n,ne,nf,d⟩
 ·have hfn:X.fn x=true:=by
   rcases hf with z|z
   ·exact z
   ·rw[z] at hk;cases hk
  obtain ⟨c,hc⟩:=I.ok.has x (.inl hk)
  obtain ⟨w',z⟩:=I.cell x c hc
  refine wpAny_storeName_cell I.ok.kind hk hc z (fun h' hc' hs=>?_)
  obtain ⟨oc,hoc,hocd⟩:=id z
  refine h { s with heap:=h' } ⟨I.ok,I.os,I.bare,⟨fun b o e n hb hx=>?_,fun b o e n hb hx=>?_,I.base.free,fun b o e hx=>?_,I.base.tups,I.base.frzs,I.base.tbls⟩,⟨m,hn.sameBut hs (Ne.symm (cne x c hc)),fun j y v' e1 e2 e3=>?_⟩,fun y c' e=>?_,I.free,I.freeC,fun p hp=>?_,tracked ⟨oc,hoc,I.freeC x c hc⟩ hs,by simpa using I.len⟩ ⟨c,hs,.inr hc⟩
  ·exact (hs.2 b (Nat.ne_of_lt (Nat.lt_of_lt_of_le (Heap.lt_size e) (I.ok.cab x c hfn hc)))).trans (I.base.keep b o e n hb hx)
  ·obtain ⟨sl,e1⟩:=I.base.slot b o e n hb hx
   exact ⟨sl,(hs.2 b (Nat.ne_of_lt (Nat.lt_of_lt_of_le (Heap.lt_size e) (I.ok.cab x c hfn hc)))).trans e1⟩
  ·obtain ⟨o',e1⟩:=I.base.there b o e hx
   exact ⟨o',(hs.2 b (Nat.ne_of_lt (Nat.lt_of_lt_of_le (Heap.lt_size e) (I.ok.cab x c hfn hc)))).trans e1⟩
  ·by_cases hj:j=i
   ·subst hj
    rw[hi] at e1;cases e1
    rw[List.getElem?_set_self hiσ] at e2
    cases e2
    exact ⟨u,r,.inr ⟨.inl hk,c,hc,hc'⟩⟩
   ·rw[List.getElem?_set_ne (Ne.symm hj)] at e2
    obtain ⟨u',r',q⟩:=hl j y v' e1 e2 e3
    refine ⟨u',r',?_⟩
    rcases q with q|⟨k,c',e,z'⟩
    ·exact .inl q
    ·refine .inr ⟨k,c',e,z'.sameBut hs ?_⟩
     rintro rfl
     exact hj (qee hN e1 (I.ok.inj _ _ _ e hc ▸ hi))
  ·by_cases hcc:c'=c
   ·subst hcc;exact ⟨_,hc'⟩
   ·obtain ⟨w2,z2⟩:=I.cell y c' e
    exact ⟨w2,z2.sameBut hs hcc⟩
  ·obtain ⟨e,n,ne,nf,d⟩:=I.pin p hp
   refine ⟨(hs.2 p.1 ?_).trans e,n,ne,nf,d⟩
   intro q
   rw[q,hoc] at e
   have q':oc=p.2:=Option.some.inj e
   exact d w' (by rw[← q'];exact hocd)
theorem qea {M:Model}{A:Around}{E:Value→Shared→Prop}{i:Nat}{x:Str}{v:V}{u:Value}{Q:Unit→Shared→Prop} (I:Inv X pins σ H s) (hN:X.N.Nodup) (hi:X.N[i]?=some x) (hx:Loc X.env.scope x) (r:RelV v u)
  (h:∀ s',Inv X pins (σ.set i (some v)) H s'→Q () s') (hf:X.fn x=true∨X.env.scope.names.lookup x=some .local:=by first|exact .inl rfl|exact .inr rfl|assumption):wpAny M A (storeName X.env x u) Q E s:=
 yhd I hN hi hx r (fun s' I' _=>h s' I') hf
theorem Inv.call' {s':Shared}{ch:List Addr} (I:Inv X pins σ H s) (ho:s'.os=s.os) (u:Un (frs X.stack) ch H H' s.heap s'.heap) (hok:HOk X.prog X.w H' s'.heap) (hg:AllBare s'.gens)
  (hch:∀ b∈ch,(b∈X.ex∨X.s₀.heap.objs.size≤b)∧b≠X.env.locals∧(∀ x c,X.env.cells.lookup x=some c→c≠b)∧∀ p∈X.pn++pins,p.1≠b):Inv X pins σ H' s':=by
 obtain ⟨h',g',d',t',o'⟩:=s'
 have e:o'=s.os:=ho
 subst e
 exact I.call (g':=g') (t':=t') (d':=d') u hok hg hch
end
abbrev XK:=Value→Option Addr→Hp→Prop
abbrev St:=List (Option V)
abbrev VK:=V→Hp→Prop
abbrev TE:=St→Hp→VK→Prop
abbrev TT:=St→Hp→(Bool→Hp→Prop)→Prop
abbrev TA:=St→Hp→(List V→Hp→Prop)→Prop
structure Ends where
 nx:St→Hp→Prop
 rt:VK
 bk:St→Hp→Prop:=fun _ _=>False
 ct:St→Hp→Prop:=fun _ _=>False
abbrev TS:=Ends→St→Hp→Prop
def EP (X:Cx) (pins:List (Addr×Obj)) (σ:St) (Q:VK) (u:Value) (s':Shared):Prop:=∃ v H',Inv X pins σ H' s'∧RelV v u∧Q v H'
def TP (X:Cx) (pins:List (Addr×Obj)) (σ:St) (Q:Bool→Hp→Prop) (b:Bool) (s':Shared):Prop:=∃ H',Inv X pins σ H' s'∧Q b H'
def AP (X:Cx) (pins:List (Addr×Obj)) (σ:St) (Q:List V→Hp→Prop) (us:List Value) (s':Shared):Prop:=∃ vs H',Inv X pins σ H' s'∧Vals vs us∧Q vs H'
def SP (X:Cx) (pins:List (Addr×Obj)) (D:Ends) (f:Flow) (s':Shared):Prop:=
 match f with
 | .next=>∃ σ' H',Inv X pins σ' H' s'∧D.nx σ' H'
 | .brk=>∃ σ' H',Inv X pins σ' H' s'∧D.bk σ' H'
 | .cont=>∃ σ' H',Inv X pins σ' H' s'∧D.ct σ' H'
 | .ret u=>∃ v σ' H',Inv X pins σ' H' s'∧RelV v u∧D.rt v H'
def PE (X:Cx) (e:Expr) (t:TE):Prop:=
 ∀ (pins:List (Addr×Obj)) (s:Shared) (σ:St) (H:Hp) (Q:VK),Inv X pins σ H s→t σ H Q→wpAny (model X.prog X.w) X.A (eval e X.env) (EP X pins σ Q) X.xe s
def PT (X:Cx) (e:Expr) (t:TT):Prop:=
 ∀ (pins:List (Addr×Obj)) (s:Shared) (σ:St) (H:Hp) (Q:Bool→Hp→Prop),Inv X pins σ H s→t σ H Q→wpAny (model X.prog X.w) X.A (isTrue e X.env (eval e X.env)) (TP X pins σ Q) X.xe s
def PW (X:Cx) (e:Expr) (t:TT):Prop:=
 ∀ (whole:Sem Value) (pins:List (Addr×Obj)) (s:Shared) (σ:St) (H:Hp) (Q:Bool→Hp→Prop),Inv X pins σ H s→t σ H Q→wpAny (model X.prog X.w) X.A (isTrue e X.env whole) (TP X pins σ Q) X.xe s
theorem PW.pt {X:Cx}{e:Expr}{t:TT} (h:PW X e t):PT X e t:=h _
def PA (X:Cx) (es:List Expr) (t:TA):Prop:=
 ∀ (pos:Pos) (pins:List (Addr×Obj)) (s:Shared) (σ:St) (H:Hp) (Q:List V→Hp→Prop),Inv X pins σ H s→t σ H Q→wpAny (model X.prog X.w) X.A (spliced (backTo pos (starEach es X.env))) (AP X pins σ Q) X.xe s
def PS (X:Cx) (st:Stmt) (t:TS):Prop:=
 ∀ (pins:List (Addr×Obj)) (s:Shared) (σ:St) (H:Hp) (D:Ends),Inv X pins σ H s→t D σ H→wpAny (model X.prog X.w) X.A (exec st X.env) (SP X pins D) X.xe s
def PSs (X:Cx) (st:List Stmt) (t:TS):Prop:=
 ∀ (pins:List (Addr×Obj)) (s:Shared) (σ:St) (H:Hp) (D:Ends),Inv X pins σ H s→t D σ H→wpAny (model X.prog X.w) X.A (execs st X.env) (SP X pins D) X.xe s
theorem thn {α:Type}{t:Sem α}{Q Q':α→Shared→Prop}{M:Model}{A:Around}{E:Value→Shared→Prop}{s:Shared} (h:wpAny M A t Q E s) (hQ:∀ a s,Q a s→Q' a s):wpAny M A t Q' E s:=wpAny_mono h hQ fun _ _ x=>x
section
variable {X:Cx}
def tVar (i:Nat):TE:=fun σ H Q=>∃ v,σ[i]?=some (some v)∧Q v H
def tC (v:V):TE:=fun _ H Q=>Q v H
theorem pe_var {i:Nat}{x:Str}{pos:Pos} (hN:X.N[i]?=some x) (hv:Vis X.env.scope x) (hd:(x == ("__debug__" : Str))=false:=by decide) (hcd:(x == ("__classdict__" : Str))=false:=by decide):PE X (.Name x pos) (tVar i):=by
 intro pins s σ H Q I h
 obtain ⟨v,e,h⟩:=h
 obtain ⟨m,hn,hl⟩:=I.loc
 obtain ⟨u,r,l⟩:=hl i x v hN e hv
 have fin:EP X pins σ Q u s:=⟨v,H,I,r,h⟩
 rcases l with ⟨hk,hm⟩|⟨hk,c,hc,hcell⟩
 ·exact wpAny_Name (wpAny_loadName_local I.ok.kind hk hn hm fin) hd
 ·rcases hk with hk|hk
  ·exact wpAny_Name (wpAny_loadName_cell I.ok.kind hk hc hcell fin) hd
  ·exact wpAny_Name (wpAny_loadName_free I.ok.kind hk hc hcell fin hcd) hd
theorem qac {i j pos}:PE X (.Constant (.int i) j pos) (tC (.int i)):=fun _ _ _ H _ I h=>wpAny_Constant_int ⟨.int i,H,I.tok _,⟨_,rfl⟩,h⟩
theorem qd4 {b j pos}:PE X (.Constant (.bool b) j pos) (tC (.bl b)):=fun _ _ _ H _ I h=>Constant_bool ⟨.bl b,H,I,rfl,h⟩
theorem yg1 {j pos}:PE X (.Constant .none j pos) (tC .non):=fun _ _ _ H _ I h=>Constant_none ⟨.non,H,I,rfl,h⟩
theorem qan {x j pos}:PE X (.Constant (.str x) j pos) (tC (.str x)):=fun _ _ _ H _ I h=>Calls.Constant_str ⟨.str x,H,I.tok _,⟨_,rfl⟩,h⟩
def Gl (X:Cx) (x:Str):Prop:=X.env.kindOf x=some .globalImplicit
theorem qdn {E:Value→Shared→Prop}{pins:List (Addr×Obj)}{s:Shared}{σ:St}{H:Hp}{x:Str}{u:Value}{pos:Pos}{Q:Value→Shared→Prop} (I:Inv X pins σ H s) (hg:Gl X x) (hm:X.mg x=some u) (h:Q u s)
  (hd:(x == ("__debug__" : Str))=false:=by decide):wpAny (model X.prog X.w) X.A (eval (.Name x pos) X.env) Q E s:=
 Calls.Name_function_global I.ok.kind hg (Calls.loadGlobal_global (by rw[I.ok.glob];exact I.mod.glob.keeps I.bk) hm h) hd
theorem ydz {E:Value→Shared→Prop}{pins:List (Addr×Obj)}{s:Shared}{σ:St}{H:Hp}{x:Str}{u:Value}{pos:Pos}{Q:Value→Shared→Prop} (I:Inv X pins σ H s) (hg:Gl X x) (hm:X.mg x=none) (hv:bootBuiltins x=some u) (h:Q u s)
  (hn:x≠"__name__":=by decide) (hd:(x == ("__debug__" : Str))=false:=by decide):wpAny (model X.prog X.w) X.A (eval (.Name x pos) X.env) Q E s:=by
 obtain ⟨mb,h1,h2⟩:=I.mod.blt
 exact Calls.Name_function_global I.ok.kind hg (Calls.loadGlobal_builtin (by rw[I.ok.glob];exact I.mod.glob.keeps I.bk) hm (by rw[I.ok.blt];exact h1.keeps I.bk) ((h2 x hn).trans hv) h) hd
theorem qa8 {x:Str}{v:V}{u:Value}{pos:Pos} (hg:Gl X x) (hm:X.mg x=some u) (r:RelV v u) (hd:(x == ("__debug__" : Str))=false:=by decide):PE X (.Name x pos) (tC v):=
 fun _ _ _ H _ I h=>qdn I hg hm ⟨v,H,I,r,h⟩ hd
theorem qas {x:Str}{v:V}{u:Value}{pos:Pos} (hg:Gl X x) (hm:X.mg x=none) (hv:bootBuiltins x=some u) (r:RelV v u) (hn:x≠"__name__":=by decide) (hd:(x == ("__debug__" : Str))=false:=by decide):PE X (.Name x pos) (tC v):=
 fun _ _ _ H _ I h=>ydz I hg hm hv ⟨v,H,I,r,h⟩ hn hd
variable {a b:Expr}{ta tb:TE}{pos:Pos}
def tB (t:TE):TT:=fun σ H Q=>t σ H fun x H1=>∃ c,x=.bl c∧Q c H1
theorem qcx {e:Expr}{t:TE} (h:PE X e t) (he:∀ whole,isTrue e X.env whole=(do let v ← whole;standAt e.pos;holding [v] (truthy v)):=by intro _;rfl):PT X e (tB t):=by
 intro pins s σ H Q I hw
 refine isTrue_plain (thn (h pins s σ H _ I hw) fun v s1 ⟨x,H1,I1,r1,q1⟩=>?_) (he _)
 obtain ⟨d,rfl,q⟩:=q1
 cases r1
 exact wpAny_truthy_bool ⟨H1,I1,q⟩
variable {tA tB':TT}{rest:List Expr}
def tAnd (t u:TT):TT:=fun σ H Q=>t σ H fun c H1=>if c=true then u σ H1 Q else Q false H1
def tOr (t u:TT):TT:=fun σ H Q=>t σ H fun c H1=>if c=true then Q true H1 else u σ H1 Q
def tNot (t:TT):TT:=fun σ H Q=>t σ H fun c H1=>Q (!c) H1
theorem pw_and1 (ha:PT X a tA):PW X (.BoolOp .And [a] pos) tA:=by
 intro wh pins s σ H Q I h
 refine isTrue_and (thn (ha pins s σ H Q I h) fun c s1 e=>?_)
 cases c with
 | true=>exact isTrue_and_nil e
 | false=>exact e
theorem qf5 (ha:PT X a tA):PW X (.BoolOp .Or [a] pos) tA:=by
 intro wh pins s σ H Q I h
 refine isTrue_or (thn (ha pins s σ H Q I h) fun c s1 e=>?_)
 cases c with
 | false=>exact isTrue_or_nil e
 | true=>exact e
theorem pw_and (ha:PT X a tA) (hb:PW X (.BoolOp .And (b::rest) pos) tB'):PW X (.BoolOp .And (a::b::rest) pos) (tAnd tA tB'):=by
 intro wh pins s σ H Q I h
 refine isTrue_and (thn (ha pins s σ H _ I h) fun c s1 ⟨H1,I1,q1⟩=>?_)
 cases c with
 | true=>exact hb wh pins s1 σ H1 Q I1 q1
 | false=>exact ⟨H1,I1,q1⟩
theorem pw_or (ha:PT X a tA) (hb:PW X (.BoolOp .Or (b::rest) pos) tB'):PW X (.BoolOp .Or (a::b::rest) pos) (tOr tA tB'):=by
 intro wh pins s σ H Q I h
 refine isTrue_or (thn (ha pins s σ H _ I h) fun c s1 ⟨H1,I1,q1⟩=>?_)
 cases c with
 | true=>exact ⟨H1,I1,q1⟩
 | false=>exact hb wh pins s1 σ H1 Q I1 q1
theorem qda (ha:PT X a tA):PT X (.UnaryOp .Not a pos) (tNot tA):=by
 intro pins s σ H Q I h
 exact isTrue_not (ha pins s σ H (fun c H1=>Q (!c) H1) I h)
def tAndV (ta tb:TE):TE:=fun σ H Q=>ta σ H fun x H1=>∃ c,x=.bl c∧if c=true then tb σ H1 Q else Q (.bl false) H1
def tNotV (ta:TE):TE:=fun σ H Q=>ta σ H fun x H1=>∃ c,x=.bl c∧Q (.bl (!c)) H1
theorem ybg {op}{t:TE} (h:PE X a t):PE X (.BoolOp op [a] pos) t:=fun pins s σ H Q I hw=>BoolOp_one (h pins s σ H Q I hw)
theorem qay (ha:PE X a ta) (hb:PE X (.BoolOp .And (b::rest) pos) tb):PE X (.BoolOp .And (a::b::rest) pos) (tAndV ta tb):=by
 intro pins s σ H Q I h
 refine BoolOp_and (thn (ha pins s σ H _ I h) fun v s1 ⟨x,H1,I1,r1,q1⟩=>?_)
 obtain ⟨c,rfl,q1⟩:=q1
 cases r1
 refine wpAny_truthy_bool ?_
 cases c with
 | true=>exact hb pins s1 σ H1 Q I1 q1
 | false=>exact ⟨.bl false,H1,I1,rfl,q1⟩
theorem yhb (ha:PE X a ta):PE X (.UnaryOp .Not a pos) (tNotV ta):=by
 intro pins s σ H Q I h
 refine UnaryOp_ (thn (ha pins s σ H _ I h) fun v s1 ⟨x,H1,I1,r1,q1⟩=>?_)
 obtain ⟨c,rfl,q1⟩:=q1
 cases r1
 exact not_of (wpAny_truthy_bool ⟨.bl (!c),H1,I1,rfl,q1⟩)
def tIf (t:TT) (ta tb:TE):TE:=fun σ H Q=>t σ H fun c H1=>if c=true then ta σ H1 Q else tb σ H1 Q
theorem pe_ifExp {c:Expr} (hc:PT X c tA) (ha:PE X a ta) (hb:PE X b tb):PE X (.IfExp c a b pos) (tIf tA ta tb):=by
 intro pins s σ H Q I h
 refine wpAny_IfExp (thn (hc pins s σ H _ I h) fun d s1 ⟨H1,I1,q1⟩=>?_)
 cases d with
 | true=>exact ha pins s1 σ H1 Q I1 q1
 | false=>exact hb pins s1 σ H1 Q I1 q1
end
def SqL (K:PySem.W.Frag) (H:Hp) (a:Addr) (xs:List V):Prop:=
 Rd H a (.lst xs)∨
  ∃ (o:Obj) (its:Array Value) (n:Nat),K.lookup a=some o∧o.cls=.type "list"∧o.dict=none∧o.data=.seq its n∧its.size≤sizeLine∧Vals xs its.toList
def SqT (K:PySem.W.Frag) (H:Hp) (a:Addr) (xs:List V):Prop:=
 Rd H a (.tup xs)∨
  ∃ (o:Obj) (its:Array Value) (n:Nat),K.lookup a=some o∧o.cls=.type "tuple"∧o.data=.seq its n∧its.size≤sizeLine∧Vals xs its.toList
def absV:Value→Option V
 | .none=>some .non
 | .bool b=>some (.bl b)
 | .int i _=>some (.int i)
 | .str x _=>some (.str x)
 | .bytes b _=>some (.byt b)
 | .float b _=>some (.flt b)
 | .ref a=>some (.ref a)
 | .type n=>some (.ty n)
 | _=>none
theorem RelV.abs {x:V}{u:Value} (r:RelV x u):absV u=some x:=by
 cases x with
 | non=>cases r;rfl
 | bl _=>cases r;rfl
 | int _=>obtain ⟨t,rfl⟩:=r;rfl
 | str _=>obtain ⟨t,rfl⟩:=r;rfl
 | byt _=>obtain ⟨t,rfl⟩:=r;rfl
 | flt _=>obtain ⟨t,rfl⟩:=r;rfl
 | ref _=>cases r;rfl
 | ty _=>cases r;rfl
theorem RelV.inj {x y:V}{u:Value} (r:RelV x u) (q:RelV y u):x=y:=Option.some.inj (r.abs.symm.trans q.abs)
theorem Vals.inj:∀ {xs ys:List V}{us:List Value},Vals xs us→Vals ys us→xs=ys
 | _,_,_,.nil,.nil=>rfl
 | _,_,_,.cons r t,.cons r' t'=>by rw[r.inj r',Vals.inj t t']
section
variable {X:Cx}{pins:List (Addr×Obj)}{σ:St}{H:Hp}{s:Shared}{a:Addr}{xs ys:List V}
theorem SqL.of {K:PySem.W.Frag} (h:H a=some (.lst xs)):SqL K H a xs:=.inl (.inl h)
theorem SqT.of {K:PySem.W.Frag} (h:H a=some (.tup xs)):SqT K H a xs:=.inl (.inl h)
theorem Inv.list (I:Inv X pins σ H s) (h:SqL X.K H a xs):∃ its:List Value,Vals xs its∧PlainL s.heap a its.toArray∧xs.length≤sizeLine:=by
 rcases h with h|⟨o,its,n,hk,hc,hd,hs,hz,r⟩
 ·obtain ⟨z,its,n,r,e⟩:=h.ok I.hok
  exact ⟨its,r,⟨_,n,e,rfl,rfl,rfl⟩,z⟩
 ·refine ⟨its.toList,r,⟨o,n,I.kIn a o hk,hc,hd,by simpa using hs⟩,?_⟩
  have e:=r.length
  simp only[Array.length_toList] at e
  omega
theorem Inv.tuple (I:Inv X pins σ H s) (h:SqT X.K H a xs):∃ its:List Value,Vals xs its∧IsTup s.heap a its.toArray∧xs.length≤sizeLine:=by
 rcases h with h|⟨o,its,n,hk,hc,hs,hz,r⟩
 ·obtain ⟨z,its,r,p⟩:=h.ok I.hok
  exact ⟨its,r,p,z⟩
 ·refine ⟨its.toList,r,⟨o,I.kIn a o hk,hc,n,by simpa using hs⟩,?_⟩
  have e:=r.length
  simp only[Array.length_toList] at e
  omega
theorem Inv.list_inj (I:Inv X pins σ H s) (h:SqL X.K H a xs) (h':SqL X.K H a ys):xs=ys:=by
 obtain ⟨its,r,⟨o,n,e,_,_,d⟩,_⟩:=I.list h
 obtain ⟨its',r',⟨o',n',e',_,_,d'⟩,_⟩:=I.list h'
 rw[e] at e';cases e'
 rw[d] at d'
 injection d' with d1 _
 have:its=its':=by simpa using congrArg Array.toList d1
 subst this
 exact r.inj r'
theorem Inv.tuple_inj (I:Inv X pins σ H s) (h:SqT X.K H a xs) (h':SqT X.K H a ys):xs=ys:=by
 obtain ⟨its,r,⟨o,e,_,n,d⟩,_⟩:=I.tuple h
 obtain ⟨its',r',⟨o',e',_,n',d'⟩,_⟩:=I.tuple h'
 rw[e] at e';cases e'
 rw[d] at d'
 injection d' with d1 _
 have:its=its':=by simpa using congrArg Array.toList d1
 subst this
 exact r.inj r'
end
abbrev Cx.wish (X:Cx) (E:Value→Shared→Prop):Cx:={ X with xe:=E }
abbrev Cx.nox (X:Cx):Cx:=X.wish fun _ _=>False
theorem Cx.Ok.wish {X:Cx} (ok:X.Ok) (E:Value→Shared→Prop):(X.wish E).Ok:=
 ⟨ok.mod,ok.kind,ok.glob,ok.blt,ok.above,ok.inj,ok.has,ok.cab,ok.hd,ok.frames,ok.stk,ok.exf,ok.bs,ok.bsz,ok.noex,ok.exfs,ok.funs,ok.frf⟩
theorem Cx.Ok.unwish {X:Cx}{E:Value→Shared→Prop} (ok:(X.wish E).Ok):X.Ok:=
 ⟨ok.mod,ok.kind,ok.glob,ok.blt,ok.above,ok.inj,ok.has,ok.cab,ok.hd,ok.frames,ok.stk,ok.exf,ok.bs,ok.bsz,ok.noex,ok.exfs,ok.funs,ok.frf⟩
section
variable {X:Cx}{pins:List (Addr×Obj)}{σ:St}{H:Hp}{s:Shared}{E:Value→Shared→Prop}
theorem Inv.wish (I:Inv X pins σ H s) (E:Value→Shared→Prop):Inv (X.wish E) pins σ H s:=⟨I.ok.wish E,I.os,I.bare,I.base,I.loc,I.cell,I.free,I.freeC,I.pin,I.hok,I.len⟩
theorem Inv.unwish (I:Inv (X.wish E) pins σ H s):Inv X pins σ H s:=⟨I.ok.unwish,I.os,I.bare,I.base,I.loc,I.cell,I.free,I.freeC,I.pin,I.hok,I.len⟩
theorem SP.unwish {D:Ends}{f:Flow}{s':Shared} (h:SP (X.wish E) pins D f s'):SP X pins D f s':=by
 cases f with
 | next=>obtain ⟨σ',H',I,q⟩:=h;exact ⟨σ',H',I.unwish,q⟩
 | brk=>obtain ⟨σ',H',I,q⟩:=h;exact ⟨σ',H',I.unwish,q⟩
 | cont=>obtain ⟨σ',H',I,q⟩:=h;exact ⟨σ',H',I.unwish,q⟩
 | ret u=>obtain ⟨v,σ',H',I,r,q⟩:=h;exact ⟨v,σ',H',I.unwish,r,q⟩
theorem PSs.nox {st:List Stmt}{t:TS} (h:PSs X.nox st t):PSs X st t:=fun pins s σ H D I hw=>
 wpAny_mono (h pins s σ H D (I.wish _) hw) (fun _ _ q=>q.unwish) fun _ _ z=>False.elim z
end
section
variable {X:Cx}{st:Stmt}{rest:List Stmt}{t u:TS}{e:Expr}{te:TE}{pos:Pos}
def tNext:TS:=fun D σ H=>D.nx σ H
def tSeq (t u:TS):TS:=fun D σ H=>t { D with nx:=u D } σ H
theorem qby:PSs X [] tNext:=fun _ _ σ H _ I h=>wpAny_execs_nil ⟨σ,H,I,h⟩
theorem qak (h1:PS X st t) (h2:PSs X rest u):PSs X (st::rest) (tSeq t u):=by
 intro pins s σ H D I h
 refine wpAny_execs_cons (thn (h1 pins s σ H { D with nx:=u D } I h) fun f s1 q=>?_)
 cases f with
 | next=>
  obtain ⟨σ',H',I',q⟩:=q
  exact h2 pins s1 σ' H' D I' q
 | ret v=>exact q
 | brk=>exact q
 | cont=>exact q
theorem qai (h1:PS X st t):PSs X [st] t:=by
 intro pins s σ H D I h
 refine wpAny_execs_cons (thn (h1 pins s σ H D I h) fun f s1 q=>?_)
 cases f with
 | next=>exact wpAny_execs_nil q
 | ret v=>exact q
 | brk=>exact q
 | cont=>exact q
theorem Inv.quiet {pins:List (Addr×Obj)}{σ:St}{H:Hp}{s:Shared} (I:Inv X pins σ H s):interactive X.env=false:=by simp[interactive,I.ok.kind]
def tDrop (te:TE):TS:=fun D σ H=>te σ H fun _ H1=>D.nx σ H1
theorem qd8 (he:PE X e te) (hs:swapsWith e none pos.line X.env=pure false:=by rfl):PS X (.Expr e pos) (tDrop te):=by
 intro pins s σ H D I h
 exact wpAny_Expr_any (thn (he pins s σ H _ I h) fun v s1 ⟨x,H1,I1,r1,q1⟩=>⟨σ,H1,I1,q1⟩) I.quiet hs
def tRet (te:TE):TS:=fun D σ H=>te σ H D.rt
theorem qa1 (he:PE X e te):PS X (.Return (some e) pos) (tRet te):=by
 intro pins s σ H D I h
 exact wpAny_Return_some (thn (he pins s σ H _ I h) fun v s1 ⟨x,H1,I1,r1,q1⟩=>⟨x,σ,H1,I1,r1,q1⟩)
def tIfS (c:TT) (t u:TS):TS:=fun D σ H=>c σ H fun b H1=>if b=true then t D σ H1 else u D σ H1
theorem qd9 {c:Expr}{a b:List Stmt}{tc:TT} (hc:PT X c tc) (ha:PSs X a t) (hb:PSs X b u):PS X (.If c a b pos) (tIfS tc t u):=by
 intro pins s σ H D I h
 refine wpAny_If (thn (hc pins s σ H _ I h) fun d s1 ⟨H1,I1,q1⟩=>?_)
 cases d with
 | true=>exact ha pins s1 σ H1 D I1 q1
 | false=>exact hb pins s1 σ H1 D I1 q1
def tNever:TS:=fun _ _ _=>False
theorem yef:PS X st tNever:=fun _ _ _ _ _ _ h=>h.elim
end
abbrev TG:=V→St→Hp→(St→Hp→Prop)→Prop
abbrev TGs:=List V→St→Hp→(St→Hp→Prop)→Prop
def PG (X:Cx) (target:Expr) (t:TG):Prop:=
 ∀ (pins:List (Addr×Obj)) (s:Shared) (σ:St) (H:Hp) (v:V) (u:Value) (Q:St→Hp→Prop),Inv X pins σ H s→RelV v u→t v σ H Q→
  wpAny (model X.prog X.w) X.A (assign target X.env u) (fun _ s'=>∃ σ' H',Inv X pins σ' H' s'∧Q σ' H') X.xe s
def PGs (X:Cx) (ts:List Expr) (t:TGs):Prop:=
 ∀ (pins:List (Addr×Obj)) (s:Shared) (σ:St) (H:Hp) (vs:List V) (us:List Value) (Q:St→Hp→Prop),Inv X pins σ H s→Vals vs us→t vs σ H Q→
  wpAny (model X.prog X.w) X.A (assignInOrder ((assignEach ts X.env).map (·.2)) us) (fun _ s'=>∃ σ' H',Inv X pins σ' H' s'∧Q σ' H') X.xe s
section
variable {X:Cx}{pos:Pos}
def qgh (i:Nat):TG:=fun v σ H Q=>Q (σ.set i (some v)) H
theorem qal {i:Nat}{x:Str} (hN:X.N.Nodup) (hi:X.N[i]?=some x) (hx:Loc X.env.scope x) (hf:X.fn x=true∨X.env.scope.names.lookup x=some .local:=by first|exact .inl rfl|exact .inr rfl|assumption):PG X (.Name x pos) (qgh i):=by
 intro pins s σ H v u Q I r h
 exact wpAny_assign_Name (qea I hN hi hx r (fun s' I'=>⟨_,H,I',h⟩) hf)
def gNil:TGs:=fun vs σ H Q=>vs=[]∧Q σ H
def gCons (t:TG) (u:TGs):TGs:=fun vs σ H Q=>∃ v r,vs=v::r∧t v σ H fun σ' H'=>u r σ' H' Q
theorem ybt:PGs X [] gNil:=by
 intro pins s σ H vs us Q I r h
 obtain ⟨e,h⟩:=h
 subst e
 cases r
 exact assignInOrder_nil ⟨σ,H,I,h⟩
theorem yao {e:Expr}{es:List Expr}{t:TG}{u:TGs} (h1:PG X e t) (h2:PGs X es u)
  (hs:(assignEach (e::es) X.env).map (·.2)=assign e X.env::(assignEach es X.env).map (·.2):=by rfl):PGs X (e::es) (gCons t u):=by
 intro pins s σ H vs us Q I r h
 obtain ⟨v,vr,e1,h⟩:=h
 subst e1
 cases r with
 | cons r rr=>
  rw[hs]
  refine assignInOrder_cons (thn (h1 pins s σ H _ _ _ I r h) fun _ s1 ⟨σ1,H1,I1,q1⟩=>?_)
  exact h2 pins s1 σ1 H1 _ _ Q I1 rr q1
def gTup (K:PySem.W.Frag) (n:Nat) (t:TGs):TG:=fun v σ H Q=>∃ a xs,v=.ref a∧SqT K H a xs∧xs.length=n∧t xs σ H Q
theorem yem {es:List Expr}{k:Nat}{t:TGs}{n:Nat} (hc:X.calm=true) (h:PGs X es t)
  (hn:(assignEach es X.env).length=n:=by rfl) (hst:(assignEach es X.env).findIdx? (·.1)=none:=by rfl):PG X (.Tuple es k pos) (gTup X.K n t):=by
 intro pins s σ H v u Q I r hw
 obtain ⟨a,xs,e1,hq,hl,hw⟩:=hw
 subst e1
 cases r
 obtain ⟨its,rv,ht,hz⟩:=I.tuple hq
 refine assign_Tuple_tuple (I.ok.hd hc) ht (by simp[hn,← hl,rv.length]) hst fun h' hx=>?_
 have I1:Inv X pins σ H { s with heap:=h' }:=I.kept (t':=s.toks) fun b o e=>hx b o (Nat.ne_of_lt (Heap.lt_size e)) e
 exact h pins _ σ H xs _ Q I1 (by simpa using rv) hw
def tAsg (te:TE) (g:TG):TS:=fun D σ H=>te σ H fun x H1=>g x σ H1 D.nx
theorem ybk {i:Nat}{x:Str}{e:Expr}{te:TE}{pos':Pos} (hN:X.N.Nodup) (hi:X.N[i]?=some x) (hx:Loc X.env.scope x) (he:PE X e te) (hs:swapsWith e (some (.Name x pos')) pos.line X.env=pure false:=by rfl) (hf:X.fn x=true∨X.env.scope.names.lookup x=some .local:=by first|exact .inl rfl|exact .inr rfl|assumption) :
  PS X (.Assign [.Name x pos'] e pos) (tAsg te (qgh i)):=by
 intro pins s σ H D I h
 refine wpAny_Assign_Name (thn (he pins s σ H _ I h) fun v s1 ⟨y,H1,I1,r1,q1⟩=>?_) hs
 exact qea I1 hN hi hx r1 (fun s2 I2=>⟨_,H1,I2,q1⟩) hf
end
structure It where
 go:Nat→Hp→Prop
 yld:Nat→Hp→V→Hp→Prop
 stop:Nat→Hp→Prop
def FpOk (X:Cx) (pins:List (Addr×Obj)) (H:Hp) (b:Addr):Prop:=
 H b=none∧b≠X.env.locals∧b∉X.fs∧(b∈X.ex∨X.s₀.heap.objs.size≤b)∧(∀ x c,X.env.cells.lookup x=some c→c≠b)∧∀ p∈X.pn++pins,p.1≠b
theorem Inv.fpOk {X:Cx}{pins:List (Addr×Obj)}{σ:St}{H H':Hp}{s:Shared}{b:Addr} (I:Inv X pins σ H s) (hb:s.heap.objs.size≤b) (hn:H' b=none):FpOk X pins H' b:=by
 refine ⟨hn,Nat.ne_of_gt (Nat.lt_of_lt_of_le I.lt hb),I.nofs hb,.inr (Nat.le_trans I.sz hb),fun x c e z=>?_,fun p hp z=>?_⟩
 ·obtain ⟨v,q⟩:=I.cell x c e
  exact absurd (Nat.lt_of_lt_of_le q.lt (by rw[z];exact hb)) (Nat.lt_irrefl _)
 ·exact absurd (Nat.lt_of_lt_of_le (Heap.lt_size (I.pin p hp).1) (by rw[z];exact hb)) (Nat.lt_irrefl _)
structure Turn (P:Program) (w:World) (K:PySem.W.Frag) (tg:Expr) (J:It) (fp:List Addr) (it:Addr) (tn:Nat→Heap→Prop):Prop where
 mem:it∈fp
 obj:∀ i h,tn i h→∀ b∈fp,∃ o,h.get? b=some o∧∀ v,o.data≠.cell v
 keep:∀ i h h',tn i h→(∀ b∈fp,∀ o,h.get? b=some o→h'.get? b=some o)→tn i h'
 item:∀ (X:Cx),X.prog=P→X.w=w→X.K=K→X.calm=true→∀ (i:Nat) (pins:List (Addr×Obj)) (s:Shared) (σ:St) (H:Hp) (E:Value→Shared→Prop),Inv X pins σ H s→(∀ b∈fp,FpOk X pins H b)→tn i s.heap→J.go i H→
  wpAny (model P w) X.A (pyNext (.ref it)) (fun r s1=>∃ u,r=some u∧
   wpAny (model P w) X.A (letOwnedTupleGo tg (.ref it) u) (fun _ s2=>∃ x H',Inv X pins σ H' s2∧RelV x u∧J.yld i H x H'∧tn (i+1) s2.heap∧∀ b∈fp,H' b=none) E s1) E s
 done:∀ (X:Cx),X.prog=P→X.w=w→X.K=K→X.calm=true→∀ (i:Nat) (pins:List (Addr×Obj)) (s:Shared) (σ:St) (H:Hp) (E:Value→Shared→Prop),Inv X pins σ H s→(∀ b∈fp,FpOk X pins H b)→tn i s.heap→J.stop i H→
  wpAny (model P w) X.A (pyNext (.ref it)) (fun r s1=>r=none∧Inv X pins σ H s1) E s
 self:∀ (A:Around) (i:Nat) (s:Shared) (Q:Value→Shared→Prop) (E:Value→Shared→Prop),tn i s.heap→Q (.ref it) s→wpAny (model P w) A (pyIter (.ref it)) Q E s
abbrev TI:=St→Hp→(It→Hp→Prop)→Prop
def PIE (X:Cx) (pins:List (Addr×Obj)) (σ:St) (tg:Expr) (R:It→Hp→Prop) (itv:Value) (s2:Shared):Prop:=
 ∃ (it:Addr) (fp:List Addr) (tn:Nat→Heap→Prop) (J:It) (H':Hp),itv=.ref it∧Inv X pins σ H' s2∧Turn X.prog X.w X.K tg J fp it tn∧tn 0 s2.heap∧(∀ b∈fp,FpOk X pins H' b)∧R J H'
def PI (X:Cx) (tg iter:Expr) (wi:TI):Prop:=
 ∀ (pins:List (Addr×Obj)) (s:Shared) (σ:St) (H:Hp) (R:It→Hp→Prop),Inv X pins σ H s→wi σ H R→
  wpAny (model X.prog X.w) X.A (eval iter X.env) (fun v s1=>wpAny (model X.prog X.w) X.A (pyIter v) (PIE X pins σ tg R) X.xe s1) X.xe s
theorem go_of {M:Model}{A:Around}{E:Value→Shared→Prop}{s:Shared}{tg:Expr}{it:Addr}{u:Value}{o:Obj}{n:String}{vs:Array Value}{Q:Unit→Shared→Prop} (ho:s.heap.get? it=some o) (hc:o.cls=.type n) (hd:o.data=.fields vs)
    (hn:["enumerate","zip","dict_itemiterator","dict_reverseitemiterator","odict_iterator","itertools.zip_longest","itertools.pairwise"].contains n=false) (hQ:Q () s):wpAny M A (letOwnedTupleGo tg (.ref it) u) Q E s:=by
  unfold letOwnedTupleGo
  cases tg<;>first
    | exact wpAny_pure hQ
    | (cases u<;>first
        | exact wpAny_pure hQ
        | (refine wpAny_bind (wpAny_load ho ?_)
           rw[hc,hd]
           show wpAny M A (if (["enumerate","zip","dict_itemiterator","dict_reverseitemiterator","odict_iterator","itertools.zip_longest","itertools.pairwise"].contains n&&vs[0]? == some (rawInt _))=true then _ else _) Q E s
           rw[if_neg (by intro h;rw[hn,Bool.false_and] at h;cases h)]
           exact wpAny_pure hQ))
def Itl (K:PySem.W.Frag) (a:Addr):It:=
 ⟨fun i H=>∃ xs x,SqL K H a xs∧xs[i]?=some x,fun i H x H'=>H'=H∧∀ xs,SqL K H a xs→xs[i]?=some x,fun i H=>∃ xs,SqL K H a xs∧xs.length≤i⟩
def Itr (lo:Int) (n:Nat):It:=⟨fun i _=>i<n,fun i H x H'=>H'=H∧x=.int (lo+i),fun i _=>n≤i⟩
theorem qgv {P:Program}{w:World}{K:PySem.W.Frag}{tg:Expr} (a it:Addr):Turn P w K tg (Itl K a) [it] it (fun i h=>h.IsListIter it a i) where
 mem:=by simp
 obj:=fun i h st b hb=>by
  have e:b=it:=by simpa using hb
  subst e
  obtain ⟨o,e,c,d⟩:=st
  exact ⟨o,e,fun v z=>by rw[d] at z;cases z⟩
 keep:=fun i h h' st k=>st.at fun o e=>k it (by simp) o e
 item:=by
  intro X hP hw hK hc i pins s σ H E I hf st hg
  subst hP hw hK
  obtain ⟨xs,x,hq,hx⟩:=hg
  obtain ⟨its,rv,p,hz⟩:=I.list hq
  obtain ⟨u,hu,ru⟩:=rv.get hx
  obtain ⟨f0,f1,f2,f3,f4,f5⟩:=hf it (by simp)
  refine wpAny_pyNext_list_item st p.isList (x:=u) (by simpa using hu) fun h' st' sb=>?_
  have I1:Inv X pins σ H { s with heap:=h' }:=I.turned (t':=s.toks) (fun b o hb e=>(sb.2 b hb).trans e) f0 f1 f3 f4 f5
  obtain ⟨o,e,c,d⟩:=id st'
  exact ⟨u,rfl,go_of (s:={ s with heap:=h' }) e c d (by decide) ⟨x,H,I1,ru,⟨rfl,fun ys hy=>by rw[I.list_inj hy hq];exact hx⟩,st',fun b hb=>(hf b hb).1⟩⟩
 done:=by
  intro X hP hw hK hc i pins s σ H E I hf st hg
  subst hP hw hK
  obtain ⟨xs,hq,hx⟩:=hg
  obtain ⟨its,rv,p,hz⟩:=I.list hq
  obtain ⟨f0,f1,f2,f3,f4,f5⟩:=hf it (by simp)
  have hl:=rv.length
  exact wpAny_pyNext_list_end (I.ok.hd hc) st p.isList (by simp;omega) fun h' eb=>⟨rfl,I.turned (t':=s.toks) (fun b o hb e=>eb b o hb e) f0 f1 f3 f4 f5⟩
 self:=fun _ _ _ _ _ st h=>wpAny_pyIter_listiter st h
theorem qgj {P:Program}{w:World}{K:PySem.W.Frag}{tg:Expr} (it:Addr) (lo:Int) (n:Nat):Turn P w K tg (Itr lo n) [it] it (fun i h=>IsRangeIter h it (lo+(i:Nat)*1) ((n:Int)-(i:Nat)) 1) where
 mem:=by simp
 obj:=fun i h st b hb=>by
  have e:b=it:=by simpa using hb
  subst e
  exact ⟨_,st,fun v z=>by
   have z':Data.fields _=Data.cell v:=z
   cases z'⟩
 keep:=fun i h h' st k=>k it (by simp) _ st
 item:=by
  intro X hP hw hK hc i pins s σ H E I hf st hg
  subst hP hw hK
  obtain ⟨f0,f1,f2,f3,f4,f5⟩:=hf it (by simp)
  have W:=Walks.range (prog:=X.prog) (w:=X.w) (I.ok.hd hc) it lo 1 n
  refine W.item i s _ _ hg st fun v h' tk hv st' kk=>?_
  obtain ⟨t,rfl⟩:=hv
  have I1:Inv X pins σ H { s with heap:=h',toks:=tk }:=I.turned (fun b o hb e=>kk b o (by simpa using hb) e) f0 f1 f3 f4 f5
  refine ⟨_,rfl,go_of (s:={ s with heap:=h',toks:=tk }) (n:="range_iterator") st' rfl rfl (by decide) ⟨.int (lo+i),H,I1,⟨t,?_⟩,⟨rfl,rfl⟩,st',fun b hb=>(hf b hb).1⟩⟩
  rw[Int.mul_one]
 done:=by
  intro X hP hw hK hc i pins s σ H E I hf st hg
  subst hP hw hK
  obtain ⟨f0,f1,f2,f3,f4,f5⟩:=hf it (by simp)
  exact wpAny_pyNext_range_end (I.ok.hd hc) st (by have:n≤i:=hg;omega) fun h' eb=>⟨rfl,I.turned (t':=s.toks) (fun b o hb e=>eb b o hb e) f0 f1 f3 f4 f5⟩
 self:=fun _ _ _ _ _ st h=>wpAny_pyIter_rangeiter st h
section
variable {X:Cx}{tg:Expr}
def iList (K:PySem.W.Frag) (tl:TE):TI:=fun σ H R=>tl σ H fun x H1=>∃ a,x=.ref a∧(∃ xs,SqL K H1 a xs)∧R (Itl K a) H1
theorem qhd {l:Expr}{tl:TE} (hl:PE X l tl):PI X tg l (iList X.K tl):=by
 intro pins s σ H R I h
 refine thn (hl pins s σ H _ I h) fun v s1 ⟨x,H1,I1,r1,q1⟩=>?_
 obtain ⟨a,e,⟨xs,hq⟩,q⟩:=q1
 subst e
 cases r1
 obtain ⟨its,rv,p,hz⟩:=I1.list hq
 refine wpAny_pyIter_list p.isList ?_
 refine ⟨s1.heap.objs.size,[s1.heap.objs.size],_,_,H1,rfl,I1.kept (t':=s1.toks) fun b o e=>Heap.get?_push_of_some _ e,qgv a _,⟨_,Heap.get?_push_size _ rfl,rfl,rfl⟩,fun b hb=>?_,q⟩
 have e:b=s1.heap.objs.size:=by simpa using hb
 subst e
 exact I1.fpOk (Nat.le_refl _) (I1.hok.fresh (Nat.le_refl _))
theorem range_it {pins:List (Addr×Obj)}{σ:St}{H:Hp}{s:Shared}{R:It→Hp→Prop}{E:Value→Shared→Prop}{lo hi:Int}{t u v:Tok}{tk:Nat} (I:Inv X pins σ H s) (h1:-(2 ^ 62)≤lo) (h2:lo<2 ^ 62) (h3:-(2 ^ 62)≤hi) (h4:hi<2 ^ 62)
  (q:R (Itr lo (hi-lo).toNat) H):wpAny (model X.prog X.w) X.A (pyIter (.ref s.heap.objs.size)) (PIE X pins σ tg R) E { s with heap:=s.heap.push { cls:=.type "range",data:=.fields #[.int lo t,.int hi u,.int 1 v] },toks:=tk }:=by
 refine wpAny_pyIter_range (IsRange.new ..) (small_one h1 h2 h3 h4) ?_
 have I1:Inv X pins σ H { s with heap:=s.heap.push { cls:=.type "range",data:=.fields #[.int lo t,.int hi u,.int 1 v] },toks:=tk }:=I.kept fun b o e=>Heap.get?_push_of_some _ e
 refine ⟨(s.heap.push { cls:=.type "range",data:=.fields #[.int lo t,.int hi u,.int 1 v] }).objs.size,[(s.heap.push { cls:=.type "range",data:=.fields #[.int lo t,.int hi u,.int 1 v] }).objs.size],_,_,H,rfl,
  I1.kept (t':=tk) fun b o e=>Heap.get?_push_of_some _ e,qgj _ lo (hi-lo).toNat,?_,fun b hb=>?_,q⟩
 ·have e1:lo+((0:Nat):Int)*1=lo:=by simp
  have e2:(((hi-lo).toNat:Nat):Int)-((0:Nat):Int)=Builtin.Range.rangeSize lo hi 1:=by rw[rangeSize_one];split<;>omega
  show IsRangeIter _ _ (lo+((0:Nat):Int)*1) ((((hi-lo).toNat:Nat):Int)-((0:Nat):Int)) 1
  rw[e1,e2]
  exact Heap.get?_push_size _ rfl
 ·have e:b=(s.heap.push { cls:=.type "range",data:=.fields #[.int lo t,.int hi u,.int 1 v] }).objs.size:=by simpa using hb
  subst e
  exact I1.fpOk (Nat.le_refl _) (I1.hok.fresh (Nat.le_refl _))
def iRng1 (ta:TA):TI:=fun σ H R=>ta σ H fun vs H1=>∃ j:Int,vs=[.int j]∧-(2 ^ 62)≤j∧j<2 ^ 62∧R (Itr 0 j.toNat) H1
theorem ye9 {a:Expr}{ta:TA}{p pos:Pos} (hg:Gl X "range") (hm:X.mg "range" = none) (ha:PA X [a] ta) (hs:starEach [a] X.env=[(false,eval a X.env)]:=by rfl):PI X tg (.Call (.Name "range" p) [a] [] pos) (iRng1 ta):=by
 intro pins s σ H R I h
 refine Call_ (ydz I hg hm boot_range (PyProof.Rows.callWith_type1 (thn (ha pos pins s σ H _ I h) fun us s1 ⟨vs,H1,I1,r1,q1⟩=>?_) hs rfl))
 obtain ⟨j,e,q1,q2,q⟩:=q1
 subst e
 cases r1 with
 | cons r rr=>
  cases rr
  obtain ⟨t,rfl⟩:=r
  exact call_range_1 (range_it I1 (by omega) (by omega) q1 q2 (by simpa using q))
def tFor (wi:TI) (g:TG) (tb:TS):TS:=fun D σ H=>wi σ H fun J H1=>∃ W:Nat→Nat→St→Hp→Prop,(∃ m,W 0 m σ H1)∧∀ i m σ H,W i m σ H→
 (J.stop i H∧D.nx σ H)∨(J.go i H∧∃ N:St→Hp→Prop,(∀ σ' H',N σ' H'→∃ m',m' < m∧W (i+1) m' σ' H')∧∀ x H',J.yld i H x H'→g x σ H' fun σ2 H2=>tb { D with nx:=N,ct:=N,bk:=D.nx } σ2 H2)
def yev (fp:List Addr) (h:Heap):List (Addr×Obj):=fp.filterMap fun b=>(h.get? b).map fun o=>(b,o)
theorem qb3 {fp:List Addr}{h:Heap}{b:Addr}{o:Obj} (hb:b∈fp) (e:h.get? b=some o):(b,o)∈yev fp h:=List.mem_filterMap.mpr ⟨b,hb,by rw[e];rfl⟩
theorem yg3 {fp:List Addr}{h:Heap}{p:Addr×Obj} (hp:p∈yev fp h):p.1∈fp∧h.get? p.1=some p.2:=by
 obtain ⟨b,hb,e⟩:=List.mem_filterMap.mp hp
 cases q:h.get? b with
 | none=>rw[q] at e;cases e
 | some o=>
  rw[q] at e
  have e':(b,o)=p:=Option.some.inj e
  subst e'
  exact ⟨hb,q⟩
theorem Inv.pinned {pins:List (Addr×Obj)}{σ:St}{H:Hp}{s:Shared}{fp:List Addr} (I:Inv X pins σ H s) (hf:∀ b∈fp,FpOk X pins H b) (ho:∀ b∈fp,∃ o,s.heap.get? b=some o∧∀ v,o.data≠.cell v):Inv X (pins++yev fp s.heap) σ H s:=
 I.pins_of fun p hp=>(List.mem_append.mp hp).elim (fun z=>I.pin p (List.mem_append_right _ z)) fun z=>by
  obtain ⟨hb,e⟩:=yg3 z
  obtain ⟨f0,f1,f2,_⟩:=hf p.1 hb
  obtain ⟨o,e',d⟩:=ho p.1 hb
  rw[e] at e';cases e'
  exact ⟨e,f0,f1,f2,d⟩
theorem Inv.unpinned {pins pl:List (Addr×Obj)}{σ:St}{H:Hp}{s:Shared} (I:Inv X (pins++pl) σ H s):Inv X pins σ H s:=I.pins_of fun p hp=>I.pin p (List.mem_append_right _ (List.mem_append_left _ hp))
theorem qhu {iter:Expr}{body:List Stmt}{wi:TI}{g:TG}{tb:TS}{pos:Pos} (hp:PassesOwn (model X.prog X.w) X.A X.env X.xe) (hc:X.calm=true) (hi:PI X tg iter wi) (hg:PG X tg g) (hb:PSs X body tb)
  (hs:∀ x,foldedSetIterable iter X.env x=pure x:=by intro _;rfl):PS X (.For tg iter body [] pos) (tFor wi g tb):=by
 intro pins s σ H D I h
 refine wpAny_For (thn (hi pins s σ H _ I h) fun v s1 h1=>thn h1 fun itv s2 h2=>?_) hs
 obtain ⟨it,fp,tn,J,H2,e,I2,T,st2,f2,W,⟨m0,w0⟩,turn⟩:=h2
 subst e
 -- what stays true of the iterator's objects through the loop
 have stat:∀ {H':Hp},(∀ b∈fp,H' b=none)→∀ b∈fp,FpOk X pins H' b:=fun hn b hb=>⟨hn b hb,(f2 b hb).2⟩
 refine codeAny_forLoop_any (fun n s'=>∃ i σ' H',Inv X pins σ' H' s'∧tn i s'.heap∧(∀ b∈fp,H' b=none)∧W i n σ' H') ?_ m0 ⟨0,σ,H2,I2,st2,fun b hb=>(f2 b hb).1,w0⟩
 rintro n s3 ⟨i,σ3,H3,I3,st3,fr3,w3⟩
 rcases turn i n σ3 H3 w3 with ⟨stop,qn⟩|⟨go,N,hN,step⟩
 ·refine wpAny_passesOwn hp (thn (T.done X rfl rfl rfl hc i pins s3 σ3 H3 X.xe I3 (stat fr3) st3 stop) fun r s4 ⟨hr,I4⟩=>?_)
  subst hr
  exact wpAny_execs_nil ⟨σ3,H3,I4,qn⟩
 ·refine wpAny_passesOwn hp (thn (T.item X rfl rfl rfl hc i pins s3 σ3 H3 X.xe I3 (stat fr3) st3 go) fun r s4 ⟨u,hr,h4⟩=>?_)
  subst hr
  refine wpAny_passesOwn hp (thn h4 fun _ s5 ⟨x,H5,I5,r5,y5,st5,fr5⟩=>?_)
  have I5':=I5.pinned (stat fr5) (T.obj _ _ st5)
  refine wpAny_passesOwn hp (thn (hg _ s5 σ3 H5 x u _ I5' r5 (step x H5 y5)) fun _ s6 ⟨σ6,H6,I6,q6⟩=>?_)
  refine wpAny_passesOwn hp (thn (hb _ s6 σ6 H6 _ I6 q6) fun f s7 q7=>?_)
  have again:∀ {σ7:St}{H7:Hp},Inv X (pins++yev fp s5.heap) σ7 H7 s7→N σ7 H7→∃ m,m<n∧∃ i σ' H',Inv X pins σ' H' s7∧tn i s7.heap∧(∀ b∈fp,H' b=none)∧W i m σ' H':=fun {σ7 H7} I7 n7=>by
   obtain ⟨m',hm,w7⟩:=hN σ7 H7 n7
   refine ⟨m',hm,i+1,σ7,H7,I7.unpinned,T.keep _ _ _ st5 fun b hb o e=>(I7.pin (b,o) (List.mem_append_right _ (List.mem_append_right _ (qb3 hb e)))).1,fun b hb=>?_,w7⟩
   obtain ⟨o,e,d⟩:=T.obj _ _ st5 b hb
   exact (I7.pin (b,o) (List.mem_append_right _ (List.mem_append_right _ (qb3 hb e)))).2.1
  cases f with
  | next=>obtain ⟨σ7,H7,I7,n7⟩:=q7;exact again I7 n7
  | cont=>obtain ⟨σ7,H7,I7,n7⟩:=q7;exact again I7 n7
  | brk=>obtain ⟨σ7,H7,I7,q7⟩:=q7;exact ⟨σ7,H7,I7.unpinned,q7⟩
  | ret v=>obtain ⟨x7,σ7,H7,I7,r7,q7⟩:=q7;exact ⟨x7,σ7,H7,I7.unpinned,r7,q7⟩
end
theorem yc4 {K:PySem.W.Frag}{a:Addr}{xs:List V}{g:TG}{tb:TS}{D:Ends}{σ:St}{H:Hp} (Pv:Nat→St→Hp→Prop) (h0:Pv 0 σ H) (hl:∀ i σ H,i≤xs.length→Pv i σ H→SqL K H a xs)
  (hs:∀ i x σ H,xs[i]?=some x→Pv i σ H→g x σ H fun σ2 H2=>tb { D with nx:=Pv (i+1),ct:=Pv (i+1),bk:=D.nx } σ2 H2) (hd:∀ σ H,Pv xs.length σ H→D.nx σ H) :
  ∃ W:Nat→Nat→St→Hp→Prop,(∃ m,W 0 m σ H)∧∀ i m σ H,W i m σ H→
   ((Itl K a).stop i H∧D.nx σ H)∨((Itl K a).go i H∧∃ N:St→Hp→Prop,(∀ σ' H',N σ' H'→∃ m',m' < m∧W (i+1) m' σ' H')∧∀ x H',(Itl K a).yld i H x H'→g x σ H' fun σ2 H2=>tb { D with nx:=N,ct:=N,bk:=D.nx } σ2 H2):=by
 refine ⟨fun i m σ H=>m=xs.length-i∧i≤xs.length∧Pv i σ H,⟨xs.length,by simp,Nat.zero_le _,h0⟩,?_⟩
 rintro i m σ H ⟨rfl,hi,p⟩
 have q:=hl i σ H hi p
 by_cases hlt:i<xs.length
 ·refine .inr ⟨⟨xs,xs[i],q,by simp[hlt]⟩,Pv (i+1),fun σ' H' p'=>⟨xs.length-(i+1),by omega,rfl,hlt,p'⟩,fun x H' y=>?_⟩
  obtain ⟨e,y⟩:=y
  subst e
  exact hs i x σ _ (y xs q) p
 ·have e:i=xs.length:=by omega
  subst e
  exact .inl ⟨⟨xs,q,Nat.le_refl _⟩,hd σ H p⟩
theorem yew {lo:Int}{n:Nat}{g:TG}{tb:TS}{D:Ends}{σ:St}{H:Hp} (Pv:Nat→St→Hp→Prop) (h0:Pv 0 σ H)
  (hs:∀ i σ H,i<n→Pv i σ H→g (.int (lo+i)) σ H fun σ2 H2=>tb { D with nx:=Pv (i+1),ct:=Pv (i+1),bk:=D.nx } σ2 H2) (hd:∀ σ H,Pv n σ H→D.nx σ H) :
  ∃ W:Nat→Nat→St→Hp→Prop,(∃ m,W 0 m σ H)∧∀ i m σ H,W i m σ H→
   ((Itr lo n).stop i H∧D.nx σ H)∨((Itr lo n).go i H∧∃ N:St→Hp→Prop,(∀ σ' H',N σ' H'→∃ m',m' < m∧W (i+1) m' σ' H')∧∀ x H',(Itr lo n).yld i H x H'→g x σ H' fun σ2 H2=>tb { D with nx:=N,ct:=N,bk:=D.nx } σ2 H2):=by
 refine ⟨fun i m σ H=>m=n-i∧i≤n∧Pv i σ H,⟨n,by simp,Nat.zero_le _,h0⟩,?_⟩
 rintro i m σ H ⟨rfl,hi,p⟩
 by_cases hlt:i<n
 ·refine .inr ⟨hlt,Pv (i+1),fun σ' H' p'=>⟨n-(i+1),by omega,rfl,hlt,p'⟩,fun x H' y=>?_⟩
  obtain ⟨e,y⟩:=y
  subst e y
  exact hs i σ _ hlt p
 ·have e:i=n:=by omega
  subst e
  exact .inl ⟨Nat.le_refl _,hd σ H p⟩
abbrev R2:=V→V→Hp→VK→Prop
def OpR (X:Cx) (f:Value→Value→Sem Value) (r:R2):Prop:=
 ∀ (pins:List (Addr×Obj)) (s:Shared) (σ:St) (H:Hp) (x y:V) (v u:Value) (Q:VK),Inv X pins σ H s→RelV x v→RelV y u→r x y H Q→
  wpAny (model X.prog X.w) X.A (f v u) (EP X pins σ Q) X.xe s
def ybh (X:Cx) (f:Value) (r:List V→Hp→VK→Prop):Prop:=
 ∀ (pins:List (Addr×Obj)) (s:Shared) (σ:St) (H:Hp) (xs:List V) (us:List Value) (Q:VK),Inv X pins σ H s→Vals xs us→r xs H Q→
  wpAny (model X.prog X.w) X.A (call f us) (EP X pins σ Q) X.xe s
def tOp (r:R2) (ta tb:TE):TE:=fun σ H Q=>ta σ H fun x H1=>tb σ H1 fun y H2=>r x y H2 Q
def rI (C:Int→Int→Prop) (g:Int→Int→V):R2:=fun x y H Q=>∃ i j,x=.int i∧y=.int j∧C i j∧Q (g i j) H
def rI0 (g:Int→Int→V):R2:=fun x y H Q=>∃ i j,x=.int i∧y=.int j∧Q (g i j) H
section
variable {X:Cx}{a b c:Expr}{ta tb tc:TE}{pos:Pos}
theorem binT (ha:PE X a ta) (hb:PE X b tb) {pins:List (Addr×Obj)}{s:Shared}{σ:St}{H:Hp}{R:V→V→Hp→Prop} (I:Inv X pins σ H s)
  (h:ta σ H fun x H1=>tb σ H1 fun y H2=>R x y H2) {Q:Value→Shared→Prop}{f:Value→Value→Sem Value}
  (hf:∀ v u s2 x y H2,Inv X pins σ H2 s2→RelV x v→RelV y u→R x y H2→wpAny (model X.prog X.w) X.A (f v u) Q X.xe s2) :
  wpAny (model X.prog X.w) X.A (eval a X.env) (fun v s₁=>wpAny (model X.prog X.w) X.A (eval b X.env) (fun u s₂=>wpAny (model X.prog X.w) X.A (f v u) Q X.xe s₂) X.xe s₁) X.xe s:=by
 refine thn (ha pins s σ H _ I h) fun v s1 ⟨x,H1,I1,r1,q1⟩=>?_
 refine thn (hb pins s1 σ H1 _ I1 q1) fun u s2 ⟨y,H2,I2,r2,q2⟩=>?_
 exact hf v u s2 x y H2 I2 r1 r2 q2
theorem qbg {op:Operator}{r:R2} (ho:OpR X (binaryOp op) r) (ha:PE X a ta) (hb:PE X b tb):PE X (.BinOp a op b pos) (tOp r ta tb):=by
 intro pins s σ H Q I h
 exact wpAny_BinOp (binT ha hb I h fun v u s2 x y H2 I2 rx ry q=>ho pins s2 σ H2 x y v u Q I2 rx ry q)
theorem opI {f:Value→Value→Sem Value}{C:Int→Int→Prop}{g:Int→Int→Int}
  (rule:∀ (i j:Int) (t u:Tok) (s:Shared) (Q:Value→Shared→Prop) (E:Value→Shared→Prop),C i j→Q (.int (g i j) s.toks) { s with toks:=s.toks+1 }→wpAny (model X.prog X.w) X.A (f (.int i t) (.int j u)) Q E s) :
  OpR X f (rI C fun i j=>.int (g i j)):=by
 intro pins s σ H x y v u Q I rx ry h
 obtain ⟨i,j,rfl,rfl,hc,q⟩:=h
 obtain ⟨t,rfl⟩:=rx
 obtain ⟨t',rfl⟩:=ry
 exact rule i j t t' s _ _ hc ⟨.int (g i j),H,I.tok _,⟨_,rfl⟩,q⟩
theorem opI0 {f:Value→Value→Sem Value}{g:Int→Int→Int}
  (rule:∀ (i j:Int) (t u:Tok) (s:Shared) (Q:Value→Shared→Prop) (E:Value→Shared→Prop),Q (.int (g i j) s.toks) { s with toks:=s.toks+1 }→wpAny (model X.prog X.w) X.A (f (.int i t) (.int j u)) Q E s) :
  OpR X f (rI0 fun i j=>.int (g i j)):=by
 intro pins s σ H x y v u Q I rx ry h
 obtain ⟨i,j,rfl,rfl,q⟩:=h
 obtain ⟨t,rfl⟩:=rx
 obtain ⟨t',rfl⟩:=ry
 exact rule i j t t' s _ _ ⟨.int (g i j),H,I.tok _,⟨_,rfl⟩,q⟩
theorem opB0 {f:Value→Value→Sem Value}{g:Int→Int→Bool}
  (rule:∀ (i j:Int) (t u:Tok) (s:Shared) (Q:Value→Shared→Prop) (E:Value→Shared→Prop),Q (.bool (g i j)) s→wpAny (model X.prog X.w) X.A (f (.int i t) (.int j u)) Q E s) :
  OpR X f (rI0 fun i j=>.bl (g i j)):=by
 intro pins s σ H x y v u Q I rx ry h
 obtain ⟨i,j,rfl,rfl,q⟩:=h
 obtain ⟨t,rfl⟩:=rx
 obtain ⟨t',rfl⟩:=ry
 exact rule i j t t' s _ _ ⟨.bl (g i j),H,I,rfl,q⟩
def CDiv (i j:Int):Prop:=0<j∧j<1073741824
def CPow (i j:Int):Prop:=0≤j∧j≤1000000∧i.natAbs<2 ^ 64
def CMul (i j:Int):Prop:=(-(2 ^ 64)<i∧i<2 ^ 64)∨(-(2 ^ 64)<j∧j<2 ^ 64)
theorem CMul.ok {i j:Int} (h:CMul i j):IntMulOk i j:=by
 rcases h with ⟨h1,h2⟩|⟨h1,h2⟩
 ·exact .of_left (intBits_le_64 h1 h2)
 ·exact .of_right (intBits_le_64 h1 h2)
theorem qbr:OpR X (binaryOp .Add) (rI0 fun i j=>.int (i+j)):=opI0 fun _ _ _ _ _ _ _ q=>add_int q
theorem op_sub:OpR X (binaryOp .Sub) (rI0 fun i j=>.int (i-j)):=opI0 fun _ _ _ _ _ _ _ q=>sub_int q
theorem qf1:OpR X (binaryOp .Mult) (rI CMul fun i j=>.int (i*j)):=opI fun _ _ _ _ _ _ _ hc q=>mul_int q hc.ok
theorem qfn:OpR X (binaryOp .FloorDiv) (rI CDiv fun i j=>.int (i / j)):=opI fun i j _ _ _ _ _ hc q=>by
 have h1:(0:Int)<j:=hc.1
 have h2:j<1073741824:=hc.2
 exact floordiv_int (by omega) (by rw[Int.fdiv_eq_ediv_of_nonneg i (by omega)];exact q) (.inl (PyProof.noPylong_small (by omega)))
theorem yb9:OpR X (binaryOp .Mod) (rI (fun _ j=>0<j) fun i j=>.int (i % j)):=opI fun i j _ _ _ _ _ hc q=>by
 have h1:(0:Int)<j:=hc
 exact mod_int' (by omega) (by rw[Int.fmod_eq_emod_of_nonneg i (by omega)];exact q)
theorem op_pow:OpR X (binaryOp .Pow) (rI CPow fun i j=>.int (i ^ j.toNat)):=opI fun _ _ _ _ _ _ _ hc q=>pow_int_small hc.1 hc.2.1 hc.2.2 q
end
def scal:V→V→Bool
 | .non,.non=>true | .non,.int _=>true | .int _,.non=>true | .non,.bl _=>true | .bl _,.non=>true | .non,.str _=>true | .str _,.non=>true
 | .int _,.int _=>true | .bl _,.bl _=>true | .str _,.str _=>true | .byt _,.byt _=>true
 | .int _,.str _=>true | .str _,.int _=>true | .bl _,.str _=>true | .str _,.bl _=>true
 | _,_=>false
def rEq:R2:=fun x y H Q=>scal x y=true∧Q (.bl (decide (x=y))) H
theorem dec_int {i j:Int}:decide (V.int i=V.int j)=(i == j):=by
 rw[Bool.eq_iff_iff]
 simp
theorem dec_bl {i j:Bool}:decide (V.bl i=V.bl j)=(i == j):=by
 rw[Bool.eq_iff_iff]
 simp
theorem dec_str {i j:Str}:decide (V.str i=V.str j)=(i == j):=by
 rw[Bool.eq_iff_iff]
 simp
theorem dec_byt {i j:Array UInt8}:decide (V.byt i=V.byt j)=(i.toList == j.toList):=by
 rw[Bool.eq_iff_iff]
 cases i
 cases j
 simp
section
variable {X:Cx}{a b c:Expr}{ta tb tc:TE}{pos:Pos}
theorem ybb {pins:List (Addr×Obj)}{σ:St}{H:Hp}{s:Shared}{Q:VK}{k k':Bool} (I:Inv X pins σ H s) (q:Q (.bl k) H) (e:k=k'):EP X pins σ Q (.bool k') s:=by
 subst e
 exact ⟨.bl k,H,I,rfl,q⟩
theorem ydq:OpR X (compareOp .Eq) rEq:=by
 intro pins s σ H x y v u Q I rx ry h
 obtain ⟨hs,q⟩:=h
 cases x with
 | non=>
  cases rx
  cases y with
  | non=>cases ry;exact PySem.EqNone.eq_none_none (ybb I q (by simp))
  | bl j=>cases ry;exact PySem.EqNone.eq_none_bool (ybb I q (by simp))
  | int j=>obtain ⟨t',rfl⟩:=ry;exact PySem.EqNone.eq_none_int (ybb I q (by simp))
  | str j=>obtain ⟨t',rfl⟩:=ry;exact PySem.EqNone.eq_none_str (ybb I q (by simp))
  | _=>exact absurd (show false=true from hs) Bool.false_ne_true
 | bl i=>
  cases rx
  cases y with
  | non=>cases ry;exact PySem.EqNone.eq_bool_none (ybb I q (by simp))
  | bl j=>cases ry;exact eq_bool (ybb I q dec_bl)
  | str j=>obtain ⟨t',rfl⟩:=ry;exact PySem.EqMixed.eq_bool_str (ybb I q (by simp))
  | _=>exact absurd (show false=true from hs) Bool.false_ne_true
 | int i=>
  obtain ⟨t,rfl⟩:=rx
  cases y with
  | non=>cases ry;exact PySem.EqNone.eq_int_none (ybb I q (by simp))
  | int j=>obtain ⟨t',rfl⟩:=ry;exact eq_int (ybb I q dec_int)
  | str j=>obtain ⟨t',rfl⟩:=ry;exact PySem.EqMixed.eq_int_str (ybb I q (by simp))
  | _=>exact absurd (show false=true from hs) Bool.false_ne_true
 | str i=>
  obtain ⟨t,rfl⟩:=rx
  cases y with
  | non=>cases ry;exact PySem.EqNone.eq_str_none (ybb I q (by simp))
  | bl j=>cases ry;exact PySem.EqMixed.eq_str_bool (ybb I q (by simp))
  | int j=>obtain ⟨t',rfl⟩:=ry;exact PySem.EqMixed.eq_str_int (ybb I q (by simp))
  | str j=>obtain ⟨t',rfl⟩:=ry;exact eq_str (ybb I q dec_str)
  | _=>exact absurd (show false=true from hs) Bool.false_ne_true
 | byt i=>
  obtain ⟨t,rfl⟩:=rx
  cases y with
  | byt j=>obtain ⟨t',rfl⟩:=ry;exact PySem.W.eq_bytes (ybb I q dec_byt)
  | _=>exact absurd (show false=true from hs) Bool.false_ne_true
 | _=>cases y<;>exact absurd (show false=true from hs) Bool.false_ne_true
theorem op_lt:OpR X (compareOp .Lt) (rI0 fun i j=>.bl (decide (i<j))):=opB0 fun _ _ _ _ _ _ _ q=>lt_int q
theorem qex:OpR X (compareOp .Gt) (rI0 fun i j=>.bl (decide (j<i))):=opB0 fun _ _ _ _ _ _ _ q=>gt_int q
theorem op_ge:OpR X (compareOp .GtE) (rI0 fun i j=>.bl (decide (j≤i))):=opB0 fun _ _ _ _ _ _ _ q=>ge_int q
theorem yap (b:Expr) {op:CmpOp} (h:op≠.In:=by decide) (h2:op≠.NotIn:=by decide):behindInMarks op b=false:=by
 have e1:(op == CmpOp.In)=false:=by cases op<;>first|rfl|exact absurd rfl h
 have e2:(op == CmpOp.NotIn)=false:=by cases op<;>first|rfl|exact absurd rfl h2
 cases b<;>simp[behindInMarks,e1,e2]
theorem yat {op:CmpOp}{r:R2} (ho:OpR X (compareOp op) r) (ha:PE X a ta) (hb:PE X b tb) (hm:behindInMarks op b=false):PE X (.Compare a [op] [b] pos) (tOp r ta tb):=by
 intro pins s σ H Q I h
 exact wpAny_Compare1 (binT ha hb I h fun v u s2 x y H2 I2 rx ry q=>ho pins s2 σ H2 x y v u Q I2 rx ry q) hm
def tTest (t:TE):TT:=fun σ H Q=>t σ H fun x H'=>∃ k,x=.bl k∧Q k H'
theorem yby {op:CmpOp}{r:R2} (ho:OpR X (compareOp op) r) (ha:PE X a ta) (hb:PE X b tb) (hm:behindInMarks op b=false):PT X (.Compare a [op] [b] pos) (tTest (tOp r ta tb)):=by
 intro pins s σ H Q I h
 refine wpAny_isTrue_Compare1 (thn (ha pins s σ H _ I h) fun v s1 ⟨x,H1,I1,r1,q1⟩=>thn (hb pins s1 σ H1 _ I1 q1) fun u s2 ⟨y,H2,I2,r2,q2⟩=>
  thn (ho pins s2 σ H2 x y v u _ I2 r1 r2 q2) fun c s3 ⟨z,H3,I3,r3,k,e,q3⟩=>?_) hm
 subst e
 cases r3
 exact wpAny_truthy_bool ⟨H3,I3,q3⟩
theorem qg2:(sizeLine:Nat)<2 ^ 63:=by rw[sizeLine_eq];decide
theorem vals1 {x:V}{us:List Value} (r:Vals [x] us):∃ u,us=[u]∧RelV x u:=by
 cases r with
 | cons r1 r2=>cases r2;exact ⟨_,rfl,r1⟩
theorem vals2 {x y:V}{us:List Value} (r:Vals [x,y] us):∃ u w',us=[u,w']∧RelV x u∧RelV y w':=by
 cases r with
 | cons r1 r2=>
  cases r2 with
  | cons r3 r4=>cases r4;exact ⟨_,_,rfl,r1,r3⟩
theorem call_abs:ybh X (.builtin "abs") (fun xs H Q=>∃ i,xs=[.int i]∧Q (.int (if i<0 then -i else i)) H):=by
 intro pins s σ H xs us Q I r h
 obtain ⟨i,rfl,q⟩:=h
 obtain ⟨u,rfl,t,rfl⟩:=vals1 r
 exact call_abs_int fun u tk=>⟨.int (if i<0 then -i else i),H,I.tok _,⟨_,rfl⟩,q⟩
theorem ygt (hc:X.calm=true):ybh X (.builtin "max") (fun xs H Q=>∃ i j,xs=[.int i,.int j]∧Q (.int (if j>i then j else i)) H):=by
 intro pins s σ H xs us Q I r h
 obtain ⟨i,j,rfl,q⟩:=h
 obtain ⟨u,w',rfl,⟨t,rfl⟩,⟨t',rfl⟩⟩:=vals2 r
 refine max_two_ints (I.ok.hd hc) fun h' tk k=>⟨_,H,I.kept k,?_,q⟩
 by_cases hj:j>i
 ·rw[if_pos hj,if_pos hj];exact ⟨_,rfl⟩
 ·rw[if_neg hj,if_neg hj];exact ⟨_,rfl⟩
theorem yff:ybh X (.builtin "divmod") (fun xs H Q=>∃ i j,xs=[.int i,.int j]∧CDiv i j∧∀ p,H p=none→Q (.ref p) (upd H p (.tup [.int (i / j),.int (i % j)]))):=by
 intro pins s σ H xs us Q I r h
 obtain ⟨i,j,rfl,⟨h1,h2⟩,q⟩:=h
 obtain ⟨u,w',rfl,⟨t,rfl⟩,⟨t',rfl⟩⟩:=vals2 r
 refine divmod_int (by omega) ?_ (.inl (PyProof.noPylong_small (by omega)))
 rw[Int.fdiv_eq_ediv_of_nonneg i (by omega),Int.fmod_eq_emod_of_nonneg i (by omega)]
 have hn:H s.heap.objs.size=none:=I.hok.fresh (Nat.le_refl _)
 refine ⟨.ref s.heap.objs.size,_,?_,rfl,q _ hn⟩
 refine I.laid (fun b o e=>Heap.get?_push_of_some _ e) (Nat.le_refl _) ⟨by simp only[List.length_cons,List.length_nil];rw[sizeLine_eq];decide,[.int (i / j) s.toks,.int (i % j) (s.toks+1)],.cons ⟨_,rfl⟩ (.cons ⟨_,rfl⟩ .nil),?_⟩
 exact ⟨_,Heap.get?_push_size s.heap rfl,rfl,0,rfl⟩
end
structure ObjM (h:Heap) (x dx C:Addr) (mA:Str→Option Value):Prop where
 obj:h.get? x=some (PySem.W.instObj C dx)
 ns:h.Ns1 dx mA
 ne:dx≠x
theorem yhi {h:Heap}{dx:Addr}{mA:Str→Option Value} (n:h.Ns1 dx mA):∃ od,h.get? dx=some od∧∀ name,PySem.W.lookIn name od=some (mA name):=by
 obtain ⟨o,es,ep,ho,hd,hk,_,hm⟩:=n
 refine ⟨o,ho,fun name=>?_⟩
 have e:=hm name
 unfold nsFind findBy at e
 rw[← Array.find?_toList] at e
 unfold PySem.W.lookIn
 rw[hd]
 dsimp only
 split
 ·rename_i y q
  rw[q] at e
  exact congrArg some e
 ·rename_i q
  rw[q] at e
  have a:es.toList.any (·.refKey)=false:=by
   rw[List.any_eq_false]
   intro y hy
   obtain ⟨z,t,hkey⟩:=hk y (Array.mem_toList_iff.mp hy)
   simp[DictEntry.refKey,hkey]
  have a':¬ es.toList.any (·.refKey)=true:=by rw[a];exact Bool.false_ne_true
  rw[if_neg a']
  exact congrArg some e
theorem ObjM.look {h:Heap}{x dx C:Addr}{mA:Str→Option Value} (I:ObjM h x dx C mA):∃ od,PySem.W.InstAt h x (PySem.W.instObj C dx) C (some od)∧∀ name,PySem.W.lookIn name od=some (mA name):=
 let ⟨od,ho,hl⟩:=yhi I.ns
 ⟨od,⟨I.obj,rfl,rfl,ho⟩,hl⟩
def putF (f:Str) (v:V):List (Str×V)→List (Str×V)
 | []=>[(f,v)]
 | (g,x)::r=>if g=f then (g,v)::r else (g,x)::putF f v r
theorem ydd (f g:Str) (v:V):∀ fs:List (Str×V),(putF f v fs).lookup g=if g=f then some v else fs.lookup g
 | []=>by
  show List.lookup g [(f,v)]=_
  by_cases h:g=f
  ·have hb:(g == f)=true:=beq_iff_eq.mpr h
   simp only[List.lookup,hb,if_pos h]
  ·have hb:(g == f)=false:=beq_eq_false_iff_ne.mpr h
   simp only[List.lookup,hb,if_neg h]
 | (k,x)::r=>by
  have ih:=ydd f g v r
  rw[show putF f v ((k,x)::r)=(if k=f then (k,v)::r else (k,x)::putF f v r) from rfl]
  by_cases hk:k=f
  ·rw[if_pos hk]
   by_cases h:g=k
   ·have hb:(g == k)=true:=beq_iff_eq.mpr h
    simp only[List.lookup,hb,if_pos (h.trans hk)]
   ·have hb:(g == k)=false:=beq_eq_false_iff_ne.mpr h
    simp only[List.lookup,hb,if_neg (fun e:g=f=>h (e.trans hk.symm))]
  ·rw[if_neg hk]
   by_cases h:g=k
   ·have hb:(g == k)=true:=beq_iff_eq.mpr h
    simp only[List.lookup,hb,if_neg (fun e:g=f=>hk (h.symm.trans e))]
   ·have hb:(g == k)=false:=beq_eq_false_iff_ne.mpr h
    simp only[List.lookup,hb]
    exact ih
theorem ydj (f:Str) (v:V):∀ fs:List (Str×V),f∈(putF f v fs).map (·.1)∧∀ g,g∈fs.map (·.1)→g∈(putF f v fs).map (·.1)
 | []=>⟨by simp[putF],fun g h=>by simp at h⟩
 | (k,x)::r=>by
  obtain ⟨i1,i2⟩:=ydj f v r
  rw[show putF f v ((k,x)::r)=(if k=f then (k,v)::r else (k,x)::putF f v r) from rfl]
  by_cases hk:k=f
  ·rw[if_pos hk]
   subst hk
   exact ⟨by simp,fun g h=>by simpa using h⟩
  ·rw[if_neg hk]
   refine ⟨?_,fun g h=>?_⟩
   ·rw[List.map_cons]
    exact List.mem_cons_of_mem _ i1
   ·rw[List.map_cons] at h ⊢
    rcases List.mem_cons.mp h with e|e
    ·exact List.mem_cons.mpr (.inl e)
    ·exact List.mem_cons_of_mem _ (i2 g e)
theorem yda (f:Str) (v:V):∀ fs:List (Str×V),(putF f v fs).length≤fs.length+1
 | []=>by simp[putF]
 | (k,x)::r=>by
  have ih:=yda f v r
  rw[show putF f v ((k,x)::r)=(if k=f then (k,v)::r else (k,x)::putF f v r) from rfl]
  by_cases hk:k=f
  ·rw[if_pos hk,List.length_cons,List.length_cons];omega
  ·rw[if_neg hk,List.length_cons,List.length_cons];omega
section
variable {P:Program}{w:World}{H H':Hp}{h h':Heap}{a C dx:Addr}{fs fs':List (Str×V)}
theorem ins_get (hok:HOk P w H h) (e:H a=some (.ins C dx fs)):∃ mA,ObjM h a dx C mA∧(∀ f,RelO (fs.lookup f) (mA f))∧PySem.Within mA (fs.map (·.1))∧fs.length≤1000∧H dx=some (.own a):=by
 obtain ⟨d,z,ne,ob,mA,n,r,q⟩:=(show yav P w H h a (.ins C dx fs) from hok a _ e)
 exact ⟨mA,⟨ob,n,ne⟩,r,q,z,d⟩
end
structure Cls (K:PySem.W.Frag) (C:Addr):Prop where
 pg:PySem.W.plainGet K C Str.empty=true
 hd:PySem.W.hasDictIn K C=true
 po:PySem.W.plainOver K C=true
 sa:PySem.W.findIn K (.ref C) "__setattr__" = some (some (.builtin "object.__setattr__"))
theorem Cls.get {K:PySem.W.Frag}{C:Addr} (c:Cls K C) (f:Str):PySem.W.plainGet K C f=true:=c.pg
section
variable {X:Cx}{pins:List (Addr×Obj)}{σ:St}{H:Hp}{s:Shared}{A:Around}{E:Value→Shared→Prop}{Q:Value→Shared→Prop}{c:Value}{b:Bool}
inductive TyOf (K:PySem.W.Frag) (H:Hp):V→Value→Prop where
 | non:TyOf K H .non (.type "NoneType")
 | bl (x:Bool):TyOf K H (.bl x) (.type "bool")
 | int (i:Int):TyOf K H (.int i) (.type "int")
 | str (x:Str):TyOf K H (.str x) (.type "str")
 | flt (x:UInt64):TyOf K H (.flt x) (.type "float")
 | lst {a:Addr}{xs:List V} (e:H a=some (.lst xs)):TyOf K H (.ref a) (.type "list")
 | frz {a:Addr}{o:Obj}{xs:List V} (e:H a=some (.frz o (.lst xs))):TyOf K H (.ref a) (.type "list")
 | tup {a:Addr}{xs:List V} (e:H a=some (.tup xs)):TyOf K H (.ref a) (.type "tuple")
 | dK {a:Addr}{kvs:List (Key×V)} (e:H a=some (.dK kvs)):TyOf K H (.ref a) (.type "dict")
 | dT {a:Addr}{kvs:List (List Key×V)} (e:H a=some (.dT kvs)):TyOf K H (.ref a) (.type "dict")
 | ins {a C dx:Addr}{fs:List (Str×V)} (e:H a=some (.ins C dx fs)) (cl:Cls K C) (ha:PySem.W.findIn K (.ref C) "__class__" = some (some (.builtin "object.__class__")))
   (hn:PySem.W.specialIn K (.builtin "object.__class__") "__get__" = some (some (.builtin "getset_descriptor.__get__"))) (htk:PySem.W.takesIn K (.builtin "object.__class__")=some true)
   (hm:PySem.W.mroIn K C (.type "object")=some true):TyOf K H (.ref a) (.ref C)
theorem ygv {x:V}{u t:Value} (I:Inv X pins σ H s) (rx:RelV x u) (ty:TyOf X.K H x t) (e:PySem.W.kitOne X.K t c=some b) (h:∀ tk,Q (.bool b) { s with toks:=tk }) :
  wpAny (model X.prog X.w) A (call (.builtin "isinstance") [u,c]) Q E s:=by
 cases ty with
 | non=>cases (show u=Value.none from rx);exact PySem.W.kia_one PySem.W.kitx_none I.kIn True.intro e (fun z=>nomatch z) h
 | bl y=>cases (show u=Value.bool y from rx);exact PySem.W.kia_one PySem.W.kitx_bool I.kIn True.intro e (fun z=>nomatch z) h
 | int i=>obtain ⟨t,q⟩:=(show ∃ t,u=Value.int i t from rx);cases q;exact PySem.W.kia_one PySem.W.kitx_int I.kIn True.intro e (fun z=>nomatch z) h
 | str y=>obtain ⟨t,q⟩:=(show ∃ t,u=Value.str y t from rx);cases q;exact PySem.W.kia_one PySem.W.kitx_str I.kIn True.intro e (fun z=>nomatch z) h
 | flt y=>obtain ⟨t,q⟩:=(show ∃ t,u=Value.float y t from rx);cases q;exact PySem.W.kia_one PySem.W.kitx_float I.kIn True.intro e (fun z=>nomatch z) h
 | @lst a xs ea=>
  cases (show u=Value.ref a from rx)
  obtain ⟨_,_,n,_,h1⟩:=(show yav X.prog X.w H s.heap a (.lst xs) from I.hok a _ ea)
  exact PySem.W.kia_one PySem.W.kitx_list I.kIn ⟨_,h1,rfl⟩ e (fun z=>nomatch z) h
 | @frz a ob xs ea=>
  cases (show u=Value.ref a from rx)
  obtain ⟨_,_,_,n,_,h1⟩:=(show yav X.prog X.w H s.heap a (.frz ob (.lst xs)) from I.hok a _ ea)
  exact PySem.W.kia_one PySem.W.kitx_list I.kIn ⟨_,h1,rfl⟩ e (fun z=>nomatch z) h
 | @tup a xs ea=>
  cases (show u=Value.ref a from rx)
  obtain ⟨_,_,_,p⟩:=(show yav X.prog X.w H s.heap a (.tup xs) from I.hok a _ ea)
  obtain ⟨o,h1,h2,_⟩:=p
  exact PySem.W.kia_one PySem.W.kitx_tuple I.kIn ⟨o,h1,h2⟩ e (fun z=>nomatch z) h
 | @dK a kvs ea=>
  cases (show u=Value.ref a from rx)
  obtain ⟨_,_,vs,_,p⟩:=(show yav X.prog X.w H s.heap a (.dK kvs) from I.hok a _ ea)
  obtain ⟨o,es,ep,h1,h2,_⟩:=p
  exact PySem.W.kia_one PySem.W.kitx_dict I.kIn ⟨o,h1,h2.1⟩ e (fun z=>nomatch z) h
 | @dT a kvs ea=>
  cases (show u=Value.ref a from rx)
  obtain ⟨_,_,xs,_,o,es,ep,h1,h2,_⟩:=(show yav X.prog X.w H s.heap a (.dT kvs) from I.hok a _ ea)
  exact PySem.W.kia_one PySem.W.kitx_dict I.kIn ⟨o,h1,h2.1⟩ e (fun z=>nomatch z) h
 | @ins a C dx fs ea cl ha hn htk hm=>
  cases (show u=Value.ref a from rx)
  obtain ⟨mA,O,_⟩:=ins_get I.hok ea
  obtain ⟨od,J,_⟩:=O.look
  exact PySem.W.kia_one (PySem.W.kitx_own (cl.get _) cl.hd ha hn htk hm) I.kIn J e (fun z=>nomatch z) h
end
structure Room (k:Nat) (A:Around):Prop where
 hd:A.handled=none
 dp:A.depth+3*k+5<recursionLimit
 un:A.units+16*k+200<cLine
 gd:A.guards=some []
theorem Room.mono {j k:Nat}{A:Around} (r:Room k A) (h:j≤k):Room j A:=⟨r.hd,by have:=r.dp;omega,by have:=r.un;omega,r.gd⟩
theorem Room.deeper {k:Nat}{A:Around} (r:Room (k+1) A) (env:Env):Room k (A.deeper env):=
 ⟨r.hd,by have:=r.dp;show A.depth+1+3*k+5<_;omega,by have:=r.un;show A.units+3+16*k+200<_;omega,r.gd⟩
theorem ygl {A:Around}{C:Addr}{us:List Value}{kw:List (Str×Value)}:(A.under (.builtin "type.__call__" ⟨.ref C::us,kw⟩)).depth=A.depth+1:=by
 first|rfl|simp[Around.under,Code.weight,Code.isCreation,Code.isGuard,Code.isCaller,Code.frames,Code.isFrame,guardIds]
theorem ygj {A:Around}{C:Addr}{us:List Value}{kw:List (Str×Value)}:(A.under (.builtin "type.__call__" ⟨.ref C::us,kw⟩)).units=A.units+1:=by
 first|rfl|simp[Around.under,Code.cUnits,Code.frames,Code.isFrame]
theorem qfg {A:Around}{C:Addr}{us:List Value}{kw:List (Str×Value)}:(A.under (.builtin "type.__call__" ⟨.ref C::us,kw⟩)).guards=A.guards:=by
 first|rfl|(unfold Around.under Code.guards;cases A.guards<;>simp[pushGuards,Code.isGuard,guardIds])
theorem Room.make {k:Nat}{A:Around} (r:Room (k+1) A) (C:Addr) (us:List Value) (kw:List (Str×Value)):Room k (A.under (.builtin "type.__call__" ⟨.ref C::us,kw⟩)):=
 ⟨r.hd,by have:=r.dp;rw[ygl];omega,by have:=r.un;rw[ygj];omega,by rw[qfg];exact r.gd⟩
theorem Room.depth {k:Nat}{A:Around} (r:Room k A):A.depth<recursionLimit:=by have:=r.dp;omega
theorem Room.units {k:Nat}{A:Around} (r:Room k A):A.units+64<cLine:=by have:=r.un;omega
def tNil:TA:=fun _ H Q=>Q [] H
def ycd (ta:TE) (tr:TA):TA:=fun σ H Q=>ta σ H fun x H1=>tr σ H1 fun xs H2=>Q (x::xs) H2
section
variable {X:Cx}{e:Expr}{es:List Expr}{te:TE}{t:TA}{pos:Pos}
theorem yac:PA X [] tNil:=fun _ _ _ _ H Q I h=>Calls.spliced_nil ⟨[],H,I,.nil,h⟩
theorem qaa (ha:PE X e te) (hr:PA X es t) (hs:starEach (e::es) X.env=(false,eval e X.env)::starEach es X.env:=by rfl):PA X (e::es) (ycd te t):=by
 intro pos pins s σ H Q I h
 rw[hs]
 show wpAny _ _ (spliced ((false,eval e X.env)::backTo pos (starEach es X.env))) _ _ s
 refine Calls.spliced_cons (thn (ha pins s σ H _ I h) fun u s1 ⟨x,H1,I1,r1,q1⟩=>?_)
 exact thn (hr pos pins s1 σ H1 _ I1 q1) fun us s2 ⟨xs,H2,I2,r2,q2⟩=>⟨x::xs,H2,I2,.cons r1 r2,q2⟩
def tTup (t:TA):TE:=fun σ H Q=>t σ H fun xs H1=>xs.length≤sizeLine∧∀ p,H1 p=none→Q (.ref p) (upd H1 p (.tup xs))
def tLst (t:TA):TE:=fun σ H Q=>t σ H fun xs H1=>xs.length≤sizeLine∧∀ p,H1 p=none→Q (.ref p) (upd H1 p (.lst xs))
theorem qem {x1} (h:PA X es t):PE X (.Tuple es x1 pos) (tTup t):=by
 intro pins s σ H Q I hq
 refine wpAny_Tuple_spliced (thn (h pos pins s σ H _ I hq) fun us s1 ⟨xs,H1,I1,r,z,q⟩=>⟨by rw[← r.length];exact z,?_⟩)
 have hf:H1 s1.heap.objs.size=none:=I1.hok.fresh (Nat.le_refl _)
 refine ⟨.ref s1.heap.objs.size,upd H1 s1.heap.objs.size (.tup xs),I1.laid (t':=s1.toks) (fun b u e=>Heap.get?_push_of_some _ e) (Nat.le_refl _) ?_,rfl,q _ hf⟩
 exact ⟨z,us,r,⟨_,Heap.get?_push_size _ rfl,rfl,_,rfl⟩⟩
theorem qf6 (h:PA X es t):PE X (.List es pos) (tLst t):=by
 intro pins s σ H Q I hq
 refine wpAny_List_spliced (thn (h pos pins s σ H _ I hq) fun us s1 ⟨xs,H1,I1,r,z,q⟩=>⟨by rw[← r.length];exact z,?_⟩)
 have hf:H1 s1.heap.objs.size=none:=I1.hok.fresh (Nat.le_refl _)
 refine ⟨.ref s1.heap.objs.size,upd H1 s1.heap.objs.size (.lst xs),I1.laid (t':=s1.toks) (fun b u e=>Heap.get?_push_of_some _ e) (Nat.le_refl _) ?_,rfl,q _ hf⟩
 exact ⟨z,us,0,r,Heap.get?_push_size _ rfl⟩
end
abbrev Sp:=List V→Hp→VK→XK→Prop
abbrev CXT:=List Env→Hp→Shared→XK→Value→Shared→Prop
structure Env0 (P:Program) (w:World) (K:PySem.W.Frag) (mg:Str→Option Value) (base:Heap) (A:Around) (outer:List Env) (s:Shared) (H:Hp):Prop where
 frames:A.frames=some outer
 mod:Mod K mg base
 bs:∀ b o,base.get? b=some o→s.heap.get? b=some o∧H b=none
 bsz:base.objs.size≤s.heap.objs.size
 funs:s.heap.FunFrames base outer
 frf:∀ b∈frs outer,H b=none
 hok:HOk P w H s.heap
 bare:AllBare s.gens
def CE (outer:List Env) (P:Program) (w:World) (H:Hp) (s:Shared) (Q:VK) (u:Value) (s':Shared):Prop:=
 ∃ v H',s'.os=s.os∧AllBare s'.gens∧Un (frs outer) [] H H' s.heap s'.heap∧HOk P w H' s'.heap∧RelV v u∧Q v H'
def CR (CX:CXT) (outer:List Env) (P:Program) (w:World) (H:Hp) (s:Shared) (Q:VK) (E:XK) (r:Result) (s':Shared):Prop:=
 match r with
 | .ok (.ret u)=>CE outer P w H s Q u s'
 | .ok _=>False
 | .error e=>CX outer H s E e s'
structure FnOk (P:Program) (w:World) (K:PySem.W.Frag) (mg:Str→Option Value) (base:Heap) (CX:CXT) (k:Nat) (f:Addr) (fd:FuncData) (ps:List Str) (sp:Sp):Prop where
 len:∀ vs H Q E,sp vs H Q E→vs.length=ps.length
 run:∀ (A:Around) (outer:List Env) (s:Shared) (H:Hp) (args:Args) (us:List Value) (vs:List V) (Q:VK) (E:XK),Room k A→Env0 P w K mg base A outer s H→BindsTo s fd args (ps.zip us)→Vals vs us→sp vs H Q E→
  codeAny (model P w) A (.call (.ref f) args) (CR CX outer P w H s Q E) s
theorem Env0.make {P:Program}{w:World}{K:PySem.W.Frag}{mg:Str→Option Value}{base:Heap}{A:Around}{outer:List Env}{s:Shared}{H:Hp} (e:Env0 P w K mg base A outer s H) (C:Addr) (us:List Value) (kw:List (Str×Value)) :
  Env0 P w K mg base (A.under (.builtin "type.__call__" ⟨.ref C::us,kw⟩)) outer s H:=⟨by first|exact e.frames|(simpa [Around.under,Code.envs,Code.isFrame,pushEnvs] using e.frames),e.mod,e.bs,e.bsz,e.funs,e.frf,e.hok,e.bare⟩
section
variable {X:Cx}{pins:List (Addr×Obj)}{σ:St}{H:Hp}{s s':Shared}
theorem Inv.env0 (I:Inv X pins σ H s):Env0 X.prog X.w X.K X.mg X.base X.A X.stack s H:=
 ⟨I.ok.frames,I.ok.mod,I.bs,Nat.le_trans I.ok.bsz I.sz,I.stack,I.stkFree,I.hok,I.bare⟩
theorem Inv.after {Q:VK}{u:Value} (I:Inv X pins σ H s) (h:CE X.stack X.prog X.w H s Q u s'):EP X pins σ Q u s':=by
 obtain ⟨v,H',os,bare,un,hok,r,q⟩:=h
 obtain ⟨hh,g,d,t,os'⟩:=s'
 obtain rfl:os'=s.os:=os
 exact ⟨v,H',I.call (h':=hh) (g':=g) (d':=d) (t':=t) (ch:=[]) un hok bare (fun b z=>absurd z (by simp)),r,q⟩
end
def tCall (sp:Sp) (dvs:List V) (E:XK) (t:TA):TE:=fun σ H Q=>t σ H fun vs H1=>sp (vs++dvs) H1 Q E
def qdl (K:PySem.W.Frag) (fd:FuncData) (ps:List Str) (ds:List Value):Prop:=
 ∀ (s:Shared) (us:List Value),K.In s.heap→(us++ds).length=ps.length→BindsTo s fd ⟨us,[]⟩ (ps.zip (us++ds))
theorem qdl.all {K:PySem.W.Frag}{fd:FuncData}{ps:List Str} (h:∀ us:List Value,us.length=ps.length→bindArgs fd ⟨us,[]⟩=pure (ps.zip us)):qdl K fd ps []:=fun s us _ hl=>by
 rw[List.append_nil] at hl ⊢
 exact .of_eq (h us hl)
def qdt (CX:CXT) (X:Cx) (E:XK):Prop:=∀ (pins:List (Addr×Obj)) (σ:St) (H:Hp) (s:Shared) (e:Value) (s':Shared),Inv X pins σ H s→CX X.stack H s E e s'→X.xe e s'
section
variable {X:Cx}{CX:CXT}{k:Nat}{f C:Addr}{fd:FuncData}{ps:List Str}{sp:Sp}{dvs:List V}{ds:List Value}{E:XK}{x m:Str}{p pos apos:Pos}{e o:Expr}{es:List Expr}{ta:TE}{t:TA}
theorem run_fn {pins:List (Addr×Obj)}{σ:St}{H:Hp}{s:Shared}{Q:VK}{us:List Value}{vs:List V} (F:FnOk X.prog X.w X.K X.mg X.base CX k f fd ps sp) (hr:Room k X.A) (hb:qdl X.K fd ps ds) (hd:Vals dvs ds) (hx:qdt CX X E)
  (I:Inv X pins σ H s) (r:Vals vs us) (h:sp (vs++dvs) H Q E):wpAny (model X.prog X.w) X.A (call (.ref f) us) (EP X pins σ Q) X.xe s:=by
 have r2:Vals (vs++dvs) (us++ds):=r.append hd
 have hl:(us++ds).length=ps.length:=by rw[← r2.length];exact F.len _ _ _ _ h
 refine wpAny_call (codeAny_mono (F.run X.A X.stack s H ⟨us,[]⟩ (us++ds) (vs++dvs) Q E hr I.env0 (hb s us I.kIn hl) r2 h) fun r s' hq=>?_)
 cases r with
 | error e=>exact hx pins σ H s e s' I hq
 | ok fl=>
  cases fl with
  | ret u=>exact I.after hq
  | next=>exact False.elim hq
  | brk=>exact False.elim hq
  | cont=>exact False.elim hq
theorem qhe (F:FnOk X.prog X.w X.K X.mg X.base CX k f fd ps sp) (hr:Room k X.A) (hg:Gl X x) (hm:X.mg x=some (.ref f)) (hk:PySem.W.keepIn X.K (.ref f)=true) (hb:qdl X.K fd ps ds) (hd:Vals dvs ds) (hx:qdt CX X E)
  (ha:PA X (e::es) t) (hdb:(x == ("__debug__" : Str))=false:=by decide) (he:starEach (e::es) X.env=(false,eval e X.env)::starEach es X.env:=by rfl) (hpl:(backTo pos (starEach es X.env)).any (·.1)=false:=by rfl) :
  PE X (.Call (.Name x p) (e::es) [] pos) (tCall sp dvs E t):=by
 intro pins s σ H Q I h
 refine wpAny_Call_Name_kw (qdn I hg hm ?_ hdb)
 refine PySem.W.callWith_K (h₀:=X.base) I.ok.mod.kin hk (thn (ha pos pins s σ H _ I h) fun us s1 ⟨vs,H1,I1,r,q⟩=>⟨I1.kIn,?_⟩) he hpl
 exact run_fn F hr hb hd hx I1 r q
end
structure FnScope (N P:List Str) (sc:Scope):Prop where
 kind:sc.kind=.function
 co:sc.isCoroutine=false
 gen:sc.isGenerator=false
 nd:N.Nodup
 pre:N.take P.length=P
 par:∀ x∈P,sc.names.lookup x=some .local∨sc.names.lookup x=some .cell
 nofree:∀ y∈sc.names,y.2≠.free
theorem yey {kindOf:Str→Option NameKind}{x:Str}:∀ {binds:List (Str×Value)}{m:Str→Option Value},(∀ v,(x,v)∉binds)→bindL kindOf binds m x=m x
 | [],_,_=>rfl
 | (n,v)::r,m,h=>by
  unfold bindL
  rw[yey fun w hw=>h w (List.mem_cons_of_mem _ hw)]
  split
  ·have:x≠n:=by rintro rfl;exact h v List.mem_cons_self
   simp[this]
  ·rfl
theorem yfc {kindOf:Str→Option NameKind}{x:Str}:∀ {binds:List (Str×Value)}{m:Str→Option Value},(∀ v,(x,v)∉binds)→bindC kindOf binds m x=m x
 | [],_,_=>rfl
 | (n,v)::r,m,h=>by
  unfold bindC
  rw[yfc fun w hw=>h w (List.mem_cons_of_mem _ hw)]
  split
  ·rfl
  ·have:x≠n:=by rintro rfl;exact h v List.mem_cons_self
   simp[this]
theorem ye3 {kindOf:Str→Option NameKind}{x:Str}{v:Value}:∀ {P:List Str}{vs:List Value}{i:Nat}{m:Str→Option Value},P.Nodup→P[i]?=some x→vs[i]?=some v→kindOf x=some .local→
  bindL kindOf (P.zip vs) m x=some v
 | [],_,_,_,_,h,_,_=>by simp at h
 | _::_,[],_,_,_,_,h,_=>by simp at h
 | p::P,w::vs,0,m,nd,h1,h2,hk=>by
  simp at h1 h2;subst h1;subst h2
  show bindL kindOf ((p,w)::P.zip vs) m p=_
  unfold bindL
  rw[yey fun v hv=>(List.nodup_cons.mp nd).1 (List.of_mem_zip hv).1,if_pos hk]
  simp
 | p::P,w::vs,i+1,m,nd,h1,h2,hk=>by
  show bindL kindOf ((p,w)::P.zip vs) m x=_
  unfold bindL
  exact ye3 (i:=i) (List.nodup_cons.mp nd).2 (by simpa using h1) (by simpa using h2) hk
theorem yex {kindOf:Str→Option NameKind}{x:Str}{v:Value}:∀ {P:List Str}{vs:List Value}{i:Nat}{m:Str→Option Value},P.Nodup→P[i]?=some x→vs[i]?=some v→kindOf x≠some .local→
  bindC kindOf (P.zip vs) m x=some v
 | [],_,_,_,_,h,_,_=>by simp at h
 | _::_,[],_,_,_,_,h,_=>by simp at h
 | p::P,w::vs,0,m,nd,h1,h2,hk=>by
  simp at h1 h2;subst h1;subst h2
  show bindC kindOf ((p,w)::P.zip vs) m p=_
  unfold bindC
  rw[yfc fun v hv=>(List.nodup_cons.mp nd).1 (List.of_mem_zip hv).1,if_neg hk]
  simp
 | p::P,w::vs,i+1,m,nd,h1,h2,hk=>by
  show bindC kindOf ((p,w)::P.zip vs) m x=_
  unfold bindC
  exact yex (i:=i) (List.nodup_cons.mp nd).2 (by simpa using h1) (by simpa using h2) hk
def qcu (N:List Str) (vs:List V):St:=vs.map some++List.replicate (N.length-vs.length) none
def cxOf (CX:CXT) (P:Program) (w:World) (K:PySem.W.Frag) (mg:Str→Option Value) (base:Heap) (N:List Str) (qual:Str) (scope:Scope) (f:Addr) (cd:Value) (A:Around) (outer:List Env) (s:Shared) (H:Hp) (E:XK):Cx where
 prog:=P
 w:=w
 K:=K
 mg:=mg
 base:=base
 A:=A.deeper (envOfC qual scope s.heap.objs.size f cd)
 N:=N
 s₀:=s
 H₀:=H
 env:=envOfC qual scope s.heap.objs.size f cd
 outer:=outer
 stack:=envOfC qual scope s.heap.objs.size f cd::outer
 ex:=[]
 calm:=true
 fn:=fun _=>true
 pn:=[]
 xe:=fun e s'=>wpAny (model P w) (A.deeper (envOfC qual scope s.heap.objs.size f cd)) (leaving (envOfC qual scope s.heap.objs.size f cd) e) (fun _ s''=>CX outer H s E e s'') (fun e' s''=>CX outer H s E e' s'') s'
theorem yfw {sc:Scope}{n:Nat}{x:Str} (h:sc.names.lookup x=some .cell):∃ c,(cellsFrom n sc.names []).lookup x=some c:=by
 have q:=PySem.W.cellsFrom_some sc.names n [] (.inl h)
 exact Option.isSome_iff_exists.mp q
theorem yhf {CX:CXT}{P:Program}{w:World}{K:PySem.W.Frag}{mg:Str→Option Value}{base:Heap}{N ps:List Str}{qual:Str}{scope:Scope}{f:Addr}{cd:Value}{A:Around}{outer:List Env}{s s1:Shared}{H:Hp}{E:XK}{us:List Value}{vs:List V}
  (S:FnScope N ps scope) (hd:A.handled=none) (e0:Env0 P w K mg base A outer s H) (hl:vs.length=ps.length) (r:Vals vs us)
  (x:InCallC s s.heap.objs.size (bindL (envOfC qual scope s.heap.objs.size f cd).kindOf (ps.zip us) fun _=>none) (cellsFrom (s.heap.objs.size+1) scope.names []) (bindC (envOfC qual scope s.heap.objs.size f cd).kindOf (ps.zip us) fun _=>none) s1) :
  Inv (cxOf CX P w K mg base N qual scope f cd A outer s H E) [] (qcu N vs) H s1:=by
 have hpl:ps.length≤N.length:=by have:=congrArg List.length S.pre;rw[List.length_take] at this;omega
 obtain ⟨h1,tk,rfl,hk⟩:=x.done
 have noA:∀ b:Addr,b∉(cxOf CX P w K mg base N qual scope f cd A outer s H E).ex:=fun b z=>absurd (show b∈([]:List Addr) from z) (by simp)
 refine ⟨⟨e0.mod,S.kind,rfl,rfl,Nat.le_refl _,fun y z c h1 h2=>?_,fun y hy=>?_,fun y c _ h=>?_,fun _=>hd,Around.frames_deeper e0.frames,.inr ⟨rfl,rfl⟩,fun b z=>absurd z (noA b),e0.bs,e0.bsz,fun b _ _=>noA b,fun b z=>absurd z (noA b),e0.funs,e0.frf⟩,
  rfl,e0.bare,Un.kept hk,⟨_,x.toInCall.ns,fun i y v h1 h2 h3=>?_⟩,fun y c h=>⟨_,x.cell y c h⟩,e0.hok.fresh (Nat.le_refl _),fun y c h=>?_,fun p hp=>absurd (show p∈([]:List (Addr×Obj)) from hp) (by simp),e0.hok.kept hk,?_⟩
 ·exact name_of_addr x.apart (PySem.mem_of_lookup h1) (PySem.mem_of_lookup h2)
 ·have hy:scope.names.lookup y=some .cell∨scope.names.lookup y=some .free:=hy
  rcases hy with hy|hy
  ·exact yfw hy
  ·exact absurd rfl (S.nofree _ (PySem.mem_of_lookup hy))
 ·exact Nat.le_of_lt (x.above y c (PySem.mem_of_lookup h))
 ·have hi:i<vs.length:=by
   unfold qcu at h2
   by_cases hi:i<vs.length
   ·exact hi
   ·rw[List.getElem?_append_right (by simpa using hi)] at h2
    rw[List.getElem?_replicate] at h2
    split at h2<;>cases h2
  have ha:vs[i]?=some v:=by
   unfold qcu at h2
   rw[List.getElem?_append_left (by simpa using hi),List.getElem?_map] at h2
   cases e:vs[i]? with
   | none=>rw[e] at h2;cases h2
   | some a=>rw[e] at h2;cases h2;rfl
  obtain ⟨u,hu,rv⟩:=r.get ha
  have hp:ps[i]?=some y:=by
   rw[← S.pre,List.getElem?_take_of_lt (by omega)];exact h1
  have ndP:ps.Nodup:=by rw[← S.pre];exact S.nd.sublist (List.take_sublist _ _)
  refine ⟨u,rv,?_⟩
  rcases S.par y (List.mem_of_getElem? hp) with k|k
  ·exact .inl ⟨k,ye3 ndP hp hu k⟩
  ·obtain ⟨c,e⟩:=yfw (n:=s.heap.objs.size+1) k
   refine .inr ⟨.inl k,c,e,?_⟩
   have q:=x.cell y c e
   rw[yex ndP hp hu (by show scope.names.lookup y≠_;rw[k];decide)] at q
   exact q
 ·exact e0.hok.fresh (Nat.le_of_lt (x.above y c (PySem.mem_of_lookup h)))
 ·unfold qcu
  show _=N.length
  rw[List.length_append,List.length_map,List.length_replicate]
  omega
theorem fn_of {CX:CXT}{P:Program}{w:World}{K:PySem.W.Frag}{mg:Str→Option Value}{base:Heap}{k:Nat}{f:Addr}{name qual:Str}{params:Arguments}{body:List Stmt}{scope:Scope}{dV kV doc pm cdv ct oc:Value}{an od:Option Addr}
  {osl:Array (Option Value)}{N ps:List Str}{sp:Sp} (lk:K.lookup f=some ⟨oc,od,.func (PySem.W.fnOf name qual params body scope dV kV doc pm an cdv ct),osl⟩) (hcd:PySem.W.codeIn K cdv qual=true) (S:FnScope N ps scope)
  (len:∀ vs H Q E,sp vs H Q E→vs.length=ps.length)
  (hbody:∀ (A:Around) (outer:List Env) (s:Shared) (H:Hp) (vs:List V) (Q:VK) (E:XK),Room k (A.deeper (envOfC qual scope s.heap.objs.size f cdv))→sp vs H Q E→
   ∃ t,PSs (cxOf CX P w K mg base N qual scope f cdv A outer s H E) body t∧t { nx:=fun _ H'=>Q .non H',rt:=Q } (qcu N vs) H) :
  FnOk P w K mg base CX (k+1) f (PySem.W.fnOf name qual params body scope dV kV doc pm an cdv ct) ps sp:=by
 refine ⟨len,fun A outer s H args us vs Q E hr e0 hb r hsp=>?_⟩
 have hl:=len _ _ _ _ hsp
 have KX:K.In s.heap:=e0.mod.kin.keeps fun b o e=>(e0.bs b o e).1
 have lim:s.heap.NoLimit:=e0.mod.nolimit.keeps fun b o e=>(e0.bs b o e).1
 have hkind:∀ y∈ps.zip us,scope.names.lookup y.1=some .local∨(scope.names.lookup y.1=some .cell∧((cellsFrom (s.heap.objs.size+1) scope.names []).lookup y.1).isSome=true):=fun ⟨n,v⟩ hy=>by
  rcases S.par n (List.of_mem_zip hy).1 with q|q
  ·exact .inl q
  ·exact .inr ⟨q,PySem.W.cellsFrom_some _ _ _ (.inl q)⟩
 refine codeAny_call_function hr.depth (KX _ _ lk) rfl S.co S.gen rfl (PySem.W.codeRec_of KX hcd) (hb _ _ _ _ ?_)
 refine wpAny_newFunctionEnv_cells S.kind hkind fun env he s1 x=>?_
 subst he
 refine ⟨lim.keeps x.toInCall.keep,codeAny_func ?_⟩
 obtain ⟨t,ht,hq⟩:=hbody A outer s H vs Q E (hr.deeper _) hsp
 have I:Inv (cxOf CX P w K mg base N qual scope f cdv A outer s H E) [] (qcu N vs) H s1:=yhf S hr.hd e0 hl r x
 refine wpAny_mono (ht [] s1 (qcu N vs) H _ I hq) (fun fl s' hs=>?_) fun e s' hs=>hs
 have fin:∀ {σ':St}{H':Hp}{v:V}{u:Value},Inv (cxOf CX P w K mg base N qual scope f cdv A outer s H E) [] σ' H' s'→RelV v u→Q v H'→CE outer P w H s Q u s':=
  fun {σ' H' v u} J rv q=>⟨v,H',J.os,J.bare,J.base,J.hok,rv,q⟩
 cases fl with
 | ret u=>
  obtain ⟨v,σ',H',J,rv,q⟩:=hs
  exact fin J rv q
 | next=>
  obtain ⟨σ',H',J,q⟩:=hs
  exact fin (v:=V.non) (u:=Value.none) J rfl q
 | brk=>
  obtain ⟨_,_,_,q⟩:=hs
  exact False.elim q
 | cont=>
  obtain ⟨_,_,_,q⟩:=hs
  exact False.elim q
section
variable {X:Cx}{x:Str}{p pos:Pos}{e:Expr}{es:List Expr}{t:TA}{id T:String}{r:List V→Hp→VK→Prop}
def tCB (r:List V→Hp→VK→Prop) (t:TA):TE:=fun σ H Q=>t σ H fun vs H1=>r vs H1 Q
theorem qag (hc:ybh X (.builtin id) r) (hg:Gl X x) (hm:X.mg x=none) (hv:bootBuiltins x=some (.builtin id)) (ha:PA X (e::es) t) (hn:x≠"__name__":=by decide) (hdb:(x == ("__debug__" : Str))=false:=by decide)
  (he:starEach (e::es) X.env=(false,eval e X.env)::starEach es X.env:=by rfl) (hpl:(backTo pos (starEach es X.env)).any (·.1)=false:=by rfl):PE X (.Call (.Name x p) (e::es) [] pos) (tCB r t):=by
 intro pins s σ H Q I h
 refine wpAny_Call_Name_kw (ydz I hg hm hv ?_ hn hdb)
 exact PyProof.Rows.callWith_builtin1 (thn (ha pos pins s σ H _ I h) fun us s1 ⟨vs,H1,I1,r1,q1⟩=>hc pins s1 σ H1 vs us Q I1 r1 q1) he hpl
theorem qcg (hc:ybh X (.type T) r) (hg:Gl X x) (hm:X.mg x=none) (hv:bootBuiltins x=some (.type T)) (ha:PA X (e::es) t) (hn:x≠"__name__":=by decide) (hdb:(x == ("__debug__" : Str))=false:=by decide)
  (he:starEach (e::es) X.env=(false,eval e X.env)::starEach es X.env:=by rfl) (hpl:(backTo pos (starEach es X.env)).any (·.1)=false:=by rfl):PE X (.Call (.Name x p) (e::es) [] pos) (tCB r t):=by
 intro pins s σ H Q I h
 refine wpAny_Call_Name_kw (ydz I hg hm hv ?_ hn hdb)
 exact PyProof.Rows.callWith_type1 (thn (ha pos pins s σ H _ I h) fun us s1 ⟨vs,H1,I1,r1,q1⟩=>hc pins s1 σ H1 vs us Q I1 r1 q1) he hpl
end
end L2
namespace HT
open PySem PyProof.Rows
section
variable {prog:Program}{w:World}{A:Around}{E:Value→Shared→Prop}{s:Shared}
def sIx (n d:Nat):Option Int→Nat
 | none=>d
 | some v=>if v<0 then (v+(n:Int)).toNat else min v.toNat n
theorem sIx_none (n d:Nat):sIx n d none=d:=rfl
theorem sIx_nat (n d k:Nat):sIx n d (some (k:Int))=min k n:=by
 show (if (k:Int)<0 then ((k:Int)+(n:Int)).toNat else min (k:Int).toNat n)=min k n
 rw[if_neg (by omega),Int.toNat_natCast]
theorem sIx_le (n d:Nat) (hd:d≤n) (o:Option Int):sIx n d o≤n:=by
 cases o with
 | none=>exact hd
 | some v=>
  show (if v<0 then (v+(n:Int)).toNat else min v.toNat n)≤n
  by_cases hv:v<0
  ·rw[if_pos hv];omega
  ·rw[if_neg hv];exact Nat.min_le_right _ _
theorem qg8 (v:Int) (n d:Nat):(if v<0 then max (v+(n:Int)) 0 else min v (n:Int))=((sIx n d (some v):Nat):Int):=by
 show (if v<0 then max (v+(n:Int)) 0 else min v (n:Int))=(((if v<0 then (v+(n:Int)).toNat else min v.toNat n):Nat):Int)
 by_cases hv:v<0
 ·simp only[if_pos hv];omega
 ·simp only[if_neg hv];omega
theorem qgc (lo hi:Option Int) (n:Nat):Builtin.Slice.sliceAdjust lo hi 1 (n:Int)=(((sIx n 0 lo:Nat):Int),((sIx n n hi:Nat):Int)):=by
 have h1:¬ ((1:Int)<0):=by omega
 unfold Builtin.Slice.sliceAdjust
 simp only[h1,if_false]
 refine Prod.ext ?_ ?_
 ·cases lo with
  | none=>rfl
  | some v=>exact qg8 v n 0
 ·cases hi with
  | none=>rfl
  | some v=>exact qg8 v n n
theorem qgm (i j:Nat):Builtin.Slice.slicePlaces (i:Int) (j:Int) 1=j-i:=by
 unfold Builtin.Slice.slicePlaces
 have h1:(1:Int)>0:=by omega
 simp only[h1,if_true,Int.ediv_one]
 split<;>omega
theorem ydy {v:Value}{o:Option Int}{Q:Option Int→Shared→Prop} (p:IsPart v o) (h:Q o s):wpAny (model prog w) A (Builtin.Slice.slicePartIndex v) Q E s:=by
 cases p with
 | none=>exact slicePart_none h
 | int i t=>exact slicePart_int h
theorem qc2 {sl:Addr}{vl vu:Value}{lo hi:Option Int}{n:Nat}{Q:Int×Int×Nat→Shared→Prop} (hs:s.heap.IsSliceOf sl vl vu .none) (pl:IsPart vl lo) (pu:IsPart vu hi)
  (h:Q (((sIx n 0 lo:Nat):Int),1,sIx n n hi-sIx n 0 lo) s):wpAny (model prog w) A (Builtin.Slice.sliceApplied (.ref sl) (pure (n:Int))) Q E s:=by
 obtain ⟨os,hos,hcs,hds⟩:=id hs
 unfold Builtin.Slice.sliceApplied Builtin.Slice.sliceFields
 refine wpAny_bind (wpAny_bind (wpAny_field hos hds (x:=vl) rfl (wpAny_bind (wpAny_field hos hds (x:=vu) rfl (wpAny_bind (wpAny_field hos hds (x:=.none) rfl (wpAny_pure ?_)))))))
 refine wpAny_bind (slicePart_none ?_)
 show wpAny _ _ (if ((1:Int) == 0)=true then _ else _) _ _ s
 rw[if_neg (by decide)]
 refine wpAny_bind (ydy pl (wpAny_bind (ydy pu (wpAny_bind (wpAny_pure ?_)))))
 show wpAny _ _ (match Builtin.Slice.sliceAdjust lo hi 1 (n:Int) with|(lo,hi)=>pure (lo,(1:Int),Builtin.Slice.slicePlaces lo hi 1)) _ _ s
 rw[qgc lo hi n]
 show wpAny _ _ (pure (((sIx n 0 lo:Nat):Int),(1:Int),Builtin.Slice.slicePlaces ((sIx n 0 lo:Nat):Int) ((sIx n n hi:Nat):Int) 1)) _ _ s
 rw[qgm]
 exact wpAny_pure h
theorem pick_gen (xs:Array Value) (i k:Nat):((List.range k).filterMap fun (m:Nat)=>xs[((i:Int)+(m:Int)*1).toNat]?).toArray=((xs.toList.drop i).take k).toArray:=by
 have e:(fun (m:Nat)=>xs[((i:Int)+(m:Int)*1).toNat]?)=fun m=>xs[i+m]?:=by
  funext m
  have:((i:Int)+(m:Int)*1).toNat=i+m:=by omega
  rw[this]
 rw[e]
 have:=pick_run xs i k
 rw[List.filterMap_map] at this
 have e2:((fun x=>xs[x]?) ∘ fun x=>i+x)=fun m=>xs[i+m]?:=rfl
 rw[e2] at this
 rw[this]
theorem getItem_tuple_cut {t sl:Addr}{items:Array Value}{vl vu:Value}{lo hi:Option Int}{Q:Value→Shared→Prop} (ht:IsTup s.heap t items) (hs:s.heap.IsSliceOf sl vl vu .none) (pl:IsPart vl lo) (pu:IsPart vu hi)
  (hw:¬ (sIx items.size 0 lo=0∧sIx items.size items.size hi=items.size))
  (h:Q (.ref s.heap.objs.size) { s with heap:=s.heap.push { cls:=.type "tuple",data:=.seq ((items.toList.drop (sIx items.size 0 lo)).take (sIx items.size items.size hi-sIx items.size 0 lo)).toArray } })
  (hsz:items.size≤sizeLine):wpAny (model prog w) A (getItem (.ref t) (.ref sl)) Q E s:=by
 have htake:sizeOk (.seq ((items.toList.drop (sIx items.size 0 lo)).take (sIx items.size items.size hi-sIx items.size 0 lo)).toArray):=by
  show ((items.toList.drop (sIx items.size 0 lo)).take (sIx items.size items.size hi-sIx items.size 0 lo)).toArray.size≤sizeLine
  rw[List.size_toArray,List.length_take,List.length_drop,Array.length_toList]
  omega
 have hj:sIx items.size items.size hi≤items.size:=sIx_le _ _ (Nat.le_refl _) hi
 obtain ⟨os,hos,hcs,hds⟩:=id hs
 have hTs:s.TypeIs (.ref sl) "slice":=⟨os,hos,hcs⟩
 unfold getItem
 try with_reducible refine wpAny_holding ?_
 first|refine wpAny_bind (wpAny_pure ?_)|skip
 refine wpAny_bind (wpAny_sequenceKey ht.typeIs (by decide) ?_)
 refine wpAny_bind (wpAny_callSpecial?_slot (name:=Str.ofString "__getitem__") ht.typeIs PyProof.Rows.slot_tuple_getitem
  (wpAny_call_entry PyProof.Rows.slot_tuple_getitem ht.typeIs entry_tuple_getitem ?_ (args_tuple_getitem _ _)))
 show wpAny _ _ (Builtin.Tuple.tupleItemsOf (.ref t) >>= _) _ _ s
 refine wpAny_bind (tupleItemsOf_ ht ?_)
 refine wpAny_bind (wpAny_typeOf hTs ?_)
 rw[if_pos (by decide)]
 refine wpAny_bind (qc2 hs pl pu ?_)
 have hno:¬ ((((sIx items.size 0 lo:Nat):Int) == 0&&(1:Int) == 1&&(sIx items.size items.size hi-sIx items.size 0 lo) == items.size)=true):=by
  intro q
  rw[Bool.and_eq_true,Bool.and_eq_true] at q
  have q1:((sIx items.size 0 lo:Nat):Int)=0:=eq_of_beq q.1.1
  have q2:sIx items.size items.size hi-sIx items.size 0 lo=items.size:=eq_of_beq q.2
  exact hw ⟨by omega,by omega⟩
 show wpAny _ _ (if (((sIx items.size 0 lo:Nat):Int) == 0&&(1:Int) == 1&&(sIx items.size items.size hi-sIx items.size 0 lo) == items.size)=true then _ else _) _ _ s
 rw[if_neg hno,pick_gen]
 first
  | exact wpAny_bind (m:=Builtin.Tuple.tupleExact _) (wpAny_newObj_type (wpAny_pure ⟨_,rfl,wpAny_pure h⟩) htake)
  | exact wpAny_bind (m:=Builtin.Tuple.tupleExact _) (wpAny_newObj_type (wpAny_bind (wpAny_pure (wpAny_pure ⟨_,rfl,wpAny_pure h⟩))) htake)
  | exact wpAny_bind (wpAny_bind (m:=Builtin.Tuple.tupleExact _) (wpAny_newObj_type (wpAny_pure (wpAny_pure ⟨_,rfl,wpAny_pure h⟩)) htake))
  | exact wpAny_bind (wpAny_bind (m:=Builtin.Tuple.tupleExact _) (wpAny_newObj_type (wpAny_pure ⟨_,rfl,wpAny_pure h⟩) htake))
end
end HT
namespace L2
open PySem PySem.Spec PyProof.Rows
abbrev TO:=St→Hp→(Option Int→Hp→Prop)→Prop
def PO (X:Cx) (e:Option Expr) (t:TO):Prop:=
 ∀ (pins:List (Addr×Obj)) (s:Shared) (σ:St) (H:Hp) (Q:Option Int→Hp→Prop),Inv X pins σ H s→t σ H Q→
  wpAny (model X.prog X.w) X.A (evalPart e X.env) (fun u s'=>∃ o H',Inv X pins σ H' s'∧IsPart u o∧Q o H') X.xe s
def tNoPart:TO:=fun _ H Q=>Q none H
def tPart (t:TE):TO:=fun σ H Q=>t σ H fun x H1=>∃ i,x=.int i∧Q (some i) H1
theorem ydu {ns:List Int}:∀ {us:List Value},Vals (ns.map V.int) us→IntsAre us ns:=by
 induction ns with
 | nil=>intro us r;rw[List.map_nil] at r;cases r;exact .nil
 | cons n ns ih=>
  intro us r
  rw[List.map_cons] at r
  cases r with
  | cons r1 r2=>
   obtain ⟨t,e⟩:=r1
   subst e
   exact .cons n t (ih r2)
section
variable {X:Cx}{e:Expr}{te:TE}{lo hi:Option Expr}{tl th:TO}{pos p2:Pos}
theorem ycq:PO X none tNoPart:=by
 intro pins s σ H Q I h
 rw[evalPart_none]
 exact wpAny_pure ⟨none,H,I,.none,h⟩
theorem qbs (h:PE X e te):PO X (some e) (tPart te):=by
 intro pins s σ H Q I hw
 rw[evalPart_some]
 refine thn (h pins s σ H _ I hw) fun u s1 ⟨x,H1,I1,r1,q1⟩=>?_
 obtain ⟨i,rfl,q⟩:=q1
 obtain ⟨t,rfl⟩:=r1
 exact ⟨some i,H1,I1,.int i t,q⟩
def SlR (X:Cx) (r:V→Option Int→Option Int→Hp→VK→Prop):Prop:=
 ∀ (pins:List (Addr×Obj)) (s:Shared) (σ:St) (H:Hp) (x:V) (v vl vu:Value) (lo hi:Option Int) (sl:Addr) (Q:VK),Inv X pins σ H s→RelV x v→s.heap.IsSliceOf sl vl vu .none→IsPart vl lo→IsPart vu hi→r x lo hi H Q→
  ∃ T id,typeLookup (.type T) "__getitem__" = pure (some (.builtin id))∧s.TypeIs v T∧wpAny (model X.prog X.w) X.A (getItem v (.ref sl)) (EP X pins σ Q) X.xe s
def tSl (r:V→Option Int→Option Int→Hp→VK→Prop) (te:TE) (tl th:TO):TE:=fun σ H Q=>te σ H fun x H1=>tl σ H1 fun l H2=>th σ H2 fun u H3=>r x l u H3 Q
theorem qb5 {r:V→Option Int→Option Int→Hp→VK→Prop} (hr:SlR X r) (he:PE X e te) (hl:PO X lo tl) (hu:PO X hi th):PE X (.Subscript e (.Slice lo hi none p2) pos) (tSl r te tl th):=by
 intro pins s σ H Q I h
 refine Subscript_ (thn (he pins s σ H _ I h) fun v s1 ⟨x,H1,I1,r1,q1⟩=>?_)
 refine wpAny_Slice (thn (hl pins s1 σ H1 _ I1 q1) fun vl s2 ⟨l,H2,I2,pl,q2⟩=>thn (hu pins s2 σ H2 _ I2 q2) fun vu s3 ⟨u,H3,I3,pu,q3⟩=>?_)
 rw[evalPart_none]
 refine wpAny_pure ?_
 have I4:Inv X pins σ H3 { s3 with heap:=s3.heap.push { cls:=.type "slice",data:=.fields #[vl,vu,.none] } }:=I3.kept (t':=s3.toks) fun b ob q=>Heap.get?_push_of_some _ q
 obtain ⟨T,id,hT,ht,hg⟩:=hr pins { s3 with heap:=s3.heap.push { cls:=.type "slice",data:=.fields #[vl,vu,.none] } } σ H3 x v vl vu l u s3.heap.objs.size Q I4 r1 (Heap.IsSliceOf.new ..) pl pu q3
 show wpAny (model X.prog X.w) X.A (subscriptTail e (.Slice lo hi none p2) v (.ref s3.heap.objs.size)) (EP X pins σ Q) X.xe { s3 with heap:=s3.heap.push { cls:=.type "slice",data:=.fields #[vl,vu,.none] } }
 exact tail_any (ops:=[.ref s3.heap.objs.size,v]) ht hT hg (by with_unfolding_all rfl)
def cutV (xs:List V) (lo hi:Option Int):List V:=(xs.drop (HT.sIx xs.length 0 lo)).take (HT.sIx xs.length xs.length hi-HT.sIx xs.length 0 lo)
theorem ydl (xs:List V) (lo hi:Option Int):(cutV xs lo hi).length≤xs.length:=by
 unfold cutV
 rw[List.length_take,List.length_drop]
 omega
def rSlT (K:PySem.W.Frag):V→Option Int→Option Int→Hp→VK→Prop:=fun x lo hi H Q=>∃ a xs,x=.ref a∧SqT K H a xs∧
 ¬ (HT.sIx xs.length 0 lo=0∧HT.sIx xs.length xs.length hi=xs.length)∧∀ p,H p=none→Q (.ref p) (upd H p (.tup (cutV xs lo hi)))
theorem qfz:SlR X (rSlT X.K):=by
 intro pins s σ H x v vl vu lo hi sl Q I rx hs pl pu h
 obtain ⟨a,xs,rfl,hx,hw,q⟩:=h
 cases rx
 obtain ⟨its,r,ht,hz⟩:=I.tuple hx
 have hlen:its.toArray.size=xs.length:=by rw[List.size_toArray];exact r.length.symm
 refine ⟨"tuple",_,PyProof.Rows.slot_tuple_getitem.lookup,ht.typeIs,?_⟩
 refine HT.getItem_tuple_cut ht hs pl pu (by rw[hlen];exact hw) ?_ (by rw[hlen];exact hz)
 rw[hlen]
 refine ⟨.ref s.heap.objs.size,_,I.laid (t':=s.toks) (o:=.tup (cutV xs lo hi)) (fun b ob q=>Heap.get?_push_of_some _ q) (Nat.le_refl _) ?_,rfl,q _ (I.hok.fresh (Nat.le_refl _))⟩
 exact ⟨Nat.le_trans (ydl xs lo hi) hz,_,(r.drop (HT.sIx xs.length 0 lo)).take (HT.sIx xs.length xs.length hi-HT.sIx xs.length 0 lo),IsTup.new _ _⟩
end
def ixN (n:Nat) (i:Int):Option Nat:=if 0≤i then (if i<n then some i.toNat else none) else if -(n:Int)≤i then some (i+n).toNat else none
def atI {α:Type} (xs:List α) (i:Int):Option α:=(ixN xs.length i).bind fun j=>xs[j]?
theorem ixN_seq {n:Nat}{i:Int}{j:Nat} (h:ixN n i=some j):seqIndex? i n=some j∧j<n∧-(n:Int)≤i∧i<n:=by
 unfold ixN at h
 by_cases h0:0≤i
 ·rw[if_pos h0] at h
  by_cases h1:i<n
  ·rw[if_pos h1] at h
   have e:i.toNat=j:=Option.some.inj h
   exact ⟨by rw[seqIndex_of h0 h1,e],by omega,by omega,h1⟩
  ·rw[if_neg h1] at h;cases h
 ·rw[if_neg h0] at h
  by_cases h1:-(n:Int)≤i
  ·rw[if_pos h1] at h
   have e:(i+n).toNat=j:=Option.some.inj h
   exact ⟨by rw[seqIndex_neg (by omega) h1,e],by omega,h1,by omega⟩
  ·rw[if_neg h1] at h;cases h
theorem qgu {α:Type}{xs:List α}{i:Int}{v:α} (h:atI xs i=some v):∃ j,seqIndex? i xs.length=some j∧xs[j]?=some v∧j<xs.length∧-(xs.length:Int)≤i∧i<xs.length:=by
 unfold atI at h
 cases e:ixN xs.length i with
 | none=>rw[e] at h;cases h
 | some j=>
  rw[e] at h
  obtain ⟨h1,h2,h3,h4⟩:=ixN_seq e
  exact ⟨j,h1,h,h2,h3,h4⟩
theorem qhc {α:Type}{xs:List α}{j:Nat}{v:α} (h:xs[j]?=some v):atI xs (j:Int)=some v:=by
 have hj:j<xs.length:=(List.getElem?_eq_some_iff.mp h).1
 have e:ixN xs.length (j:Int)=some j:=by
  unfold ixN
  rw[if_pos (by omega),if_pos (by omega)];simp
 unfold atI;rw[e];exact h
def yhq (b:Expr):Prop:=∀ o i,subscripted b false o i=operate [o,i] (getItem o i)
def IxR (X:Cx) (r:R2):Prop:=
 ∀ (value slice:Expr) (pins:List (Addr×Obj)) (s:Shared) (σ:St) (H:Hp) (x y:V) (v u:Value) (Q:VK),Inv X pins σ H s→RelV x v→RelV y u→r x y H Q→
  subscripted slice false v u=operate [v,u] (getItem v u)→wpAny (model X.prog X.w) X.A (subscriptTail value slice v u) (EP X pins σ Q) X.xe s
def MtR (X:Cx) (id:String) (r:V→List V→Hp→VK→Prop):Prop:=
 ∀ (pins:List (Addr×Obj)) (s:Shared) (σ:St) (H:Hp) (x:V) (xs:List V) (v:Value) (us:List Value) (Q:VK),Inv X pins σ H s→RelV x v→Vals xs us→r x xs H Q→
  wpAny (model X.prog X.w) X.A (call (.builtin id) (v::us)) (EP X pins σ Q) X.xe s
section
variable {X:Cx}{a b:Expr}{ta tb:TE}{pos:Pos}
theorem ycn {r:R2} (hr:IxR X r) (ha:PE X a ta) (hb:PE X b tb) (hs:yhq b):PE X (.Subscript a b pos) (tOp r ta tb):=by
 intro pins s σ H Q I h
 exact Subscript_ (binT ha hb I h fun v u s2 x y H2 I2 rx ry q=>hr a b pins s2 σ H2 x y v u Q I2 rx ry q (hs _ _))
def rIxL (K:PySem.W.Frag):R2:=fun x y H Q=>∃ p xs i v,x=.ref p∧y=.int i∧SqL K H p xs∧atI xs i=some v∧Q v H
def rIxT (K:PySem.W.Frag):R2:=fun x y H Q=>∃ p xs i v,x=.ref p∧y=.int i∧SqT K H p xs∧atI xs i=some v∧Q v H
theorem qa9:IxR X (rIxL X.K):=by
 intro value slice pins s σ H x y v u Q I rx ry h hs
 obtain ⟨p,xs,i,z,rfl,rfl,hq,he,q⟩:=h
 cases rx
 obtain ⟨t,rfl⟩:=ry
 obtain ⟨its,r,pl,hz⟩:=I.list hq
 obtain ⟨j,h1,h2,h3,h4,h5⟩:=qgu he
 obtain ⟨w,ew,rw'⟩:=r.get h2
 have hl:=r.length
 have hn:=qg2
 have fin:EP X pins σ Q w s:=⟨z,H,I,rw',q⟩
 by_cases h0:0≤i
 ·have hj:i.toNat=j:=by
   rw[seqIndex_of h0 h5] at h1
   exact Option.some.inj h1
  exact item_listR pl.isList h0 (by omega) (by rw[hj];simpa using ew) fin hs
 ·have hj:(i+(its.toArray.size:Int)).toNat=j:=by
   rw[seqIndex_neg (by omega) h4] at h1
   rw[List.size_toArray,← hl]
   exact Option.some.inj h1
  exact subscriptTail_builtinR (x:=w) pl.isList.typeIs slot_list_getitem.lookup
   (wpAny_getItem_list_neg (Q:=fun r s'=>r=w∧EP X pins σ Q r s') pl.isList (by omega) (by rw[List.size_toArray]<;>omega) (by omega) (by rw[hj];simpa using ew) ⟨rfl,fin⟩) hs
theorem yaz:IxR X (rIxT X.K):=by
 intro value slice pins s σ H x y v u Q I rx ry h hs
 obtain ⟨p,xs,i,z,rfl,rfl,hq,he,q⟩:=h
 cases rx
 obtain ⟨t,rfl⟩:=ry
 obtain ⟨its,r,pl,hz⟩:=I.tuple hq
 obtain ⟨j,h1,h2,h3,h4,h5⟩:=qgu he
 obtain ⟨w,ew,rw'⟩:=r.get h2
 have hl:=r.length
 have hn:=qg2
 have fin:EP X pins σ Q w s:=⟨z,H,I,rw',q⟩
 exact subscriptTail_builtinR (x:=w) pl.typeIs slot_tuple_getitem.lookup
  (getItem_tuple (j:=j) (Q:=fun r s'=>r=w∧EP X pins σ Q r s') pl (by omega) (by omega) (by rw[List.size_toArray,← hl];exact h1) (by simpa using ew) ⟨rfl,fin⟩) hs
theorem qeq (lo hi:Option Int) (n:Nat):(sliceBounds lo hi none n).1=((HT.sIx n 0 lo:Nat):Int)∧(sliceBounds lo hi none n).2.1=((HT.sIx n n hi:Nat):Int)∧(sliceBounds lo hi none n).2.2=1:=by
 refine ⟨?_,?_,rfl⟩
 ·cases lo with
  | none=>simp[sliceBounds,HT.sIx]
  | some i=>
   simp only[sliceBounds,HT.sIx,Option.getD_none,show (1:Int)>0 by decide,if_true]
   by_cases h:i<0
   ·simp only[h,if_true]<;>omega
   ·simp only[h,if_false]<;>omega
 ·cases hi with
  | none=>simp[sliceBounds,HT.sIx]
  | some i=>
   simp only[sliceBounds,HT.sIx,Option.getD_none,show (1:Int)>0 by decide,if_true]
   by_cases h:i<0
   ·simp only[h,if_true]<;>omega
   ·simp only[h,if_false]<;>omega
theorem qd3 (its:List Value) (lo hi:Option Int):slicePick its.toArray lo hi none=((its.drop (HT.sIx its.length 0 lo)).take (HT.sIx its.length its.length hi-HT.sIx its.length 0 lo)).toArray:=by
 obtain ⟨h1,h2,h3⟩:=qeq lo hi its.toArray.size
 unfold slicePick
 rw[h1,h2,h3]
 simp only[sliceRange_one,pick_run,List.size_toArray]<;>rfl
def rSlL (K:PySem.W.Frag):V→Option Int→Option Int→Hp→VK→Prop:=fun x lo hi H Q=>∃ a xs,x=.ref a∧SqL K H a xs∧∀ p,H p=none→Q (.ref p) (upd H p (.lst (cutV xs lo hi)))
theorem yfk:SlR X (rSlL X.K):=by
 intro pins s σ H x v vl vu lo hi sl Q I rx hs pl pu h
 obtain ⟨a,xs,rfl,hx,q⟩:=h
 cases rx
 obtain ⟨its,r,ht,hz⟩:=I.list hx
 have hlen:=r.length
 refine ⟨"list",_,slot_list_getitem.lookup,ht.isList.typeIs,?_⟩
 refine wpAny_getItem_list_slice ht.isList hs pl pu .none (by simp) ?_ (by rw[List.size_toArray]<;>omega)
 rw[qd3,← hlen]
 refine ⟨.ref s.heap.objs.size,_,I.laid (t':=s.toks) (o:=.lst (cutV xs lo hi)) (fun b ob q=>Heap.get?_push_of_some _ q) (Nat.le_refl _) ?_,rfl,q _ (I.hok.fresh (Nat.le_refl _))⟩
 exact ⟨Nat.le_trans (ydl xs lo hi) hz,_,0,(r.drop (HT.sIx xs.length 0 lo)).take (HT.sIx xs.length xs.length hi-HT.sIx xs.length 0 lo),Heap.get?_push_size _ rfl⟩
def yb6:V→Bool
 | .non=>true
 | .bl _=>true
 | .int _=>true
 | .str _=>true
 | _=>false
def eqV:V→V→Bool
 | .non,.non=>true
 | .bl a,.bl b=>a == b
 | .bl a,.int b=>(if a then 1 else 0) == b
 | .int a,.bl b=>a == (if b then 1 else 0)
 | .int a,.int b=>a == b
 | .str a,.str b=>a == b
 | _,_=>false
theorem eqAt_V {A:Around}{s:Shared}{y x:V}{u v:Value} (ry:RelV y u) (rx:RelV x v) (fy:yb6 y=true) (fx:yb6 x=true):SeqAt.EqAt A s u v (eqV y x):=by
 cases y with
 | non=>
  cases ry
  cases x with
  | non=>cases rx;exact SeqAt.EqAt.same _
  | bl b=>cases rx;exact SeqAt.EqAt.none_bool b
  | int b=>obtain ⟨t,rfl⟩:=rx;exact SeqAt.EqAt.none_int b t
  | str b=>obtain ⟨t,rfl⟩:=rx;exact SeqAt.EqAt.none_str b t
  | _=>exact absurd (show false=true from fx) Bool.false_ne_true
 | bl a=>
  cases ry
  cases x with
  | non=>cases rx;exact SeqAt.EqAt.bool_none a
  | bl b=>cases rx;exact SeqAt.EqAt.bool_bool a b
  | int b=>obtain ⟨t,rfl⟩:=rx;exact SeqAt.EqAt.bool_int a b t
  | str b=>obtain ⟨t,rfl⟩:=rx;exact SeqAt.EqAt.bool_str a b t
  | _=>exact absurd (show false=true from fx) Bool.false_ne_true
 | int a=>
  obtain ⟨t',rfl⟩:=ry
  cases x with
  | non=>cases rx;exact SeqAt.EqAt.int_none a t'
  | bl b=>cases rx;exact SeqAt.EqAt.int_bool a t' b
  | int b=>obtain ⟨t,rfl⟩:=rx;exact SeqAt.EqAt.int_int a t' b t
  | str b=>obtain ⟨t,rfl⟩:=rx;exact SeqAt.EqAt.int_str a t' b t
  | _=>exact absurd (show false=true from fx) Bool.false_ne_true
 | str a=>
  obtain ⟨t',rfl⟩:=ry
  cases x with
  | non=>cases rx;exact SeqAt.EqAt.str_none a t'
  | bl b=>cases rx;exact SeqAt.EqAt.str_bool a t' b
  | int b=>obtain ⟨t,rfl⟩:=rx;exact SeqAt.EqAt.str_int a t' b t
  | str b=>obtain ⟨t,rfl⟩:=rx;exact SeqAt.EqAt.str_str a t' b t
  | _=>exact absurd (show false=true from fx) Bool.false_ne_true
 | _=>exact absurd (show false=true from fy) Bool.false_ne_true
def eqU (x:V) (u:Value):Bool:=match u with
 | .none=>eqV .non x
 | .bool b=>eqV (.bl b) x
 | .int i _=>eqV (.int i) x
 | .str z _=>eqV (.str z) x
 | _=>false
theorem eqU_of {x y:V}{u:Value} (r:RelV y u) (f:yb6 y=true):eqU x u=eqV y x:=by
 cases y with
 | non=>cases r;rfl
 | bl b=>cases r;rfl
 | int i=>obtain ⟨t,rfl⟩:=r;rfl
 | str z=>obtain ⟨t,rfl⟩:=r;rfl
 | _=>exact absurd (show false=true from f) Bool.false_ne_true
theorem qfr {x:V}:∀ {xs:List V}{us:List Value},Vals xs us→xs.all yb6=true→us.any (eqU x)=xs.any fun y=>eqV y x
 | _,_,.nil,_=>rfl
 | y::xs,u::us,.cons r t,f=>by
  rw[List.all_cons,Bool.and_eq_true] at f
  rw[List.any_cons,List.any_cons,eqU_of r f.1,qfr t f.2]
theorem yd4 {A:Around}{s:Shared}{x:V}{v:Value} (rx:RelV x v) (fx:yb6 x=true):∀ {xs:List V}{us:List Value},Vals xs us→xs.all yb6=true→∀ u∈us,SeqAt.EqAt A s u v (eqU x u)
 | _,_,.nil,_=>fun u hu=>by cases hu
 | y::xs,u::us,.cons r t,f=>fun u' hu=>by
  rw[List.all_cons,Bool.and_eq_true] at f
  rcases List.mem_cons.mp hu with rfl|hu
  ·rw[eqU_of r f.1];exact eqAt_V r rx f.1 fx
  ·exact yd4 rx fx t f.2 u' hu
def inV (x:V) (xs:List V):Bool:=xs.any fun y=>eqV y x
def rIn (K:PySem.W.Frag) (neg:Bool):R2:=fun x y H Q=>∃ p xs,y=.ref p∧(SqL K H p xs∨SqT K H p xs)∧yb6 x=true∧xs.all yb6=true∧Q (.bl (if neg then !inV x xs else inV x xs)) H
theorem ya8:OpR X (compareOp .In) (rIn X.K false):=by
 intro pins s σ H x y v u Q I rx ry h
 obtain ⟨p,xs,rfl,hq,fx,fs,q⟩:=h
 cases ry
 rcases hq with hq|hq
 ·obtain ⟨its,r,pl,hz⟩:=I.list hq
  refine SeqAt.in_listAt (eqU x) pl.isList (fun w hw=>yd4 rx fx r fs w (by simpa using hw)) ⟨.bl _,H,I,rfl,?_⟩
  rw[show its.toArray.any (eqU x)=its.any (eqU x) by simp,qfr r fs]
  exact q
 ·obtain ⟨its,r,pl,hz⟩:=I.tuple hq
  refine SeqAt.in_tupleAt (eqU x) pl (fun w hw=>yd4 rx fx r fs w (by simpa using hw)) ⟨.bl _,H,I,rfl,?_⟩
  rw[show its.toArray.any (eqU x)=its.any (eqU x) by simp,qfr r fs]
  exact q
theorem qah:ybh X (.builtin "len") (fun xs H Q=>∃ p ys,xs=[.ref p]∧(SqL X.K H p ys∨SqT X.K H p ys)∧Q (.int ys.length) H):=by
 intro pins s σ H xs us Q I r h
 obtain ⟨p,ys,rfl,hq,q⟩:=h
 obtain ⟨u,rfl,rx⟩:=vals1 r
 cases rx
 have hn:=qg2
 rcases hq with hq|hq
 ·obtain ⟨its,r',pl,hz⟩:=I.list hq
  have hlen:=r'.length
  exact Calls.call_len_list pl.isList (by simp only[List.size_toArray]<;>omega) ⟨.int ys.length,H,I.tok _,⟨s.toks+1,by rw[List.size_toArray,hlen]⟩,q⟩
 ·obtain ⟨its,r',pl,hz⟩:=I.tuple hq
  have hlen:=r'.length
  exact len_tuple pl (by simp only[List.size_toArray]<;>omega) ⟨.int ys.length,H,I.tok _,⟨s.toks+1,by rw[List.size_toArray,hlen]⟩,q⟩
theorem qfb:ybh X (.type "list") (fun xs H Q=>∃ p ys,xs=[.ref p]∧(SqL X.K H p ys∨SqT X.K H p ys)∧∀ l,H l=none→Q (.ref l) (upd H l (.lst ys))):=by
 intro pins s σ H xs us Q I r h
 obtain ⟨p,ys,rfl,hq,q⟩:=h
 obtain ⟨u,rfl,rx⟩:=vals1 r
 cases rx
 have fin:∀ (its:List Value),Vals ys its→ys.length≤sizeLine→∀ (h':Heap) (c':Nat),(∀ b o',s.heap.get? b=some o'→h'.get? b=some o')→
   h'.get? s.heap.objs.size=some { cls:=.type "list",dict:=none,data:=.seq its.toArray c',slots:=#[] }→EP X pins σ Q (.ref s.heap.objs.size) { s with heap:=h' }:=fun its r' hz h' c' kp e=>
  ⟨.ref s.heap.objs.size,_,I.laid (t':=s.toks) kp (Nat.le_refl _) (show yav X.prog X.w _ h' _ (.lst ys) from ⟨hz,its,c',r',e⟩),rfl,q _ (I.hok.fresh (Nat.le_refl _))⟩
 rcases hq with hq|hq
 ·obtain ⟨its,r',pl,hz⟩:=I.list hq
  have hlen:=r'.length
  obtain ⟨o,ho,hc,n,hd⟩:=pl.isList
  exact call_list_seq p (.inl rfl) ho hc hd (fun h' c' kp e=>fin its r' hz h' c' kp e) (by simp only[List.size_toArray]<;>omega)
 ·obtain ⟨its,r',pl,hz⟩:=I.tuple hq
  have hlen:=r'.length
  obtain ⟨o,ho,hc,n,hd⟩:=pl
  exact call_list_seq p (.inr rfl) ho hc hd (fun h' c' kp e=>fin its r' hz h' c' kp e) (by simp only[List.size_toArray]<;>omega)
theorem qeb:ybh X (.type "tuple") (fun xs H Q=>∃ p ys,xs=[.ref p]∧((SqL X.K H p ys∧∀ l,H l=none→Q (.ref l) (upd H l (.tup ys)))∨(SqT X.K H p ys∧Q (.ref p) H))):=by
 intro pins s σ H xs us Q I r h
 obtain ⟨p,ys,rfl,h⟩:=h
 obtain ⟨u,rfl,rx⟩:=vals1 r
 cases rx
 rcases h with ⟨hq,q⟩|⟨hq,q⟩
 ·obtain ⟨its,r',pl,hz⟩:=I.list hq
  have hlen:=r'.length
  refine call_tuple_list pl.isList (fun h' kp=>?_) (by simp only[List.size_toArray]<;>omega)
  have I1:Inv X pins σ H { s with heap:=h' }:=I.kept (t':=s.toks) kp
  have I2:Inv X pins σ (upd H h'.objs.size (.tup ys)) { s with heap:=h'.push { cls:=.type "tuple",data:=.seq its.toArray } }:=
   I1.laid (t':=s.toks) (fun b o e=>Heap.get?_push_of_some _ e) (Nat.le_refl _) (show yav X.prog X.w _ _ _ (.tup ys) from ⟨hz,its,r',IsTup.new _ _⟩)
  exact ⟨.ref h'.objs.size,_,I2,rfl,q _ (I1.hok.fresh (Nat.le_refl _))⟩
 ·obtain ⟨its,r',pl,hz⟩:=I.tuple hq
  exact call_tuple_same pl ⟨.ref p,H,I,rfl,q⟩
def tyV (K:PySem.W.Frag) (T:String) (x:V) (H:Hp):Prop:=match x with
 | .str _=>T="str"
 | .int _=>T="int"
 | .ref p=>(T="list"∧∃ xs,SqL K H p xs)∨(T="tuple"∧∃ o,K.lookup p=some o∧o.cls=.type "tuple"∧o.dict=none)∨
   (T="dict"∧((∃ kvs,H p=some (.dK kvs))∨∃ kvs,H p=some (.dT kvs)))∨(T="set"∧∃ S n,H p=some (.set S n))
 | _=>False
theorem tyV_is {pins:List (Addr×Obj)}{σ:St}{H:Hp}{s:Shared}{T:String}{x:V}{v:Value} (I:Inv X pins σ H s) (r:RelV x v) (ty:tyV X.K T x H) :
  s.TypeIs v T∧∀ a,v=.ref a→∃ ob,s.heap.get? a=some ob∧ob.dict=none:=by
 cases x with
 | str z=>
  obtain ⟨t,rfl⟩:=r
  cases (show T="str" from ty)
  exact ⟨typeIs_str s z t,fun _ e=>nomatch e⟩
 | int i=>
  obtain ⟨t,rfl⟩:=r
  cases (show T="int" from ty)
  exact ⟨typeIs_int s i t,fun _ e=>nomatch e⟩
 | ref p=>
  cases r
  rcases ty with ⟨rfl,xs,hq⟩|⟨rfl,o,hk,hc,hd⟩|⟨rfl,hk⟩|⟨rfl,S,n,hk⟩
  ·obtain ⟨its,_,pl,_⟩:=I.list hq
   refine ⟨pl.isList.typeIs,fun a e=>?_⟩
   cases e
   obtain ⟨o,n,e,c,hd,_⟩:=pl
   exact ⟨o,e,hd⟩
  ·refine ⟨⟨o,I.kIn p o hk,hc⟩,fun a e=>?_⟩
   cases e
   exact ⟨o,I.kIn _ o hk,hd⟩
  ·have z:∃ o,s.heap.get? p=some o∧o.ExactDict:=by
    rcases hk with ⟨kvs,hk⟩|⟨kvs,hk⟩
    ·obtain ⟨_,_,_,_,o,_,_,e,ex,_⟩:=I.hok p _ hk
     exact ⟨o,e,ex⟩
    ·obtain ⟨_,_,_,_,o,_,_,e,ex,_⟩:=I.hok p _ hk
     exact ⟨o,e,ex⟩
   obtain ⟨o,e,ex⟩:=z
   refine ⟨⟨o,e,ex.1⟩,fun a e2=>?_⟩
   cases e2
   exact ⟨o,e,ex.2.1⟩
  ·obtain ⟨o,_,_,_,e,ex,_⟩:=I.hok p _ hk
   refine ⟨⟨o,e,ex.1⟩,fun a e2=>?_⟩
   cases e2
   exact ⟨o,e,ex.2.1⟩
 | _=>exact False.elim ty
def tBM (K:PySem.W.Frag) (T:String) (r:V→List V→Hp→VK→Prop) (to:TE) (t:TA):TE:=fun σ H Q=>to σ H fun x H1=>tyV K T x H1∧t σ H1 fun xs H2=>r x xs H2 Q
variable {o e:Expr}{es:List Expr}{to:TE}{t:TA}{name:Str}{apos cpos:Pos}{T id:String}{r:V→List V→Hp→VK→Prop}
theorem yhx (pa:PlainAttrs T) (slot:Slot T name id) (hty:typeOf (.builtin id)=pure (.type "method_descriptor")) (hm:MtR X id r) (ho:PE X o to) (ha:PA X (e::es) t)
  (hbase:attributeBase o name X.env (eval o X.env)=eval o X.env:=by rfl)
  (hfew:((backTo cpos (starEach (e::es) X.env)).all (fun x=>!x.1)&&(backToKw cpos (keywordEach [] X.env)).all (fun x=>x.1.isSome)
   && decide ((e::es).length+([]:List Keyword).length+(if ([]:List Keyword).isEmpty then 0 else 1)<30))=true:=by rfl)
  (hline:(apos.endLine == cpos.line)=true:=by rfl) (hs:starEach (e::es) X.env=(false,eval e X.env)::starEach es X.env:=by rfl) (hplain:(backTo cpos (starEach es X.env)).any (·.1)=false:=by rfl) :
  PE X (.Call (.Attribute o name apos) (e::es) [] cpos) (tBM X.K T r to t):=by
 intro pins s σ H Q I h
 refine wpAny_Call_method_late hbase hfew hline rfl (thn (ho pins s σ H _ I h) fun v s1 ⟨x,H1,I1,r1,ty,q1⟩=>?_)
 obtain ⟨h1,h2⟩:=tyV_is I1 r1 ty
 refine ⟨T,id,pa,slot,hty,h1,h2,?_⟩
 have hA:=ha cpos pins s1 σ H1 _ I1 q1
 rw[hs] at hA ⊢
 refine Calls.callWith_builtin (by show (false||(backTo cpos (starEach es X.env)).any (·.1))=false;rw[hplain]<;>rfl) (Calls.evalArgs_plain ?_)
 exact thn hA fun us s2 ⟨vs,H2,I2,r2,q2⟩=>hm pins s2 σ H2 x vs v us Q I2 r1 r2 q2
/- xs.append(e),list.index on a module's tuple .. are MtR facts of 06m -/
end
def MtM (X:Cx) (id:String) (r:V→List V→Hp→VK→Prop):Prop:=
 ∀ (pins:List (Addr×Obj)) (s:Shared) (σ:St) (H:Hp) (x:V) (xs:List V) (v:Value) (us:List Value) (Q:VK),Inv X pins σ H s→RelV x v→Vals xs us→r x xs H Q→
  wpAny (model X.prog X.w) X.A (call (.builtin id) (v::us)) (EP X pins σ Q) X.xe s
theorem Vals.one:∀ {x:V}{us:List Value},Vals [x] us→∃ u,us=[u]∧RelV x u
 | _,_,.cons r .nil=>⟨_,rfl,r⟩
theorem Vals.rep {xs:List V}{us:List Value} (h:Vals xs us):∀ k:Nat,Vals (List.replicate k xs).flatten (List.replicate k us).flatten
 | 0=>.nil
 | k+1=>by
  rw[List.replicate_succ,List.replicate_succ,List.flatten_cons,List.flatten_cons]
  exact Vals.append h (Vals.rep h k)
theorem qe2 (its:List Value):∀ (k:Nat) (acc:List Value),
  List.foldl (fun x1 x2=>x1++x2) acc.toArray (List.replicate k its.toArray)=(acc++(List.replicate k its).flatten).toArray
 | 0,acc=>by simp
 | k+1,acc=>by
  have e:acc.toArray++its.toArray=(acc++its).toArray:=by simp
  have e2:(acc++its)++(List.replicate k its).flatten=acc++(List.replicate (k+1) its).flatten:=by
   rw[List.replicate_succ,List.flatten_cons,List.append_assoc]
  rw[← e2,← qe2 its k (acc++its),← e,List.replicate_succ,List.foldl_cons]
section
variable {X:Cx}{pins:List (Addr×Obj)}{σ:St}{H:Hp}{s:Shared}{l b:Addr}{xs ys zs:List V}
theorem Inv.lset {its its':List Value}{n:Nat}{f:Array Value→Array Value}{t':Nat} (I:Inv X pins σ H s) (hH:H l=some (.lst xs))
  (e:s.heap.get? l=some { cls:=.type "list",data:=.seq its.toArray n }) (hf:f its.toArray=its'.toArray) (hv:Vals ys its') (hz:ys.length≤sizeLine) :
  Inv X pins σ (upd H l (.lst ys)) { s with heap:=s.heap.update l (Obj.mapSeq f),toks:=t' }:=by
 have q:=PySem.IsL.update e f
 rw[hf] at q
 refine I.write (x:=l) (e:=l) (by rw[hH];exact trivial) (.inl rfl) (fun b' u hb hu=>(Heap.get?_update_other s.heap (Obj.mapSeq f) (Ne.symm hb)).trans hu) ⟨_,q⟩ ?_
 exact ⟨hz,its',_,hv,q⟩
theorem Inv.lnew {its:List Value}{t':Nat} (I:Inv X pins σ H s) (hv:Vals ys its) (hz:ys.length≤sizeLine) :
  Inv X pins σ (upd H s.heap.objs.size (.lst ys)) { s with heap:=s.heap.push { cls:=.type "list",data:=.seq its.toArray },toks:=t' }:=
 I.laid (fun _ _ q=>Heap.get?_push_of_some _ q) (Nat.le_refl _) ⟨hz,its,0,hv,Heap.get?_push_size _ rfl⟩
theorem Inv.fresh (I:Inv X pins σ H s):H s.heap.objs.size=none:=I.hok.fresh (Nat.le_refl _)
theorem Inv.lstM (I:Inv X pins σ H s) (hH:H l=some (.lst xs)):xs.length≤sizeLine∧∃ (its:List Value) (n:Nat),Vals xs its∧xs.length=its.length∧s.heap.get? l=some { cls:=.type "list",data:=.seq its.toArray n }:=by
 obtain ⟨z,its,n,r,e⟩:=I.hok l _ hH
 exact ⟨z,its,n,r,r.length,e⟩
theorem yf0 {n:Nat} (h:n≤sizeLine):Builtin.List.listTooLong n=false:=by
 unfold Builtin.List.listTooLong
 exact decide_eq_false (by omega)
end
section
variable {X:Cx}
def rAppend:V→List V→Hp→VK→Prop:=fun x vs H Q=>∃ l xs y,x=.ref l∧vs=[y]∧H l=some (.lst xs)∧xs.length<sizeLine∧Q .non (upd H l (.lst (xs++[y])))
theorem qa5:MtM X "list.append" rAppend:=by
 intro pins s σ H x vs v us Q I rx rv h
 obtain ⟨l,xs,y,rfl,rfl,hH,hz,q⟩:=h
 cases rx
 obtain ⟨u,rfl,ru⟩:=rv.one
 obtain ⟨z,its,n,r,hl,e⟩:=I.lstM hH
 refine call_meets F.slot_list_append ⟨_,e,rfl⟩ F.entry_list_append (F.args_list_append_2 _ _) (PySem.list_append l its.toArray n u (by rw[List.size_toArray];omega)) ⟨e,?_⟩
 refine ⟨.non,_,I.lset (its':=its++[u]) hH e (by simp) (r.append (.cons ru .nil)) ?_,rfl,q⟩
 rw[List.length_append,List.length_singleton]
 omega
def rExtend:V→List V→Hp→VK→Prop:=fun x vs H Q=>∃ l b xs zs,x=.ref l∧vs=[.ref b]∧H l=some (.lst xs)∧H b=some (.lst zs)∧xs.length+zs.length≤sizeLine∧Q .non (upd H l (.lst (xs++zs)))
theorem yen:MtM X "list.extend" rExtend:=by
 intro pins s σ H x vs v us Q I rx rv h
 obtain ⟨l,b,xs,zs,rfl,rfl,hH,hB,hz,q⟩:=h
 cases rx
 obtain ⟨u,rfl,ru⟩:=rv.one
 cases ru
 obtain ⟨z,its,n,r,hl,e⟩:=I.lstM hH
 obtain ⟨z2,its2,n2,r2,hl2,e2⟩:=I.lstM hB
 have hsz:its.toArray.size+its2.toArray.size≤sizeLine:=by rw[List.size_toArray,List.size_toArray];omega
 have hlong:¬ (!its.toArray.isEmpty&&Builtin.List.listTooLong (its.toArray.size+its2.toArray.size))=true:=by
  rw[yf0 hsz,Bool.and_false]
  exact Bool.false_ne_true
 refine call_meets F.slot_list_extend ⟨_,e,rfl⟩ F.entry_list_extend (F.args_list_extend_2 _ _)
  (AutoSeq1.list_extend_list_list_0 l its.toArray n b its2.toArray n2 hlong (by rw[List.size_toArray];omega) (by omega)) ⟨e,e2,?_⟩
 refine ⟨.non,_,I.lset (its':=its++its2) hH e (by simp) (r.append r2) ?_,rfl,q⟩
 rw[List.length_append]
 omega
def rCat:R2:=fun x y H Q=>∃ l b xs zs,x=.ref l∧y=.ref b∧H l=some (.lst xs)∧H b=some (.lst zs)∧xs.length+zs.length≤sizeLine∧∀ p,H p=none→Q (.ref p) (upd H p (.lst (xs++zs)))
theorem qek:OpR X (binaryOp .Add) rCat:=by
 intro pins s σ H x y v u Q I rx ry h
 obtain ⟨l,b,xs,zs,rfl,rfl,hH,hB,hz,q⟩:=h
 cases rx
 cases ry
 obtain ⟨z,its,n,r,hl,e⟩:=I.lstM hH
 obtain ⟨z2,its2,n2,r2,hl2,e2⟩:=I.lstM hB
 refine PySem.P.add_list e e2 ?_ (by rw[List.size_toArray,List.size_toArray];omega)
 have ea:its.toArray++its2.toArray=(its++its2).toArray:=by simp
 rw[ea]
 exact ⟨.ref _,_,I.lnew (t':=s.toks) (r.append r2) (by rw[List.length_append];omega),rfl,q _ I.fresh⟩
def rRep:R2:=fun x y H Q=>∃ l k xs,x=.ref l∧y=.int k∧H l=some (.lst xs)∧-(2 ^ 63)≤k∧k<2 ^ 63∧xs.length*k.toNat≤sizeLine∧
 ∀ p,H p=none→Q (.ref p) (upd H p (.lst (List.replicate k.toNat xs).flatten))
theorem len_rep {α:Type} (xs:List α) (k:Nat):(List.replicate k xs).flatten.length=k*xs.length:=by
 induction k with
 | zero=>simp
 | succ k ih=>rw[List.replicate_succ,List.flatten_cons,List.length_append,ih,Nat.succ_mul,Nat.add_comm]
theorem op_rep:OpR X (binaryOp .Mult) rRep:=by
 intro pins s σ H x y v u Q I rx ry h
 obtain ⟨l,k,xs,rfl,rfl,hH,h1,h2,hz,q⟩:=h
 cases rx
 obtain ⟨t,rfl⟩:=ry
 obtain ⟨z,its,n,r,hl,e⟩:=I.lstM hH
 have hlen:its.toArray.size*k.toNat≤sizeLine:=by rw[List.size_toArray,← hl];exact hz
 have hcap:¬ its.toArray.size*k.toNat>(2 ^ 63-1) / 8:=by
  have:(sizeLine:Nat)≤(2 ^ 63-1) / 8:=by decide
  omega
 have hfit:¬ (!Builtin.List.listFitsIndex k)=true:=by
  rw[fitsIndex_both h1 h2]
  exact Bool.false_ne_true
 have hlong:¬ Builtin.List.listTooLong (its.toArray.size*k.toNat)=true:=by
  rw[yf0 hlen]
  exact Bool.false_ne_true
 have hnew:List.foldl (fun x1 x2=>x1++x2) #[] (List.replicate (if its.toArray.isEmpty=true then 0 else k.toNat) its.toArray)=(List.replicate k.toNat its).flatten.toArray:=by
  have f0:∀ m:Nat,List.foldl (fun x1 x2=>x1++x2) #[] (List.replicate m its.toArray)=(List.replicate m its).flatten.toArray:=fun m=>by
   have:=qe2 its m []
   rw[List.nil_append] at this
   exact this
  rw[f0]
  cases its with
  | nil=>simp
  | cons a r'=>rw[if_neg (by simp)]
 refine wpAny_binaryOp_repeat_ref (T:="list") (U:="int") (by decide) ⟨_,e,rfl⟩ (fun s'=>typeIs_int s' k t) noFill_list_mul F.fills_int_mul F.slot_int_rmul repeat_list F.slot_int_index.lookup
  (call_meets F.slot_int_rmul (typeIs_int s k t) F.entry_int_rmul (F.args_int_rmul_2 _ _) (int___rmul___int_list k t l its.toArray n)
   ⟨e,rfl,⟨_,e,rfl⟩,call_meets F.slot_list_mul ⟨_,e,rfl⟩ F.entry_list_mul (F.args_list_mul_2 _ _) (AutoListH.list___mul___list_int_3 l its.toArray n k t hfit hcap hlong) ⟨e,?_⟩⟩)
 rw[hnew]
 exact ⟨.ref _,_,I.lnew (t':=s.toks) (r.rep k.toNat) (by rw[len_rep,Nat.mul_comm];exact hz),rfl,q _ I.fresh⟩
end
end L2
namespace Att
open PySem PySem.W PySem.Calls PyProof.Rows
theorem ydi {P:Params}{h:Heap}:∀ (ns:List Int) (vs:List Value),WellAll P h vs (ns.map WData.int)→IntsAre vs ns:=by
 intro ns
 induction ns with
 | nil=>
  intro vs w
  rw[List.map_nil] at w
  cases w
  exact .nil
 | cons n ns ih=>
  intro vs w
  rw[List.map_cons] at w
  cases w with
  | cons a b=>
   cases a
   exact .cons _ _ (ih _ b)
theorem yhu {l:OpenLaw}{n:Nat} (hn:l.most=some n) {P:Params}{h:Heap}{args:List WData}{vals:List Value}
  (hpre:l.row.toRowW.claim.pre args=true) (hwl:WellAll P h vals args) :
  ∃ a vs ns,vals=[Value.ref a]∧args=[WData.list (ns.map WData.int)]∧h.get? a=some { cls:=.type "list",data:=.seq vs.toArray }∧IntsAre vs ns∧ns.length≤n:=by
 have hsh:WShape.hasAll [] args [.list .int]=true:=(pre_splitW hpre).1
 have hc:l.pre.holds [] { args:=args }=true:=(pre_splitW hpre).2
 obtain ⟨d,r,rfl,h1,h2⟩:=hasAllW_cons hsh
 obtain rfl:=hasAllW_nil h2
 obtain ⟨xs,rfl,h3⟩:=hasW_list h1
 obtain ⟨ns,rfl⟩:=items_int h3
 have hlen:ns.length≤n:=by
  unfold OpenLaw.pre at hc
  have h4:(WTm.not (.lt (.lit (.int (n:Int))) (.len (.arg 0)))).holds [] { args:=[.list (ns.map .int)] }=true:=by
   have h4:=(holds_andW hc).1
   rw[hn] at h4
   exact h4
  have h5:=condW_of h4 (w_not (w_lt w_lit (w_len_list (w_arg rfl))))
  rw[List.length_map] at h5
  refine Nat.le_of_not_lt fun q=>?_
  have q':(n:Int)<((ns.length:Nat):Int):=by omega
  first
   | (rw[decide_eq_true q'] at h5;exact absurd h5 (by decide))
   | (simp at h5;omega)
 cases hwl with
 | cons w1 w2=>
  cases w2
  cases w1 with
  | list ho hall=>exact ⟨_,_,ns,rfl,rfl,ho,ydi ns _ hall,hlen⟩
theorem qho (l:OpenLaw) (args:List WData):l.row.toRowW.claim.post args (.bool true) args=true:=
 postW_of (r:=l.row.toRowW) (X:=(true == true))
  (show WShape.has [] (.bool true) .bool=true by first|rfl|decide|simp[WShape.has,WShape.arms,WShape.armsAll])
  (show (WTm.eq .res (.lit (.bool true))).value [] { args:=args,res:=some (.bool true),after:=args }=some (.bool (true == true)) from w_eq_bool (w_res rfl) w_lit) rfl
theorem attach_call {l:OpenLaw}{n:Nat}{q:Program}{loose:List Str}{XP:(Str→Option Value)→Heap→Prop}{YP:World→Heap→Prop}{d:DefRec}
  (hn:l.most=some n) (hdf:d.params.defaults=[])
  (call:∀ (w:World) (s₀ s₁:Shared) (mg mb:Str→Option Value) (fa:Addr) (o:Obj) (pm cd doc:Value) (a:Addr) (vs:List Value) (ns:List Int),
   Ground q loose [] XP w s₀ mg mb s₁.heap→YP w s₁.heap→
   s₁.heap.get? fa=some o→o.data=.func (docDef d.name d.params d.body d.scope pm cd doc)→s₁.heap.CodeRec cd d.name→mg d.name=some (.ref fa)→
   s₁.heap.get? a=some { cls:=.type "list",data:=.seq vs.toArray }→IntsAre vs ns→ns.length≤n→s₁.gens=#[]→
   codeAny (model l.prog w) callerA (.call (.ref fa) ⟨[.ref a],[]⟩) (fun r s'=>r=.ok (.ret (.bool true))∧OldK s₁.heap s'.heap∧s'.os=s₁.os∧AllBare s'.gens) s₁) :
  WalkO q loose XP YP l.row.toRowW d [] (fun f vs=>PySem.call f vs):=by
 intro w s₀ s₁ mg mb G Y fa o pm cd doc dV kV ho hd hcd hD hmg hg args vals as hpre hlay hrd hwl hlo
 obtain rfl:dV=.none:=Dflts.none hD hdf
 obtain rfl:kV=.none:=Dflts.noKw hD
 obtain ⟨a,vs,ns,rfl,rfl,hobj,hints,hlen⟩:=yhu hn hpre hwl
 refine enter_call (codeAny_mono (call w s₀ s₁ mg mb fa o pm cd doc a vs ns G Y ho (fd_plain hd) hcd hmg hobj hints hlen hg) fun r s' hq=>?_)
 obtain ⟨rfl,h2,h3,h4⟩:=hq
 exact ⟨.inl ⟨.bool true,.bool true,[],rfl,fun _=>rfl,.bool true,qho l _,fun _=>⟨List.Pairwise.nil,fun _ hm=>(nomatch hm)⟩⟩,h2,h3,h4⟩
end Att
namespace L2
open PySem PySem.Spec PyProof.Rows
theorem qe0:∀ {vs:List Value}{ns:List Int},IntsAre vs ns→Vals (ns.map V.int) vs
 | _,_,.nil=>.nil
 | _,_,.cons n t h=>.cons ⟨t,rfl⟩ (qe0 h)
def Only (H:Hp):Prop:=∀ b,H b=none∨∃ o xs,H b=some (.frz o (.lst xs))
theorem law_call {P:Program}{w:World}{K:PySem.W.Frag}{mg mb:Str→Option Value}{CX:CXT}{k:Nat}{fa a:Addr}{fd:FuncData}{x:Str}{sp:Sp}{s₁:Shared}{vs:List Value}{ns:List Int}
  (KX:K.In s₁.heap) (hns:s₁.heap.Ns mainGlobals mg) (hb:s₁.heap.Ns builtinsNs mb) (hbb:∀ x:Str,x≠"__name__"→mb x=bootBuiltins x) (hlim:s₁.heap.NoLimit) (hg:s₁.gens=#[])
  (ha:s₁.heap.get? a=some { cls:=.type "list",data:=.seq vs.toArray }) (hi:IntsAre vs ns) (hl:ns.length≤sizeLine) (hr:Room k callerA)
  (F:∀ base:Heap,K.In base→base.Ns mainGlobals mg→FnOk P w K mg base CX k fa fd [x] sp) (hbind:∀ (s:Shared) (u:Value),BindsTo s fd ⟨[u],[]⟩ [(x,u)])
  (hsp:∀ H:Hp,Only H→SqL K H a (ns.map V.int)→sp [.ref a] H (fun v _=>v=.bl true) fun _ _ _=>False)
  (hCX:∀ H e s',CX [] H s₁ (fun _ _ _=>False) e s'→False) :
  codeAny (model P w) callerA (.call (.ref fa) ⟨[.ref a],[]⟩) (fun r s'=>r=.ok (.ret (.bool true))∧OldK s₁.heap s'.heap∧s'.os=s₁.os∧AllBare s'.gens) s₁:=by
 have rv:=qe0 hi
 have lenV:=hi.length
 -- from an abstract heap in which nothing but the script may be tracked
 have core:∀ H:Hp,Only H→SqL K H a (ns.map V.int)→HOk P w H s₁.heap→(∀ b,H b≠none→b=a)→(H a≠none→K.lookup a=none)→
   codeAny (model P w) callerA (.call (.ref fa) ⟨[.ref a],[]⟩) (fun r s'=>r=.ok (.ret (.bool true))∧OldK s₁.heap s'.heap∧s'.os=s₁.os∧AllBare s'.gens) s₁:=by
  intro H hO hS hok hA hK
  have base_of:∀ {b:Addr}{o:Obj},s₁.heap.get? b=some o→H b=none→(hidT s₁.heap H).get? b=some o:=fun e n=>hidT_get e n
  have noA:∀ {b:Addr}{o:Obj}{es:Array DictEntry}{ep:Nat},s₁.heap.get? b=some o→o.data=.dict es ep→H b=none:=fun {b o es ep} e d=>by
   cases q:H b with
   | none=>rfl
   | some u=>
    have e':b=a:=hA b (by rw[q];simp)
    subst e'
    rw[ha] at e;cases e
    have d':Data.seq vs.toArray _=Data.dict es ep:=d
    cases d'
  have nsK:∀ {b:Addr}{m:Str→Option Value},s₁.heap.Ns b m→(hidT s₁.heap H).Ns b m:=fun {b m} ⟨o,es,ep,e,d,r⟩=>⟨o,es,ep,base_of e (noA e d),d,r⟩
  have hKb:K.In (hidT s₁.heap H):=fun b o e=>base_of (KX b o e) (by
   cases q:H b with
   | none=>rfl
   | some u=>
    have e':b=a:=hA b (by rw[q];simp)
    subst e'
    rw[hK (by rw[q];simp)] at e;cases e)
  have hM:Mod K mg (hidT s₁.heap H):=⟨hKb,nsK hns,⟨mb,nsK hb,hbb⟩,let ⟨mc,h1,h2⟩:=hlim;⟨mc,nsK h1,h2⟩⟩
  have e0:Env0 P w K mg (hidT s₁.heap H) callerA [] s₁ H:=⟨rfl,hM,fun b o e=>of_hidT e,Nat.le_of_eq (ygx _ _),trivial,fun b hb=>absurd (show b∈([]:List Addr) from hb) (by simp),hok,.of_eq hg⟩
  refine codeAny_mono ((F _ hKb (nsK hns)).run callerA [] s₁ H ⟨[.ref a],[]⟩ [.ref a] [.ref a] _ _ hr e0 (hbind s₁ (.ref a)) (.cons rfl .nil) (hsp H hO hS)) fun r s' h=>?_
  cases r with
  | error e=>exact (hCX H e s' h).elim
  | ok fl=>
   cases fl with
   | next=>exact False.elim h
   | brk=>exact False.elim h
   | cont=>exact False.elim h
   | ret u=>
    obtain ⟨v,H',os,bare,un,hok',r',q⟩:=h
    have q':v=.bl true:=q
    subst q'
    obtain rfl:u=Value.bool true:=r'
    refine ⟨rfl,OldK.of_keep fun b o e=>?_,os,bare⟩
    cases q:H b with
    | none=>exact un.keep b o e q (by intro z;exact absurd (show b∈([]:List Addr) from z) (by simp)) (by simp)
    | some u=>
     rcases hO b with z|⟨ob,xs,z⟩
     ·rw[q] at z;cases z
     ·have z2:=un.frzs b ob _ z
      obtain ⟨e1,_⟩:=hok b _ z
      obtain ⟨e2,_⟩:=hok' b _ z2
      rw[e] at e1;cases e1
      exact e2
 cases hk:K.lookup a with
 | some o=>
  -- the script is one of the module's own objects
  have e:=KX a o hk
  rw[ha] at e
  cases e
  refine core (fun _=>none) (fun _=>.inl rfl) (.inr ⟨_,vs.toArray,_,hk,rfl,rfl,rfl,by rw[List.size_toArray,lenV];exact hl,by simpa using rv⟩) (fun b u z=>by have z':(none:Option HO)=some u:=z;cases z') (fun b z=>absurd rfl z) fun z=>absurd rfl z
 | none=>
  refine core (fun b=>if b=a then some (.frz { cls:=.type "list",data:=.seq vs.toArray } (.lst (ns.map V.int))) else none) (fun b=>?_) (.inl (.inr ⟨{ cls:=.type "list",data:=.seq vs.toArray },if_pos rfl⟩)) (fun b u z=>?_) (fun b z=>?_) fun _=>hk
  ·by_cases hb:b=a
   ·exact .inr ⟨_,_,if_pos hb⟩
   ·exact .inl (if_neg hb)
  ·by_cases hb:b=a
   ·have z':=(if_pos hb).symm.trans z
    cases z'
    subst hb
    exact ⟨ha,by rw[List.length_map];exact hl,vs,_,rv,ha⟩
   ·have z':=(if_neg hb).symm.trans z
    cases z'
  ·by_cases hb:b=a
   ·exact hb
   ·exact absurd (if_neg hb) z
theorem walk_of {l:PySem.W.OpenLaw}{n k:Nat}{q:Program}{loose:List Str}{XP:(Str→Option Value)→Heap→Prop}{YP:World→Heap→Prop}{d:DefRec}{K:Params→PySem.W.Frag}{CX:World→CXT}{sp:World→Sp}{x:Str}
  (hn:l.most=some n) (hn2:n≤sizeLine) (hdf:d.params.defaults=[]) (hr:Room k callerA)
  (hY:∀ (w:World) (h:Heap),YP w h→(K w.params).In h)
  (F:∀ (w:World) (mg:Str→Option Value) (fa:Addr) (h:Heap),(K w.params).In h→h.Ns mainGlobals mg→mg d.name=some (.ref fa)→
   ∃ fd:FuncData,(∀ (s:Shared) (u:Value),BindsTo s fd ⟨[u],[]⟩ [(x,u)])∧
    ∀ base:Heap,(K w.params).In base→base.Ns mainGlobals mg→FnOk l.prog w (K w.params) mg base (CX w) k fa fd [x] (sp w))
  (hsp:∀ (w:World) (H:Hp) (a:Addr) (ns:List Int),ns.length≤n→Only H→SqL (K w.params) H a (ns.map V.int)→sp w [.ref a] H (fun v _=>v=.bl true) fun _ _ _=>False)
  (hCX:∀ (w:World) (H:Hp) (s:Shared) (e:Value) (s':Shared),CX w [] H s (fun _ _ _=>False) e s'→False) :
  PySem.W.WalkO q loose XP YP l.row.toRowW d [] (fun f vs=>PySem.call f vs):=by
 refine Att.attach_call hn hdf fun w s₀ s₁ mg mb fa o pm cd doc a vs ns G Y ho hd hcd hmg hobj hints hlen hg=>?_
 have KX:=hY w _ Y
 obtain ⟨fd,hb,hF⟩:=F w mg fa _ KX G.T.g hmg
 exact law_call KX G.T.g G.T.b G.T.builtins G.T.nolimit hg hobj hints (Nat.le_trans hlen hn2) hr hF hb (fun H hO hS=>hsp w H a ns hlen hO hS) fun H e s'=>hCX w H s₁ e s'
def inClass (s:Stmt) (j:Nat):Stmt:=match s with
 | .ClassDef _ _ _ body _ _ _ _ _ _ _=>body.getD j (.Pass ⟨0,0,0,0⟩)
 | _=>.Pass ⟨0,0,0,0⟩
def qba (s:Stmt):Arguments:=match s with
 | .FunctionDef _ a _ _ _ _ _ _ _ _=>a
 | _=>{ posonlyargs:=[],args:=[],vararg:=none,kwonlyargs:=[],kw_defaults:=[],kwarg:=none,defaults:=[] }
def qat (s:Stmt):List Stmt:=match s with
 | .FunctionDef _ _ b _ _ _ _ _ _ _=>b
 | _=>[]
def yab (s:Stmt):Scope:=match s with
 | .FunctionDef _ _ _ _ _ _ sc _ _ _=>sc
 | _=>{ kind:=.function,names:=[],isGenerator:=false,isCoroutine:=false }
abbrev CX0:CXT:=fun _ _ _ _ _ _=>False
abbrev E0:XK:=fun _ _ _=>False
theorem pass0 {X:Cx}:qdt CX0 X E0:=fun _ _ _ _ _ _ _ h=>h.elim
structure Fun (K:PySem.W.Frag) (x qual:Str) (st:Stmt) (f:Addr) (fd:FuncData):Prop where
 ex:∃ (oc:Value) (od:Option Addr) (kV doc pm:Value) (an:Option Addr) (cdv ct:Value) (osl:Array (Option Value)),
  fd=PySem.W.fnOf x qual (qba st) (qat st) (yab st) .none kV doc pm an cdv ct∧K.lookup f=some ⟨oc,od,.func fd,osl⟩∧PySem.W.codeIn K cdv qual=true
 kp:PySem.W.keepIn K (.ref f)=true
section
variable {P:Program}{w:World}{K:PySem.W.Frag}{mg:Str→Option Value}{base:Heap}
theorem Fun.ok {x qual:Str}{st:Stmt}{f:Addr}{fd:FuncData}{N ps:List Str}{k:Nat}{sp:Sp} (F:Fun K x qual st f fd) (S:FnScope N ps (yab st)) (len:∀ vs H Q E,sp vs H Q E→vs.length=ps.length)
  (hbody:∀ (cdv:Value) (A:Around) (outer:List Env) (s:Shared) (H:Hp) (vs:List V) (Q:VK) (E:XK),Room k (A.deeper (envOfC qual (yab st) s.heap.objs.size f cdv))→sp vs H Q E→
   ∃ t,PSs (cxOf CX0 P w K mg base N qual (yab st) f cdv A outer s H E).nox (qat st) t∧t { nx:=fun _ H'=>Q .non H',rt:=Q } (qcu N vs) H):FnOk P w K mg base CX0 (k+1) f fd ps sp:=by
 obtain ⟨oc,od,kV,doc,pm,an,cdv,ct,osl,rfl,lk,hcd⟩:=F.ex
 refine fn_of lk hcd S len fun A outer s H vs Q E hr hsp=>?_
 obtain ⟨t,h,q⟩:=hbody cdv A outer s H vs Q E hr hsp
 exact ⟨t,h.nox,q⟩
theorem Fun.binds {x qual:Str}{st:Stmt}{f:Addr}{fd:FuncData}{ps:List Str} (F:Fun K x qual st f fd)
  (h:∀ (kV doc pm:Value) (an:Option Addr) (cdv ct:Value) (us:List Value),us.length=ps.length→bindArgs (PySem.W.fnOf x qual (qba st) (qat st) (yab st) .none kV doc pm an cdv ct) ⟨us,[]⟩=pure (ps.zip us)):qdl K fd ps []:=by
 obtain ⟨oc,od,kV,doc,pm,an,cdv,ct,osl,rfl,lk,hcd⟩:=F.ex
 exact .all (h kV doc pm an cdv ct)
theorem qht {x qual:Str}{st:Stmt}{f:Addr}{oc:Value}{od an:Option Addr}{osl:Array (Option Value)}{kV doc pm cdv ct:Value} (l:K.lookup f=some ⟨oc,od,.func (PySem.W.fnOf x qual (qba st) (qat st) (yab st) .none kV doc pm an cdv ct),osl⟩)
  (c:PySem.W.codeIn K cdv qual=true) (k:PySem.W.keepIn K (.ref f)=true):Fun K x qual st f (PySem.W.fnOf x qual (qba st) (qat st) (yab st) .none kV doc pm an cdv ct):=⟨⟨oc,od,kV,doc,pm,an,cdv,ct,osl,rfl,l,c⟩,k⟩
end
section
variable {X:Cx}
theorem pv (i:Nat) {x:Str}{pos:Pos} (hN:X.N[i]?=some x:=by rfl) (hv:Vis X.env.scope x:=by first|exact Or.inl rfl|exact Or.inr (Or.inl rfl)|exact Or.inr (Or.inr rfl)) (hd:(x == ("__debug__" : Str))=false:=by decide)
  (hcd:(x == ("__classdict__" : Str))=false:=by decide):PE X (.Name x pos) (tVar i):=pe_var hN hv hd hcd
end
theorem iteF {A B:Prop} (h:B):if false=true then A else B:=by
 rw[if_neg Bool.false_ne_true]
 exact h
theorem iteT {A B:Prop} (h:A):if true=true then A else B:=by
 rw[if_pos rfl]
 exact h
def Same (H H':Hp):Prop:=∀ b o,H b=some o→H' b=some o
theorem Same.refl (H:Hp):Same H H:=fun _ _ h=>h
theorem Same.trans {H H1 H2:Hp} (a:Same H H1) (b:Same H1 H2):Same H H2:=fun c o h=>b c o (a c o h)
theorem Same.free {H H':Hp} (e:Same H H') {l:Addr} (h:H' l=Option.none):H l=Option.none:=by
 cases q:H l with
 | none=>rfl
 | some o=>
  rw[e l o q] at h
  cases h
theorem Same.seq {K:PySem.W.Frag}{H H':Hp}{a:Addr}{xs:List V} (e:Same H H') (h:SqL K H a xs):SqL K H' a xs:=by
 rcases h with (h|⟨o,h⟩)|h
 ·exact .inl (.inl (e _ _ h))
 ·exact .inl (.inr ⟨o,e _ _ h⟩)
 ·exact .inr h
mutual
inductive At (H:Hp):V→PyData→Prop
 | non:At H .non .none
 | bl (b:Bool):At H (.bl b) (.bool b)
 | int (i:Int):At H (.int i) (.int i)
 | str (x:Str):At H (.str x) (.str x)
 | lst {a:Addr}{vs:List V}{ds:List PyData}:H a=some (.lst vs)→AtAll H vs ds→At H (.ref a) (.list ds)
 | tup {a:Addr}{vs:List V}{ds:List PyData}:H a=some (.tup vs)→AtAll H vs ds→At H (.ref a) (.tuple ds)
inductive AtAll (H:Hp):List V→List PyData→Prop
 | nil:AtAll H [] []
 | cons {v:V}{d:PyData}{vs:List V}{ds:List PyData}:At H v d→AtAll H vs ds→AtAll H (v::vs) (d::ds)
end
mutual
theorem At.same {H H':Hp} (s:Same H H'):∀ {v:V}{d:PyData},At H v d→At H' v d
 | _,_,.non=>.non
 | _,_,.bl b=>.bl b
 | _,_,.int i=>.int i
 | _,_,.str x=>.str x
 | _,_,.lst e t=>.lst (s _ _ e) (AtAll.same s t)
 | _,_,.tup e t=>.tup (s _ _ e) (AtAll.same s t)
theorem AtAll.same {H H':Hp} (s:Same H H'):∀ {vs:List V}{ds:List PyData},AtAll H vs ds→AtAll H' vs ds
 | _,_,.nil=>.nil
 | _,_,.cons a b=>.cons (At.same s a) (AtAll.same s b)
end
theorem AtAll.length {H:Hp}:∀ {vs:List V}{ds:List PyData},AtAll H vs ds→vs.length=ds.length
 | _,_,.nil=>rfl
 | _,_,.cons _ b=>congrArg (· + 1) b.length
theorem AtAll.get {H:Hp}:∀ {vs:List V}{ds:List PyData}{i:Nat}{v:V},AtAll H vs ds→vs[i]?=some v→∃ d,ds[i]?=some d∧At H v d
 | _,_,i,_,.nil,h=>by simp at h
 | _,_,0,_,.cons a _,h=>by simp at h;subst h;exact ⟨_,rfl,a⟩
 | _,_,i+1,v,.cons _ b,h=>by
  obtain ⟨d,h1,h2⟩:=AtAll.get (i:=i) (v:=v) b (by simpa using h)
  exact ⟨d,by simpa using h1,h2⟩
theorem AtAll.append {H:Hp}:∀ {vs ws:List V}{ds es:List PyData},AtAll H vs ds→AtAll H ws es→AtAll H (vs++ws) (ds++es)
 | _,_,_,_,.nil,h=>h
 | _,_,_,_,.cons a b,h=>.cons a (b.append h)
mutual
theorem At.reads {P:Program}{w:World}{H:Hp}{h:Heap} (ok:HOk P w H h):∀ {v:V}{d:PyData}{u:Value},At H v d→RelV v u→∃ as,Reads h u d as
 | _,_,_,.non,r=>by cases r;exact ⟨_,.none⟩
 | _,_,_,.bl b,r=>by cases r;exact ⟨_,.bool b⟩
 | _,_,_,.int i,r=>by obtain ⟨t,rfl⟩:=r;exact ⟨_,.int i t⟩
 | _,_,_,.str x,r=>by obtain ⟨t,rfl⟩:=r;exact ⟨_,.str x t⟩
 | _,_,_,.lst e t,r=>by
  cases r
  obtain ⟨z,its,n,rv,ho⟩:=ok _ _ e
  obtain ⟨as,q⟩:=AtAll.reads ok t rv
  exact ⟨_,.list ho rfl rfl (by simpa using q)⟩
 | _,_,_,.tup e t,r=>by
  cases r
  obtain ⟨z,its,rv,o,ho,hc,n,hd⟩:=ok _ _ e
  obtain ⟨as,q⟩:=AtAll.reads ok t rv
  exact ⟨_,.tuple ho hc hd (by simpa using q)⟩
theorem AtAll.reads {P:Program}{w:World}{H:Hp}{h:Heap} (ok:HOk P w H h):∀ {vs:List V}{ds:List PyData}{us:List Value},AtAll H vs ds→Vals vs us→∃ as,ReadsAll h us ds as
 | _,_,_,.nil,.nil=>⟨_,.nil⟩
 | _,_,_,.cons a b,.cons r s=>by
  obtain ⟨as,q⟩:=At.reads ok a r
  obtain ⟨bs,q2⟩:=AtAll.reads ok b s
  exact ⟨_,.cons q q2⟩
end
section
variable {X:Cx}{pins:List (Addr×Obj)}{σ:St}{H:Hp}{s:Shared}{h':Heap}
theorem Inv.turnedL {ch:List Addr}{a:Addr}{o:HO}{t':Nat} (I:Inv X pins σ H s) (k:∀ b u,b∉ch→s.heap.get? b=some u→h'.get? b=some u) (hf:∀ b∈ch,FpOk X pins H b)
  (hp:s.heap.objs.size≤a) (new:yav X.prog X.w (upd H a o) h' a o):Inv X pins σ (upd H a o) { s with heap:=h',toks:=t' }:=by
 have hn:H a=none:=I.hok.fresh hp
 have nit:∀ b u,H b=some u→b∉ch:=fun b u e z=>by rw[(hf b z).1] at e;cases e
 refine I.step (g':=s.gens) (d':=s.drawn) (ch:=ch) (fun b hb=>?_) (fun b u _ _ hc e _=>k b u hc e) (fun b u _ _ hc e _=>⟨u.slots,k b u hc e⟩) (fun b u _ e n=>?_)
  (fun b u hc e=>⟨u,k b u hc e⟩) (fun b xs e=>?_) (fun b u xs e=>?_) (fun b ps e=>⟨#[],?_⟩) (fun m hm=>?_) (fun b u e=>?_) I.bare
 ·obtain ⟨_,f1,_,f3,f4,f5⟩:=hf b hb
  exact ⟨f3,f1,f4,f5⟩
 ·rw[yae (Nat.ne_of_lt (Nat.lt_of_lt_of_le (Heap.lt_size e) hp))];exact n
 ·rw[yae (qae e hn)];exact e
 ·rw[yae (qae e hn)];exact e
 ·rw[yae (qae e hn),e];simp
 ·obtain ⟨ob,es,ep,ho,r⟩:=hm
  exact ⟨ob,es,ep,k _ ob (fun z=>(hf _ z).2.1 rfl) ho,r⟩
 ·by_cases hb:b=a
  ·subst hb;rw[yaa] at e;cases e;exact new
  ·rw[yae hb] at e
   refine (I.hok b u e).stay (fun c v hc q=>k c v ?_ q) (fun c q=>by rw[yae (qae q hn)];exact q) fun c xs q=>by rw[yae (qae q hn)];exact q
   rcases hc with rfl|hc
   ·exact nit _ u e
   ·exact nit c _ hc
end
def Ite (K:PySem.W.Frag) (a:Addr):It:=
 ⟨fun i H=>∃ xs x,SqL K H a xs∧xs[i]?=some x,fun i H x H'=>∃ p y,H p=none∧x=.ref p∧H'=upd H p (.tup [.int i,y])∧∀ xs,SqL K H a xs→xs[i]?=some y,fun i H=>∃ xs,SqL K H a xs∧xs.length≤i⟩
theorem qg7 {P:Program}{w:World}{K:PySem.W.Frag}{es:List Expr}{k:Nat}{tp:Pos} (a e it:Addr) (hne:e≠it) :
  Turn P w K (.Tuple es k tp) (Ite K a) [e,it] e (fun i h=>(∃ old,IsEnum h e it i old)∧h.IsListIter it a i) where
 mem:=by simp
 obj:=fun i h st b hb=>by
  obtain ⟨⟨old,he⟩,o,ho,hc,hd⟩:=st
  have hb':b=e∨b=it:=by simpa using hb
  rcases hb' with rfl|rfl
  ·exact ⟨_,he,fun v z=>by
    have z':Data.fields _=Data.cell v:=z
    cases z'⟩
  ·exact ⟨o,ho,fun v z=>by rw[hd] at z;cases z⟩
 keep:=fun i h h' st kk=>⟨st.1.imp fun _ z=>kk e (by simp) _ z,st.2.at fun o z=>kk it (by simp) o z⟩
 item:=by
  intro X hP hw hK hc i pins s σ H E I hf st hg
  subst hP hw hK
  obtain ⟨xs,x,hq,hx⟩:=hg
  obtain ⟨its,rv,p,hz⟩:=I.list hq
  obtain ⟨u,hu,ru⟩:=rv.get hx
  obtain ⟨⟨old,he⟩,hit⟩:=st
  refine wpAny_pyNext_enum_item he hit p.isList (x:=u) (by simpa using hu) hne fun h' ho hit' hT hsz hk=>?_
  have hel:e<s.heap.objs.size:=Heap.lt_size he
  have hil:it<s.heap.objs.size:=by obtain ⟨_,z,_⟩:=hit;exact Heap.lt_size z
  refine ⟨_,rfl,wpAny_letOwnedTupleGo_enum ho fun h2 he2 hs2=>?_⟩
  have keep2:∀ b ob,b∉[e,it]→s.heap.get? b=some ob→h2.get? b=some ob:=fun b ob hb z=>by
   have h1:b≠e:=fun q=>hb (by simp[q])
   have h3:b≠it:=fun q=>hb (by simp[q])
   exact (hs2.2 b h1).trans (hk b ob h1 h3 z)
  have hT2:h2.get? s.heap.objs.size=some { cls:=.type "tuple",data:=.seq #[.int i s.toks,u] }:=(hs2.2 _ (Nat.ne_of_gt hel)).trans hT
  have fresh:H s.heap.objs.size=none:=I.hok.fresh (Nat.le_refl _)
  have new:yav X.prog X.w (upd H s.heap.objs.size (.tup [.int i,x])) h2 s.heap.objs.size (.tup [.int i,x]):=
   ⟨by show 2≤sizeLine;decide,[.int i s.toks,u],.cons ⟨_,rfl⟩ (.cons ru .nil),⟨_,hT2,rfl,_,rfl⟩⟩
  refine ⟨.ref s.heap.objs.size,upd H s.heap.objs.size (.tup [.int i,x]),I.turnedL keep2 hf (Nat.le_refl _) new,rfl,⟨_,x,fresh,rfl,rfl,fun ys hy=>by rw[I.list_inj hy hq];exact hx⟩,⟨⟨_,by simpa using he2⟩,hit'.at fun o z=>(hs2.2 it hne.symm).trans z⟩,fun b hb=>?_⟩
  rw[yae]
  ·exact (hf b hb).1
  ·have hb':b=e∨b=it:=by simpa using hb
   rcases hb' with rfl|rfl
   ·exact Nat.ne_of_lt hel
   ·exact Nat.ne_of_lt hil
 done:=by
  intro X hP hw hK hc i pins s σ H E I hf st hg
  subst hP hw hK
  obtain ⟨xs,hq,hx⟩:=hg
  obtain ⟨its,rv,p,hz⟩:=I.list hq
  obtain ⟨⟨old,he⟩,hit⟩:=st
  have hl:=rv.length
  obtain ⟨f0,f1,f2,f3,f4,f5⟩:=hf it (by simp)
  exact wpAny_pyNext_enum_end (I.ok.hd hc) he hit p.isList (by simp;omega) fun h' eb=>⟨rfl,I.turned (t':=s.toks) (fun b o hb z=>eb b o hb z) f0 f1 f3 f4 f5⟩
 self:=fun _ _ _ _ _ st h=>wpAny_pyIter_enum st.1.choose_spec h
def iEnum (K:PySem.W.Frag) (ta:TA):TI:=fun σ H R=>ta σ H fun vs H1=>∃ a xs,vs=[.ref a]∧SqL K H1 a xs∧R (Ite K a) H1
section
variable {X:Cx}
theorem qej {a:Expr}{ta:TA}{p pos tp:Pos}{es:List Expr}{k:Nat} (hg:Gl X "enumerate") (hm:X.mg "enumerate" = none) (ha:PA X [a] ta) (hs:starEach [a] X.env=[(false,eval a X.env)]:=by rfl) :
  PI X (.Tuple es k tp) (.Call (.Name "enumerate" p) [a] [] pos) (iEnum X.K ta):=by
 intro pins s σ H R I h
 refine Call_ (ydz I hg hm boot_enumerate (PyProof.Rows.callWith_type1 (thn (ha pos pins s σ H _ I h) fun us s1 ⟨vs,H1,I1,r1,q1⟩=>?_) hs rfl))
 obtain ⟨l,xs,e,hq,q⟩:=q1
 subst e
 cases r1 with
 | cons r rr=>
  cases rr
  cases r
  obtain ⟨its,rv,pl,hz⟩:=I1.list hq
  refine call_enumerate_list pl.isList fun h' he hit hsz hk=>?_
  refine wpAny_pyIter_enum he ⟨_,[s1.heap.objs.size+1,s1.heap.objs.size],_,Ite X.K l,H1,rfl,I1.kept (t':=s1.toks) hk,qg7 l (s1.heap.objs.size+1) s1.heap.objs.size (Nat.succ_ne_self _),⟨⟨_,he⟩,hit⟩,fun b hb=>?_,q⟩
  have hb':b=s1.heap.objs.size+1∨b=s1.heap.objs.size:=by simpa using hb
  rcases hb' with rfl|rfl
  ·exact I1.fpOk (Nat.le_succ _) (I1.hok.fresh (Nat.le_succ _))
  ·exact I1.fpOk (Nat.le_refl _) (I1.hok.fresh (Nat.le_refl _))
end
theorem qc4 {K:PySem.W.Frag}{a:Addr}{xs:List V}{g:TG}{tb:TS}{D:Ends}{σ:St}{H:Hp} (Pv:Nat→St→Hp→Prop) (h0:Pv 0 σ H) (hl:∀ i σ H,i≤xs.length→Pv i σ H→SqL K H a xs)
  (hs:∀ i x p σ H,xs[i]?=some x→Pv i σ H→H p=none→g (.ref p) σ (upd H p (.tup [.int i,x])) fun σ2 H2=>tb { D with nx:=Pv (i+1),ct:=Pv (i+1),bk:=D.nx } σ2 H2) (hd:∀ σ H,Pv xs.length σ H→D.nx σ H) :
  ∃ W:Nat→Nat→St→Hp→Prop,(∃ m,W 0 m σ H)∧∀ i m σ H,W i m σ H→
   ((Ite K a).stop i H∧D.nx σ H)∨((Ite K a).go i H∧∃ N:St→Hp→Prop,(∀ σ' H',N σ' H'→∃ m',m' < m∧W (i+1) m' σ' H')∧∀ x H',(Ite K a).yld i H x H'→g x σ H' fun σ2 H2=>tb { D with nx:=N,ct:=N,bk:=D.nx } σ2 H2):=by
 refine ⟨fun i m σ H=>m=xs.length-i∧i≤xs.length∧Pv i σ H,⟨xs.length,by simp,Nat.zero_le _,h0⟩,?_⟩
 rintro i m σ H ⟨rfl,hi,p⟩
 have q:=hl i σ H hi p
 by_cases hlt:i<xs.length
 ·refine .inr ⟨⟨xs,xs[i],q,by simp[hlt]⟩,Pv (i+1),fun σ' H' p'=>⟨xs.length-(i+1),by omega,rfl,hlt,p'⟩,fun x H' y=>?_⟩
  obtain ⟨pp,z,hn,e1,e2,y⟩:=y
  subst e1 e2
  exact hs i z pp σ _ (y xs q) p hn
 ·have e:i=xs.length:=by omega
  subst e
  exact .inl ⟨⟨xs,q,Nat.le_refl _⟩,hd σ H p⟩
def clOf (cells:List (Str×Addr)):List (Str×NameKind)→List (Str×Addr)→List (Str×Addr)
 | [],cs=>cs
 | (n,k)::r,cs=>if k=.free then clOf cells r ((n,(cells.lookup n).getD 0)::cs) else clOf cells r cs
theorem qdm {scope:Scope}{env:Env} (h:∀ x∈scope.names,x.2=.free→∃ c,env.cells.lookup x.1=some c):closureFor scope env=pure (clOf env.cells scope.names []):=by
 unfold closureFor
 generalize hn:scope.names=names at h
 suffices hh:∀ (l:List (Str×NameKind)) (cs:List (Str×Addr)),(∀ x∈l,x.2=.free→∃ c,env.cells.lookup x.1=some c)→
   (forIn l cs (fun (x:Str×NameKind) r=>if (x.2 == NameKind.free)=true then (do let a ← cellOf env x.1;pure (ForInStep.yield ((x.1,a)::r))) else pure (ForInStep.yield r)):Sem (List (Str×Addr)))=pure (clOf env.cells l cs) by
  have:=hh names [] h
  simp only[bind_pure]
  exact this
 intro l
 induction l with
 | nil=>intro cs _;rfl
 | cons x l ih=>
  intro cs hl
  obtain ⟨n,k⟩:=x
  rw[List.forIn_cons]
  by_cases hk:k=.free
  ·subst hk
   obtain ⟨c,hc⟩:=hl (n,.free) List.mem_cons_self rfl
   have e1:cellOf env n=pure c:=by unfold cellOf;rw[hc]
   have ec:clOf env.cells ((n,NameKind.free)::l) cs=clOf env.cells l ((n,c)::cs):=by
    show (if NameKind.free=NameKind.free then _ else _)=_
    rw[if_pos rfl,hc];rfl
   rw[ec]
   simp only[e1,pure_bind,beq_self_eq_true,if_true]
   exact ih _ fun y hy=>hl y (List.mem_cons_of_mem _ hy)
  ·have hb:(k == NameKind.free)=false:=by cases k<;>first|rfl|exact absurd rfl hk
   have ec:clOf env.cells ((n,k)::l) cs=clOf env.cells l cs:=by
    show (if k=NameKind.free then _ else _)=_
    rw[if_neg hk]
   rw[ec]
   simp only[hb,pure_bind,Bool.false_eq_true,if_false]
   exact ih _ fun y hy=>hl y (List.mem_cons_of_mem _ hy)
theorem qb2 {cells:List (Str×Addr)}:∀ {l:List (Str×NameKind)}{cs:List (Str×Addr)},(∀ x∈l,x.2=.free→∃ c,cells.lookup x.1=some c)→(∀ p∈cs,cells.lookup p.1=some p.2)→∀ p∈clOf cells l cs,cells.lookup p.1=some p.2
 | [],_,_,h=>h
 | (n,k)::r,cs,hl,h=>by
  unfold clOf
  split
  ·rename_i hk
   refine qb2 (fun x hx=>hl x (List.mem_cons_of_mem _ hx)) fun p hp=>?_
   rcases List.mem_cons.mp hp with rfl|hp
   ·obtain ⟨c,hc⟩:=hl (n,k) List.mem_cons_self hk
    show cells.lookup n=some ((cells.lookup n).getD 0)
    have hc':cells.lookup n=some c:=hc
    rw[hc'];rfl
   ·exact h p hp
  ·exact qb2 (fun x hx=>hl x (List.mem_cons_of_mem _ hx)) h
theorem yci {l:List (Str×Addr)}{x:Str} (h:∃ c,(x,c)∈l):∃ c,l.lookup x=some c:=by
 obtain ⟨c,h⟩:=h
 induction l with
 | nil=>cases h
 | cons p r ih=>
  obtain ⟨y,d⟩:=p
  by_cases e:(x == y)=true
  ·exact ⟨d,by rw[List.lookup_cons,e]⟩
  ·have e':(x == y)=false:=by simpa using e
   rcases List.mem_cons.mp h with q|q
   ·cases q;exact absurd (beq_self_eq_true _) e
   ·obtain ⟨c',z⟩:=ih q
    exact ⟨c',by rw[List.lookup_cons,e'];exact z⟩
theorem yc5 {cells:List (Str×Addr)}{x:Str}:∀ {l:List (Str×NameKind)}{cs:List (Str×Addr)},((x,NameKind.free)∈l∨∃ c,(x,c)∈cs)→∃ c,(x,c)∈clOf cells l cs
 | [],_,h=>by
  rcases h with h|h
  ·cases h
  ·exact h
 | (n,k)::r,cs,h=>by
  unfold clOf
  split
  ·rename_i hk
   refine yc5 ?_
   rcases h with h|⟨c,h⟩
   ·rcases List.mem_cons.mp h with q|q
    ·cases q;exact .inr ⟨_,List.mem_cons_self⟩
    ·exact .inl q
   ·exact .inr ⟨c,List.mem_cons_of_mem _ h⟩
  ·rename_i hk
   refine yc5 ?_
   rcases h with h|h
   ·rcases List.mem_cons.mp h with q|q
    ·cases q;exact absurd rfl hk
    ·exact .inl q
   ·exact .inr h
theorem ycz {env:Env}{x:Str}:∀ {l:List (Str×NameKind)},l.lookup x=some .free→
  (l.map fun (n,k)=>if (k == NameKind.free&&env.scope.kind == .function&&env.kindOf n == some .cell) then (n,NameKind.cell) else (n,k)).lookup x=some .cell∨
  (l.map fun (n,k)=>if (k == NameKind.free&&env.scope.kind == .function&&env.kindOf n == some .cell) then (n,NameKind.cell) else (n,k)).lookup x=some .free
 | [],h=>by simp at h
 | (n,k)::r,h=>by
  rw[List.map_cons]
  cases hx:x == n with
  | true=>
   rw[List.lookup_cons,hx] at h
   cases h
   by_cases hc:(NameKind.free == NameKind.free&&env.scope.kind == .function&&env.kindOf n == some .cell)=true
   ·left;simp only[hc,if_true,List.lookup_cons,hx]
   ·right;simp only[hc,Bool.false_eq_true,if_false,List.lookup_cons,hx]
  | false=>
   rw[List.lookup_cons,hx] at h
   have ih:=ycz (env:=env) (l:=r) h
   by_cases hc:(k == NameKind.free&&env.scope.kind == .function&&env.kindOf n == some .cell)=true
   ·simp only[hc,if_true,List.lookup_cons,hx];exact ih
   ·simp only[hc,Bool.false_eq_true,if_false,List.lookup_cons,hx];exact ih
theorem qdf {env:Env}{x:Str}:∀ {l:List (Str×NameKind)},(∀ y∈l,y.2≠.cell)→
  ((l.map fun (n,k)=>if (k == NameKind.free&&env.scope.kind == .function&&env.kindOf n == some .cell) then (n,NameKind.cell) else (n,k)).lookup x=some .cell∨
  (l.map fun (n,k)=>if (k == NameKind.free&&env.scope.kind == .function&&env.kindOf n == some .cell) then (n,NameKind.cell) else (n,k)).lookup x=some .free)→(x,NameKind.free)∈l
 | [],_,h=>by simp at h
 | (n,k)::r,hn,h=>by
  rw[List.map_cons] at h
  cases hx:x == n with
  | true=>
   have e:x=n:=by simpa using hx
   subst e
   by_cases hc:(k == NameKind.free&&env.scope.kind == .function&&env.kindOf x == some .cell)=true
   ·have:k=.free:=by
     simp only[Bool.and_eq_true,beq_iff_eq] at hc
     exact hc.1.1
    subst this
    exact List.mem_cons_self
   ·simp only[hc,Bool.false_eq_true,if_false,List.lookup_cons,hx,Option.some.injEq] at h
    rcases h with h|h
    ·exact absurd h (hn (x,k) List.mem_cons_self)
    ·subst h;exact List.mem_cons_self
  | false=>
   have h':(r.map fun (n,k)=>if (k == NameKind.free&&env.scope.kind == .function&&env.kindOf n == some .cell) then (n,NameKind.cell) else (n,k)).lookup x=some .cell∨
     (r.map fun (n,k)=>if (k == NameKind.free&&env.scope.kind == .function&&env.kindOf n == some .cell) then (n,NameKind.cell) else (n,k)).lookup x=some .free:=by
    by_cases hc:(k == NameKind.free&&env.scope.kind == .function&&env.kindOf n == some .cell)=true
    ·simp only[hc,if_true,List.lookup_cons,hx] at h;exact h
    ·simp only[hc,Bool.false_eq_true,if_false,List.lookup_cons,hx] at h;exact h
   exact List.mem_cons_of_mem _ (qdf (fun y hy=>hn y (List.mem_cons_of_mem _ hy)) h')
def qaw (X:Cx) (M:List Str) (scope:Scope) (C:Addr) (fp:List Addr) (s2:Shared) (H2:Hp):Cx:=
 {prog:=X.prog,w:=X.w,K:=X.K,mg:=X.mg,base:=X.base,A:=X.A,N:=M,s₀:=s2,H₀:=H2,env:=compEnvC scope (clOf X.env.cells scope.names []) C X.env,
  outer:=X.stack,stack:=X.stack,ex:=fp,fn:=fun _=>false,calm:=X.calm,pn:=[],xe:=fun _ _=>False }
def capS (ix:List (Option Nat)) (σ:St):St:=ix.map fun o=>match o with
 | none=>none
 | some j=>(σ[j]?).getD none
structure CompOk (N M:List Str) (ix:List (Option Nat)) (sc xs:Scope):Prop where
 kind:sc.kind=.function
 len:M.length=ix.length
 nocell:∀ y∈sc.names,y.2≠.cell
 loc:∀ y∈sc.names,y.2=.local→sc.names.lookup y.1=some .local
 fr:∀ y∈sc.names,y.2=.free→xs.names.lookup y.1=some .cell∨xs.names.lookup y.1=some .free
 cap:∀ (i:Nat) (j:Nat),ix[i]?=some (some j)→∃ x,M[i]?=some x∧N[j]?=some x∧sc.names.lookup x=some .free
def ygu (N M:List Str) (ix:List (Option Nat)) (sc xs:Scope):Bool:=
 decide (sc.kind=.function)&&decide (M.length=ix.length)&&sc.names.all (fun y=>decide (y.2≠.cell))&&sc.names.all (fun y=>decide (y.2≠.local)||decide (sc.names.lookup y.1=some .local)) &&
 sc.names.all (fun y=>decide (y.2≠.free)||decide (xs.names.lookup y.1=some .cell)||decide (xs.names.lookup y.1=some .free)) &&
 (List.range ix.length).all (fun i=>match ix[i]? with
  | some (some j)=>match M[i]? with
   | some x=>decide (N[j]?=some x)&&decide (sc.names.lookup x=some .free)
   | none=>false
  | _=>true)
theorem qb1 {N M:List Str}{ix:List (Option Nat)}{sc xs:Scope} (h:ygu N M ix sc xs=true):CompOk N M ix sc xs:=by
 unfold ygu at h
 simp only[Bool.and_eq_true,List.all_eq_true,decide_eq_true_eq,Bool.or_eq_true] at h
 obtain ⟨⟨⟨⟨⟨h1,h2⟩,h3⟩,h4⟩,h5⟩,h6⟩:=h
 refine ⟨h1,h2,h3,fun y hy e=>?_,fun y hy e=>?_,fun i j e=>?_⟩
 ·rcases h4 y hy with q|q
  ·exact absurd e q
  ·exact q
 ·rcases h5 y hy with (q|q)|q
  ·exact absurd e q
  ·exact .inl q
  ·exact .inr q
 ·have hi:i<ix.length:=(List.getElem?_eq_some_iff.mp e).1
  have q:=h6 i (List.mem_range.mpr hi)
  rw[e] at q
  cases hm:M[i]? with
  | none=>rw[hm] at q;cases q
  | some x=>
   rw[hm] at q
   simp only[Bool.and_eq_true,decide_eq_true_eq] at q
   exact ⟨x,rfl,q.1,q.2⟩
section
variable {X:Cx}
def PTs (X:Cx) (ifs:List Expr) (t:TT):Prop:=
 ∀ (pins:List (Addr×Obj)) (s:Shared) (σ:St) (H:Hp) (Q:Bool→Hp→Prop),Inv X pins σ H s→t σ H Q→
  wpAny (model X.prog X.w) X.A (forIn ifs true fun c r=>if r=true then do let ok ← isTrue c X.env (eval c X.env);pure (ForInStep.yield ok) else pure (ForInStep.yield r)) (TP X pins σ Q) X.xe s
def tYes:TT:=fun _ H Q=>Q true H
theorem yfe:PTs X [] tYes:=fun _ _ _ H _ I h=>wpAny_tests_nil ⟨H,I,h⟩
theorem qg3 {c:Expr}{t:TT} (h:PT X c t):PTs X [c] t:=fun pins s σ H Q I hq=>wpAny_tests_one (h pins s σ H Q I hq)
end
theorem Un.butNew {fs ex:List Addr}{H H':Hp}{h h1 h2:Heap}{C:Addr} (u:Un fs ex H H' h h1) (hC:h.objs.size≤C) (sb:Heap.SameBut C h1 h2):Un fs ex H H' h h2:=by
 have ne:∀ b o,h.get? b=some o→b≠C:=fun b o e=>Nat.ne_of_lt (Nat.lt_of_lt_of_le (Heap.lt_size e) hC)
 refine ⟨fun b o e n h3 h4=>(sb.2 b (ne b o e)).trans (u.keep b o e n h3 h4),fun b o e n h3 h4=>?_,u.free,fun b o e h4=>?_,u.tups,u.frzs,u.tbls⟩
 ·obtain ⟨sl,q⟩:=u.slot b o e n h3 h4
  exact ⟨sl,(sb.2 b (ne b o e)).trans q⟩
 ·obtain ⟨o',q⟩:=u.there b o e h4
  exact ⟨o',(sb.2 b (ne b o e)).trans q⟩
section
variable {X:Cx}{pins:List (Addr×Obj)}{σ:St}{H2:Hp}{s2:Shared}{M:List Str}{ix:List (Option Nat)}{scope:Scope}{fp:List Addr}
theorem comp_ok {C:Addr} (I:Inv X pins σ H2 s2) (ck:CompOk X.N M ix scope X.env.scope) (hC:s2.heap.objs.size≤C) (f2:∀ b∈fp,FpOk X pins H2 b) (hfp:∀ b∈fp,b<s2.heap.objs.size):(qaw X M scope C fp s2 H2).Ok:=by
 have hfree:∀ x∈scope.names,x.2=.free→∃ c,X.env.cells.lookup x.1=some c:=fun x hx e=>I.ok.has x.1 (ck.fr x hx e)
 have snd:∀ x c,(clOf X.env.cells scope.names []).lookup x=some c→X.env.cells.lookup x=some c:=fun x c e=>qb2 (cs:=[]) hfree (by intro p hp;cases hp) (x,c) (PySem.mem_of_lookup e)
 refine ⟨I.ok.mod,ck.kind,I.ok.glob,I.ok.blt,hC,fun x y c h1 h2=>I.ok.inj x y c (snd x c h1) (snd y c h2),fun x hx=>?_,(by intro x c h;cases h),I.ok.hd,I.ok.frames,.inl rfl,fun b hb=>⟨?_,fun x c e=>?_⟩,fun b o e=>I.bs b o e,
  Nat.le_trans I.ok.bsz I.sz,fun b o e hb=>?_,fun b hb hb2=>?_,I.stack,I.stkFree⟩
 ·exact yci (yc5 (.inl (qdf ck.nocell hx)))
 ·exact Nat.ne_of_lt (Nat.lt_of_lt_of_le (hfp b hb) hC)
 ·exact (f2 b hb).2.2.2.2.1 x c (snd x c e)
 ·rcases (f2 b hb).2.2.2.1 with z|z
  ·exact I.ok.noex b o e z
  ·exact absurd (Nat.lt_of_lt_of_le (Heap.lt_size e) (Nat.le_trans I.ok.bsz z)) (Nat.lt_irrefl _)
 ·obtain ⟨_,n1,n2,_⟩:=f2 b hb
  rcases List.mem_cons.mp (I.stkSub b hb2) with z|z
  ·exact n1 z
  ·exact n2 z
theorem comp_inv {C D:Addr}{h1:Heap}{tk:Nat} (I:Inv X pins σ H2 s2) (ck:CompOk X.N M ix scope X.env.scope) (hC:s2.heap.objs.size≤C) (hD:s2.heap.objs.size≤D) (hDC:C≠D) (f2:∀ b∈fp,FpOk X pins H2 b) (hfp:∀ b∈fp,b<s2.heap.objs.size)
  (old:∀ b o,s2.heap.get? b=some o→h1.get? b=some o) (hn:h1.Ns C fun _=>none) (hnew:h1.get? D=some { cls:=.type "list",data:=.seq #[] }) :
  Inv (qaw X M scope C fp s2 H2) [] (capS ix σ) (upd H2 D (.lst [])) { s2 with heap:=h1,toks:=tk }:=by
 have hfree:∀ x∈scope.names,x.2=.free→∃ c,X.env.cells.lookup x.1=some c:=fun x hx e=>I.ok.has x.1 (ck.fr x hx e)
 have snd:∀ x c,(clOf X.env.cells scope.names []).lookup x=some c→X.env.cells.lookup x=some c:=fun x c e=>qb2 (cs:=[]) hfree (by intro p hp;cases hp) (x,c) (PySem.mem_of_lookup e)
 have fD:H2 D=none:=I.hok.fresh hD
 refine ⟨comp_ok I ck hC f2 hfp,rfl,I.bare,Un.laid old hD fD,⟨_,hn,fun i x v e1 e2 e3=>?_⟩,fun x c e=>?_,?_,fun x c e=>?_,(by intro p hp;cases hp),I.hok.laid (o:=.lst []) old hD ⟨Nat.zero_le _,[],0,.nil,hnew⟩,?_⟩
 ·obtain ⟨j,hj,hv⟩:∃ j,ix[i]?=some (some j)∧σ[j]?=some (some v):=by
   unfold capS at e2
   rw[List.getElem?_map] at e2
   cases q:ix[i]? with
   | none=>rw[q] at e2;cases e2
   | some o=>
    rw[q] at e2
    cases o with
    | none=>cases e2
    | some j=>
     refine ⟨j,rfl,?_⟩
     have e2':(σ[j]?).getD none=some v:=Option.some.inj e2
     cases z:σ[j]? with
     | none=>rw[z] at e2';cases e2'
     | some y=>rw[z] at e2';rw[show y=some v from e2']
  obtain ⟨y,hm,hN,hf⟩:=ck.cap i j hj
  have e1':M[i]?=some x:=e1
  rw[hm] at e1';cases e1'
  obtain ⟨m,hnl,hl⟩:=I.loc
  have hmem:(x,NameKind.free)∈scope.names:=PySem.mem_of_lookup hf
  have hk:=ck.fr _ hmem rfl
  obtain ⟨u,ru,lk⟩:=hl j x v hN hv (hk.elim (fun z=>.inr (.inl z)) fun z=>.inr (.inr z))
  refine ⟨u,ru,.inr ⟨ycz hf,?_⟩⟩
  rcases lk with ⟨kl,_⟩|⟨_,c,hc,hcell⟩
  ·have kl':X.env.scope.names.lookup x=some .local:=kl
   rcases hk with z|z
   ·rw[z] at kl';cases kl'
   ·rw[z] at kl';cases kl'
  ·obtain ⟨c2,h2⟩:=yci (yc5 (cells:=X.env.cells) (cs:=[]) (.inl hmem))
   have h3:=snd x c2 h2
   rw[hc] at h3;cases h3
   obtain ⟨o,ho,hd⟩:=hcell
   exact ⟨c,h2,o,old c o ho,hd⟩
 ·obtain ⟨v,o,ho,hd⟩:=I.cell x c (snd x c e)
  exact ⟨v,o,old c o ho,hd⟩
 ·show upd H2 D (.lst []) C=none
  rw[yae hDC]
  exact I.hok.fresh hC
 ·show upd H2 D (.lst []) c=none
  obtain ⟨v,z⟩:=I.cell x c (snd x c e)
  rw[yae (Nat.ne_of_lt (Nat.lt_of_lt_of_le z.lt hD))]
  exact I.freeC x c (snd x c e)
 ·show (capS ix σ).length=M.length
  unfold capS
  rw[List.length_map,ck.len]
theorem yho {C:Addr}{σ':St}{H':Hp}{s':Shared}{h2:Heap}{pl:List (Addr×Obj)} (I:Inv X pins σ H2 s2) (J:Inv (qaw X M scope C fp s2 H2) pl σ' H' s') (f2:∀ b∈fp,FpOk X pins H2 b) (sb:Heap.SameBut C s'.heap h2):Inv X pins σ H' { s' with heap:=h2 }:=by
 have hC:s2.heap.objs.size≤C:=J.ok.above
 refine I.call' (s':={ s' with heap:=h2 }) (ch:=fp) J.os (Un.butNew J.base hC sb) (fun a o e=>?_) J.bare fun b hb=>?_
 ·have fr:H' C=none:=J.free
  refine (J.hok a o e).stay (fun c v hc q=>(sb.2 c ?_).trans q) (fun _ q=>q) fun _ _ q=>q
  rintro rfl
  rcases hc with z|z
  ·rw[← z,fr] at e;cases e
  ·rw[fr] at z;cases z
 ·obtain ⟨_,n1,_,n3,n4,n5⟩:=f2 b hb
  exact ⟨n3,n1,n4,n5⟩
end
def qa4 (l l':St):Prop:=l'.length=l.length∧∀ (i:Nat) (v:V),l[i]?=some (some v)→l'[i]?=some (some v)
theorem qa4.refl (l:St):qa4 l l:=⟨rfl,fun _ _ h=>h⟩
theorem qa4.set {l l':St}{i:Nat}{x:Option V} (h:qa4 l l') (hi:l[i]?=some none):qa4 l (l'.set i x):=by
 refine ⟨by rw[List.length_set];exact h.1,fun j v e=>?_⟩
 by_cases hj:j=i
 ·subst hj;rw[hi] at e;cases e
 ·rw[List.getElem?_set_ne (Ne.symm hj)];exact h.2 j v e
def tComp (wi:TI) (ix:List (Option Nat)) (g:TG) (tt:TT) (te:TE):TE:=fun σ H Q=>wi σ H fun J H1=>∀ D,H1 D=none→∃ W:Nat→Nat→Hp→Prop,(∃ m,W 0 m (upd H1 D (.lst [])))∧∀ i m H,W i m H→
 (J.stop i H∧Q (.ref D) H)∨(J.go i H∧∃ N:Hp→Prop,(∀ H',N H'→∃ m',m' < m∧W (i+1) m' H')∧∀ x H',J.yld i H x H'→g x (capS ix σ) H' fun σ2 H2=>qa4 (capS ix σ) σ2∧tt σ2 H2 fun b H3=>
  if b=true then te σ2 H3 fun v H4=>∃ ys,H4 D=some (.lst ys)∧ys.length<sizeLine∧N (upd H4 D (.lst (ys++[v]))) else N H3)
section
variable {X:Cx}{elt tg iter:Expr}{ifs:List Expr}{scope:Scope}{pos:Pos}{wi:TI}{g:TG}{tt:TT}{te:TE}{M:List Str}{ix:List (Option Nat)}
theorem qg5 {pins:List (Addr×Obj)}{σ:St}{H2 H4:Hp}{s2 s4:Shared}{fp:List Addr}{it C D:Addr}{tn:Nat→Heap→Prop}{J:It}{R:Result→Shared→Prop}{QD:Hp→Prop} (I2:Inv X pins σ H2 s2) (hc:X.calm=true)
  (f2:∀ b∈fp,FpOk X pins H2 b) (T:Turn X.prog X.w X.K tg J fp it tn)
  (hg:PG (qaw X M scope C fp s2 H2) tg g) (ht:PTs (qaw X M scope C fp s2 H2) ifs tt) (he:PE (qaw X M scope C fp s2 H2) elt te)
  (I4:Inv (qaw X M scope C fp s2 H2) [] (capS ix σ) H4 s4) (st4:tn 0 s4.heap) (fr4:∀ b∈fp,H4 b=none) (W:Nat→Nat→Hp→Prop) (m0:Nat) (w0:W 0 m0 H4)
  (turn:∀ i m H,W i m H→(J.stop i H∧QD H)∨(J.go i H∧∃ N:Hp→Prop,(∀ H',N H'→∃ m',m' < m∧W (i+1) m' H')∧∀ x H',J.yld i H x H'→g x (capS ix σ) H' fun σ2 H2=>qa4 (capS ix σ) σ2∧tt σ2 H2 fun b H3=>
   if b=true then te σ2 H3 fun v H4=>∃ ys,H4 D=some (.lst ys)∧ys.length<sizeLine∧N (upd H4 D (.lst (ys++[v]))) else N H3))
  (fin:∀ H' s',Inv (qaw X M scope C fp s2 H2) [] (capS ix σ) H' s'→QD H'→R (.ok .next) s') :
  codeAny (model X.prog X.w) X.A (.compLoop (.ListComp elt [⟨tg,iter,ifs,0⟩] scope pos) 0 (.ref it) (.ref D) (compEnvC scope (clOf X.env.cells scope.names []) C X.env)) R s4:=by
 have stat:∀ {H':Hp},(∀ b∈fp,H' b=none)→∀ b∈fp,FpOk (qaw X M scope C fp s2 H2) [] H' b:=fun {H'} hn b hb=>
  ⟨hn b hb,(I4.ok.exf b hb).1,I4.ok.exfs b hb,.inl hb,(I4.ok.exf b hb).2,by intro p hp;cases hp⟩
 refine codeAny_loop rfl (fun n s'=>∃ i H',Inv (qaw X M scope C fp s2 H2) [] (capS ix σ) H' s'∧tn i s'.heap∧(∀ b∈fp,H' b=none)∧W i n H') ?_ m0 ⟨0,H4,I4,st4,fr4,w0⟩
 rintro n s5 ⟨i,H5,I5,st5,fr5,w5⟩
 show wpAny (model X.prog X.w) X.A ((compTurn (.ListComp elt [⟨tg,iter,ifs,0⟩] scope pos) 0 (.ref it) (.ref D) (compEnvC scope (clOf X.env.cells scope.names []) C X.env)).onRaise (fun x=>do noteFrame x (compEnvC scope (clOf X.env.cells scope.names []) C X.env);theTreesLotGoes x)) _ _ s5
 refine wpAny_noted ?_
 rw[compTurn_list]
 refine wpAny_bind (wpAny_standAt (wpAny_bind ?_))
 rcases turn i n H5 w5 with ⟨stop,qn⟩|⟨go,N,hN,step⟩
 ·refine thn (T.done (qaw X M scope C fp s2 H2) rfl rfl rfl hc i [] s5 (capS ix σ) H5 _ I5 (stat fr5) st5 stop) fun r s6 ⟨hr,I6⟩=>?_
  subst hr
  exact wpAny_pure (fin H5 s6 I6 qn)
 ·refine thn (T.item (qaw X M scope C fp s2 H2) rfl rfl rfl hc i [] s5 (capS ix σ) H5 _ I5 (stat fr5) st5 go) fun r s6 ⟨u,hr,h6⟩=>?_
  subst hr
  refine wpAny_bind (thn h6 fun _ s7 ⟨x,H7,I7,r7,y7,st7,fr7⟩=>?_)
  have I7':=I7.pinned (stat fr7) (T.obj _ _ st7)
  refine wpAny_bind (wpAny_mono (hg _ s7 (capS ix σ) H7 x u _ I7' r7 (step x H7 y7)) (fun _ s8 ⟨σ8,H8,I8,k8,q8⟩=>?_) fun _ _ z=>False.elim z)
  refine wpAny_bind (wpAny_mono (ht _ s8 σ8 H8 _ I8 q8) (fun ok s9 ⟨H9,I9,q9⟩=>?_) fun _ _ z=>False.elim z)
  have again:∀ {Ha:Hp}{sa:Shared},Inv (qaw X M scope C fp s2 H2) ([]++yev fp s7.heap) σ8 Ha sa→N Ha→∃ m,m<n∧∃ i H',Inv (qaw X M scope C fp s2 H2) [] (capS ix σ) H' sa∧tn i sa.heap∧(∀ b∈fp,H' b=none)∧W i m H':=fun {Ha sa} Ia na=>by
   obtain ⟨m',hm,wa⟩:=hN Ha na
   refine ⟨m',hm,i+1,Ha,Ia.unpinned.weak k8.1.symm k8.2,T.keep _ _ _ st7 fun b hb o e=>(Ia.pin (b,o) (List.mem_append_right _ (List.mem_append_right _ (qb3 hb e)))).1,fun b hb=>?_,wa⟩
   obtain ⟨o,e,d⟩:=T.obj _ _ st7 b hb
   exact (Ia.pin (b,o) (List.mem_append_right _ (List.mem_append_right _ (qb3 hb e)))).2.1
  cases ok with
  | false=>exact wpAny_pure ⟨rfl,again I9 q9⟩
  | true=>
   refine wpAny_bind (wpAny_bind (wpAny_mono (he _ s9 σ8 H9 _ I9 q9) (fun xv s10 ⟨v,H10,I10,r10,ys,hD,hl,q10⟩=>?_) fun _ _ z=>False.elim z))
   refine wpAny_bind (wpAny_mono (qa5 (X:=qaw X M scope C fp s2 H2) _ s10 σ8 H10 (.ref D) [v] (.ref D) [xv] (fun _ H'=>N H') I10 rfl (.cons r10 .nil) ⟨D,ys,v,rfl,rfl,hD,hl,q10⟩) (fun _ s11 ⟨_,H11,I11,_,q11⟩=>?_) fun _ _ z=>False.elim z)
   exact wpAny_pure (wpAny_pure ⟨rfl,again I11 q11⟩)
theorem yge {pins:List (Addr×Obj)}{σ:St}{H2:Hp}{s2:Shared}{fp:List Addr}{it:Addr}{tn:Nat→Heap→Prop}{J:It}{E:Value→Shared→Prop}{QD:Addr→Hp→Prop}{RR:Value→Addr→Result→Shared→Prop} (I2:Inv X pins σ H2 s2) (hc:X.calm=true)
  (ck:CompOk X.N M ix scope X.env.scope) (f2:∀ b∈fp,FpOk X pins H2 b) (T:Turn X.prog X.w X.K tg J fp it tn) (st2:tn 0 s2.heap)
  (hg:∀ C fp s2 H2,PG (qaw X M scope C fp s2 H2) tg g) (ht:∀ C fp s2 H2,PTs (qaw X M scope C fp s2 H2) ifs tt) (he:∀ C fp s2 H2,PE (qaw X M scope C fp s2 H2) elt te)
  (rd:∀ D,H2 D=none→∃ W:Nat→Nat→Hp→Prop,(∃ m,W 0 m (upd H2 D (.lst [])))∧∀ i m H,W i m H→
   (J.stop i H∧QD D H)∨(J.go i H∧∃ N:Hp→Prop,(∀ H',N H'→∃ m',m' < m∧W (i+1) m' H')∧∀ x H',J.yld i H x H'→g x (capS ix σ) H' fun σ2 H2=>qa4 (capS ix σ) σ2∧tt σ2 H2 fun b H3=>
    if b=true then te σ2 H3 fun v H4=>∃ ys,H4 D=some (.lst ys)∧ys.length<sizeLine∧N (upd H4 D (.lst (ys++[v]))) else N H3))
  (fin:∀ D C H' s',QD D H'→(∃ m,s'.heap.Ns C m)→(∀ h2,Heap.SameBut C s'.heap h2→Inv X pins σ H' { s' with heap:=h2 })→FpOk X pins H' C→RR (.ref D) C (.ok .next) s') :
  wpAny (model X.prog X.w) X.A (newList []) (fun acc s3=>wpAny (model X.prog X.w) X.A (newFunctionEnv scope X.env.globals (clOf X.env.cells scope.names []) [] X.env.qual none .none (some X.env)) (fun cenv s4=>
   codeAny (model X.prog X.w) X.A (.compStart (.ListComp elt [⟨tg,iter,ifs,0⟩] scope pos) 0 (.ref it) acc { cenv with scope:=relabel scope X.env }) (RR acc cenv.locals) s4) E s3) E s2:=by
 have hfp:∀ b∈fp,b<s2.heap.objs.size:=fun b hb=>by obtain ⟨o,e,_⟩:=T.obj 0 _ st2 b hb;exact Heap.lt_size e
 refine wpAny_newObj_type (wpAny_newFunctionEnv ck.nocell (by intro y hy;simp at hy) (fun h1 hn1 hsb1=>?_) ck.kind)
 dsimp only at hn1 hsb1 ⊢
 generalize hP:s2.heap.push { cls:=.type "list",dict:=none,data:=.seq ([]:List Value).toArray }=hh at hn1 hsb1 ⊢
 have hCz:hh.objs.size=s2.heap.objs.size+1:=by rw[← hP,Heap.size_push]
 have hCD:hh.objs.size≠s2.heap.objs.size:=by omega
 have old:∀ b o,s2.heap.get? b=some o→h1.get? b=some o:=fun b o e=>by
  have hb:b<s2.heap.objs.size:=Heap.lt_size e
  exact hsb1.extBut b o (Nat.ne_of_lt (by rw[hCz];exact Nat.lt_succ_of_lt hb)) (Heap.get?_push_of_some _ (hP ▸ Heap.get?_push_of_some _ e))
 have hnew:h1.get? s2.heap.objs.size=some { cls:=.type "list",data:=.seq #[] }:=hsb1.extBut _ _ hCD.symm (Heap.get?_push_of_some _ (hP ▸ Heap.get?_push_size _ rfl))
 obtain ⟨W,⟨m0,w0⟩,turn⟩:=rd s2.heap.objs.size (I2.hok.fresh (Nat.le_refl _))
 have I4:=comp_inv (M:=M) (ix:=ix) (scope:=scope) (fp:=fp) (tk:=s2.toks+([]:List (Str×Value)).length) I2 ck (C:=hh.objs.size) (D:=s2.heap.objs.size) (by omega) (Nat.le_refl _) hCD f2 hfp old hn1 hnew
 have st4:tn 0 h1:=T.keep _ _ _ st2 fun b _ o e=>old b o e
 have fr4:∀ b∈fp,upd H2 s2.heap.objs.size (.lst []) b=none:=fun b hb=>by rw[yae (Nat.ne_of_lt (hfp b hb))];exact (f2 b hb).1
 have lp:codeAny (model X.prog X.w) X.A (.compLoop (.ListComp elt [⟨tg,iter,ifs,0⟩] scope pos) 0 (.ref it) (.ref s2.heap.objs.size) (compEnvC scope (clOf X.env.cells scope.names []) hh.objs.size X.env)) (RR (.ref s2.heap.objs.size) hh.objs.size) { s2 with heap:=h1,toks:=s2.toks+([]:List (Str×Value)).length }:=by
  refine qg5 (QD:=QD s2.heap.objs.size) I2 hc f2 T (hg _ _ _ _) (ht _ _ _ _) (he _ _ _ _) I4 st4 fr4 W m0 w0 turn fun H' s' J' q'=>?_
  obtain ⟨m,hm,_⟩:=J'.loc
  exact fin _ _ H' s' q' ⟨m,hm⟩ (fun h2 sb=>yho I2 J' f2 sb) (I2.fpOk (by omega) J'.free)
 exact codeAny_compStart_list lp (T.self _ 0 _ _ _ st4 lp)
theorem yc9 (hc:X.calm=true) (ck:CompOk X.N M ix scope X.env.scope) (hi:PI X tg iter wi) (hg:∀ C fp s2 H2,PG (qaw X M scope C fp s2 H2) tg g) (ht:∀ C fp s2 H2,PTs (qaw X M scope C fp s2 H2) ifs tt) (he:∀ C fp s2 H2,PE (qaw X M scope C fp s2 H2) elt te)
  (hs:∀ x,foldedSetIterable iter X.env x=pure x:=by intro _;rfl):PE X (.ListComp elt [⟨tg,iter,ifs,0⟩] scope pos) (tComp wi ix g tt te):=by
 intro pins s σ H Q I h
 have hfree:∀ x∈scope.names,x.2=.free→∃ c,X.env.cells.lookup x.1=some c:=fun x hx e=>I.ok.has x.1 (ck.fr x hx e)
 rw[eval_ListComp]
 refine wpAny_comprehension_free (use:=none) (cl:=clOf X.env.cells scope.names []) rfl hs (qdm hfree) ck.kind ck.loc (thn (hi pins s σ H _ I h) fun v s1 h1=>thn h1 fun itv s2 h2=>?_)
 obtain ⟨it,fp,tn,J,H2,e,I2,T,st2,f2,rd⟩:=h2
 subst e
 refine yge (QD:=fun D H'=>Q (.ref D) H') I2 hc ck f2 T st2 hg ht he rd fun D C H' s' q hm hb _=>?_
 obtain ⟨m,hm⟩:=hm
 exact ⟨m,hm,fun h2 sb=>⟨.ref D,H',hb h2 sb,rfl,q⟩⟩
end
def FnAt (K:PySem.W.Frag) (mg:Str→Option Value) (x:Str) (st:Stmt) (ps:List Str):Prop:=∃ f fd,mg x=some (.ref f)∧Fun K x x st f fd∧qdl K fd ps []
def Has (P:Program) (w:World) (K:PySem.W.Frag) (mg:Str→Option Value) (base:Heap) (k:Nat) (x:Str) (ps:List Str) (sp:Sp):Prop:=
 ∃ f fd,mg x=some (.ref f)∧PySem.W.keepIn K (.ref f)=true∧qdl K fd ps []∧FnOk P w K mg base CX0 k f fd ps sp
section
variable {P:Program}{w:World}{K:PySem.W.Frag}{mg:Str→Option Value}{base:Heap}
theorem Has.of {x:Str}{st:Stmt}{ps N:List Str}{k:Nat}{sp:Sp} (F:FnAt K mg x st ps) (S:FnScope N ps (yab st)) (len:∀ vs H Q E,sp vs H Q E→vs.length=ps.length)
  (hbody:∀ (f:Addr) (cdv:Value) (A:Around) (outer:List Env) (s:Shared) (H:Hp) (vs:List V) (Q:VK) (E:XK),Room k (A.deeper (envOfC x (yab st) s.heap.objs.size f cdv))→sp vs H Q E→
   ∃ t,PSs (cxOf CX0 P w K mg base N x (yab st) f cdv A outer s H E).nox (qat st) t∧t { nx:=fun _ H'=>Q .non H',rt:=Q } (qcu N vs) H):Has P w K mg base (k+1) x ps sp:=by
 obtain ⟨f,fd,h1,h2,h3⟩:=F
 exact ⟨f,fd,h1,h2.kp,h3,h2.ok S len fun cdv A outer s H vs Q E hr h=>hbody f cdv A outer s H vs Q E hr h⟩
end
section
variable {X:Cx}
theorem yaj {k m:Nat}{x:Str}{ps:List Str}{sp:Sp}{e:Expr}{es:List Expr}{t:TA}{p pos:Pos} (h:Has X.prog X.w X.K X.mg X.base k x ps sp) (hr:Room m X.A) (ha:PA X (e::es) t) (hk:k≤m:=by decide) (hg:Gl X x:=by rfl)
  (hdb:(x == ("__debug__" : Str))=false:=by decide) (he:starEach (e::es) X.env=(false,eval e X.env)::starEach es X.env:=by rfl) (hpl:(backTo pos (starEach es X.env)).any (·.1)=false:=by rfl) :
  PE X (.Call (.Name x p) (e::es) [] pos) (tCall sp [] E0 t):=by
 obtain ⟨f,fd,h1,h2,h3,h4⟩:=h
 exact qhe h4 (hr.mono hk) hg h1 h2 h3 .nil pass0 ha hdb he hpl
end
def qfk:List Str:=["len","abs","max","min","repr","isinstance","int","bool","str","tuple","list","dict","range","enumerate","sorted","sum"]
structure Bl (mg:Str→Option Value):Prop where
 all:∀ x∈qfk,mg x=none
theorem Bl.of {mg:Str→Option Value} (B:Bl mg) {x:Str} (h:qfk.contains x=true):mg x=none:=B.all x (by simpa using h)
def GTup (K:PySem.W.Frag) (mg:Str→Option Value) (x:Str) (xs:List V):Prop:=∃ a,mg x=some (.ref a)∧∀ H,SqT K H a xs
theorem gtup_mk {K:PySem.W.Frag}{mg:Str→Option Value}{x:Str}{a:Addr}{xs:List V}{od:Option Addr}{its:Array Value}{n:Nat}{sl:Array (Option Value)} (h1:mg x=some (.ref a)) (h2:K.lookup a=some ⟨.type "tuple",od,.seq its n,sl⟩)
  (h3:its.size≤sizeLine) (h4:Vals xs its.toList):GTup K mg x xs:=⟨a,h1,fun H=>.inr ⟨_,its,n,h2,rfl,rfl,h3,h4⟩⟩
section
variable {X:Cx}
def tGT (K:PySem.W.Frag) (xs:List V):TE:=fun _ H Q=>∀ a,(∀ H',SqT K H' a xs)→Q (.ref a) H
theorem qhg {x:Str}{xs:List V}{pos:Pos} (h:GTup X.K X.mg x xs) (hg:Gl X x:=by rfl) (hd:(x == ("__debug__" : Str))=false:=by decide):PE X (.Name x pos) (tGT X.K xs):=by
 obtain ⟨a,h1,h2⟩:=h
 exact fun pins s σ H Q I q=>qa8 (v:=.ref a) hg h1 rfl hd pins s σ H Q I (q a h2)
theorem ycp {x:Str}{i:Int}{pos:Pos} (h:∃ t,X.mg x=some (.int i t)) (hg:Gl X x:=by rfl) (hd:(x == ("__debug__" : Str))=false:=by decide):PE X (.Name x pos) (tC (.int i)):=by
 obtain ⟨t,h1⟩:=h
 exact qa8 (v:=.int i) hg h1 ⟨t,rfl⟩ hd
def rIsi (K:PySem.W.Frag):List V→Hp→VK→Prop:=fun xs H Q=>∃ x T t b,xs=[x,.ty T]∧TyOf K H x t∧PySem.W.kitOne K t (.type T)=some b∧Q (.bl b) H
theorem qap:ybh X (.builtin "isinstance") (rIsi X.K):=by
 intro pins s σ H xs us Q I r h
 obtain ⟨x,T,t,b,rfl,ht,hk,q⟩:=h
 cases r with
 | cons r rr=>
  cases rr with
  | cons r' rr=>
   cases rr
   cases r'
   exact ygv I r ht hk fun tk=>⟨.bl b,H,I.tok _,rfl,q⟩
end
def tCut (t u:TS):TS:=fun D σ H=>∃ R:St→Hp→Prop,t { D with nx:=R } σ H∧∀ σ' H',R σ' H'→u D σ' H'
theorem pss_cut {X:Cx}{st:Stmt}{rest:List Stmt}{t u:TS} (h1:PS X st t) (h2:PSs X rest u):PSs X (st::rest) (tCut t u):=by
 intro pins s σ H D I h
 obtain ⟨R,h,hR⟩:=h
 refine wpAny_execs_cons (thn (h1 pins s σ H { D with nx:=R } I h) fun f s1 q=>?_)
 cases f with
 | next=>
  obtain ⟨σ',H',I',q⟩:=q
  exact h2 pins s1 σ' H' D I' (hR σ' H' q)
 | ret v=>exact q
 | brk=>exact q
 | cont=>exact q
theorem Same.upd {H H1:Hp}{p:Addr}{o:HO} (s:Same H H1) (h:H1 p=none):Same H (upd H1 p o):=fun b u e=>by
 have e1:=s b u e
 rw[yae (qae e1 h)];exact e1
theorem Same.at {H H1:Hp}{p:Addr}{o:HO} (s:Same H H1) (h:H p=none):Same H (L2.upd H1 p o):=fun b u e=>by
 rw[yae (qae e h)];exact s b u e
theorem At.tupEq {H:Hp}{v:V}{ds:List PyData} (h:At H v (.tuple ds)):∃ a vs,v=.ref a∧H a=some (.tup vs)∧AtAll H vs ds:=by
 cases h with
 | tup e t=>exact ⟨_,_,rfl,e,t⟩
theorem At.lstEq {H:Hp}{v:V}{ds:List PyData} (h:At H v (.list ds)):∃ a vs,v=.ref a∧H a=some (.lst vs)∧AtAll H vs ds:=by
 cases h with
 | lst e t=>exact ⟨_,_,rfl,e,t⟩
theorem At.strEq {H:Hp}{v:V}{x:Str} (h:At H v (.str x)):v=.str x:=by cases h;rfl
theorem At.intEq {H:Hp}{v:V}{x:Int} (h:At H v (.int x)):v=.int x:=by cases h;rfl
def yb7 (H:Hp) (L:List Addr):Hp:=fun b=>if b∈L then none else H b
theorem yau (H:Hp) (L:List Addr):Same (yb7 H L) H:=fun b o e=>by
 unfold yb7 at e
 split at e
 ·cases e
 ·exact e
theorem ydp {H:Hp}{L:List Addr}{b:Addr} (h:b∉L):yb7 H L b=H b:=by unfold yb7;rw[if_neg h]
theorem ybj {H H':Hp} (s:Same H H') (L:List Addr):Same (yb7 H L) (yb7 H' L):=fun b o e=>by
 unfold yb7 at e ⊢
 split at e
 ·cases e
 ·rename_i h;rw[if_neg h];exact s b o e
theorem qd2 {n:Nat} (h:n≤100000):n≤sizeLine:=Nat.le_trans h (by decide)
theorem qce {n:Nat} (h:n≤100000):n<sizeLine:=Nat.lt_of_le_of_lt h (by decide)
theorem yah {α:Type}{xs:List α}{i:Int}{v:α} (j:Nat) (h:xs[j]?=some v) (e:i=(j:Int):=by rfl):atI xs i=some v:=by
 rw[e];exact qhc h
theorem qg1 {J:It}{n:Nat}{g:TG}{tt:TT}{te:TE}{ix:List (Option Nat)}{σ:St}{H:Hp}{QD:Hp→Prop}{D:Addr} (Pv:Nat→Hp→Prop) (h0:Pv 0 (upd H D (.lst []))) (stop:∀ H',Pv n H'→J.stop n H'∧QD H')
  (step:∀ i H',i<n→Pv i H'→J.go i H'∧∀ x H2,J.yld i H' x H2→g x (capS ix σ) H2 fun σ2 H3=>qa4 (capS ix σ) σ2∧tt σ2 H3 fun b H4=>
   if b=true then te σ2 H4 fun v H5=>∃ ys,H5 D=some (.lst ys)∧ys.length<sizeLine∧Pv (i+1) (upd H5 D (.lst (ys++[v]))) else Pv (i+1) H4) :
  ∃ W:Nat→Nat→Hp→Prop,(∃ m,W 0 m (upd H D (.lst [])))∧∀ i m H,W i m H→
   (J.stop i H∧QD H)∨(J.go i H∧∃ N:Hp→Prop,(∀ H',N H'→∃ m',m' < m∧W (i+1) m' H')∧∀ x H',J.yld i H x H'→g x (capS ix σ) H' fun σ2 H2=>qa4 (capS ix σ) σ2∧tt σ2 H2 fun b H3=>
    if b=true then te σ2 H3 fun v H4=>∃ ys,H4 D=some (.lst ys)∧ys.length<sizeLine∧N (upd H4 D (.lst (ys++[v]))) else N H3):=by
 refine ⟨fun i m H=>m=n-i∧i≤n∧Pv i H,⟨n,by simp,Nat.zero_le _,h0⟩,?_⟩
 rintro i m H ⟨rfl,hi,p⟩
 by_cases hlt:i<n
 ·obtain ⟨g1,g2⟩:=step i H hlt p
  exact .inr ⟨g1,Pv (i+1),fun H' p'=>⟨n-(i+1),by omega,rfl,hlt,p'⟩,g2⟩
 ·have e:i=n:=by omega
  subst e
  exact .inl (stop H p)
theorem cut_take {xs:List V} (k:Nat):cutV xs none (some (k:Int))=xs.take k:=by
 unfold cutV
 rw[HT.sIx_none,HT.sIx_nat,List.drop_zero,Nat.sub_zero]
 by_cases h:k≤xs.length
 ·rw[Nat.min_eq_left h]
 ·rw[Nat.min_eq_right (by omega),List.take_length,List.take_of_length_le (by omega)]
theorem qef {xs:List V} (k:Nat):cutV xs (some (k:Int)) none=xs.drop k:=by
 unfold cutV
 rw[HT.sIx_none,HT.sIx_nat]
 by_cases h:k≤xs.length
 ·rw[Nat.min_eq_left h]
  exact List.take_of_length_le (by rw[List.length_drop];exact Nat.le_refl _)
 ·rw[Nat.min_eq_right (by omega),List.drop_eq_nil_of_le (show xs.length≤k by omega),List.drop_length];simp
theorem yes {σ:St}{H:Hp}{A B:Hp→Prop} (h:A H):tYes σ H fun b H'=>if b=true then A H' else B H':=iteT (B:=B H) h
section
variable {X:Cx}{K:PySem.W.Frag}
theorem yd9 {es:List Expr}{k:Nat}{t:TGs}{n:Nat}{pos:Pos} (h:X.K=K) (hc:X.calm=true) (hh:PGs X es t)
  (hn:(assignEach es X.env).length=n:=by rfl) (hst:(assignEach es X.env).findIdx? (·.1)=none:=by rfl):PG X (.Tuple es k pos) (gTup K n t):=by
 subst h;exact yem hc hh hn hst
end
def rNeD:R2:=fun x y H Q=>∃ dx dy,At H x dx∧At H y dy∧dx.canLay0=true∧dy.canLay0=true∧dx.depth≤60∧Q (.bl (!PyData.eqv dx dy)) H
section
variable {X:Cx}
theorem op_neD {k:Nat} (hr:Room k X.A):OpR X (compareOp .NotEq) rNeD:=by
 intro pins s σ H x y v u Q I rx ry h
 obtain ⟨dx,dy,h1,h2,c1,c2,hd,q⟩:=h
 obtain ⟨as,r1⟩:=h1.reads I.hok rx
 obtain ⟨bs,r2⟩:=h2.reads I.hok ry
 have hu:=hr.units
 exact PySem.SeqAt.rcNeAt_reads r1 r2 c1 c2 (by have:=Nat.min_le_left dx.depth dy.depth;omega) _ _ _ _ ⟨.bl _,H,I,rfl,q⟩
end
theorem qdk {n:Nat}:∀ {xs:List PyData},(∀ x∈xs,x.depth≤n)→PyData.depthAll xs≤n
 | [],_=>by simp[PyData.depthAll]
 | x::xs,h=>by
  have h1:=h x List.mem_cons_self
  have h2:=qdk (xs:=xs) fun y hy=>h y (List.mem_cons_of_mem _ hy)
  simp only[PyData.depthAll]
  omega
end L2
namespace L2
open PySem PySem.Spec PyProof.Rows PySem.W
abbrev bmV:List Value:=[.type "ValueError",.type "Exception",.type "BaseException",.type "object"]
def qc0 (K:PySem.W.Frag) (C:Addr):Bool:=match K.lookup C with
 | some ⟨.type "type",_,.cls cd,sl⟩=>(match cd.mro,sl.toList with
  | .ref D::bm,[_,_,_,_,some (.builtin n),_]=>D == C&&n == "ValueError.__new__" && !cd.hasDel&&cd.hasDict&&PySem.W.tailIn K bmV bm
  | _,_=>false)
 | _=>false
theorem ycr {K:PySem.W.Frag}{h:Heap}{C:Addr} (X:K.In h) (q:qc0 K C=true):∃ nm qn N bs bm sn sub ab col dd k0 k1 k2 k3 k5,
  h.get? C=some (excClassObj nm qn C N bs bm true sn sub ab col dd k0 k1 k2 k3 k5 "ValueError.__new__")∧OwnTail h bmV bm:=by
 unfold qc0 at q
 split at q
 ·rename_i dd cd sl ho
  split at q
  ·rename_i D bm k0 k1 k2 k3 n k5 hm hs
   simp only[Bool.and_eq_true,beq_iff_eq,Bool.not_eq_true'] at q
   obtain ⟨⟨⟨⟨rfl,rfl⟩,hdel⟩,hdi⟩,ht⟩:=q
   obtain ⟨nm,bs,mro,ns,qn,hd,sn,sub,ab,col,del⟩:=cd
   dsimp only at hm hdel hdi
   subst hm hdel hdi
   obtain ⟨l⟩:=sl
   simp only at hs
   subst hs
   exact ⟨nm,qn,ns,bs,bm,sn,sub,ab,col,dd,k0,k1,k2,k3,k5,X _ _ ho,tail_of_in X ht⟩
  ·cases q
 ·cases q
section
variable {prog:Program}{w:World}{A:Around}{E:Value→Shared→Prop}{h:Heap}{g:Array GenState}{d:Drawn}{t:Nat}{os:OsState}{K:PySem.W.Frag}{C fI:Addr}
theorem yer {rest:List Value}{Q:Fin→Shared→Prop} (X:K.In h) (cx:qc0 K C=true) (hi:PySem.W.findIn K (.ref C) "__init__" = some (some (.ref fI))) (hf:PySem.W.isFn K (.ref fI)=true)
  (hq:∀ h' e,Heap.MadeExcOf h h' e (.ref C) rest→wpAny (model prog w) A (call (.ref fI) (.ref e::rest)) (fun r s'=>r=.none∧Q (.done (.ret (.ref e))) s') E ⟨h',g,d,t,os⟩) (hrest:rest.length≤sizeLine) :
  wpAny (model prog w) A (Builtin.«type.__call__» ⟨.ref C::rest,[]⟩) Q E ⟨h,g,d,t,os⟩:=by
 obtain ⟨nm,qn,N,bs,bm,sn,sub,ab,col,dd,k0,k1,k2,k3,k5,cC,T⟩:=ycr X cx
 repeat (first|with_reducible refine wpAny_loadPart_at cC ?_|with_reducible refine wpAny_madeBy_exc cC ?_|wp_step)
 refine codeAny_call_builtin_code (Code.quiet_builtin _ PySem.F.excBase_ValueError.quiet) (wpAny_check_new_subU PySem.F.excBase_ValueError PySem.F.excBase_ValueError.hasB T cC ?_)
 refine codeAny_exc_new_subU PySem.F.excBase_ValueError PySem.F.excBase_ValueError.hasB PySem.F.excBase_ValueError T cC ?_ hrest
 show wpAny _ _ _ _ _ _
 generalize hp1:h.push { cls:=.type "tuple",data:=.seq rest.toArray }=h1
 have kp1:∀ b o,h.get? b=some o→h1.get? b=some o:=fun b o e=>by rw[← hp1];exact Heap.get?_push_of_some _ e
 have tp1:h1.get? h.objs.size=some { cls:=.type "tuple",data:=.seq rest.toArray }:=by rw[← hp1];exact Heap.get?_push_at rfl rfl
 have sz1:h1.objs.size=h.objs.size+1:=by rw[← hp1,Heap.size_push]
 generalize hp2:h1.push { cls:=.ref C,data:=.fields #[.ref h.objs.size,.none,.none,.none,.bool false,.none] }=h2
 have kp2:∀ b o,h.get? b=some o→h2.get? b=some o:=fun b o e=>by rw[← hp2];exact Heap.get?_push_of_some _ (kp1 b o e)
 have tp2:h2.get? h.objs.size=some { cls:=.type "tuple",data:=.seq rest.toArray }:=by rw[← hp2];exact Heap.get?_push_of_some _ tp1
 have ge2:h2.get? (h.objs.size+1)=some { cls:=.ref C,data:=.fields #[.ref h.objs.size,.none,.none,.none,.bool false,.none] }:=by rw[← hp2,← sz1];exact Heap.get?_push_size _ rfl
 have X2:K.In h2:=X.keeps kp2
 have cC2:=kp2 _ _ cC
 have hcC:(Value.ref C::bm).contains (.ref C)=true:=by simp
 unfold isInstance
 repeat (first|with_reducible refine wpAny_loadPart_at ge2 ?_|(with_reducible refine wpAny_isSubtype_exc cC2 ?_;rw[hcC])|wp_step)
 show wpAny _ _ (typeLookup (.ref C) _) _ _ _
 refine (looks_findIn X2 hi).here ?_
 refine wpAny_holding (wpAny_bind ((bind_fn X2 (.ref (h.objs.size+1)) (beq_iff_eq.mp hf)).here ?_))
 refine wpAny_bind (wpAny_mono (hq h2 (h.objs.size+1) ⟨kp2,Heap.get?_none_of_le (Nat.le_succ _),h.objs.size,ge2,Heap.get?_none_of_le (Nat.le_refl _),tp2⟩) (fun r s' hr=>?_) fun _ _ z=>z)
 obtain ⟨rfl,hQ⟩:=hr
 wp_walk
 exact hQ
theorem xc_call {rest:List Value}{Q:Value→Shared→Prop} (X:K.In h) (cx:qc0 K C=true) (hi:PySem.W.findIn K (.ref C) "__init__" = some (some (.ref fI))) (hf:PySem.W.isFn K (.ref fI)=true)
  (hq:∀ h' e,Heap.MadeExcOf h h' e (.ref C) rest→wpAny (model prog w) (A.under (.builtin "type.__call__" ⟨.ref C::rest,[]⟩)) (call (.ref fI) (.ref e::rest)) (fun r s'=>r=.none∧Q (.ref e) s') E ⟨h',g,d,t,os⟩) (hrest:rest.length≤sizeLine) :
  wpAny (model prog w) A (call (.ref C) rest) Q E ⟨h,g,d,t,os⟩:=by
 obtain ⟨nm,qn,N,bs,bm,sn,sub,ab,col,dd,k0,k1,k2,k3,k5,cC,T⟩:=ycr X cx
 have g1:=tc_lookup
 have g2:=tc_bind (.ref C)
 have gT:(⟨h,g,d,t,os⟩:Shared).TypeIs (.ref C) "type":=⟨_,cC,rfl⟩
 refine wpAny_call (codeAny_of_tree ?_)
 show wpAny _ _ (callAny (.ref C) _) _ _ _
 repeat (any_goals (first|assumption|with_reducible refine wpAny_loadPart_at cC ?_|wp_step))
 refine ⟨rfl,codeAny_call_builtin_at (Code.quiet_builtin _ (by decide +kernel)) entry_typeCall (wpAny_check_type_call_sub cC (yer X cx hi hf (fun h' e hm=>hq h' e hm) hrest))⟩
end
theorem qfo {h:Heap}{bm:List Value} (T:OwnTail h bmV bm) (self:Value):refuseLoop self "__setattr__" bm=pure ():=by
 induction T with
 | base=>exact PySem.F.store_ValueError.passes self
 | own _ _ _ _ ih=>rw[refuseLoop_ref];exact ih
section
variable {prog:Program}{w:World}{A:Around}{E:Value→Shared→Prop}{h:Heap}{g:Array GenState}{d:Drawn}{t:Nat}{os:OsState}{K:PySem.W.Frag}{C x:Addr}{mA:Str→Option Value}{name:Str}{v:Value}
theorem qfs {M:Model}{o:Obj}{nameV:Value}{Q:Unit→Shared→Prop} (X:K.In h) (cx:qc0 K C=true) (hx:h.get? x=some o) (hc:o.cls=.ref C) (hq:Q () ⟨h,g,d,t,os⟩) :
  wpAny M A (checkBuiltinCall "object.__setattr__" ⟨[.ref x,nameV,v],[]⟩) Q E ⟨h,g,d,t,os⟩:=by
 obtain ⟨nm,qn,N,bs,bm,sn,sub,ab,col,dd,k0,k1,k2,k3,k5,cC,T⟩:=ycr X cx
 have SF:=PySem.F.store_ValueError
 have hob:(Value.ref C::bm).contains (.type "object")=true:=by rw[List.contains_cons,T.hasType SF.hasOwner,Bool.or_true]
 have hargs:=SF.args (.ref x) nameV v
 simp only[checkBuiltinCall,SF.kind,SF.split]
 refine wpAny_bind ?_
 unfold isInstance
 repeat (first|(with_reducible refine wpAny_loadPart_at hx ?_;rw[hc])|(with_reducible refine wpAny_isSubtype_exc cC ?_;rw[hob])|wp_step)
 exact hq
theorem qds {tk:Tok}{Q:Fin→Shared→Prop}{ns:List Str} (X:K.In h) (cx:qc0 K C=true) (hna:PySem.W.findIn K (.ref C) name=some none) (I:h.Inst x C mA)
  (hq:∀ h' tk',h'.Inst x C (fun y=>if y=name then some v else mA y)→
   (∀ b o,b≠x→(∀ o0 dx,h.get? x=some o0→o0.dict=some dx→b≠dx)→h.get? b=some o→h'.get? b=some o)→
   (∀ o0,h.get? x=some o0→∃ o1,h'.get? x=some o1∧o1.cls=o0.cls∧o1.data=o0.data∧(∀ dx,o0.dict=some dx→o1.dict=some dx)∧(o0.dict=none→o1.dict=some h.objs.size))→Q (.done (.ret .none)) ⟨h',g,d,tk',os⟩)
  (hw:Within mA ns) (hsz:ns.length+1≤sizeLine) :
  wpAny (model prog w) A (Builtin.«object.__setattr__» ⟨[.ref x,.str name tk,v],[]⟩) Q E ⟨h,g,d,t,os⟩:=by
 obtain ⟨nm,qn,N,bs,bm,sn,sub,ab,col,dd,k0,k1,k2,k3,k5,cC,T⟩:=ycr X cx
 obtain ⟨o,hx,hc,hnc,hd⟩:=I
 have hpass:=qfo T (.ref x)
 unfold Builtin.«object.__setattr__»
 repeat (first|rw[refuse_eq]|(rw[refuseLoop_ref,hpass])|(with_reducible refine wpAny_loadPart_at hx ?_;rw[hc])|with_reducible refine wpAny_mroOf_exc cC ?_|with_reducible refine (looks_findIn X hna).here ?_|wp_step)
 have put:∀ (dx:Addr) (h1:Heap) (mB:Str→Option Value) (ms:List Str),h1.Ns1 dx mB→Within mB ms→ms.length+1≤sizeLine→
   (∀ h' tk',h'.Ns1 dx (fun y=>if y=name then some v else mB y)→Heap.SameBut dx h1 h'→Q (.done (.ret .none)) ⟨h',g,d,tk',os⟩)→
   wpAny (model prog w) A (Builtin.ObjectAttr.storeInDict dx (.str name tk) name v) Q E ⟨h1,g,d,t,os⟩:=fun dx h1 mB ms n1 wi le fin=>by
  unfold Builtin.ObjectAttr.storeInDict Builtin.ObjectAttr.newKeyGuard
  refine wpAny_bind (wpAny_pure (wpAny_bind (wpAny_nsSet1 n1 fun h' n2 sb=>?_)))
  obtain ⟨oD,eD,pD,oE,dE,cE⟩:=n2.count (Within.cons name v wi)
  refine wpAny_bind (wpAny_lookBehind oE (by rw[dE];exact pastItsLine_dict (Nat.le_trans cE (by rw[List.length_cons];omega))) ?_)
  wp_walk
  exact fin h' _ n2 sb
 rcases hd with ⟨hdn,hmA⟩|⟨dx,hdx,hne,hns⟩
 ·rw[hdn]
  have hif:¬ ((!true || !typeHasDict (Value.ref C))=true):=by simp[typeHasDict]
  show wpAny _ _ (if (!true || !typeHasDict (Value.ref C))=true then _ else _) _ _ _
  rw[if_neg hif]
  have hxs:x≠h.objs.size:=Nat.ne_of_lt (Heap.lt_size hx)
  have px:(h.push { cls:=.type "dict",data:=.dict #[] }).get? x=some o:=Heap.get?_push_of_some _ hx
  split
  ·rename_i c hcd
   exact absurd hcd (hnc c)
  ·refine wpAny_bind (wpAny_alloc' (wpAny_bind (wpAny_update' px (wpAny_pure ?_))))
   have dg:((h.push { cls:=.type "dict",data:=.dict #[] }).update x fun o=>{ cls:=o.cls,dict:=some h.objs.size,data:=o.data,slots:=o.slots }).get? h.objs.size=some { cls:=.type "dict",data:=.dict #[] }:=
    (Heap.get?_update_ne _ _ _ _ hxs.symm).trans (Heap.get?_push_at rfl rfl)
   have dn:((h.push { cls:=.type "dict",data:=.dict #[] }).update x fun o=>{ cls:=o.cls,dict:=some h.objs.size,data:=o.data,slots:=o.slots }).Ns h.objs.size (fun _=>none):=
    ⟨_,#[],_,dg,rfl,(by intro e he;exact absurd he (by simp)),fun _=>rfl⟩
   refine put h.objs.size _ _ [] (Heap.Ns1.of_empty dn) Within.nil (by rw[sizeLine_eq];decide) fun h' tk' n2 sb=>?_
   have gx:h'.get? x=some { cls:=o.cls,dict:=some h.objs.size,data:=o.data,slots:=o.slots }:=by
    refine (sb.2 x hxs).trans (Heap.get?_update_self _ px ?_)
    have fr:=(Heap.get?_some_iff.mp hx).2
    obtain ⟨oc,od,odt,osl⟩:=o
    cases odt<;>first|rfl|exact fr
   refine hq h' tk' ⟨_,gx,hc,hnc,.inr ⟨h.objs.size,rfl,hxs.symm,?_⟩⟩ (fun b ob hbx _ hb=>?_) (fun o0 e0=>?_)
   ·have em:(fun y=>if y=name then some v else mA y)=(fun y=>if y=name then some v else (none:Option Value)):=by
     funext y
     by_cases hy:y=name
     ·simp[hy]
     ·simp[hy,hmA y]
    rw[em];exact n2
   ·exact (sb.2 b (Nat.ne_of_lt (Heap.lt_size hb))).trans ((Heap.get?_update_ne _ _ _ _ hbx).trans (Heap.get?_push_of_some _ hb))
   ·rw[hx] at e0;cases e0
    exact ⟨_,gx,rfl,rfl,(by intro dx e;rw[hdn] at e;cases e),fun _=>rfl⟩
 ·rw[hdx]
  refine wpAny_pure ?_
  refine put dx h mA ns hns hw hsz fun h' tk' n2 sb=>?_
  refine hq h' tk' ⟨o,(sb.2 x hne.symm).trans hx,hc,hnc,.inr ⟨dx,hdx,hne,n2⟩⟩ (fun b ob _ hbd hb=>(sb.2 b (hbd o dx hx hdx)).trans hb) (fun o0 e0=>⟨o0,(sb.2 x hne.symm).trans e0,rfl,rfl,fun _ e=>e,fun e=>?_⟩)
  rw[hx] at e0;cases e0
  rw[hdx] at e;cases e
theorem xc_store {Q:Unit→Shared→Prop}{ns:List Str} (X:K.In h) (cx:qc0 K C=true) (hsa:PySem.W.findIn K (.ref C) "__setattr__" = some (some (.builtin "object.__setattr__"))) (hna:PySem.W.findIn K (.ref C) name=some none) (I:h.Inst x C mA)
  (hq:∀ h' tk',h'.Inst x C (fun y=>if y=name then some v else mA y)→
   (∀ b o,b≠x→(∀ o0 dx,h.get? x=some o0→o0.dict=some dx→b≠dx)→h.get? b=some o→h'.get? b=some o)→
   (∀ o0,h.get? x=some o0→∃ o1,h'.get? x=some o1∧o1.cls=o0.cls∧o1.data=o0.data∧(∀ dx,o0.dict=some dx→o1.dict=some dx)∧(o0.dict=none→o1.dict=some h.objs.size))→Q () ⟨h',g,d,tk',os⟩)
  (hw:Within mA ns) (hsz:ns.length+1≤sizeLine):wpAny (model prog w) A (setAttr (.ref x) name v) Q E ⟨h,g,d,t,os⟩:=by
 obtain ⟨o,hx,hc,_⟩:=id I
 have SF:=PySem.F.store_ValueError
 have b3:=SF.slot.bind (.ref x)
 unfold setAttr callSpecial? specialOf
 repeat (any_goals (first|assumption|(with_reducible refine wpAny_loadPart_at hx ?_;rw[hc])|with_reducible refine (looks_findIn X hsa).here ?_|wp_step))
 refine codeAny_call_builtin SF.slot.plain SF.entry (qfs X cx hx hc (qds X cx hna I (fun h' tk' I' hk hsame=>?_) hw hsz))
 repeat (any_goals (first|assumption|wp_step))
 exact hq h' tk' I' hk hsame
end
section
variable {prog:Program}{w:World}{A:Around}{E:Value→Shared→Prop}{h:Heap}{g:Array GenState}{d:Drawn}{t:Nat}{os:OsState}{K:PySem.W.Frag}{C x:Addr}{mA:Str→Option Value}{name:Str}{v:Value}
theorem yft {M:Model}{o:Obj}{nameV:Value}{Q:Unit→Shared→Prop} (X:K.In h) (cx:qc0 K C=true) (hx:h.get? x=some o) (hc:o.cls=.ref C) (hq:Q () ⟨h,g,d,t,os⟩) :
  wpAny M A (checkBuiltinCall "BaseException.__getattribute__" ⟨[.ref x,nameV],[]⟩) Q E ⟨h,g,d,t,os⟩:=by
 obtain ⟨nm,qn,N,bs,bm,sn,sub,ab,col,dd,k0,k1,k2,k3,k5,cC,T⟩:=ycr X cx
 have kd:builtinKind "BaseException.__getattribute__" = some .slot:=by decide +kernel
 have sp:splitId "BaseException.__getattribute__" = some ("BaseException","__getattribute__"):=by decide +kernel
 have hob:(Value.ref C::bm).contains (.type "BaseException")=true:=by rw[List.contains_cons,T.hasType PySem.F.excBase_ValueError.hasBase];rfl
 have ar:=PySem.F.args_bexc_ga (.ref x) nameV
 simp only[checkBuiltinCall,kd,sp]
 refine wpAny_bind ?_
 unfold isInstance
 repeat (first|(with_reducible refine wpAny_loadPart_at hx ?_;rw[hc])|(with_reducible refine wpAny_isSubtype_exc cC ?_;rw[hob])|wp_step)
 exact hq
end
structure XTy (K:PySem.W.Frag) (C:Addr):Prop where
 cx:qc0 K C=true
 ga:PySem.W.findIn K (.ref C) "__getattribute__" = some (some (.builtin "BaseException.__getattribute__"))
 gh:PySem.W.findIn K (.ref C) "__getattr__" = some none
 hc:(PySem.W.clsIn K C).isSome=true
 ha:PySem.W.findIn K (.ref C) "__class__" = some (some (.builtin "object.__class__"))
 hn:PySem.W.specialIn K (.builtin "object.__class__") "__get__" = some (some (.builtin "getset_descriptor.__get__"))
 tk:PySem.W.takesIn K (.builtin "object.__class__")=some true
 hm:PySem.W.mroIn K C (.type "object")=some true
section
variable {prog:Program}{w:World}{A:Around}{E:Value→Shared→Prop}{s:Shared}{K:PySem.W.Frag}{x C:Addr}{ox:Obj}{od:Option Obj}
theorem XTy.find (T:XTy K C):PySem.W.findObj K C od "__class__" = some (.bind (.builtin "getset_descriptor.__get__") (.builtin "object.__class__")):=by
 obtain ⟨cd,hc⟩:=Option.isSome_iff_exists.mp T.hc
 unfold PySem.W.findObj
 rw[hc,Option.bind_some,T.ha,Option.bind_some]
 simp[T.hn,T.tk]
theorem xc_class {Q:Option Value→Shared→Prop} (X:K.In s.heap) (T:XTy K C) (I:PySem.W.InstAt s.heap x ox C od) (q:Q (some (.ref C)) { s with toks:=s.toks+1 }):wpAny (model prog w) A (getAttr? (.ref x) "__class__") Q E s:=by
 obtain ⟨h,g,d,t,os⟩:=s
 replace X:K.In h:=X
 replace I:PySem.W.InstAt h x ox C od:=I
 have FV:=PySem.F.excAttr_ValueError
 have q3:=FV.ga.bind (.ref x)
 have e0:(false&&onTheHeap (Value.builtin "BaseException.__getattribute__"))=false:=rfl
 have hx:=I.at_
 have hc:=I.cls
 have e2:(Value.builtin "BaseException.__getattribute__" == Value.builtin "object.__getattribute__")=false:=by decide +kernel
 have e1:(onTheHeap (Value.ref C)&&Value.builtin "BaseException.__getattribute__" == Value.builtin "object.__getattribute__")=false:=by rw[e2];rfl
 unfold getAttr? getAttrBy? getAttrBy
 repeat (any_goals (first|assumption|(with_reducible refine wpAny_loadPart_at hx ?_;rw[hc])|with_reducible refine (looks_findIn X T.ga).here ?_|with_reducible refine (looks_findIn X T.gh).here ?_|wp_step))
 refine codeAny_call_builtin FV.ga.plain PySem.F.entry_bexc_ga (yft X T.cx hx hc ?_)
 unfold Builtin.«object.__getattribute__»
 repeat (any_goals (first|assumption|(with_reducible refine wpAny_loadPart_at hx ?_;rw[hc])|with_reducible refine (looks_find X I T.find).here ?_|wp_step))
 refine class_get (s:=⟨h,g,d,t+1,os⟩) X I T.hm ?_
 show wpAny _ _ (ret (.ref C)) _ _ _
 refine wpAny_pure ?_
 show wpAny _ _ (handedOut (.ref C)) _ _ _
 exact handed_on rfl (wpAny_pure q)
theorem qhs (T:XTy K C):KitX K (.ref x) (.ref C) (fun h=>∃ ox od,PySem.W.InstAt h x ox C od) where
 ty:=fun _ _ _ ⟨_,_,I⟩=>I.type
 it:=fun _ _ X _=>by
  obtain ⟨cd,hc⟩:=Option.isSome_iff_exists.mp T.hc
  unfold PySem.W.clsIn at hc
  split at hc
  ·rename_i c' d' cd' sl' ho
   intro A' Q' E' s' k q
   unfold isType loadHead
   exact wpAny_bind (wpAny_loadPart (k _ _ (X _ _ ho)) (wpAny_pure q))
  ·cases hc
 ne:=fun h tp dd its n sl X htp=>by
  obtain ⟨cd,hc⟩:=Option.isSome_iff_exists.mp T.hc
  refine Bool.eq_false_iff.mpr fun q=>?_
  have e:C=tp:=Value.ref.inj (beq_iff_eq.mp q)
  subst e
  unfold PySem.W.clsIn at hc
  split at hc
  ·rename_i c' d' cd' sl' ho
   have z:=(X _ _ ho).symm.trans htp
   cases z
  ·cases hc
 ca:=fun X ⟨_,_,I⟩ k=>xc_class X T I k
end
section
variable {X:Cx}{pins:List (Addr×Obj)}{σ:St}{H:Hp}{s:Shared}{h':Heap}{a d:Addr}{oA oD:HO}
theorem Inv.two {t':Nat} (I:Inv X pins σ H s) (ma:Mut (H a)) (md:Mut (H d)∨s.heap.objs.size≤d) (hne:d≠a) (k:∀ b u,b≠a→b≠d→s.heap.get? b=some u→h'.get? b=some u) (ta:∃ u,h'.get? a=some u) (td:∃ u,h'.get? d=some u)
  (na:yav X.prog X.w (upd (upd H d oD) a oA) h' a oA) (nd:yav X.prog X.w (upd (upd H d oD) a oA) h' d oD):Inv X pins σ (upd (upd H d oD) a oA) { s with heap:=h',toks:=t' }:=by
 have up:∀ b,b≠a→b≠d→upd (upd H d oD) a oA b=H b:=fun b h1 h2=>by rw[yae h1,yae h2]
 have na0:∀ b,H b=none→b≠a:=fun b n z=>by subst z;rw[n] at ma;exact ma
 have nd0:∀ b u,s.heap.get? b=some u→H b=none→b≠d:=fun b u e n z=>by
  subst z
  rcases md with md|md
  ·rw[n] at md;exact md
  ·exact absurd (Nat.lt_of_lt_of_le (Heap.lt_size e) md) (Nat.lt_irrefl _)
 have ms:∀ b u,H b=some u→¬ Mut (some u)→b≠a∧b≠d:=fun b u e nm=>by
  refine ⟨?_,?_⟩
  ·rintro rfl;rw[e] at ma;exact nm ma
  ·rintro rfl
   rcases md with md|md
   ·rw[e] at md;exact nm md
   ·have:=I.hok.fresh md;rw[e] at this;cases this
 refine I.un ⟨fun b u e n _ _=>k b u (na0 b n) (nd0 b u e n) e,fun b u e n _ _=>⟨u.slots,k b u (na0 b n) (nd0 b u e n) e⟩,fun b u e n _=>by rw[up b (na0 b n) (nd0 b u e n)];exact n,fun b u e _=>?_,
  fun b xs e=>?_,fun b u xs e=>?_,fun b ps e=>⟨#[],?_⟩⟩ (fun b u e=>?_)
 ·by_cases h1:b=a
  ·subst h1;exact ta
  ·by_cases h2:b=d
   ·subst h2;exact td
   ·exact ⟨u,k b u h1 h2 e⟩
 ·obtain ⟨h1,h2⟩:=ms b _ e fun z=>z
  rw[up b h1 h2];exact e
 ·obtain ⟨h1,h2⟩:=ms b _ e fun z=>z
  rw[up b h1 h2];exact e
 ·obtain ⟨h1,h2⟩:=ms b _ e fun z=>z
  rw[up b h1 h2,e];simp
 ·by_cases h1:b=a
  ·subst h1;rw[yaa] at e;cases e;exact na
  ·by_cases h2:b=d
   ·subst h2;rw[yae h1,yaa] at e;cases e;exact nd
   ·rw[up b h1 h2] at e
    refine (I.hok b u e).stay (fun c v hc q=>?_) (fun c q=>?_) fun c xs q=>?_
    ·rcases hc with rfl|hc
     ·exact k _ _ h1 h2 q
     ·obtain ⟨h3,h4⟩:=ms c _ hc fun z=>z
      exact k _ _ h3 h4 q
    ·obtain ⟨h3,h4⟩:=ms c _ q fun z=>z
     rw[up c h3 h4];exact q
    ·obtain ⟨h3,h4⟩:=ms c _ q fun z=>z
     rw[up c h3 h4];exact q
def qbk (a C:Addr) (dx:Option Addr):Heap→Prop:=fun h=>∃ o vs,h.get? a=some o∧o.cls=.ref C∧o.dict=dx∧o.data=.fields vs
def qbf (a C:Addr) (dx:Option Addr):Heap→Prop:=fun h=>∃ o vs,h.get? a=some o∧o.cls=.ref C∧o.dict=dx∧o.data=.fields vs∧vs[1]?=some .none
theorem qbf.q {a C:Addr}{dx:Option Addr}{h:Heap} (x:qbf a C dx h):qbk a C dx h:=by
 obtain ⟨o,vs,e,c,d,dt,_⟩:=x
 exact ⟨o,vs,e,c,d,dt⟩
def yea (a d:Addr) (fs:List (Str×V)):Heap→Prop:=fun h=>d≠a∧fs.length≤100∧∃ mA,h.Ns1 d mA∧(∀ f,RelO (fs.lookup f) (mA f))∧PySem.Within mA (fs.map (·.1))
def XAt (H:Hp) (a C:Addr) (fs:List (Str×V)):Prop:=(fs=[]∧H a=some (.ext (qbf a C none)))∨(∃ d,H a=some (.ext (qbf a C (some d)))∧H d=some (.ext (yea a d fs)))∨
 (fs=[]∧H a=some (.ext (qbk a C none)))∨(∃ d,H a=some (.ext (qbk a C (some d)))∧H d=some (.ext (yea a d fs)))
theorem XAt.obj {P:Program}{w:World}{H:Hp}{h:Heap}{a C:Addr}{fs:List (Str×V)} (ok:HOk P w H h) (x:XAt H a C fs):(fs=[]∧qbk a C none h)∨∃ d,qbk a C (some d) h∧yea a d fs h:=by
 rcases x with ⟨e,h1⟩|⟨d,h1,h2⟩|⟨e,h1⟩|⟨d,h1,h2⟩
 ·exact .inl ⟨e,(ok a _ h1).1.q⟩
 ·exact .inr ⟨d,(ok a _ h1).1.q,(ok d _ h2).1⟩
 ·exact .inl ⟨e,(ok a _ h1).1⟩
 ·exact .inr ⟨d,(ok a _ h1).1,(ok d _ h2).1⟩
theorem yf7 {P:Program}{w:World}{H:Hp}{h:Heap}{a C:Addr}{dx:Option Addr} (x:qbk a C dx h):yav P w H h a (.ext (qbk a C dx)):=by
 obtain ⟨o,vs,e,r⟩:=x
 exact ⟨⟨o,vs,e,r⟩,⟨o,e⟩,fun h1 h2 ⟨o,vs,e,r⟩ k=>⟨o,vs,k o e,r⟩⟩
theorem qfv {P:Program}{w:World}{H:Hp}{h:Heap}{a C:Addr}{dx:Option Addr} (x:qbf a C dx h):yav P w H h a (.ext (qbf a C dx)):=by
 obtain ⟨o,vs,e,r⟩:=x
 exact ⟨⟨o,vs,e,r⟩,⟨o,e⟩,fun h1 h2 ⟨o,vs,e,r⟩ k=>⟨o,vs,k o e,r⟩⟩
theorem yg7 {P:Program}{w:World}{H:Hp}{h:Heap}{a d:Addr}{fs:List (Str×V)} (x:yea a d fs h):yav P w H h d (.ext (yea a d fs)):=by
 obtain ⟨n,l,mA,⟨o,es,ep,e,r⟩,r2⟩:=id x
 exact ⟨x,⟨o,e⟩,fun h1 h2 ⟨n,l,mA,⟨o,es,ep,e,r⟩,r2⟩ k=>⟨n,l,mA,⟨o,es,ep,k o e,r⟩,r2⟩⟩
theorem XAt.inst {C:Addr}{fs:List (Str×V)} (x:XAt H a C fs) (I:Inv X pins σ H s):∃ mA,s.heap.Inst a C mA∧(∀ f,RelO (fs.lookup f) (mA f))∧PySem.Within mA (fs.map (·.1))∧fs.length≤100:=by
 rcases x.obj I.hok with ⟨rfl,o,vs,e,c,dn,dt⟩|⟨d,⟨o,vs,e,c,dn,dt⟩,n,l,mA,n1,r,wi⟩
 ·exact ⟨fun _=>none,⟨o,e,c,(by intro c z;rw[dt] at z;cases z),.inl ⟨dn,fun _=>rfl⟩⟩,fun f=>trivial,PySem.Within.nil,by simp⟩
 ·exact ⟨mA,⟨o,e,c,(by intro c z;rw[dt] at z;cases z),.inr ⟨d,dn,n,n1⟩⟩,r,wi,l⟩
end
theorem XAt.same {H H':Hp}{a C:Addr}{fs:List (Str×V)} (s:∀ b o,H b=some o→H' b=some o) (x:XAt H a C fs):XAt H' a C fs:=by
 rcases x with ⟨e,h1⟩|⟨d,h1,h2⟩|⟨e,h1⟩|⟨d,h1,h2⟩
 ·exact .inl ⟨e,s _ _ h1⟩
 ·exact .inr (.inl ⟨d,s _ _ h1,s _ _ h2⟩)
 ·exact .inr (.inr (.inl ⟨e,s _ _ h1⟩))
 ·exact .inr (.inr (.inr ⟨d,s _ _ h1,s _ _ h2⟩))
structure XOk (K:PySem.W.Frag) (C:Addr):Prop extends XTy K C where
 sa:PySem.W.findIn K (.ref C) "__setattr__" = some (some (.builtin "object.__setattr__"))
def NoF (K:PySem.W.Frag) (C:Addr) (f:Str):Prop:=PySem.W.findIn K (.ref C) f=some none
def XD (H:Hp) (a C:Addr) (dx:Option Addr) (fs:List (Str×V)):Prop:=(dx=none∧fs=[]∧H a=some (.ext (qbf a C none)))∨∃ d,dx=some d∧H a=some (.ext (qbf a C (some d)))∧H d=some (.ext (yea a d fs))
theorem XD.xat {H:Hp}{a C:Addr}{dx:Option Addr}{fs:List (Str×V)} (x:XD H a C dx fs):XAt H a C fs:=by
 rcases x with ⟨_,e,h⟩|⟨d,_,h1,h2⟩
 ·exact .inl ⟨e,h⟩
 ·exact .inr (.inl ⟨d,h1,h2⟩)
structure SetX (a d:Addr) (dx:Option Addr) (H H':Hp):Prop where
 dd:dx=some d∨(dx=none∧H d=none)
 kp:∀ b o,H b=some o→b≠a→b≠d→H' b=some o
section
variable {X:Cx}{pins:List (Addr×Obj)}{σ:St}{H:Hp}{s:Shared}{a C:Addr}{dx:Option Addr}{fs:List (Str×V)}{f:Str}{v:V}{u:Value}
theorem yg6 {d:Addr}{h':Heap}{mA:Str→Option Value} (hne:d≠a) (hl:fs.length<100) (n1:h'.Ns1 d fun y=>if y=f then some u else mA y) (r:∀ g,RelO (fs.lookup g) (mA g)) (wi:PySem.Within mA (fs.map (·.1))) (rv:RelV v u):yea a d (putF f v fs) h':=by
 refine ⟨hne,by have:=yda f v fs;omega,_,n1,fun g=>?_,fun g hg=>?_⟩
 ·rw[ydd]
  by_cases q:g=f
  ·simp only[q,if_true];exact rv
  ·simp only[q,if_false];exact r g
 ·by_cases q:g=f
  ·subst q;exact (ydj g v fs).1
  ·exact (ydj f v fs).2 g (wi g fun z=>hg (by simp only[q,if_false];exact z))
theorem setx_ok {E:Value→Shared→Prop}{Q:Unit→Shared→Prop} (I:Inv X pins σ H s) (x:XD H a C dx fs) (c:XOk X.K C) (n:NoF X.K C f) (hl:fs.length<100) (rv:RelV v u)
  (k:∀ d H' s',Inv X pins σ H' s'→XD H' a C (some d) (putF f v fs)→SetX a d dx H H'→Q () s'):wpAny (model X.prog X.w) X.A (setAttr (.ref a) f u) Q E s:=by
 obtain ⟨mA,inst,r,wi,l⟩:=x.xat.inst I
 have kin:=I.kIn
 obtain ⟨hh,g,dr,t,os⟩:=s
 refine xc_store kin c.cx c.sa n inst (fun h' tk' inst' keep same=>?_) wi (by rw[List.length_map,sizeLine_eq];omega)
 rcases x with ⟨rfl,rfl,h1⟩|⟨d,rfl,h1,h2⟩
 ·obtain ⟨⟨o,vs,e,cc,dn,dt,rw1⟩,_⟩:=I.hok a _ h1
  obtain ⟨o1,e1,c1,d1,_,dd1⟩:=same o e
  have dd:=dd1 dn
  obtain ⟨o2,e2,_,_,⟨z,_⟩|⟨d2,z,ne2,n2⟩⟩:=inst'
  ·rw[e1] at e2;cases e2;rw[dd] at z;cases z
  ·rw[e1] at e2;cases e2
   rw[dd] at z;cases z
   have fr:H hh.objs.size=none:=I.hok.fresh (Nat.le_refl _)
   have px:=yg6 (a:=a) (v:=v) ne2 hl n2 r wi rv
   have po:qbf a C (some hh.objs.size) h':=⟨o1,vs,e1,c1.trans cc,dd,d1.trans dt,rw1⟩
   refine k hh.objs.size (upd (upd H hh.objs.size (.ext (yea a hh.objs.size (putF f v [])))) a (.ext (qbf a C (some hh.objs.size)))) _ (Inv.two I (by rw[h1];exact True.intro) (.inr (Nat.le_refl _)) ne2 (fun b ob hb hb2 q=>keep b ob hb (fun o0 dx q0 q1=>?_) q) ⟨_,e1⟩ (let ⟨o,_,_,q,_⟩:=n2;⟨o,q⟩) (qfv po) (yg7 px)) (.inr ⟨_,rfl,yaa,by rw[yae ne2];exact yaa⟩) ⟨.inr ⟨rfl,fr⟩,fun b o hb hba _=>?_⟩
   ·have q0':hh.get? a=some o0:=q0
    have e':hh.get? a=some o:=e
    rw[e'] at q0';cases q0'
    rw[dn] at q1;cases q1
   ·rw[yae hba,yae (qae hb fr)];exact hb
 ·obtain ⟨⟨o,vs,e,cc,dn,dt,rw1⟩,_⟩:=I.hok a _ h1
  obtain ⟨o1,e1,c1,d1,dd1,_⟩:=same o e
  have dd:=dd1 d dn
  obtain ⟨⟨ne0,_⟩,_⟩:=I.hok d _ h2
  obtain ⟨o2,e2,_,_,⟨z,_⟩|⟨d2,z,ne2,n2⟩⟩:=inst'
  ·rw[e1] at e2;cases e2;rw[dd] at z;cases z
  ·rw[e1] at e2;cases e2
   rw[dd] at z;cases z
   have px:=yg6 (a:=a) (v:=v) ne2 hl n2 r wi rv
   have po:qbf a C (some d) h':=⟨o1,vs,e1,c1.trans cc,dd,d1.trans dt,rw1⟩
   refine k d (upd (upd H d (.ext (yea a d (putF f v fs)))) a (.ext (qbf a C (some d)))) _ (Inv.two I (by rw[h1];exact True.intro) (.inl (by rw[h2];exact True.intro)) ne2 (fun b ob hb hb2 q=>keep b ob hb (fun o0 dx q0 q1=>?_) q) ⟨_,e1⟩ (let ⟨o,_,_,q,_⟩:=n2;⟨o,q⟩) (qfv po) (yg7 px)) (.inr ⟨_,rfl,yaa,by rw[yae ne2];exact yaa⟩) ⟨.inl rfl,fun b o hb hba hbd=>?_⟩
   ·have q0':hh.get? a=some o0:=q0
    have e':hh.get? a=some o:=e
    rw[e'] at q0';cases q0'
    rw[dn] at q1;cases q1
    exact hb2
   ·rw[yae hba,yae hbd];exact hb
variable {o e value:Expr}{pos pos' p:Pos}{ta tv:TE}
def sXFld (K:PySem.W.Frag) (ta tv:TE) (f:Str):TS:=fun D σ H=>tv σ H fun y H1=>ta σ H1 fun x H2=>∃ a C dx fs,x=.ref a∧XD H2 a C dx fs∧XOk K C∧NoF K C f∧fs.length<100∧∀ d H3,XD H3 a C (some d) (putF f y fs)→SetX a d dx H2 H3→D.nx σ H3
theorem ps_xfld (ha:PE X o ta) (hv:PE X value tv) (hs:swapsWith value (some (.Attribute o f pos')) pos.line X.env=pure false:=by rfl):PS X (.Assign [.Attribute o f pos'] value pos) (sXFld X.K ta tv f):=by
 intro pins s σ H D I h
 refine plainObj_wpAny_Assign_Attribute (thn (hv pins s σ H _ I h) fun u s1 ⟨y,H1,I1,ry,q⟩=>thn (ha pins s1 σ H1 _ I1 q) fun ov s2 ⟨x,H2,I2,rx,a,C,dx,fs,ex,ea,c,n,l,q2⟩=>?_) hs
 subst ex
 obtain rfl:ov=Value.ref a:=rx
 exact setx_ok I2 ea c n l ry fun d H3 s3 I3 x3 sm=>⟨σ,H3,I3,q2 d H3 x3 sm⟩
end
theorem yav.ex {P:Program}{w:World}{H:Hp}{h:Heap}{a:Addr}{o:HO} (x:yav P w H h a o):∃ u,h.get? a=some u:=by
 cases o with
 | lst xs=>obtain ⟨_,_,_,_,e⟩:=x;exact ⟨_,e⟩
 | tup xs=>obtain ⟨_,_,_,ob,e,_⟩:=x;exact ⟨_,e⟩
 | dK kvs=>obtain ⟨_,_,_,_,o,_,_,e,_⟩:=x;exact ⟨_,e⟩
 | dT kvs=>obtain ⟨_,_,_,_,o,_,_,e,_⟩:=x;exact ⟨_,e⟩
 | set S n=>obtain ⟨o,_,_,_,e,_⟩:=x;exact ⟨_,e⟩
 | ins C dx fs=>obtain ⟨_,_,_,e,_⟩:=x;exact ⟨_,e⟩
 | own y=>exact x
 | xd fs=>obtain ⟨_,⟨_,_,_,e,_⟩,_⟩:=x;exact ⟨_,e⟩
 | rng lo hi=>obtain ⟨_,_,_,e⟩:=x;exact ⟨_,e⟩
 | frz ob u=>obtain ⟨e,_⟩:=x;exact ⟨_,e⟩
 | tbl ps=>exact ⟨_,show h.get? a=some _ from x⟩
 | met f y=>exact ⟨_,show h.get? a=some _ from x⟩
 | ext φ=>exact x.2.1
section
variable {X:Cx}{pins:List (Addr×Obj)}{σ:St}{H:Hp}{s:Shared}{h':Heap}{a C:Addr}{oA:HO}
theorem Inv.laidN {t':Nat} (I:Inv X pins σ H s) (k:∀ b u,s.heap.get? b=some u→h'.get? b=some u) (hn:s.heap.get? a=none) (new:yav X.prog X.w (upd H a oA) h' a oA):H a=none∧Inv X pins σ (upd H a oA) { s with heap:=h',toks:=t' }:=by
 have hH:H a=none:=by
  cases q:H a with
  | none=>rfl
  | some u=>obtain ⟨w,e⟩:=(I.hok a u q).ex;rw[hn] at e;cases e
 have nb:∀ b u,s.heap.get? b=some u→b≠a:=fun b u e z=>by rw[z,hn] at e;cases e
 refine ⟨hH,I.un ⟨fun b u e _ _ _=>k b u e,fun b u e _ _ _=>⟨u.slots,k b u e⟩,fun b u e n _=>by rw[yae (nb b u e)];exact n,fun b u e _=>⟨u,k b u e⟩,fun b xs e=>by rw[yae (qae e hH)];exact e,
  fun b u xs e=>by rw[yae (qae e hH)];exact e,fun b ps e=>⟨#[],by rw[yae (qae e hH),e];simp⟩⟩ fun b u e=>?_⟩
 by_cases hb:b=a
 ·subst hb;rw[yaa] at e;cases e;exact new
 ·rw[yae hb] at e
  exact (I.hok b u e).stay (fun c v _ q=>k c v q) (fun c q=>by rw[yae (qae q hH)];exact q) fun c xs q=>by rw[yae (qae q hH)];exact q
theorem Inv.madeX {rest:List Value}{t':Nat} (I:Inv X pins σ H s) (m:Heap.MadeExcOf s.heap h' a (.ref C) rest):H a=none∧Inv X pins σ (upd H a (.ext (qbf a C none))) { s with heap:=h',toks:=t' }:=by
 obtain ⟨tt,e,_⟩:=m.there
 exact I.laidN m.keeps m.new (qfv ⟨_,_,e,rfl,rfl,rfl,rfl⟩)
variable {x:Str}{e:Expr}{es:List Expr}{p pos:Pos}{t:TA}
variable {k:Nat}{f:Addr}{fd:FuncData}{ps:List Str}{sp:Sp}
def tXMake (C:Addr) (sp:Sp) (t:TA):TE:=fun σ H Q=>t σ H fun vs H1=>vs.length≤sizeLine∧∀ a,H1 a=none→sp (.ref a::vs) (upd H1 a (.ext (qbf a C none))) (fun v H2=>v=.non∧Q (.ref a) H2) E0
theorem pe_xmake (c:XOk X.K C) (hi:PySem.W.findIn X.K (.ref C) "__init__" = some (some (.ref f))) (hf:PySem.W.isFn X.K (.ref f)=true) (F:FnOk X.prog X.w X.K X.mg X.base CX0 k f fd ps sp) (hr:Room (k+1) X.A) (hb:qdl X.K fd ps []) (kp:PySem.W.keepIn X.K (.ref C)=true)
  (hg:Gl X x) (hm:X.mg x=some (.ref C)) (ha:PA X (e::es) t) (hdb:(x == ("__debug__" : Str))=false:=by decide)
  (he:starEach (e::es) X.env=(false,eval e X.env)::starEach es X.env:=by rfl) (hpl:(backTo pos (starEach es X.env)).any (·.1)=false:=by rfl):PE X (.Call (.Name x p) (e::es) [] pos) (tXMake C sp t):=by
 intro pins s σ H Q I h
 refine wpAny_Call_Name_kw (qdn I hg hm ?_ hdb)
 refine PySem.W.callWith_K (h₀:=X.base) I.ok.mod.kin kp (thn (ha pos pins s σ H _ I h) fun us s1 ⟨vs,H1,I1,r,hl,hq⟩=>⟨I1.kIn,?_⟩) he hpl
 have kin:=I1.kIn
 obtain ⟨hh,g,dr,tk,os⟩:=s1
 refine xc_call kin c.cx hi hf (fun h2 a m=>?_) (by rw[List.nil_append,← r.length];exact hl)
 obtain ⟨hn,I2⟩:=Inv.madeX (t':=tk) I1 m
 have hsp:=hq a hn
 have r2:Vals (V.ref a::vs) (Value.ref a::us):=.cons rfl r
 have hlen:(Value.ref a::us).length=ps.length:=by rw[← r2.length];exact F.len _ _ _ _ hsp
 have hlen2:((Value.ref a::us)++[]).length=ps.length:=by rw[List.append_nil];exact hlen
 have bb:=hb _ (Value.ref a::us) I2.kIn hlen2
 rw[List.append_nil] at bb
 refine wpAny_call (codeAny_mono (F.run _ X.stack _ _ ⟨Value.ref a::us,[]⟩ (Value.ref a::us) _ _ E0 (hr.make C us []) (I2.env0.make C us []) bb r2 hsp) fun r s' hq'=>?_)
 cases r with
 | error e=>exact hq'.elim
 | ok fl=>
  cases fl with
  | ret u=>
   obtain ⟨v,H',I3,rv,ev,q3⟩:=I2.after hq'
   subst ev
   exact ⟨rv,⟨V.ref a,H',I3,rfl,q3⟩⟩
  | next=>exact False.elim hq'
  | brk=>exact False.elim hq'
  | cont=>exact False.elim hq'
theorem XAt.at {fs:List (Str×V)} (x:XAt H a C fs) (I:Inv X pins σ H s):∃ ox od,PySem.W.InstAt s.heap a ox C od:=by
 rcases x.obj I.hok with ⟨rfl,o,vs,e,c,dn,dt⟩|⟨d,⟨o,vs,e,c,dn,dt⟩,n,l,mA,⟨od,_,_,ed,_⟩,r,wi⟩
 ·exact ⟨o,none,e,c,by unfold PySem.W.notCls;rw[dt],by rw[dn];trivial⟩
 ·exact ⟨o,some od,e,c,by unfold PySem.W.notCls;rw[dt],by rw[dn];exact ed⟩
def vcls:V→Value
 | .ref c=>.ref c
 | .ty n=>.type n
 | _=>.none
def rIsiX (K:PySem.W.Frag):List V→Hp→VK→Prop:=fun xs H Q=>∃ a C fs c b,xs=[.ref a,c]∧((∃ d,c=.ref d)∨∃ n,c=.ty n)∧XAt H a C fs∧XTy K C∧PySem.W.kitOne K (.ref C) (vcls c)=some b∧Q (.bl b) H
theorem yej:ybh X (.builtin "isinstance") (rIsiX X.K):=by
 intro pins s σ H xs us Q I r h
 obtain ⟨a,C,fs,c,b,rfl,hc,hx,T,hk,q⟩:=h
 cases r with
 | cons r rr=>
  cases rr with
  | cons r' rr=>
   cases rr
   cases r
   have hcv:∃ cv,vcls c=cv∧RelV c cv:=by
    rcases hc with ⟨d,rfl⟩|⟨n,rfl⟩
    ·exact ⟨_,rfl,rfl⟩
    ·exact ⟨_,rfl,rfl⟩
   obtain ⟨cv,e1,e2⟩:=hcv
   rw[e1] at hk
   rename_i u2
   have e3:u2=cv:=by
    rcases hc with ⟨d,rfl⟩|⟨n,rfl⟩
    ·exact (show u2=Value.ref d from r').trans (show cv=Value.ref d from e2).symm
    ·exact (show u2=Value.type n from r').trans (show cv=Value.type n from e2).symm
   subst e3
   exact PySem.W.kia_one (qhs T) I.kIn (hx.at I) hk (fun z=>nomatch z) fun tk=>⟨.bl b,H,I.tok _,rfl,q⟩
end
end L2
namespace L2
open PySem PySem.Spec PyProof.Rows
theorem Vals.bls:∀ {bs:List Bool}{us:List Value},Vals (bs.map V.bl) us→us=bs.map Value.bool
 | [],_,.nil=>rfl
 | b::bs,_,.cons r t=>by
  have e:=Vals.bls t
  cases r
  rw[e]
  rfl
end L2
namespace Mx
open PySem L2 PyProof.Rows
section
variable {X:Cx}{es:List Expr}{te:TE}{t:TA}{pos:Pos}
theorem pa_cs {k:Const}{j} (ha:PE X (.Constant k j pos) te) (hr:PA X es t):PA X (.Constant k j pos::es) (ycd te t):=qaa ha hr rfl
theorem pa_nm {x:Str} (ha:PE X (.Name x pos) te) (hr:PA X es t):PA X (.Name x pos::es) (ycd te t):=qaa ha hr rfl
theorem pa_cl {f xs ks} (ha:PE X (.Call f xs ks pos) te) (hr:PA X es t):PA X (.Call f xs ks pos::es) (ycd te t):=qaa ha hr rfl
def yf1:List Expr→Option (List Str)
 | []=>some []
 | .Constant (.str x) _ _::r=>(yf1 r).map (x :: ·)
 | _=>none
theorem yht {X:Cx}:∀ {es:List Expr}{xs:List Str},yf1 es=some xs→PA X es (fun _ H Q=>Q (xs.map V.str) H)
 | [],xs,h=>by
  cases h
  exact yac
 | .Constant (.str x) j p::r,xs,h=>by
  rw[yf1] at h
  obtain ⟨ys,hy,rfl⟩:=Option.map_eq_some_iff.mp h
  exact pa_cs qan (yht hy)
end
structure QS (X:Cx) (st:Stmt) (t:TS):Prop where
 of:PS X st t
structure QSs (X:Cx) (ss:List Stmt) (t:TS):Prop where
 of:PSs X ss t
section
variable {X:Cx}{st:Stmt}{rest a b:List Stmt}{t u:TS}{pos:Pos}{e:Expr}{te:TE}
theorem ya0:QSs X [] tNext:=⟨qby⟩
theorem yag (h:QS X st t):QSs X [st] t:=⟨qai h.of⟩
theorem qaf (h:QS X st t) (r:QSs X rest u):QSs X (st::rest) (tSeq t u):=⟨qak h.of r.of⟩
theorem qhi (h:QS X st t) (r:QSs X rest u):QSs X (st::rest) (tCut t u):=⟨pss_cut h.of r.of⟩
theorem qs_of (h:PS X st t):QS X st t:=⟨h⟩
end
end Mx
namespace L2
open PySem PySem.Spec PyProof.Rows PyProof.Rows.KTD
def TabK (K:PySem.W.Frag) (a:Addr) (D:List (Str×List V)):Prop:=
 (a == sysModules)=false∧∃ o es ep,K.lookup a=some o∧o.ExactDict∧o.data=.dict es ep∧KTD.Rows (fun xs v=>∃ p,v=.ref p∧∀ H,SqT K H p xs) es.toList D
section
variable {prog:Program}{w:World}{A:Around}{E:Value→Shared→Prop}{s:Shared}{a:Addr}{k:Str}{tk:Tok}{o:Obj}{es:Array DictEntry}{ep:Nat}
theorem qdq {Q:Option Value→Shared→Prop} (g:s.heap.get? a=some o) (gd:o.data=.dict es ep) (ge:(es.toList.all fun e=>isExactStrKey e.key)=true)
  (q:Q ((es.toList.find? fun e=>e.key.isStr k).map (·.val)) { s with toks:=s.toks+1 }):wpAny (model prog w) A (dictGet a (.str k tk)) Q E s:=by
 obtain ⟨l⟩:=es
 have q2:Q (findBy (fun k v=>v.isStr k) ⟨l⟩ k) { s with toks:=s.toks+1 }:=by
  rw[show findBy (fun k v=>v.isStr k) (⟨l⟩:Array DictEntry) k=(l.find? fun e=>e.key.isStr k).map (·.val) by simp[findBy]]
  exact q
 unfold dictGet
 try with_reducible refine wpAny_holding ?_
 refine wpAny_bind (wpAny_pyHash_str ?_)
 refine wpAny_bind ?_
 refine kt_dictFind_strs (s:={ s with toks:=s.toks+1 }) g gd (by simpa using ge) ?_
 rw[findBy_of_findIdx?] at q2
 revert q2
 cases (⟨l⟩:Array DictEntry).findIdx? fun e=>e.key.isStr k with
 | none=>intro q2;exact wpAny_pure q2
 | some i=>intro q2;refine wpAny_bind ?_;exact wpAny_dictEntries (s:={ s with toks:=s.toks+1 }) g gd (wpAny_pure q2)
end
section
variable {X:Cx}{pins:List (Addr×Obj)}{σ:St}{H:Hp}{s:Shared}{a:Addr}{D:List (Str×List V)}
theorem TabK.dict (I:Inv X pins σ H s) (T:TabK X.K a D):s.TypeIs (.ref a) "dict"∧∀ b,Value.ref a=.ref b→∃ ob,s.heap.get? b=some ob∧ob.dict=none:=by
 obtain ⟨_,o,es,ep,hl,hx,hd,hr⟩:=T
 refine ⟨⟨o,I.kIn a o hl,hx.1⟩,fun b e=>?_⟩
 cases e
 exact ⟨o,I.kIn a o hl,hx.2.1⟩
theorem TabK.ask {k:Str}{tk:Tok}{E:Value→Shared→Prop}{A:Around}{Q:Option Value→Shared→Prop} (I:Inv X pins σ H s) (T:TabK X.K a D)
  (h1:∀ xs p,datumAt k D=some xs→(∀ H,SqT X.K H p xs)→Q (some (.ref p)) { s with toks:=s.toks+1 }) (h2:datumAt k D=none→Q none { s with toks:=s.toks+1 }):wpAny (model X.prog X.w) A (dictGet a (.str k tk)) Q E s:=by
 obtain ⟨_,o,es,ep,hl,hx,hd,hr⟩:=T
 refine qdq (I.kIn a o hl) hd hr.exact ?_
 cases hat:datumAt k D with
 | some xs=>
  obtain ⟨v,hv,p,rfl,hp⟩:=hr.find_some hat
  rw[hv]
  exact h1 xs p hat hp
 | none=>rw[hr.find_none hat];exact h2 hat
def rIxTab (K:PySem.W.Frag) (D:List (Str×List V)):R2:=fun x y H Q=>∃ a k xs,x=.ref a∧y=.str k∧TabK K a D∧datumAt k D=some xs∧∀ p,(∀ H,SqT K H p xs)→Q (.ref p) H
theorem qfy:IxR X (rIxTab X.K D):=by
 intro value slice pins s σ H x y v u Q I rx ry h hs
 obtain ⟨a,k,xs,rfl,rfl,T,hd,q⟩:=h
 cases rx
 obtain ⟨tk,rfl⟩:=ry
 obtain ⟨hsm,o,es,ep,hl,hx,hd2,hr⟩:=id T
 obtain ⟨v,hv,p,rfl,hp⟩:=hr.find_some hd
 have fin:EP X pins σ Q (.ref p) { s with toks:=s.toks+1 }:=⟨.ref p,H,I.tok _,rfl,q p hp⟩
 refine subscriptTail_builtinR (x:=.ref p) (T.dict I).1 slot_dict_getitem.lookup ?_ hs
 unfold getItem
 try with_reducible refine wpAny_holding ?_
 refine wpAny_bind (wpAny_sequenceKey (T.dict I).1 (by decide) ?_)
 refine wpAny_bind (wpAny_callSpecial?_slot (name:=Str.ofString "__getitem__") (T.dict I).1 slot_dict_getitem (wpAny_call_entry slot_dict_getitem (T.dict I).1 entry_dict_getitem ?_ (args_dict_getitem _ _)))
 show wpAny _ _ (dictGet a (.str k tk) >>= _) _ _ _
 refine wpAny_bind (qdq (I.kIn a o hl) hd2 hr.exact ?_)
 rw[hv]
 exact wpAny_pure ⟨_,rfl,wpAny_pure ⟨rfl,fin⟩⟩
def rInTab (K:PySem.W.Frag) (D:List (Str×List V)):R2:=fun x y H Q=>∃ a k,x=.str k∧y=.ref a∧TabK K a D∧Q (.bl (inKeys k D)) H
theorem qf2:OpR X (compareOp .In) (rInTab X.K D):=by
 intro pins s σ H x y v u Q I rx ry h
 obtain ⟨a,k,rfl,rfl,T,q⟩:=h
 cases ry
 obtain ⟨tk,rfl⟩:=rx
 show wpAny _ _ (contains (.ref a) (.str k tk) >>= fun c=>pure (Value.bool c)) _ _ s
 refine wpAny_bind ?_
 unfold contains
 try with_reducible refine wpAny_holding ?_
 refine wpAny_bind (wpAny_specialOf (T.dict I).1 slot_dict_contains.lookup ?_)
 show wpAny _ _ (if (some (Value.builtin "dict.__contains__") == some Value.none)=true then _ else _) _ _ s
 rw[if_neg (by rw[beq_builtin_none];exact Bool.false_ne_true)]
 refine wpAny_bind (wpAny_callSpecialUnlessNone?_slot (name:=Str.ofString "__contains__") (T.dict I).1 slot_dict_contains (wpAny_call_entry slot_dict_contains (T.dict I).1 entry_dict_contains ?_ (args_dict_contains _ _)))
 show wpAny _ _ (dictGet a (.str k tk) >>= _) _ _ _
 refine wpAny_bind (T.ask I (fun xs p hd hp=>?_) fun hn=>?_)
 ·have e:inKeys k D=true:=by rw[← isSome_datumAt,hd];rfl
  rw[e] at q
  show wpAny _ _ (ret (.bool true)) _ _ _
  exact wpAny_pure ⟨_,rfl,wpAny_truthy_bool (wpAny_pure ⟨.bl true,H,I.tok _,rfl,q⟩)⟩
 ·have e:inKeys k D=false:=by rw[← isSome_datumAt,hn];rfl
  rw[e] at q
  show wpAny _ _ (Builtin.Dict.pendingKey? a (.str k tk) >>= _) _ _ _
  exact wpAny_bind (wpAny_pendingKey_other T.1 (wpAny_pure ⟨_,rfl,wpAny_truthy_bool (wpAny_pure ⟨.bl false,H,I.tok _,rfl,q⟩)⟩))
end
end L2
namespace L2
open PySem PySem.Spec PyProof.Rows
open Builtin.SmallTypes (nextOf)
def SIt (h:Heap) (tp:Bool) (q l:Addr) (i:Nat):Prop:=if tp then IsTupIter h q l i else h.IsListIter q l i
def SOf (h:Heap) (tp:Bool) (l:Addr) (its:Array Value):Prop:=if tp then IsTup h l its else h.IsList l its
section
variable {prog:Program}{w:World}{A:Around}{E:Value→Shared→Prop}{s:Shared}{q l:Addr}{i:Nat}{its:Array Value}
theorem SIt.at {h h':Heap}{tp:Bool} (x:SIt h tp q l i) (k:∀ o,h.get? q=some o→h'.get? q=some o):SIt h' tp q l i:=by
 cases tp with
 | true=>obtain ⟨o,g,r⟩:=x;exact ⟨o,k o g,r⟩
 | false=>obtain ⟨o,g,r⟩:=x;exact ⟨o,k o g,r⟩
theorem SIt.obj {h:Heap}{tp:Bool} (x:SIt h tp q l i):∃ o,h.get? q=some o∧∀ v,o.data≠.cell v:=by
 cases tp with
 | true=>obtain ⟨o,g,c,d⟩:=x;exact ⟨o,g,fun v z=>by rw[d] at z;cases z⟩
 | false=>obtain ⟨o,g,c,d⟩:=x;exact ⟨o,g,fun v z=>by rw[d] at z;cases z⟩
theorem SOf.at {h h':Heap}{tp:Bool} (x:SOf h tp l its) (k:∀ o,h.get? l=some o→h'.get? l=some o):SOf h' tp l its:=by
 cases tp with
 | true=>obtain ⟨o,g,r⟩:=x;exact ⟨o,k o g,r⟩
 | false=>obtain ⟨o,g,r⟩:=x;exact ⟨o,k o g,r⟩
theorem ycc {tp:Bool}{x:Value}{Q:Value→Shared→Prop} (hq:SIt s.heap tp q l i) (hl:SOf s.heap tp l its) (hx:its[i]?=some x)
  (k:∀ h',SIt h' tp q l (i+1)→Heap.SameBut q s.heap h'→Q x { s with heap:=h' }):wpAny (model prog w) A (nextOf (.ref q)) Q E s:=by
 cases tp with
 | false=>exact wpAny_nextOf_list_item hq hl hx k
 | true=>
  have hq':IsTupIter s.heap q l i:=hq
  obtain ⟨o,go,gc,gd⟩:=id hq'
  obtain ⟨ol,gl,_,nl,gdl⟩:=(show IsTup s.heap l its from hl)
  unfold Builtin.SmallTypes.nextOf
  refine wpAny_bind (wpAny_callSpecial?_slot (name:=Str.ofString "__next__") hq'.typeIs slot_tupleiter_next (wpAny_call_entry slot_tupleiter_next hq'.typeIs entry_tupleiter_next ?_ (args_tupleiter_next _)))
  show wpAny _ _ (field (.ref q) 0 >>= _) _ _ s
  refine wpAny_bind (wpAny_field go gd (x:=.ref l) rfl ?_)
  show wpAny _ _ (if (Value.ref l == Value.none)=true then _ else _) _ _ s
  rw[if_neg (by exact Bool.false_ne_true:¬ ((Value.ref l == Value.none)=true))]
  show wpAny _ _ (field (.ref q) 1 >>= _) _ _ s
  refine wpAny_bind (wpAny_field go gd (x:=.int i 0) rfl ?_)
  show wpAny _ _ (seqItems? (.ref l) >>= _) _ _ s
  refine wpAny_bind (wpAny_seqItems gl gdl ?_)
  simp only[Int.toNat_natCast,hx]
  refine wpAny_bind (wpAny_setField go gd (by simp) (wpAny_pure ⟨x,rfl,?_⟩))
  refine wpAny_pure (k _ ?_ (Heap.SameBut.update ..))
  exact ⟨_,Heap.get?_update_self _ go (Obj.isFreed_of_fields (Obj.data_mapFields gd _)),(Obj.cls_mapFields ..).trans gc,by rw[Obj.data_mapFields gd];simp[rawInt]⟩
theorem yd0 {tp:Bool}{Q:Value→Shared→Prop} (hh:A.handled=none) (hq:SIt s.heap tp q l i) (hl:SOf s.heap tp l its) (hx:its[i]?=none)
  (k:∀ h' e,Heap.ExtBut q s.heap h'→(∃ o,h'.get? e=some o∧o.cls=.type "StopIteration")→E (.ref e) { s with heap:=h' }):wpAny (model prog w) A (nextOf (.ref q)) Q E s:=by
 cases tp with
 | false=>exact wpAny_nextOf_list_end hh hq hl hx k
 | true=>
  have hq':IsTupIter s.heap q l i:=hq
  obtain ⟨o,go,gc,gd⟩:=id hq'
  obtain ⟨ol,gl,_,nl,gdl⟩:=(show IsTup s.heap l its from hl)
  unfold Builtin.SmallTypes.nextOf
  refine wpAny_bind (wpAny_callSpecial?_slot (name:=Str.ofString "__next__") hq'.typeIs slot_tupleiter_next (wpAny_call_entry slot_tupleiter_next hq'.typeIs entry_tupleiter_next ?_ (args_tupleiter_next _)))
  show wpAny _ _ (field (.ref q) 0 >>= _) _ _ s
  refine wpAny_bind (wpAny_field go gd (x:=.ref l) rfl ?_)
  show wpAny _ _ (if (Value.ref l == Value.none)=true then _ else _) _ _ s
  rw[if_neg (by exact Bool.false_ne_true:¬ ((Value.ref l == Value.none)=true))]
  show wpAny _ _ (field (.ref q) 1 >>= _) _ _ s
  refine wpAny_bind (wpAny_field go gd (x:=.int i 0) rfl ?_)
  show wpAny _ _ (seqItems? (.ref l) >>= _) _ _ s
  refine wpAny_bind (wpAny_seqItems gl gdl ?_)
  simp only[Int.toNat_natCast,hx]
  refine wpAny_bind (wpAny_rule ?_)
  refine wpAny_bind (wpAny_setField go gd (by simp) ?_)
  show wpAny _ _ (newExc (.type "StopIteration") [] >>= _) _ _ _
  refine wpAny_bind ?_
  simp only[newExc,newTuple]
  refine wpAny_bind (wpAny_newObj_type ?_ (by size_fits))
  refine wpAny_bind (m:=firstArgMember _ _) ?_
  refine wpAny_of_eq (a:=Value.none) (by first|rfl|(simp only[firstArgMember];rfl)) ?_
  refine wpAny_newObj_type ?_ (by size_fits)
  simp only[raiseNew]
  refine wpAny_bind (wpAny_handled ?_)
  first|rw[show A.in1.handled=none from hh]|rw[hh]
  refine wpAny_bind (wpAny_pure (wpAny_throw ?_))
  exact k _ _ (((Heap.SameBut.update ..).extBut.push _).push _) ⟨_,Heap.get?_push_size _ rfl,rfl⟩
theorem neN {a b:Nat} (h:a<b∨b<a):a≠b:=by omega
theorem zipNext {n l1 l2 k:Nat}{xs ys:Array Value}{x y a b:Value}{t1 t2:Bool}{Q:Value→Shared→Prop} (b1:l1<n) (b2:l2<n) (gz:IsZip s.heap (n+4) (n+2) (n+3) .none) (gi:IsPair s.heap (n+2) (.ref n) (.ref (n+1))) (go:IsPair s.heap (n+3) a b)
  (q1:SIt s.heap t1 n l1 k) (q2:SIt s.heap t2 (n+1) l2 k) (o1:SOf s.heap t1 l1 xs) (o2:SOf s.heap t2 l2 ys) (hx:xs[k]?=some x) (hy:ys[k]?=some y)
  (kk:∀ h',IsZip h' (n+4) (n+2) (n+3) (rawInt s.heap.objs.size)→IsPair h' (n+3) x y→SIt h' t1 n l1 (k+1)→SIt h' t2 (n+1) l2 (k+1)→IsPair h' s.heap.objs.size x y→h'.objs.size=s.heap.objs.size+1→
   (∀ c o,c≠n+4→c≠n+3→c≠n→c≠n+1→s.heap.get? c=some o→h'.get? c=some o)→Q (.ref s.heap.objs.size) { s with heap:=h' }) :
  wpAny (model prog w) A (Builtin.«zip.__next__» ⟨[.ref (n+4)],[]⟩) (fun fin s'=>∃ v,fin=.done (.ret v)∧Q v s') E s:=by
 show wpAny _ _ (field (.ref (n+4)) 2 >>= _) _ _ _
 refine wpAny_bind (wpAny_field gz rfl (x:=.bool false) rfl ?_)
 show wpAny _ _ (field (.ref (n+4)) 3 >>= _) _ _ _
 refine wpAny_bind (wpAny_field gz rfl (x:=.ref (n+2)) rfl ?_)
 refine wpAny_bind (wpAny_seqItems gi rfl ?_)
 show wpAny _ _ (Builtin.SmallTypes.ownedTupleIsFree (.ref (n+4)) >>= _) _ _ _
 refine wpAny_bind ?_
 unfold Builtin.SmallTypes.ownedTupleIsFree
 refine wpAny_bind (wpAny_field gz rfl (x:=.none) rfl ?_)
 refine wpAny_pure ?_
 simp only[if_true]
 refine wpAny_bind (wpAny_rule ?_)
 refine wpAny_bind (wpAny_field gz rfl (x:=.ref (n+3)) rfl ?_)
 refine wpAny_bind (wpAny_setField_rec gz (by simp) fun m1 gz1 e1=>?_)
 replace gz1:IsZip m1 (n+4) (n+2) (n+3) .ellipsis:=gz1
 refine wpAny_bind ?_
 simp only[List.zipIdx_cons,List.zipIdx_nil,List.forIn_cons,List.forIn_nil]
 refine wpAny_bind (wpAny_bind ?_)
 refine wpAny_onRaise ?_
 show wpAny _ _ (nextOf (.ref n) >>= _) _ _ _
 refine wpAny_bind (ycc (q1.at fun o g=>e1.extBut _ _ (neN (by omega)) g) (o1.at fun o g=>e1.extBut _ _ (neN (by omega)) g) hx fun m2 r1 e2=>?_)
 refine wpAny_pure ?_
 have go2:IsPair m2 (n+3) a b:=e2.extBut _ _ (neN (by omega)) (e1.extBut _ _ (neN (by omega)) go)
 refine wpAny_bind (wpAny_seqItems go2 rfl ?_)
 refine wpAny_bind (wpAny_updateSeq_pair go2 fun m3 go3 e3=>?_)
 replace go3:IsPair m3 (n+3) x b:=go3
 refine wpAny_bind (wpAny_letGo ?_)
 refine wpAny_pure ?_
 refine wpAny_bind (wpAny_bind ?_)
 refine wpAny_onRaise ?_
 show wpAny _ _ (nextOf (.ref (n+1)) >>= _) _ _ _
 refine wpAny_bind (ycc (q2.at fun o g=>e3.extBut _ _ (neN (by omega)) (e2.extBut _ _ (neN (by omega)) (e1.extBut _ _ (neN (by omega)) g))) (o2.at fun o g=>e3.extBut _ _ (neN (by omega)) (e2.extBut _ _ (neN (by omega)) (e1.extBut _ _ (neN (by omega)) g))) hy fun m4 r2 e4=>?_)
 refine wpAny_pure ?_
 have go4:IsPair m4 (n+3) x b:=e4.extBut _ _ (neN (by omega)) go3
 refine wpAny_bind (wpAny_seqItems go4 rfl ?_)
 refine wpAny_bind (wpAny_updateSeq_pair go4 fun m5 go5 e5=>?_)
 replace go5:IsPair m5 (n+3) x y:=go5
 refine wpAny_bind (wpAny_letGo ?_)
 refine wpAny_pure (wpAny_pure ?_)
 refine wpAny_bind (wpAny_seqItems go5 rfl ?_)
 refine wpAny_bind (wpAny_newTuple ?_)
 have hsz:m5.objs.size=s.heap.objs.size:=by rw[e5.1,e4.1,e3.1,e2.1,e1.1]
 have gz5:IsZip m5 (n+4) (n+2) (n+3) .ellipsis:=e5.extBut _ _ (neN (by omega)) (e4.extBut _ _ (neN (by omega)) (e3.extBut _ _ (neN (by omega)) (e2.extBut _ _ (neN (by omega)) gz1)))
 have keep5:∀ c o,c≠n+4→c≠n+3→c≠n→c≠n+1→s.heap.get? c=some o→m5.get? c=some o:=fun c o d1 d2 d3 d4 g=>
  e5.extBut _ _ d2 (e4.extBut _ _ d4 (e3.extBut _ _ d2 (e2.extBut _ _ d3 (e1.extBut _ _ d1 g))))
 have r15:SIt m5 t1 n l1 (k+1):=r1.at fun o g=>e5.extBut _ _ (neN (by omega)) (e4.extBut _ _ (neN (by omega)) (e3.extBut _ _ (neN (by omega)) g))
 have r25:SIt m5 t2 (n+1) l2 (k+1):=r2.at fun o g=>e5.extBut _ _ (neN (by omega)) g
 have lt5:n+4<m5.objs.size:=Heap.lt_size gz5
 show wpAny _ _ (Builtin.SmallTypes.ownedTupleHandOut (.ref (n+4)) (.ref m5.objs.size) >>= _) _ _ _
 refine wpAny_bind ?_
 unfold Builtin.SmallTypes.ownedTupleHandOut
 have gz6:IsZip (m5.push { cls:=.type "tuple",data:=.seq #[x,y] }) (n+4) (n+2) (n+3) .ellipsis:=Heap.get?_push_of_some _ gz5
 refine wpAny_bind (wpAny_setField_rec gz6 (by simp) fun m7 gz7 e7=>?_)
 replace gz7:IsZip m7 (n+4) (n+2) (n+3) (rawInt m5.objs.size):=gz7
 refine wpAny_setField_rec gz7 (by simp) fun m8 gz8 e8=>?_
 replace gz8:IsZip m8 (n+4) (n+2) (n+3) (rawInt m5.objs.size):=gz8
 have up:∀ c o,c≠n+4→m5.get? c=some o→m8.get? c=some o:=fun c o d1 g=>e8.extBut _ _ d1 (e7.extBut _ _ d1 (Heap.get?_push_of_some _ g))
 have gt8:IsPair m8 m5.objs.size x y:=e8.extBut _ _ (Nat.ne_of_gt lt5) (e7.extBut _ _ (Nat.ne_of_gt lt5) (Heap.get?_push_size _ rfl))
 have hs8:m8.objs.size=m5.objs.size+1:=by rw[e8.1,e7.1,Heap.size_push]
 rw[hsz] at gz8 gt8 hs8
 refine wpAny_pure ⟨_,rfl,?_⟩
 show Q (.ref m5.objs.size) _
 rw[hsz]
 exact kk m8 gz8 (up _ _ (neN (by omega)) go5) (r15.at fun o g=>up _ o (neN (by omega)) g) (r25.at fun o g=>up _ o (neN (by omega)) g) gt8 hs8 fun c o d1 d2 d3 d4 g=>up c o d1 (keep5 c o d1 d2 d3 d4 g)
theorem zipDone {n l1 l2 k:Nat}{xs ys:Array Value}{a b:Value}{t1 t2:Bool}{Q:Fin→Shared→Prop} (hh:A.handled=none) (b1:l1<n) (b2:l2<n) (gz:IsZip s.heap (n+4) (n+2) (n+3) .none) (gi:IsPair s.heap (n+2) (.ref n) (.ref (n+1))) (go:IsPair s.heap (n+3) a b)
  (q1:SIt s.heap t1 n l1 k) (q2:SIt s.heap t2 (n+1) l2 k) (o1:SOf s.heap t1 l1 xs) (o2:SOf s.heap t2 l2 ys) (hend:xs[k]?=none∨ys[k]?=none)
  (kk:∀ h' e,(∀ c o,c≠n+4→c≠n+3→c≠n→c≠n+1→s.heap.get? c=some o→h'.get? c=some o)→(∃ o,h'.get? e=some o∧o.cls=.type "StopIteration")→E (.ref e) { s with heap:=h' }) :
  wpAny (model prog w) A (Builtin.«zip.__next__» ⟨[.ref (n+4)],[]⟩) Q E s:=by
 show wpAny _ _ (field (.ref (n+4)) 2 >>= _) _ _ _
 refine wpAny_bind (wpAny_field gz rfl (x:=.bool false) rfl ?_)
 show wpAny _ _ (field (.ref (n+4)) 3 >>= _) _ _ _
 refine wpAny_bind (wpAny_field gz rfl (x:=.ref (n+2)) rfl ?_)
 refine wpAny_bind (wpAny_seqItems gi rfl ?_)
 show wpAny _ _ (Builtin.SmallTypes.ownedTupleIsFree (.ref (n+4)) >>= _) _ _ _
 refine wpAny_bind ?_
 unfold Builtin.SmallTypes.ownedTupleIsFree
 refine wpAny_bind (wpAny_field gz rfl (x:=.none) rfl ?_)
 refine wpAny_pure ?_
 simp only[if_true]
 refine wpAny_bind (wpAny_rule ?_)
 refine wpAny_bind (wpAny_field gz rfl (x:=.ref (n+3)) rfl ?_)
 refine wpAny_bind (wpAny_setField_rec gz (by simp) fun m1 gz1 e1=>?_)
 replace gz1:IsZip m1 (n+4) (n+2) (n+3) .ellipsis:=gz1
 refine wpAny_bind ?_
 simp only[List.zipIdx_cons,List.zipIdx_nil,List.forIn_cons,List.forIn_nil]
 refine wpAny_bind (wpAny_bind ?_)
 refine wpAny_onRaise ?_
 show wpAny _ _ (nextOf (.ref n) >>= _) _ _ _
 have p1:SIt m1 t1 n l1 k:=q1.at fun o g=>e1.extBut _ _ (neN (by omega)) g
 have p2:SOf m1 t1 l1 xs:=o1.at fun o g=>e1.extBut _ _ (neN (by omega)) g
 cases hx:xs[k]? with
 | none=>
  refine wpAny_bind (yd0 hh p1 p2 hx fun m2 e g2 he=>?_)
  obtain ⟨oe,hoe,hce⟩:=he
  have gz2:IsZip m2 (n+4) (n+2) (n+3) .ellipsis:=g2 _ _ (neN (by omega)) gz1
  have ne:e≠n+4:=fun z=>by subst z;rw[gz2] at hoe;cases hoe;simp at hce
  refine wpAny_setField_rec gz2 (by simp) fun m3 _ e3=>?_
  exact kk m3 e (fun c o d1 _ d3 _ g=>e3.extBut _ _ d1 (g2 _ _ d3 (e1.extBut _ _ d1 g))) ⟨oe,e3.extBut _ _ ne hoe,hce⟩
 | some x=>
  have hy:ys[k]?=none:=by
   rcases hend with z|z
   ·rw[hx] at z;cases z
   ·exact z
  refine wpAny_bind (ycc p1 p2 hx fun m2 r1 e2=>?_)
  refine wpAny_pure ?_
  have go2:IsPair m2 (n+3) a b:=e2.extBut _ _ (neN (by omega)) (e1.extBut _ _ (neN (by omega)) go)
  refine wpAny_bind (wpAny_seqItems go2 rfl ?_)
  refine wpAny_bind (wpAny_updateSeq_pair go2 fun m3 go3 e3=>?_)
  refine wpAny_bind (wpAny_letGo ?_)
  refine wpAny_pure ?_
  refine wpAny_bind (wpAny_bind ?_)
  refine wpAny_onRaise ?_
  show wpAny _ _ (nextOf (.ref (n+1)) >>= _) _ _ _
  refine wpAny_bind (yd0 hh (q2.at fun o g=>e3.extBut _ _ (neN (by omega)) (e2.extBut _ _ (neN (by omega)) (e1.extBut _ _ (neN (by omega)) g))) (o2.at fun o g=>e3.extBut _ _ (neN (by omega)) (e2.extBut _ _ (neN (by omega)) (e1.extBut _ _ (neN (by omega)) g))) hy fun m4 e g4 he=>?_)
  obtain ⟨oe,hoe,hce⟩:=he
  have gz4:IsZip m4 (n+4) (n+2) (n+3) .ellipsis:=g4 _ _ (neN (by omega)) (e3.extBut _ _ (neN (by omega)) (e2.extBut _ _ (neN (by omega)) gz1))
  have ne:e≠n+4:=fun z=>by subst z;rw[gz4] at hoe;cases hoe;simp at hce
  refine wpAny_setField_rec gz4 (by simp) fun m5 _ e5=>?_
  exact kk m5 e (fun c o d1 d2 d3 d4 g=>e5.extBut _ _ d1 (g4 _ _ d4 (e3.extBut _ _ d2 (e2.extBut _ _ d3 (e1.extBut _ _ d1 g))))) ⟨oe,e5.extBut _ _ ne hoe,hce⟩
def itN (tp:Bool):String:=if tp then "tuple_iterator" else "list_iterator"
theorem iterS {tp:Bool}{Q:Value→Shared→Prop} (hl:SOf s.heap tp l its) (k:Q (.ref s.heap.objs.size) { s with heap:=s.heap.push { cls:=.type (itN tp),data:=.fields #[.ref l,.int 0 0] } }):wpAny (model prog w) A (pyIter (.ref l)) Q E s:=by
 cases tp with
 | true=>exact iter_tuple hl k
 | false=>exact wpAny_pyIter_list hl k
theorem SIt.new {tp:Bool}{h:Heap}:SIt (h.push { cls:=.type (itN tp),data:=.fields #[.ref l,.int 0 0] }) tp h.objs.size l 0:=by
 cases tp with
 | true=>exact ⟨_,Heap.get?_push_size _ rfl,rfl,rfl⟩
 | false=>exact ⟨_,Heap.get?_push_size _ rfl,rfl,rfl⟩
abbrev zp1 (h:Heap) (t1:Bool) (l1:Addr):Heap:=h.push { cls:=.type (itN t1),data:=.fields #[.ref l1,.int 0 0] }
abbrev zp2 (h:Heap) (t1 t2:Bool) (l1 l2:Addr):Heap:=(zp1 h t1 l1).push { cls:=.type (itN t2),data:=.fields #[.ref l2,.int 0 0] }
abbrev zp3 (h:Heap) (t1 t2:Bool) (l1 l2:Addr):Heap:=(zp2 h t1 t2 l1 l2).push { cls:=.type "tuple",data:=.seq #[.ref h.objs.size,.ref (zp1 h t1 l1).objs.size] }
abbrev zp4 (h:Heap) (t1 t2:Bool) (l1 l2:Addr):Heap:=(zp3 h t1 t2 l1 l2).push { cls:=.type "tuple",data:=.seq #[.none,.none] }
abbrev zp5 (h:Heap) (t1 t2:Bool) (l1 l2:Addr):Heap:=(zp4 h t1 t2 l1 l2).push { cls:=.type "zip",data:=.fields #[.none,.bool false,.bool false,.ref (zp2 h t1 t2 l1 l2).objs.size,.ref (zp3 h t1 t2 l1 l2).objs.size] }
theorem zipNew (t1 t2:Bool) (l1 l2:Addr) (xs ys:Array Value) :
  Meets (Builtin.«zip.__new__» ⟨[.type "zip",.ref l1,.ref l2],[]⟩) (fun _ R s=>SOf s.heap t1 l1 xs∧SOf s.heap t2 l2 ys∧R (.ok (.ret (.ref (zp4 s.heap t1 t2 l1 l2).objs.size))) { s with heap:=zp5 s.heap t1 t2 l1 l2 }):=
 .of_wp fun prog w A R s h=>by
  obtain ⟨hp,g,d,tk,os⟩:=s
  obtain ⟨y1,y2,h⟩:=h
  have hsub:=sub_zip
  have Y1:SOf (Shared.heap ⟨hp,g,d,tk,os⟩) t1 l1 xs:=y1
  have Y2:SOf (Shared.heap ⟨hp.push { cls:=.type (itN t1),data:=.fields #[.ref l1,.int 0 0] },g,d,tk,os⟩) t2 l2 ys:=y2.at fun o z=>Heap.get?_push_of_some _ z
  wp_walk using iterS Y1,iterS Y2
  exact ⟨_,rfl,h⟩
end
theorem yhj:bootBuiltins "zip" = some (.type "zip"):=by decide +kernel
section
variable {prog:Program}{w:World}{A:Around}{E:Value→Shared→Prop}{s:Shared}
def ZSt (h:Heap) (n:Nat) (t1 t2:Bool) (l1 l2:Addr) (i:Nat):Prop:=
 ∃ a b,IsZip h (n+4) (n+2) (n+3) .none∧IsPair h (n+2) (.ref n) (.ref (n+1))∧IsPair h (n+3) a b∧SIt h t1 n l1 i∧SIt h t2 (n+1) l2 i
theorem qhy {t1 t2:Bool}{l1 l2:Addr}{xs ys:Array Value}{Q:Value→Shared→Prop} (y1:SOf s.heap t1 l1 xs) (y2:SOf s.heap t2 l2 ys)
  (k:∀ h',ZSt h' s.heap.objs.size t1 t2 l1 l2 0→(∀ c o,s.heap.get? c=some o→h'.get? c=some o)→Q (.ref (s.heap.objs.size+4)) { s with heap:=h' }) :
  wpAny (model prog w) A (call (.type "zip") [.ref l1,.ref l2]) Q E s:=by
 refine callType_new F.called_zip (by decide) (F.typeCall_zip_2 _ _) (F.newCall_zip_2 _ _) (fun obj=>F.args_object_init_3 obj _ _) F.entry_zip_new (zipNew t1 t2 l1 l2 xs ys) ⟨y1,y2,?_⟩
 have z1:(zp1 s.heap t1 l1).objs.size=s.heap.objs.size+1:=Heap.size_push ..
 have z2:(zp2 s.heap t1 t2 l1 l2).objs.size=s.heap.objs.size+2:=by rw[Heap.size_push,z1]
 have z3:(zp3 s.heap t1 t2 l1 l2).objs.size=s.heap.objs.size+3:=by rw[Heap.size_push,z2]
 have z4:(zp4 s.heap t1 t2 l1 l2).objs.size=s.heap.objs.size+4:=by rw[Heap.size_push,z3]
 have u5:∀ c o,(zp4 s.heap t1 t2 l1 l2).get? c=some o→(zp5 s.heap t1 t2 l1 l2).get? c=some o:=fun c o g=>Heap.get?_push_of_some _ g
 have u4:∀ c o,(zp3 s.heap t1 t2 l1 l2).get? c=some o→(zp5 s.heap t1 t2 l1 l2).get? c=some o:=fun c o g=>u5 c o (Heap.get?_push_of_some _ g)
 have u3:∀ c o,(zp2 s.heap t1 t2 l1 l2).get? c=some o→(zp5 s.heap t1 t2 l1 l2).get? c=some o:=fun c o g=>u4 c o (Heap.get?_push_of_some _ g)
 have u2:∀ c o,(zp1 s.heap t1 l1).get? c=some o→(zp5 s.heap t1 t2 l1 l2).get? c=some o:=fun c o g=>u3 c o (Heap.get?_push_of_some _ g)
 have g5:(zp5 s.heap t1 t2 l1 l2).get? (zp4 s.heap t1 t2 l1 l2).objs.size=some _:=Heap.get?_push_size _ rfl
 have g4:(zp5 s.heap t1 t2 l1 l2).get? (zp3 s.heap t1 t2 l1 l2).objs.size=some _:=u5 _ _ (Heap.get?_push_size _ rfl)
 have g3:(zp5 s.heap t1 t2 l1 l2).get? (zp2 s.heap t1 t2 l1 l2).objs.size=some _:=u4 _ _ (Heap.get?_push_size _ rfl)
 have i2:SIt (zp5 s.heap t1 t2 l1 l2) t2 (zp1 s.heap t1 l1).objs.size l2 0:=SIt.new.at fun o g=>u3 _ o g
 have i1:SIt (zp5 s.heap t1 t2 l1 l2) t1 s.heap.objs.size l1 0:=SIt.new.at fun o g=>u2 _ o g
 show _∧_
 rw[z2,z3,z4] at g5
 rw[z1,z2] at g3
 rw[z3] at g4
 rw[z1] at i2
 rw[z4]
 exact ⟨⟨_,g5,rfl⟩,k _ ⟨_,_,g5,g3,g4,i1,i2⟩ fun c o g=>u2 c o (Heap.get?_push_of_some _ g)⟩
end
def Sq (K:PySem.W.Frag) (tp:Bool) (H:Hp) (l:Addr) (xs:List V):Prop:=if tp then SqT K H l xs else SqL K H l xs
section
variable {X:Cx}{pins:List (Addr×Obj)}{σ:St}{H:Hp}{s:Shared}
theorem Inv.sq {tp:Bool}{l:Addr}{xs:List V} (I:Inv X pins σ H s) (h:Sq X.K tp H l xs):∃ its:List Value,Vals xs its∧SOf s.heap tp l its.toArray∧l<s.heap.objs.size:=by
 cases tp with
 | true=>
  obtain ⟨its,r,pl,z⟩:=I.tuple h
  obtain ⟨o,g,_⟩:=id pl
  exact ⟨its,r,pl,Heap.lt_size g⟩
 | false=>
  obtain ⟨its,r,pl,z⟩:=I.list h
  obtain ⟨o,g,_⟩:=id pl.isList
  exact ⟨its,r,pl.isList,Heap.lt_size g⟩
theorem Inv.sq_inj {tp:Bool}{l:Addr}{xs ys:List V} (I:Inv X pins σ H s) (h:Sq X.K tp H l xs) (h':Sq X.K tp H l ys):xs=ys:=by
 cases tp with
 | true=>exact I.tuple_inj h h'
 | false=>exact I.list_inj h h'
end
section
variable {X:Cx}{pins:List (Addr×Obj)}{σ:St}{H:Hp}{s:Shared}{h':Heap}
theorem Inv.turnedM {ch:List Addr}{t':Nat} (I:Inv X pins σ H s) (k:∀ b u,b∉ch→s.heap.get? b=some u→h'.get? b=some u) (hf:∀ b∈ch,FpOk X pins H b):Inv X pins σ H { s with heap:=h',toks:=t' }:=by
 have nit:∀ b u,H b=some u→b∉ch:=fun b u e z=>by rw[(hf b z).1] at e;cases e
 refine I.step (g':=s.gens) (d':=s.drawn) (ch:=ch) (fun b hb=>?_) (fun b u _ _ hc e _=>k b u hc e) (fun b u _ _ hc e _=>⟨u.slots,k b u hc e⟩) (fun b u _ e n=>n)
  (fun b u hc e=>⟨u,k b u hc e⟩) (fun b xs e=>e) (fun b u xs e=>e) (fun b ps e=>⟨#[],by rw[e];simp⟩) (fun m hm=>?_) (fun b u e=>?_) I.bare
 ·obtain ⟨_,f1,_,f3,f4,f5⟩:=hf b hb
  exact ⟨f3,f1,f4,f5⟩
 ·obtain ⟨ob,es,ep,ho,r⟩:=hm
  exact ⟨ob,es,ep,k _ ob (fun z=>(hf _ z).2.1 rfl) ho,r⟩
 ·refine (I.hok b u e).stay (fun c v hc q=>k c v ?_ q) (fun c q=>q) fun c xs q=>q
  rcases hc with rfl|hc
  ·exact nit _ u e
  ·exact nit c _ hc
end
def Itz (K:PySem.W.Frag) (t1 t2:Bool) (l1 l2:Addr):It:=
  ⟨fun i H=>∃ xs ys x y,Sq K t1 H l1 xs∧Sq K t2 H l2 ys∧xs[i]?=some x∧ys[i]?=some y,
   fun i H x H'=>∃ p u v,H p=none∧x=.ref p∧H'=upd H p (.tup [u,v])∧∀ xs ys,Sq K t1 H l1 xs→Sq K t2 H l2 ys→xs[i]?=some u∧ys[i]?=some v,
   fun i H=>∃ xs ys,Sq K t1 H l1 xs∧Sq K t2 H l2 ys∧(xs[i]?=none∨ys[i]?=none)⟩
theorem qew {xs:List V}{us:List Value}{i:Nat} (r:Vals xs us) (h:xs[i]?=none):us[i]?=none:=by
 rw[List.getElem?_eq_none_iff] at h ⊢
 rw[← r.length]
 exact h
theorem turn_zip {P:Program}{w:World}{K:PySem.W.Frag}{es:List Expr}{k:Nat}{tp:Pos}{t1 t2:Bool} (l1 l2 n:Nat) (b1:l1<n) (b2:l2<n) :
  Turn P w K (.Tuple es k tp) (Itz K t1 t2 l1 l2) [n,n+1,n+2,n+3,n+4] (n+4) (fun i h=>ZSt h n t1 t2 l1 l2 i) where
 mem:=by simp
 obj:=fun i h st b hb=>by
  obtain ⟨x,y,gz,gi,go,q1,q2⟩:=st
  have hb':b=n∨b=n+1∨b=n+2∨b=n+3∨b=n+4:=by simpa using hb
  rcases hb' with rfl|rfl|rfl|rfl|rfl
  ·exact q1.obj
  ·exact q2.obj
  ·exact ⟨_,gi,fun v z=>by
    have z':Data.seq _ _=Data.cell v:=z
    cases z'⟩
  ·exact ⟨_,go,fun v z=>by
    have z':Data.seq _ _=Data.cell v:=z
    cases z'⟩
  ·exact ⟨_,gz,fun v z=>by
    have z':Data.fields _=Data.cell v:=z
    cases z'⟩
 keep:=fun i h h' st kk=>by
  obtain ⟨x,y,gz,gi,go,q1,q2⟩:=st
  exact ⟨x,y,kk _ (by simp) _ gz,kk _ (by simp) _ gi,kk _ (by simp) _ go,q1.at fun o z=>kk _ (by simp) o z,q2.at fun o z=>kk _ (by simp) o z⟩
 item:=by
  intro X hP hw hK hc i pins s σ H E I hf st hg
  subst hP hw hK
  obtain ⟨xs,ys,x,y,hq1,hq2,hx,hy⟩:=hg
  obtain ⟨its1,rv1,so1,_⟩:=I.sq hq1
  obtain ⟨its2,rv2,so2,_⟩:=I.sq hq2
  obtain ⟨u1,hu1,ru1⟩:=rv1.get hx
  obtain ⟨u2,hu2,ru2⟩:=rv2.get hy
  obtain ⟨x0,y0,gz,gi,go,q1,q2⟩:=st
  have lt4:n+4<s.heap.objs.size:=Heap.lt_size gz
  have hT:s.TypeIs (.ref (n+4)) "zip":=⟨_,gz,rfl⟩
  unfold pyNext
  refine wpAny_bind (wpAny_attempt (wpAny_callSpecial?_slot (name:=Str.ofString "__next__") hT F.slot_zip_next (wpAny_call_entry F.slot_zip_next hT F.entry_zip_next ?_ (F.args_zip_next_1 _))))
  refine zipNext b1 b2 gz gi go q1 q2 so1 so2 (x:=u1) (y:=u2) (by simpa using hu1) (by simpa using hu2) fun h' gz' go' r1 r2 hT' hsz kp=>?_
  refine wpAny_pure ?_
  refine ⟨_,rfl,wpAny_letOwnedTupleGo_zip gz' fun h2 gz2 hs2=>?_⟩
  have kp2:∀ b ob,b∉[n,n+1,n+2,n+3,n+4]→s.heap.get? b=some ob→h2.get? b=some ob:=fun b ob hb z=>by
   have d4:b≠n+4:=fun q=>hb (by simp[q])
   have d3:b≠n+3:=fun q=>hb (by simp[q])
   have d0:b≠n:=fun q=>hb (by simp[q])
   have d1:b≠n+1:=fun q=>hb (by simp[q])
   exact (hs2.2 b d4).trans (kp b ob d4 d3 d0 d1 z)
  have up2:∀ b ob,b≠n+4→h'.get? b=some ob→h2.get? b=some ob:=fun b ob d z=>(hs2.2 b d).trans z
  have hT2:h2.get? s.heap.objs.size=some { cls:=.type "tuple",data:=.seq #[u1,u2] }:=up2 _ _ (Nat.ne_of_gt lt4) hT'
  have fresh:H s.heap.objs.size=none:=I.hok.fresh (Nat.le_refl _)
  have new:yav X.prog X.w (upd H s.heap.objs.size (.tup [x,y])) h2 s.heap.objs.size (.tup [x,y]):=⟨by show 2≤sizeLine;decide,[u1,u2],.cons ru1 (.cons ru2 .nil),⟨_,hT2,rfl,_,rfl⟩⟩
  refine ⟨.ref s.heap.objs.size,upd H s.heap.objs.size (.tup [x,y]),I.turnedL kp2 hf (Nat.le_refl _) new,rfl,⟨_,x,y,fresh,rfl,rfl,fun as bs ha hb=>by rw[I.sq_inj ha hq1,I.sq_inj hb hq2];exact ⟨hx,hy⟩⟩,⟨_,_,gz2,?_,up2 _ _ (neN (by omega)) go',r1.at fun o z=>up2 _ o (neN (by omega)) z,r2.at fun o z=>up2 _ o (neN (by omega)) z⟩,fun b hb=>?_⟩
  ·exact up2 _ _ (neN (by omega)) (kp _ _ (neN (by omega)) (neN (by omega)) (neN (by omega)) (neN (by omega)) gi)
  ·rw[yae]
   ·exact (hf b hb).1
   ·have hb':b=n∨b=n+1∨b=n+2∨b=n+3∨b=n+4:=by simpa using hb
    rcases hb' with rfl|rfl|rfl|rfl|rfl<;>exact neN (by omega)
 done:=by
  intro X hP hw hK hc i pins s σ H E I hf st hg
  subst hP hw hK
  obtain ⟨xs,ys,hq1,hq2,hxy⟩:=hg
  obtain ⟨its1,rv1,so1,_⟩:=I.sq hq1
  obtain ⟨its2,rv2,so2,_⟩:=I.sq hq2
  obtain ⟨x0,y0,gz,gi,go,q1,q2⟩:=st
  have hT:s.TypeIs (.ref (n+4)) "zip":=⟨_,gz,rfl⟩
  have hend:its1.toArray[i]?=none∨its2.toArray[i]?=none:=hxy.imp (fun z=>by simpa using qew rv1 z) fun z=>by simpa using qew rv2 z
  unfold pyNext
  refine wpAny_bind (wpAny_attempt (wpAny_callSpecial?_slot (name:=Str.ofString "__next__") hT F.slot_zip_next (wpAny_call_entry F.slot_zip_next hT F.entry_zip_next (zipDone (I.ok.hd hc) b1 b2 gz gi go q1 q2 so1 so2 hend fun h' e kp he=>?_) (F.args_zip_next_1 _))))
  obtain ⟨o,ho,hce⟩:=he
  refine wpAny_bind (wpAny_isInstance (T:="StopIteration") (b:=true) ⟨o,ho,hce⟩ isSubtype_stop ?_)
  refine wpAny_pure ⟨rfl,?_⟩
  refine I.turnedM (t':=s.toks) (ch:=[n,n+1,n+2,n+3,n+4]) (fun b ob hb z=>?_) hf
  exact kp b ob (fun q=>hb (by simp[q])) (fun q=>hb (by simp[q])) (fun q=>hb (by simp[q])) (fun q=>hb (by simp[q])) z
 self:=fun _ _ _ _ _ st h=>by
  obtain ⟨x0,y0,gz,gi,go,q1,q2⟩:=st
  exact wpAny_pyIter_zip gz h
def iZip (K:PySem.W.Frag) (ta:TA):TI:=fun σ H R=>ta σ H fun vs H1=>∃ t1 t2 l1 l2 xs ys,vs=[.ref l1,.ref l2]∧Sq K t1 H1 l1 xs∧Sq K t2 H1 l2 ys∧R (Itz K t1 t2 l1 l2) H1
section
variable {X:Cx}
theorem qfw {a b:Expr}{ta:TA}{p pos tp:Pos}{es:List Expr}{k:Nat} (hg:Gl X "zip") (hm:X.mg "zip" = none) (ha:PA X [a,b] ta) (hs:starEach [a,b] X.env=(false,eval a X.env)::starEach [b] X.env:=by rfl) (hp:(backTo pos (starEach [b] X.env)).any (·.1)=false:=by rfl) :
  PI X (.Tuple es k tp) (.Call (.Name "zip" p) [a,b] [] pos) (iZip X.K ta):=by
 intro pins s σ H R I h
 refine Call_ (ydz I hg hm yhj (PyProof.Rows.callWith_type1 (thn (ha pos pins s σ H _ I h) fun us s1 ⟨vs,H1,I1,r1,q1⟩=>?_) hs hp))
 obtain ⟨t1,t2,l1,l2,xs,ys,e,hq1,hq2,q⟩:=q1
 subst e
 cases r1 with
 | cons r rr=>
  cases rr with
  | cons r2 rr=>
   cases rr
   cases r
   cases r2
   obtain ⟨its1,rv1,so1,b1⟩:=I1.sq hq1
   obtain ⟨its2,rv2,so2,b2⟩:=I1.sq hq2
   refine qhy so1 so2 fun h' st kp=>?_
   obtain ⟨x0,y0,gz,gi,go,i1,i2⟩:=id st
   refine wpAny_pyIter_zip gz ⟨_,[s1.heap.objs.size,s1.heap.objs.size+1,s1.heap.objs.size+2,s1.heap.objs.size+3,s1.heap.objs.size+4],_,Itz X.K t1 t2 l1 l2,H1,rfl,I1.kept (t':=s1.toks) kp,turn_zip l1 l2 s1.heap.objs.size b1 b2,st,fun b hb=>?_,q⟩
   have hb':s1.heap.objs.size≤b:=by
    have hb':b=s1.heap.objs.size∨b=s1.heap.objs.size+1∨b=s1.heap.objs.size+2∨b=s1.heap.objs.size+3∨b=s1.heap.objs.size+4:=by simpa using hb
    rcases hb' with rfl|rfl|rfl|rfl|rfl
    ·exact Nat.le_refl _
    ·exact Nat.le_add_right ..
    ·exact Nat.le_add_right ..
    ·exact Nat.le_add_right ..
    ·exact Nat.le_add_right ..
   exact I1.fpOk hb' (I1.hok.fresh hb')
end
theorem qbw:bootBuiltins "sorted" = some (.builtin "sorted"):=by decide +kernel
theorem qe8:∀ {us:List Value}{ns:List Int},IntsAre us ns→Vals (ns.map V.int) us
 | _,_,.nil=>.nil
 | _,_,.cons n t r=>.cons ⟨t,rfl⟩ (qe8 r)
theorem qfa:bootBuiltins "all" = some (.builtin "all"):=by decide +kernel
section
variable {X:Cx}
def rAllB:List V→Hp→VK→Prop:=fun xs H Q=>∃ (l:Addr) (bs:List Bool),xs=[.ref l]∧H l=some (.lst (bs.map V.bl))∧Q (.bl (bs.all id)) H
theorem ygs (bs:List Bool):(List.range bs.length).all (fun i=>bs.getD i false)=bs.all id:=by
 rw[Bool.eq_iff_iff,List.all_eq_true,List.all_eq_true]
 constructor
 ·intro h b hb
  obtain ⟨i,hi,e⟩:=List.getElem_of_mem hb
  have:=h i (List.mem_range.mpr hi)
  rw[List.getD_eq_getElem?_getD,List.getElem?_eq_getElem hi] at this
  rw[← e];exact this
 ·intro h i hi
  have hi':=List.mem_range.mp hi
  rw[List.getD_eq_getElem?_getD,List.getElem?_eq_getElem hi']
  exact h _ (List.getElem_mem hi')
theorem truth_bs {P:Program}{w:World}{A:Around} (bs:List Bool):TruthOf P w A (fun i v=>(bs.map Value.bool).toArray[i]?=some v) (fun i=>bs.getD i false):=by
 intro i v s Q E hP hQ
 have hP':(bs.map Value.bool)[i]?=some v:=by simpa using hP
 rw[List.getElem?_map] at hP'
 cases e:bs[i]? with
 | none=>rw[e] at hP';cases hP'
 | some b=>
  rw[e] at hP'
  cases hP'
  have hQ':Q (bs.getD i false) s:=hQ
  rw[List.getD_eq_getElem?_getD,e] at hQ'
  exact wpAny_truthy_bool hQ'
theorem qe4 (hc:X.calm=true):ybh X (.builtin "all") rAllB:=by
 intro pins s σ H xs us Q I r h
 obtain ⟨l,bs,rfl,hH,q⟩:=h
 cases r with
 | cons r rr=>
  cases rr
  cases r
  obtain ⟨z,its,n,rv,hl,e⟩:=I.lstM hH
  have hi:=rv.bls
  subst hi
  have hlt:l<s.heap.objs.size:=Heap.lt_size e
  refine call_all_walk (wpAny_pyIter_list (items:=(bs.map Value.bool).toArray) ⟨_,e,rfl,n,rfl⟩ ⟨_,_,_,_,_,_,_,rfl,Walks.list (by simpa using I.ok.hd hc) s.heap.objs.size l (Nat.ne_of_lt hlt) (bs.map Value.bool).toArray,⟨⟨_,Heap.get?_push_size _ rfl,rfl,rfl⟩,⟨_,Heap.get?_push_of_some _ e,rfl,n,rfl⟩⟩,truth_bs bs,fun h' tk hk=>?_⟩)
  rw[List.size_toArray,List.length_map,ygs]
  refine ⟨.bl (bs.all id),H,I.kept fun b o g=>hk b o ?_ (Heap.get?_push_of_some _ g),rfl,q⟩
  intro hb
  rw[List.mem_singleton] at hb
  exact absurd (Heap.lt_size g) (by rw[hb];exact Nat.lt_irrefl _)
end
section
variable {X:Cx}{a b:Expr}{ta tb:TE}{pos:Pos}
def rCatS (K:PySem.W.Frag):R2:=fun x y H Q=>∃ l b xs zs,x=.ref l∧y=.ref b∧SqL K H l xs∧SqL K H b zs∧xs.length+zs.length≤sizeLine∧∀ p,H p=none→Q (.ref p) (upd H p (.lst (xs++zs)))
theorem op_catS:OpR X (binaryOp .Add) (rCatS X.K):=by
 intro pins s σ H x y v u Q I rx ry h
 obtain ⟨l,b,xs,zs,rfl,rfl,hH,hB,hz,q⟩:=h
 cases rx
 cases ry
 obtain ⟨vs,r,pl,_⟩:=I.list hH
 obtain ⟨ws,r2,pl2,_⟩:=I.list hB
 obtain ⟨⟨cls,dd,data,sl⟩,ho,hc,n,hd⟩:=pl.isList
 obtain ⟨⟨cls2,dd2,data2,sl2⟩,ho2,hc2,n2,hd2⟩:=pl2.isList
 simp only at hc hd hc2 hd2
 subst hc hd hc2 hd2
 have l1:=r.length
 have l2:=r2.length
 refine concat_meets ⟨_,ho,rfl⟩ ⟨_,ho2,rfl⟩ noFill_list_add seq_list_add PySem.F.slot_list_add PySem.F.entry_list_add (PySem.F.args_list_add_2 _ _) (list_addW l b vs.toArray ws.toArray n n2 dd dd2 sl sl2 (by simp;omega)) ⟨ho,ho2,?_⟩
 have ea:vs.toArray++ws.toArray=(vs++ws).toArray:=by simp
 rw[ea]
 exact ⟨.ref _,_,I.lnew (t':=s.toks) (r.append r2) (by rw[List.length_append];omega),rfl,q _ I.fresh⟩
end
end L2
namespace Mx
open PySem L2 PyProof.Rows
structure QE (X:Cx) (e:Expr) (t:TE):Prop where
 of:PE X e t
section
variable {X:Cx}{e o i:Expr}{te td ty:TE}{pos:Pos}
theorem qab (h:PE X e te):QE X e te:=⟨h⟩
theorem qaq {i:Nat}{x:Str}{pos':Pos} (hN:X.N.Nodup) (hi:X.N[i]?=some x) (hx:Loc X.env.scope x) (he:QE X e te) (hs:swapsWith e (some (.Name x pos')) pos.line X.env=pure false:=by rfl) (hf:X.fn x=true∨X.env.scope.names.lookup x=some .local:=by first|exact .inl rfl|exact .inr rfl|assumption) :
  QS X (.Assign [.Name x pos'] e pos) (tAsg te (qgh i)):=⟨ybk hN hi hx he.of hs hf⟩
theorem yam (he:QE X e te):QS X (.Return (some e) pos) (tRet te):=⟨qa1 he.of⟩
structure QT (X:Cx) (e:Expr) (t:TT):Prop where
 of:PT X e t
theorem ybd {a b:List Stmt}{t u:TS}{c:Expr}{tc:TT} (hc:QT X c tc) (ha:QSs X a t) (hb:QSs X b u):QS X (.If c a b pos) (tIfS tc t u):=⟨qd9 hc.of ha.of hb.of⟩
def tTStrs (xs:List Str):TE:=fun _ H Q=>xs.length≤sizeLine∧∀ p,H p=none→Q (.ref p) (upd H p (.tup (xs.map V.str)))
theorem qe_tstrs {es:List Expr}{k}{xs:List Str} (h:yf1 es=some xs):QE X (.Tuple es k pos) (tTStrs xs):=⟨by
 intro pins s σ H Q I hq
 refine qem (yht h) pins s σ H Q I ?_
 exact ⟨by rw[List.length_map];exact hq.1,hq.2⟩⟩
theorem ya5 {a b:Expr}{ta tb:TE}{op:CmpOp}{r:R2} (ho:OpR X (compareOp op) r) (ha:QE X a ta) (hb:QE X b tb) (hm:behindInMarks op b=false):QT X (.Compare a [op] [b] pos) (tTest (tOp r ta tb)):=⟨yby ho ha.of hb.of hm⟩
theorem ybf {a b:Expr}{ta tb:TE}{r:R2} (hr:IxR X r) (ha:QE X a ta) (hb:QE X b tb) (hs:yhq b):QE X (.Subscript a b pos) (tOp r ta tb):=⟨ycn hr ha.of hb.of hs⟩
structure QA (X:Cx) (es:List Expr) (t:TA):Prop where
 of:PA X es t
theorem qad:QA X [] tNil:=⟨yac⟩
theorem qbb {es:List Expr}{t:TA} (h:QA X es t):QE X (.List es pos) (tLst t):=⟨qf6 h.of⟩
theorem ya3 {es:List Expr}{k}{t:TA} (h:QA X es t):QE X (.Tuple es k pos) (tTup t):=⟨qem h.of⟩
end
section
variable {X:Cx}{e a b c:Expr}{es:List Expr}{te ta tb:TE}{t:TA}{tA tB':TT}{pos p:Pos}{x:Str}{rest:List Expr}
theorem yar {k:Const}{j} (ha:QE X (.Constant k j pos) te) (hr:QA X es t):QA X (.Constant k j pos::es) (ycd te t):=⟨pa_cs ha.of hr.of⟩
theorem qaj {x:Str} (ha:QE X (.Name x pos) te) (hr:QA X es t):QA X (.Name x pos::es) (ycd te t):=⟨pa_nm ha.of hr.of⟩
theorem ygc {f xs ks} (ha:QE X (.Call f xs ks pos) te) (hr:QA X es t):QA X (.Call f xs ks pos::es) (ycd te t):=⟨pa_cl ha.of hr.of⟩
theorem yfi {o i:Expr} (ha:QE X (.Subscript o i pos) te) (hr:QA X es t):QA X (.Subscript o i pos::es) (ycd te t):=⟨qaa ha.of hr.of rfl⟩
theorem qdr {o i:Expr}{op} (ha:QE X (.BinOp o op i pos) te) (hr:QA X es t):QA X (.BinOp o op i pos::es) (ycd te t):=⟨qaa ha.of hr.of rfl⟩
theorem qcn {xs k} (ha:QE X (.Tuple xs k pos) te) (hr:QA X es t):QA X (.Tuple xs k pos::es) (ycd te t):=⟨qaa ha.of hr.of rfl⟩
theorem qa_ls {xs} (ha:QE X (.List xs pos) te) (hr:QA X es t):QA X (.List xs pos::es) (ycd te t):=⟨qaa ha.of hr.of rfl⟩
theorem qa_lc {l o r} (ha:QE X (.ListComp l o r pos) te) (hr:QA X es t):QA X (.ListComp l o r pos::es) (ycd te t):=⟨qaa ha.of hr.of rfl⟩
theorem qbi {op:Operator}{r:R2} (ho:OpR X (binaryOp op) r) (ha:QE X a ta) (hb:QE X b tb):QE X (.BinOp a op b pos) (tOp r ta tb):=⟨qbg ho ha.of hb.of⟩
theorem qe_ifExp (hc:QT X c tA) (ha:QE X a ta) (hb:QE X b tb):QE X (.IfExp c a b pos) (tIf tA ta tb):=⟨pe_ifExp hc.of ha.of hb.of⟩
structure QW (X:Cx) (e:Expr) (t:TT):Prop where
 of:PW X e t
theorem yf2 (ha:QT X a tA):QW X (.BoolOp .Or [a] pos) tA:=⟨qf5 ha.of⟩
theorem yga (ha:QT X a tA) (hb:QW X (.BoolOp .Or (b::rest) pos) tB'):QW X (.BoolOp .Or (a::b::rest) pos) (tOr tA tB'):=⟨pw_or ha.of hb.of⟩
theorem QW.pt (h:QW X e tA):QT X e tA:=⟨h.of.pt⟩
theorem qdb (ha:QT X a tA):QT X (.UnaryOp .Not a pos) (tNot tA):=⟨qda ha.of⟩
theorem qbo {f xs ks} (h:QE X (.Call f xs ks pos) te):QT X (.Call f xs ks pos) (tB te):=⟨qcx h.of⟩
variable {id T:String}{r:List V→Hp→VK→Prop}
theorem qav (hc:ybh X (.builtin id) r) (hg:Gl X x) (hm:X.mg x=none) (hv:bootBuiltins x=some (.builtin id)) (ha:QA X (e::es) t) (hn:x≠"__name__":=by decide) (hdb:(x == ("__debug__" : Str))=false:=by decide)
  (he:starEach (e::es) X.env=(false,eval e X.env)::starEach es X.env:=by rfl) (hpl:(backTo pos (starEach es X.env)).any (·.1)=false:=by rfl):QE X (.Call (.Name x p) (e::es) [] pos) (tCB r t):=⟨qag hc hg hm hv ha.of hn hdb he hpl⟩
theorem qbu (hc:ybh X (.type T) r) (hg:Gl X x) (hm:X.mg x=none) (hv:bootBuiltins x=some (.type T)) (ha:QA X (e::es) t) (hn:x≠"__name__":=by decide) (hdb:(x == ("__debug__" : Str))=false:=by decide)
  (he:starEach (e::es) X.env=(false,eval e X.env)::starEach es X.env:=by rfl) (hpl:(backTo pos (starEach es X.env)).any (·.1)=false:=by rfl):QE X (.Call (.Name x p) (e::es) [] pos) (tCB r t):=⟨qcg hc hg hm hv ha.of hn hdb he hpl⟩
theorem yaw {k m:Nat}{ps:List Str}{sp:Sp} (h:Has X.prog X.w X.K X.mg X.base k x ps sp) (hr:Room m X.A) (ha:QA X (e::es) t) (hk:k≤m:=by decide) (hg:Gl X x:=by rfl)
  (hdb:(x == ("__debug__" : Str))=false:=by decide) (he:starEach (e::es) X.env=(false,eval e X.env)::starEach es X.env:=by rfl) (hpl:(backTo pos (starEach es X.env)).any (·.1)=false:=by rfl):QE X (.Call (.Name x p) (e::es) [] pos) (tCall sp [] E0 t):=⟨yaj h hr ha.of hk hg hdb he hpl⟩
structure QI (X:Cx) (tg iter:Expr) (wi:TI):Prop where
 of:PI X tg iter wi
theorem qi_of {tg iter:Expr}{wi:TI} (h:PI X tg iter wi):QI X tg iter wi:=⟨h⟩
theorem yeg {tg l:Expr}{tl:TE} (h:QE X l tl):QI X tg l (iList X.K tl):=⟨qhd h.of⟩
theorem qcz {tg iter:Expr}{body:List Stmt}{wi:TI}{g:TG}{tb:TS} (hp:PassesOwn (model X.prog X.w) X.A X.env X.xe) (hc:X.calm=true) (hi:QI X tg iter wi) (hg:PG X tg g) (hb:QSs X body tb) (hs:∀ x,foldedSetIterable iter X.env x=pure x:=by intro _;rfl):QS X (.For tg iter body [] pos) (tFor wi g tb):=⟨qhu hp hc hi.of hg hb.of hs⟩
theorem qcb (he:QE X e te) (hs:swapsWith e none pos.line X.env=pure false:=by rfl):QS X (.Expr e pos) (tDrop te):=⟨qd8 he.of hs⟩
end
theorem qao {X:Cx}{st:Stmt}{rest ss:List Stmt}{t:TS} (h:ss=st::rest) (p:QSs X (st::rest) t):QSs X ss t:=h ▸ p
section
variable {P:Program}{w:World}{K:PySem.W.Frag}{mg:Str→Option Value}{base:Heap}
theorem Has.ofQ {x:Str}{st:Stmt}{ps N:List Str}{k:Nat}{sp:Sp} (F:FnAt K mg x st ps) (S:FnScope N ps (yab st)) (len:∀ vs H Q E,sp vs H Q E→vs.length=ps.length)
  (hbody:∀ (f:Addr) (cdv:Value) (A:Around) (outer:List Env) (s:Shared) (H:Hp) (vs:List V) (Q:VK) (E:XK),Room k (A.deeper (envOfC x (yab st) s.heap.objs.size f cdv))→sp vs H Q E→
   ∃ t,QSs (cxOf CX0 P w K mg base N x (yab st) f cdv A outer s H E).nox (qat st) t∧t { nx:=fun _ H'=>Q .non H',rt:=Q } (qcu N vs) H):Has P w K mg base (k+1) x ps sp:=
 Has.of F S len fun f cdv A outer s H vs Q E hr h=>by
  obtain ⟨t,h1,h2⟩:=hbody f cdv A outer s H vs Q E hr h
  exact ⟨t,h1.of,h2⟩
theorem Fun.okQ {x qual:Str}{st:Stmt}{f:Addr}{fd:FuncData}{N ps:List Str}{k:Nat}{sp:Sp} (F:Fun K x qual st f fd) (S:FnScope N ps (yab st)) (len:∀ vs H Q E,sp vs H Q E→vs.length=ps.length)
  (hbody:∀ (cdv:Value) (A:Around) (outer:List Env) (s:Shared) (H:Hp) (vs:List V) (Q:VK) (E:XK),Room k (A.deeper (envOfC qual (yab st) s.heap.objs.size f cdv))→sp vs H Q E→
   ∃ t,QSs (cxOf CX0 P w K mg base N qual (yab st) f cdv A outer s H E).nox (qat st) t∧t { nx:=fun _ H'=>Q .non H',rt:=Q } (qcu N vs) H):FnOk P w K mg base CX0 (k+1) f fd ps sp:=
 F.ok S len fun cdv A outer s H vs Q E hr h=>by
  obtain ⟨t,h1,h2⟩:=hbody cdv A outer s H vs Q E hr h
  exact ⟨t,h1.of,h2⟩
end
end Mx
namespace L2
open PySem PySem.Spec PyProof.Rows PySem.W
structure Fly (h:Heap) (H:Hp) (a T:Addr):Prop where
 ob:∃ o vs,h.get? a=some o∧o.data=.fields vs∧vs[1]?=some (.ref T)
 ne:T≠a
 fr:H T=none
 tb:∃ oT ts,h.get? T=some oT∧oT.data=.fields ts∧ts[3]?=some .none
def CX1 (P:Program) (w:World):CXT:=fun outer H s E e s'=>∃ a T C dx H',e=.ref a∧s'.os=s.os∧AllBare s'.gens∧Un (frs outer) [] H H' s.heap s'.heap∧HOk P w H' s'.heap∧
 H' a=some (.ext (qbk a C dx))∧Fly s'.heap H' a T∧E (.ref a) none H'
def Raw (h:Heap) (a:Addr):Prop:=∃ o vs,h.get? a=some o∧o.data=.fields vs∧vs[1]?=some .none
theorem setSame {ts:Array Value}{i:Nat}{v:Value} (h:ts[i]?=some v):ts.setIfInBounds i v=ts:=by
 apply Array.ext_getElem?
 intro j
 by_cases e:i=j
 ·subst e
  rw[Array.getElem?_setIfInBounds_self_of_lt (Array.getElem?_eq_some_iff.mp h).1,h]
 ·rw[Array.getElem?_setIfInBounds_ne e]
theorem yhv {o:Obj}{ts:Array Value}{i:Nat}{v:Value} (hd:o.data=.fields ts) (h:ts[i]?=some v):Obj.mapFields (·.setIfInBounds i v) o=o:=by
 obtain ⟨c,d,dt,sl⟩:=o
 simp only at hd
 subst hd
 unfold Obj.mapFields
 simp only[setSame h]
theorem mapDict (f:Array Value→Array Value) (o:Obj):(Obj.mapFields f o).dict=o.dict:=by
 obtain ⟨c,d,dt,sl⟩:=o
 cases dt<;>rfl
section
variable {X:Cx}{pins:List (Addr×Obj)}{σ:St}{H:Hp}{s:Shared}{a C:Addr}{dx:Option Addr}
theorem fly_un {h1 h':Heap}{T':Addr} (I:Inv X pins σ H s) (ha:H a=some (.ext (qbk a C dx))) (h1s:Heap.SlotsOnly (frs X.stack) s.heap h1) (hT:T'=h1.objs.size)
  (keep:∀ b o,b≠a→h1.get? b=some o→h'.get? b=some o) (hx:qbk a C dx h'):Un (frs X.stack) [] H H s.heap h'∧HOk X.prog X.w H h'∧H T'=none∧s.heap.get? T'=none:=by
 have na:∀ b,H b=none→b≠a:=fun b n z=>by subst z;rw[ha] at n;cases n
 have hz:s.heap.objs.size=T':=by rw[hT,h1s.1]
 refine ⟨⟨fun b o e n hb _=>keep b o (na b n) ((h1s.2.1 b hb).trans e),fun b o e n hb _=>?_,fun _ _ _ n _=>n,fun b o e _=>?_,fun _ _ q=>q,fun _ _ _ q=>q,fun b ps q=>⟨#[],by rw[q];simp⟩⟩,fun b u e=>?_,I.hok.fresh (by omega),Heap.get?_none_of_le (by omega)⟩
 ·obtain ⟨sl,q⟩:=h1s.2.2 b o e
  exact ⟨sl,keep b _ (na b n) q⟩
 ·by_cases hb:b=a
  ·subst hb;obtain ⟨o,_,q,_⟩:=hx;exact ⟨o,q⟩
  ·obtain ⟨sl,q⟩:=h1s.2.2 b o e
   exact ⟨_,keep b _ hb q⟩
 ·by_cases hb:b=a
  ·subst hb
   rw[ha] at e;cases e
   exact yf7 hx
  ·refine (I.hok b u e).stay (fun c v hc q=>?_) (fun _ q=>q) fun _ _ q=>q
   have hcH:H c≠none:=by
    rcases hc with z|z
    ·rw[z,e];simp
    ·rw[z];simp
   have hca:c≠a:=by
    rcases hc with z|z
    ·rw[z];exact hb
    ·intro z2;rw[z2,ha] at z;cases z
   exact keep c v hca ((h1s.2.1 c fun z=>hcH (I.stkFree c z)).trans q)
theorem yfx {M:Model}{E:Value→Shared→Prop}{Q:Unit→Shared→Prop} (I:Inv X pins σ H s) (hs:X.stack=X.env::X.outer) (hf:X.env.frame=some X.env.locals) (ha:H a=some (.ext (qbk a C dx)))
  (st:Raw s.heap a∨∃ T,Fly s.heap H a T)
  (k:∀ h' T',Inv X pins σ H { s with heap:=h' }→Fly h' H a T'→s.heap.get? T'=none→Q () { s with heap:=h' }) :
  wpAny M X.A (noteFrame (.ref a) X.env) (fun _ s1=>wpAny M X.A (setFlight (.ref a) none) Q E s1) E s:=by
 have hfr:X.A.frames=some (X.env::X.outer):=by rw[← hs];exact I.ok.frames
 have hl:s.heap.FunFrames X.base (X.env::X.outer):=by rw[← hs];exact I.stack
 obtain ⟨⟨o0,vs0,e0,c0,d0,dt0⟩,_⟩:=I.hok a _ ha
 have main:∀ (h:Heap) (head:Value) (vs:Array Value) (o:Obj) (hadNext:Bool),(∀ b,h.get? b=s.heap.get? b)→h.objs.size=s.heap.objs.size→s.heap.get? a=some o→o.data=.fields vs→1<vs.size→
   wpAny M X.A (do let x ← frameOf X.env;let pl ← entryPlaceOf X.env.locals hadNext;let b ← EntryCells.newEntry head x .none (rawInt X.env.locals) .none pl;setField (.ref a) 1 b) (fun _ s'=>wpAny M X.A (setFlight (.ref a) none) Q E s') E { s with heap:=h }:=by
  intro h head vs o hadNext hg hsz he hd hvs
  have hl':h.FunFrames X.base (X.env::X.outer):=hl.of_keeps fun b o q _=>⟨o,(hg b).trans q,rfl⟩
  have hene:a∉(X.env::X.outer).filterMap (·.frame):=fun hm=>by
   have:=I.stkFree a (by rw[hs];exact hm)
   rw[ha] at this;cases this
  refine wpAny_bind (wpAny_frameOf_fun (s:={ s with heap:=h }) hfr hl' hf fun h₁ hs₁=>?_)
  have hs₁':Heap.SlotsOnly (frs X.stack) s.heap h₁:=by
   rw[hs]
   exact ⟨hs₁.1.trans hsz,fun b hb=>(hs₁.2.1 b hb).trans (hg b),fun b o q=>hs₁.2.2 b o ((hg b).trans q)⟩
  refine wpAny_bind (wpAny_entryPlaceOf fun pl hpl=>?_)
  unfold EntryCells.newEntry newFields
  refine wpAny_bind (wpAny_newObj_type ?_ (hpl.sizeOk5 _ _ _ _ _))
  have he₁:h₁.get? a=some o:=(hs₁.2.1 a hene).trans ((hg a).trans he)
  have he₂:=Heap.get?_push_of_some (h:=h₁) { cls:=.type "traceback",dict:=none,data:=.fields ([head,.ref X.env.locals,.none,rawInt X.env.locals,.none]++(if pl.isEmpty then List.replicate 6 Value.none else pl)).toArray } he₁
  refine wpAny_setField he₂ hd hvs ?_
  have hTe:h₁.objs.size≠a:=Nat.ne_of_gt (Heap.lt_size he₁)
  have hd₃:=Obj.data_mapFields hd (·.setIfInBounds 1 (Value.ref h₁.objs.size))
  have he₃:=Heap.get?_update_self (Obj.mapFields (·.setIfInBounds 1 (Value.ref h₁.objs.size))) he₂ (Obj.isFreed_of_fields hd₃)
  have hT₃:=(Heap.get?_update_other (h₁.push { cls:=.type "traceback",dict:=none,data:=.fields ([head,.ref X.env.locals,.none,rawInt X.env.locals,.none]++(if pl.isEmpty then List.replicate 6 Value.none else pl)).toArray })
   (Obj.mapFields (·.setIfInBounds 1 (Value.ref h₁.objs.size))) (Ne.symm hTe)).trans (Heap.get?_push_size h₁ rfl)
  unfold setFlight
  refine wpAny_bind (wpAny_field he₃ hd₃ (x:=.ref h₁.objs.size) (by simp[hvs]) ?_)
  rw[if_pos (show (Value.ref h₁.objs.size != Value.none)=true from by simp)]
  refine wpAny_setField hT₃ rfl (by simp only[List.size_toArray,List.length_append,List.length_cons,List.length_nil]<;>omega) ?_
  have keep:∀ b ob,b≠a→h₁.get? b=some ob→
    (((h₁.push { cls:=.type "traceback",dict:=none,data:=.fields ([head,.ref X.env.locals,.none,rawInt X.env.locals,.none]++(if pl.isEmpty then List.replicate 6 Value.none else pl)).toArray }).update a (Obj.mapFields (·.setIfInBounds 1 (Value.ref h₁.objs.size)))).update h₁.objs.size
     (Obj.mapFields (·.setIfInBounds 3 ((none:Option Addr).elim Value.none fun f=>rawInt f)))).get? b=some ob:=fun b ob hbe hb=>by
   have hbT:h₁.objs.size≠b:=Nat.ne_of_gt (Heap.lt_size hb)
   rw[Heap.get?_update_other _ _ hbT,Heap.get?_update_other _ _ (Ne.symm hbe)]
   exact Heap.get?_push_of_some _ hb
  have hea:=he₃
  have hT4:=Heap.get?_update_self (Obj.mapFields (·.setIfInBounds 3 ((none:Option Addr).elim Value.none fun f=>rawInt f))) hT₃ (Obj.isFreed_of_fields (Obj.data_mapFields rfl _))
  rw[← Heap.get?_update_other _ (Obj.mapFields (·.setIfInBounds 3 ((none:Option Addr).elim Value.none fun f=>rawInt f))) hTe] at hea
  revert keep hea hT4
  generalize ((h₁.push { cls:=.type "traceback",dict:=none,data:=.fields ([head,.ref X.env.locals,.none,rawInt X.env.locals,.none]++(if pl.isEmpty then List.replicate 6 Value.none else pl)).toArray }).update a (Obj.mapFields (·.setIfInBounds 1 (Value.ref h₁.objs.size)))).update h₁.objs.size
     (Obj.mapFields (·.setIfInBounds 3 ((none:Option Addr).elim Value.none fun f=>rawInt f)))=h'
  intro keep hea hT4
  rw[he] at e0;cases e0
  have hx:qbk a C dx h':=⟨_,_,hea,(Obj.cls_mapFields _ _).trans c0,(mapDict _ _).trans d0,hd₃⟩
  obtain ⟨un,ho,fr,nw⟩:=fly_un (T':=h₁.objs.size) I ha hs₁' rfl keep hx
  refine k h' h₁.objs.size (I.call' (s':={ s with heap:=h' }) (ch:=[]) rfl un ho I.bare fun b z=>absurd z (by simp)) ⟨⟨_,_,hea,hd₃,by simp[hvs]⟩,hTe,fr,⟨_,_,hT4,Obj.data_mapFields rfl _,?_⟩⟩ nw
  first|(simp;done)|(rcases hpl with rfl|⟨_,_,_,_,_,_,_,rfl⟩<;>simp)
 rcases st with ⟨o,vs,he,hd,h1⟩|⟨T,⟨⟨o,vs,he,hd,h1⟩,hTa,hTn,oT,ts,hT,hdT,h3⟩⟩
 ·unfold noteFrame
  simp only[hf]
  refine wpAny_bind (wpAny_field he hd h1 ?_)
  rw[if_neg (by decide)]
  exact main s.heap _ vs o _ (fun _=>rfl) rfl he hd (Array.getElem?_eq_some_iff.mp h1).1
 ·unfold noteFrame
  simp only[hf]
  refine wpAny_bind (wpAny_field he hd h1 ?_)
  rw[if_pos (show (Value.ref T != Value.none)=true from by simp)]
  refine wpAny_bind (wpAny_field hT hdT h3 ?_)
  rw[if_neg (show ¬ ((Value.none == rawInt X.env.locals)=true) from by simp[rawInt])]
  refine wpAny_bind (wpAny_setField hT hdT (Array.getElem?_eq_some_iff.mp h3).1 ?_)
  refine main (s.heap.update T (Obj.mapFields (·.setIfInBounds 3 Value.none))) _ vs o _ (fun b=>?_) (Heap.size_after_update ..) he hd (Array.getElem?_eq_some_iff.mp h1).1
  by_cases hb:b=T
  ·subst hb
   rw[hT]
   have:=Heap.get?_update_self (Obj.mapFields (·.setIfInBounds 3 Value.none)) hT (Obj.isFreed_of_fields (Obj.data_mapFields hdT _))
   rw[yhv hdT h3] at this
   exact this
  ·exact Heap.get?_update_other _ _ (Ne.symm hb)
end
section
variable {X:Cx}{pins:List (Addr×Obj)}{σ:St}{H:Hp}{s:Shared}{a C:Addr}{dx:Option Addr}
theorem Inv.xq (I:Inv X pins σ H s) (ha:H a=some (.ext (qbf a C dx))):Inv X pins σ (upd H a (.ext (qbk a C dx))) s:=by
 have o:=(I.hok a _ ha)
 have w:=I.write (x:=a) (e:=a) (o:=.ext (qbk a C dx)) (h':=s.heap) (t':=s.toks) (by rw[ha];exact True.intro) (.inl rfl) (fun _ _ _ e=>e) o.2.1 (yf7 o.1.q)
 exact w
theorem raw_of {P:Program}{w:World}{h:Heap} (ok:HOk P w H h) (ha:H a=some (.ext (qbf a C dx))):Raw h a:=by
 obtain ⟨⟨o,vs,e,_,_,dt,r⟩,_⟩:=ok a _ ha
 exact ⟨o,vs,e,dt,r⟩
end
section
variable {P:Program}{w:World}{K:PySem.W.Frag}{mg:Str→Option Value}{base:Heap}{N:List Str}{qual:Str}{scope:Scope}{f:Addr}{cd:Value}{A:Around}{outer:List Env}{s0:Shared}{H0:Hp}{E:XK}
abbrev cxX (P:Program) (w:World) (K:PySem.W.Frag) (mg:Str→Option Value) (base:Heap) (N:List Str) (qual:Str) (scope:Scope) (f:Addr) (cd:Value) (A:Around) (outer:List Env) (s0:Shared) (H0:Hp) (E:XK):Cx:=
 cxOf (CX1 P w) P w K mg base N qual scope f cd A outer s0 H0 E
theorem leaves {pins:List (Addr×Obj)}{σ:St}{H:Hp}{s:Shared}{a C:Addr}{dx:Option Addr} (I:Inv (cxX P w K mg base N qual scope f cd A outer s0 H0 E) pins σ H s) (ha:H a=some (.ext (qbk a C dx))) (st:Raw s.heap a∨∃ T,Fly s.heap H a T)
  (hE:E (.ref a) none H):(cxX P w K mg base N qual scope f cd A outer s0 H0 E).xe (.ref a) s:=by
 show wpAny _ _ (leaving _ _) _ _ _
 unfold leaving
 exact wpAny_bind (yfx (X:=cxX P w K mg base N qual scope f cd A outer s0 H0 E) I rfl rfl ha st fun h' T' I' fl _=>⟨a,T',C,dx,H,rfl,I'.os,I'.bare,I'.base,I'.hok,ha,fl,hE⟩)
theorem passX:qdt (CX1 P w) (cxX P w K mg base N qual scope f cd A outer s0 H0 E) E:=by
 intro pins σ H s e s' I h
 obtain ⟨a,T,C,dx,H',rfl,ho,hb,un,hok,ha,fl,hE⟩:=h
 exact leaves (I.call' (ch:=[]) ho un hok hb fun b z=>absurd z (by simp)) ha (.inr ⟨T,fl⟩) hE
theorem passOwnX:PassesOwn (model P w) (cxX P w K mg base N qual scope f cd A outer s0 H0 E).A (cxX P w K mg base N qual scope f cd A outer s0 H0 E).env (cxX P w K mg base N qual scope f cd A outer s0 H0 E).xe:=PassesOwn.leaving
def tRaise (K:PySem.W.Frag) (E:XK) (te:TE):TS:=fun _ σ H=>te σ H fun v H1=>∃ a C dx,v=.ref a∧XTy K C∧H1 a=some (.ext (qbf a C dx))∧E (.ref a) none (upd H1 a (.ext (qbk a C dx)))
theorem yg8 {M:Model}{A:Around}{E:Value→Shared→Prop}{env:Env}{s:Shared}{a C:Addr}{o:Obj}{vs:Array Value}{Q:Flow→Shared→Prop} (X:K.In s.heap) (cx:qc0 K C=true) (hh:A.handled=none) (hx:s.heap.get? a=some o) (hc:o.cls=.ref C) (hd:o.data=.fields vs) (h1:vs[1]?=some .none)
  {x:Sem Value}{s₀:Shared} (hE:E (.ref a) s) (h:∀ {R:Value→Shared→Prop},R (.ref a) s→wpAny M A x R E s₀):wpAny M A (raiseStmt env (some x) none) Q E s₀:=by
 obtain ⟨nm,qn,N,bs,bm,sn,sub,ab,col,dd,k0,k1,k2,k3,k5,cC,T⟩:=ycr X cx
 have hob:(Value.ref C::bm).contains (.type "BaseException")=true:=by rw[List.contains_cons,T.hasType PySem.F.excBase_ValueError.hasBase];rfl
 unfold raiseStmt
 refine wpAny_bind (h ?_)
 obtain ⟨hp,g,d,tk,os⟩:=s
 have cC:hp.get? C=_:=cC
 have hx:hp.get? a=some o:=hx
 have hnt:(match o.data with | .cls _=>true|_=>false)=false:=by rw[hd]
 unfold excFromValue isExcClass isInstance
 repeat (first|(with_reducible refine wpAny_loadPart_at hx ?_;first|rw[hc]|(dsimp only;rw[hd]))|(with_reducible refine wpAny_loadPart_at cC ?_)|(with_reducible refine wpAny_isSubtype_exc cC ?_;rw[hob])|wp_step)
 rw[hd]
 refine wpAny_pure ?_
 rw[h1]
 refine wpAny_pure ?_
 rw[if_neg (by decide)]
 exact wpAny_pure (wpAny_raiseNew_none hh hE)
theorem qd1 {x:Expr}{te:TE}{pos:Pos} (he:PE (cxX P w K mg base N qual scope f cd A outer s0 H0 E) x te):PS (cxX P w K mg base N qual scope f cd A outer s0 H0 E) (.Raise (some x) none pos) (tRaise K E te):=by
 intro pins s σ H D I h
 rw[arm_exec_Raise]
 refine wpAny_bind (wpAny_standAt ?_)
 have hx:=he pins s σ H _ I h
 show wpAny _ _ (raiseStmt _ (some (do let v ← eval x _;standAt pos;pure v)) none) _ _ _
 unfold raiseStmt
 refine wpAny_bind (wpAny_bind (thn hx fun v s1 ⟨y,H1,I1,r,a,C,dx,ey,ty,ha,q⟩=>?_))
 subst ey
 obtain rfl:v=Value.ref a:=r
 refine wpAny_bind (wpAny_standAt (wpAny_pure ?_))
 obtain ⟨⟨o,vs,e1,e2,e3,e4,e5⟩,_⟩:=I1.hok a _ ha
 have lv:=leaves (I1.xq ha) yaa (.inl (raw_of I1.hok ha)) q
 have:=yg8 (A:=(cxX P w K mg base N qual scope f cd A outer s0 H0 E).A) (env:=(cxX P w K mg base N qual scope f cd A outer s0 H0 E).env) (M:=model P w) (Q:=SP (cxX P w K mg base N qual scope f cd A outer s0 H0 E) pins D) (x:=pure (.ref a)) (s₀:=s1) I1.kIn ty.cx (I1.ok.hd rfl) e1 e2 e4 e5 lv (fun {R} hR=>wpAny_pure hR)
 unfold raiseStmt at this
 exact this
end
def HasX (P:Program) (w:World) (K:PySem.W.Frag) (mg:Str→Option Value) (base:Heap) (k:Nat) (x:Str) (ps:List Str) (sp:Sp):Prop:=
 ∃ f fd,mg x=some (.ref f)∧PySem.W.keepIn K (.ref f)=true∧qdl K fd ps []∧FnOk P w K mg base (CX1 P w) k f fd ps sp
section
variable {P:Program}{w:World}{K:PySem.W.Frag}{mg:Str→Option Value}{base:Heap}
theorem FnOk.ofX {x qual:Str}{st:Stmt}{f:Addr}{fd:FuncData}{N ps:List Str}{k:Nat}{sp:Sp} (F:Fun K x qual st f fd) (S:FnScope N ps (yab st)) (len:∀ vs H Q E,sp vs H Q E→vs.length=ps.length)
  (hbody:∀ (cdv:Value) (A:Around) (outer:List Env) (s:Shared) (H:Hp) (vs:List V) (Q:VK) (E:XK),Room k (A.deeper (envOfC qual (yab st) s.heap.objs.size f cdv))→sp vs H Q E→
   ∃ t,Mx.QSs (cxX P w K mg base N qual (yab st) f cdv A outer s H E) (qat st) t∧t { nx:=fun _ H'=>Q .non H',rt:=Q } (qcu N vs) H):FnOk P w K mg base (CX1 P w) (k+1) f fd ps sp:=by
 obtain ⟨oc,od,kV,doc,pm,an,cdv,ct,osl,rfl,lk,hcd⟩:=F.ex
 refine fn_of lk hcd S len fun A outer s H vs Q E hr hsp=>?_
 obtain ⟨t,h,q⟩:=hbody cdv A outer s H vs Q E hr hsp
 exact ⟨t,h.of,q⟩
theorem HasX.of {x:Str}{st:Stmt}{ps N:List Str}{k:Nat}{sp:Sp} (F:FnAt K mg x st ps) (S:FnScope N ps (yab st)) (len:∀ vs H Q E,sp vs H Q E→vs.length=ps.length)
  (hbody:∀ (f:Addr) (cdv:Value) (A:Around) (outer:List Env) (s:Shared) (H:Hp) (vs:List V) (Q:VK) (E:XK),Room k (A.deeper (envOfC x (yab st) s.heap.objs.size f cdv))→sp vs H Q E→
   ∃ t,Mx.QSs (cxX P w K mg base N x (yab st) f cdv A outer s H E) (qat st) t∧t { nx:=fun _ H'=>Q .non H',rt:=Q } (qcu N vs) H):HasX P w K mg base (k+1) x ps sp:=by
 obtain ⟨f,fd,h1,h2,h3⟩:=F
 exact ⟨f,fd,h1,h2.kp,h3,FnOk.ofX h2 S len fun cdv A outer s H vs Q E hr h=>hbody f cdv A outer s H vs Q E hr h⟩
end
section
variable {X:Cx}{e o:Expr}{es:List Expr}{ta:TE}{t:TA}{p pos apos:Pos}{x m:Str}{C:Addr}{E:XK}
theorem yfz {k n:Nat}{ps:List Str}{sp:Sp} (h:HasX X.prog X.w X.K X.mg X.base k x ps sp) (hx:qdt (CX1 X.prog X.w) X E) (hr:Room n X.A) (ha:PA X (e::es) t) (hk:k≤n:=by decide) (hg:Gl X x:=by rfl)
  (hdb:(x == ("__debug__" : Str))=false:=by decide) (he:starEach (e::es) X.env=(false,eval e X.env)::starEach es X.env:=by rfl) (hpl:(backTo pos (starEach es X.env)).any (·.1)=false:=by rfl) :
  PE X (.Call (.Name x p) (e::es) [] pos) (tCall sp [] E t):=by
 obtain ⟨f,fd,h1,h2,h3,h4⟩:=h
 exact qhe h4 (hr.mono hk) hg h1 h2 h3 .nil hx ha hdb he hpl
end
abbrev Cx.sui (X:Cx) (e:Value):Cx:={ X with A:=X.A.mark (some e),calm:=false }
section
variable {X:Cx}{pins:List (Addr×Obj)}{σ:St}{H:Hp}{s:Shared}{v:Value}
theorem Cx.Ok.sui (ok:X.Ok) (v:Value):(X.sui v).Ok:=
 ⟨ok.mod,ok.kind,ok.glob,ok.blt,ok.above,ok.inj,ok.has,ok.cab,(fun h=>nomatch h),ok.frames,ok.stk,ok.exf,ok.bs,ok.bsz,ok.noex,ok.exfs,ok.funs,ok.frf⟩
theorem Inv.sui (I:Inv X pins σ H s) (v:Value):Inv (X.sui v) pins σ H s:=⟨I.ok.sui v,I.os,I.bare,I.base,I.loc,I.cell,I.free,I.freeC,I.pin,I.hok,I.len⟩
theorem Inv.unsui (ok:X.Ok) (I:Inv (X.sui v) pins σ H s):Inv X pins σ H s:=⟨ok,I.os,I.bare,I.base,I.loc,I.cell,I.free,I.freeC,I.pin,I.hok,I.len⟩
theorem goes_ok {M:Model}{A:Around}{E:Value→Shared→Prop}{i:Nat}{x:Str}{pos:Pos}{Q:Unit→Shared→Prop} (I:Inv X pins σ H s) (hN:X.N.Nodup) (hi:X.N[i]?=some x) (hk:X.env.scope.names.lookup x=some .local)
  (h:∀ s',Inv X pins (σ.set i none) H s'→Q () s'):wpAny M A (do bindName X.env x .none;unbindBehindTheSuite X.env x pos) Q E s:=by
 obtain ⟨m,hn,hl⟩:=id I.loc
 have hcls:(X.env.scope.kind == .class||(X.env.scope.kind == .module&&X.env.locals != X.env.globals))=false:=by rw[I.ok.kind];rfl
 have cne:=I.cne
 refine wpAny_nameGoes_keeps hk hn hcls fun h' v hn' hs=>?_
 obtain ⟨oL,_,_,hoL,_⟩:=id hn
 have tracked:HOk X.prog X.w H h':=fun b ob e=>by
  refine (I.hok b ob e).stay (fun c w' hc q=>(hs.2 c ?_).trans q) (fun _ q=>q) fun _ _ q=>q
  rintro rfl
  rcases hc with rfl|hc
  ·rw[I.free] at e;cases e
  ·rw[I.free] at hc;cases hc
 refine h _ ⟨I.ok,I.os,I.bare,⟨fun b o e n hb hx=>?_,fun b o e n hb hx=>?_,I.base.free,fun b o e hx=>?_,I.base.tups,I.base.frzs,I.base.tbls⟩,⟨_,hn',fun j y v' e1 e2 e3=>?_⟩,fun y c e=>?_,I.free,I.freeC,fun p hp=>?_,tracked,by simpa using I.len⟩
 ·exact (hs.2 b (Nat.ne_of_lt (Nat.lt_of_lt_of_le (Heap.lt_size e) I.ok.above))).trans (I.base.keep b o e n hb hx)
 ·obtain ⟨sl,e1⟩:=I.base.slot b o e n hb hx
  exact ⟨sl,(hs.2 b (Nat.ne_of_lt (Nat.lt_of_lt_of_le (Heap.lt_size e) I.ok.above))).trans e1⟩
 ·obtain ⟨o',e1⟩:=I.base.there b o e hx
  exact ⟨o',(hs.2 b (Nat.ne_of_lt (Nat.lt_of_lt_of_le (Heap.lt_size e) I.ok.above))).trans e1⟩
 ·by_cases hj:i=j
  ·subst hj
   rw[List.getElem?_set_self (by have:=(List.getElem?_eq_some_iff.mp hi).1;rw[I.len];exact this)] at e2
   cases e2
  ·rw[List.getElem?_set_ne hj] at e2
   obtain ⟨u',r',q⟩:=hl j y v' e1 e2 e3
   refine ⟨u',r',?_⟩
   rcases q with ⟨k,e⟩|⟨k,c,e,z⟩
   ·refine .inl ⟨k,?_⟩
    have:y≠x:=fun e=>hj (qee hN hi (e ▸ e1))
    simp[this,e]
   ·exact .inr ⟨k,c,e,z.sameBut hs (cne y c e)⟩
 ·obtain ⟨w',z⟩:=I.cell y c e
  exact ⟨w',z.sameBut hs (cne y c e)⟩
 ·obtain ⟨e,n,ne,nf,d⟩:=I.pin p hp
  exact ⟨(hs.2 p.1 ne).trans e,n,ne,nf,d⟩
theorem yfr {M:Model}{A:Around}{E:Value→Shared→Prop}{a T:Addr}{Q:Unit→Shared→Prop} (I:Inv X pins σ H s) (fl:Fly s.heap H a T) (h:∀ s',Inv X pins σ H s'→Fly s'.heap H a T→Q () s'):wpAny M A (setFlight (.ref a) none) Q E s:=by
 obtain ⟨⟨o,vs,he,hd,h1⟩,hTa,hTn,oT,ts,hT,hdT,h3⟩:=fl
 refine wpAny_setFlight_none he hd h1 hT hdT (Array.getElem?_eq_some_iff.mp h3).1 ?_
 have same:∀ b u,s.heap.get? b=some u→(s.heap.update T (Obj.mapFields (·.setIfInBounds 3 Value.none))).get? b=some u:=fun b u e=>by
  by_cases hb:b=T
  ·subst hb
   have:=Heap.get?_update_self (Obj.mapFields (·.setIfInBounds 3 Value.none)) hT (Obj.isFreed_of_fields (Obj.data_mapFields hdT _))
   rw[yhv hdT h3] at this
   rw[hT] at e;cases e
   exact this
  ·exact (Heap.get?_update_other _ _ (Ne.symm hb)).trans e
 exact h _ (I.kept (t':=s.toks) same) ⟨⟨o,vs,same _ _ he,hd,h1⟩,hTa,hTn,oT,ts,same _ _ hT,hdT,h3⟩
def XP (X:Cx) (pins:List (Addr×Obj)) (R:St→V→Hp→Prop) (e:Value) (s':Shared):Prop:=∃ a T C dx σ' H',e=.ref a∧Inv X pins σ' H' s'∧H' a=some (.ext (qbk a C dx))∧Fly s'.heap H' a T∧R σ' (.ref a) H'
def PSx (X:Cx) (sts:List Stmt) (t:(St→V→Hp→Prop)→TS):Prop:=
 ∀ (pins:List (Addr×Obj)) (s:Shared) (σ:St) (H:Hp) (D:Ends) (R:St→V→Hp→Prop),Inv X pins σ H s→t R D σ H→wpAny (model X.prog X.w) X.A (execs sts X.env) (SP X pins D) (XP X pins R) s
def PEx (X:Cx) (e:Expr) (t:(V→Hp→Prop)→TE):Prop:=
 ∀ (pins:List (Addr×Obj)) (s:Shared) (σ:St) (H:Hp) (Q:VK) (R:V→Hp→Prop),Inv X pins σ H s→t R σ H Q→wpAny (model X.prog X.w) X.A (eval e X.env) (EP X pins σ Q) (XP X pins fun σ' v H'=>σ'=σ∧R v H') s
def rxE (R:V→Hp→Prop):XK:=fun e _ H'=>∃ a,e=.ref a∧R (.ref a) H'
variable {e:Expr}{es:List Expr}{p pos apos:Pos}{x m:Str}{C:Addr}{t:TA}{te ta:TE}
theorem run_fnx {k:Nat}{f:Addr}{fd:FuncData}{ps:List Str}{sp:Sp}{Q:VK}{R:V→Hp→Prop}{us:List Value}{vs:List V} (F:FnOk X.prog X.w X.K X.mg X.base (CX1 X.prog X.w) k f fd ps sp) (hr:Room k X.A) (hb:qdl X.K fd ps [])
  (I:Inv X pins σ H s) (r:Vals vs us) (h:sp vs H Q (rxE R)):wpAny (model X.prog X.w) X.A (call (.ref f) us) (EP X pins σ Q) (XP X pins fun σ' v H'=>σ'=σ∧R v H') s:=by
 have hl:us.length=ps.length:=by rw[← r.length];exact F.len _ _ _ _ h
 have bb:=hb s us I.kIn (by rw[List.append_nil];exact hl)
 rw[List.append_nil] at bb
 refine wpAny_call (codeAny_mono (F.run X.A X.stack s H ⟨us,[]⟩ us vs Q (rxE R) hr I.env0 bb r h) fun r s' hq=>?_)
 cases r with
 | error e=>
  obtain ⟨a,T,C,dx,H',rfl,ho,hba,un,hok,ha,fl,a',ea,hR⟩:=hq
  cases ea
  exact ⟨a,T,C,dx,σ,H',rfl,I.call' (ch:=[]) ho un hok hba fun b z=>absurd z (by simp),ha,fl,rfl,hR⟩
 | ok fl=>
  cases fl with
  | ret u=>exact I.after hq
  | next=>exact False.elim hq
  | brk=>exact False.elim hq
  | cont=>exact False.elim hq
def tCallx (sp:Sp) (t:TA) (R:V→Hp→Prop):TE:=fun σ H Q=>t σ H fun vs H1=>sp vs H1 Q (rxE R)
theorem pex_call {k n:Nat}{ps:List Str}{sp:Sp} (hx:∀ e s,¬ X.xe e s) (h:HasX X.prog X.w X.K X.mg X.base k x ps sp) (hr:Room n X.A) (ha:PA X (e::es) t) (hk:k≤n:=by decide) (hg:Gl X x:=by rfl)
  (hdb:(x == ("__debug__" : Str))=false:=by decide) (he:starEach (e::es) X.env=(false,eval e X.env)::starEach es X.env:=by rfl) (hpl:(backTo pos (starEach es X.env)).any (·.1)=false:=by rfl) :
  PEx X (.Call (.Name x p) (e::es) [] pos) (tCallx sp t):=by
 intro pins s σ H Q R I h'
 obtain ⟨f,fd,h1,h2,h3,h4⟩:=h
 refine wpAny_Call_Name_kw (qdn I hg h1 ?_ hdb)
 refine PySem.W.callWith_K (h₀:=X.base) I.ok.mod.kin h2 (wpAny_mono (ha pos pins s σ H _ I h') (fun us s1 ⟨vs,H1,I1,r,q⟩=>⟨I1.kIn,?_⟩) fun e s z=>(hx e s z).elim) he hpl
 exact run_fnx h4 (hr.mono hk) h3 I1 r q
def sDropx (te:(V→Hp→Prop)→TE) (R:St→V→Hp→Prop):TS:=fun D σ H=>te (R σ) σ H fun _ H1=>D.nx σ H1
theorem psx_expr {te:(V→Hp→Prop)→TE} (he:PEx X e te) (hs:swapsWith e none pos.line X.env=pure false:=by rfl):PSx X [.Expr e pos] (sDropx te):=by
 intro pins s σ H D R I h
 refine wpAny_execs_cons ?_
 exact wpAny_Expr_any (wpAny_mono (he pins s σ H _ (R σ) I h) (fun u s1 ⟨y,H1,I1,ry,q⟩=>wpAny_execs_nil ⟨_,_,I1,q⟩) fun e s' ⟨a,T,C,dx,σ',H',r1,r2,r3,r4,e1,r5⟩=>⟨a,T,C,dx,σ',H',r1,r2,r3,r4,by rw[e1];exact r5⟩) I.quiet hs
def sTry (K:PySem.W.Frag) (M:Addr) (iy jn:Nat) (tb:(St→V→Hp→Prop)→TS):TS:=fun D σ H=>tb (fun σ' v H'=>∃ a C fs,v=.ref a∧XAt H' a C fs∧PySem.W.exmOne K (.ref C) (.ref M)=some true∧D.nx (((σ'.set jn (some v)).set iy (some v)).set jn none) H') D σ H
theorem ps_try {body:List Stmt}{cx n y:Str}{M:Addr}{iy jn:Nat}{tb:(St→V→Hp→Prop)→TS}{p1 p2 p3 p4 p5:Pos} (hx:∀ e s,¬ X.xe e s) (hst:X.stack=X.env::X.outer) (hfr:X.env.frame=some X.env.locals) (hb:PSx X body tb)
  (hN:X.N.Nodup) (hj:X.N[jn]?=some n) (hn:X.env.scope.names.lookup n=some .local) (hi:X.N[iy]?=some y) (hy:Loc X.env.scope y) (hne:jn≠iy) (hg:Gl X cx) (hm:X.mg cx=some (.ref M)) (hdb:(cx == ("__debug__" : Str))=false:=by decide) (hdn:(n == ("__debug__" : Str))=false:=by decide) (hcn:(n == ("__classdict__" : Str))=false:=by decide)
  (hf:X.fn y=true∨X.env.scope.names.lookup y=some .local:=by first|exact .inl rfl|exact .inr rfl|assumption)
  (hs:swapsWith (.Name n p3) (some (.Name y p2)) p4.line X.env=pure false:=by rfl) :
  PS X (.Try body [.ExceptHandler (some (.Name cx p1)) (some n) [.Assign [.Name y p2] (.Name n p3) p4] p5] [] [] pos) (sTry X.K M iy jn tb):=by
 intro pins s σ H D I h
 refine wpAny_Try_except (wpAny_mono (hb pins s σ H D _ I h) (fun f s' z=>by cases f<;>first|exact z|exact wpAny_execs_nil z) ?_)
 rintro e s1 ⟨a,T,C,dx,σ',H',rfl,I1,ha,fl,a',C',fs,ea,xa,em,q⟩
 cases ea
 refine yfx I1 hst hfr ha (.inr ⟨T,fl⟩) fun h' T' I2 fl2 _=>?_
 have I2m:=I2.sui (.ref a)
 refine wpAny_handleBy_cons (codeAny_handlers_test ?_) (by intro q;cases q)
 refine qdn (X:=X.sui (.ref a)) I2m hg hm ?_ hdb
 obtain ⟨ox,od,ia⟩:=xa.at I2
 refine (exm_one (M:=model X.prog X.w) I2.kIn ia.type em).here ?_
 refine codeAny_handlers_suite_as ?_
 refine yfr I2 fl2 fun s3 I3 fl3=>?_
 refine qea (i:=jn) (x:=n) (v:=.ref a) I3 hN hj (.inl hn) rfl (fun s4 I4=>?_) (.inr hn)
 have hp:=qai (ybk (X:=(X.sui (.ref a)).nox) (pos:=p4) (i:=iy) (x:=y) (pos':=p2) hN hi hy (pe_var (i:=jn) (pos:=p3) hj (.inl hn) hdn hcn) hs hf)
 refine wpAny_mono (hp pins s4 _ H' { nx:=fun σ2 H2=>σ2=((σ'.set jn (some (.ref a))).set iy (some (.ref a)))∧H2=H',rt:=fun _ _=>False } ((I4.sui (.ref a)).wish _) ⟨_,?_,rfl,rfl⟩) (fun f s5 z=>?_) fun _ _ z=>z.elim
 ·rw[List.getElem?_set_self]
  have:=(List.getElem?_eq_some_iff.mp hj).1
  rw[I3.len];exact this
 ·cases f with
  | next=>
   obtain ⟨σ5,H5,I5,rfl,rfl⟩:=z
   have I6:Inv X pins _ H5 s5:=Inv.unsui I2.ok I5.unwish
   exact goes_ok I6 hN hj hn fun s7 I7=>⟨_,_,I7,q⟩
  | brk=>obtain ⟨_,_,_,z⟩:=z;exact z.elim
  | cont=>obtain ⟨_,_,_,z⟩:=z;exact z.elim
  | ret u=>obtain ⟨_,_,_,_,_,z⟩:=z;exact z.elim
end
def XInit (P:Program) (w:World) (K:PySem.W.Frag) (mg:Str→Option Value) (base:Heap) (x:Str) (C:Addr) (ps:List Str) (sp:Sp):Prop:=
 mg x=some (.ref C)∧PySem.W.keepIn K (.ref C)=true∧XOk K C∧∃ f fd,PySem.W.findIn K (.ref C) "__init__" = some (some (.ref f))∧PySem.W.isFn K (.ref f)=true∧qdl K fd ps []∧FnOk P w K mg base CX0 1 f fd ps sp
def sp_x1 (C:Addr) (f:Str):Sp:=fun vs H Q _=>∃ a v,vs=[.ref a,v]∧XD H a C none []∧∀ d H',XD H' a C (some d) [(f,v)]→SetX a d none H H'→Q .non H'
theorem SetX.sm {a d:Addr}{H H1 H':Hp}{o:HO} (hn:H a=none) (e:H1=upd H a o) (x:SetX a d none H1 H'):Same H H':=by
 subst e
 intro b o hb
 refine x.kp b o (by rw[yae (qae hb hn)];exact hb) (qae hb hn) ?_
 rcases x.dd with z|⟨_,z⟩
 ·cases z
 ·intro q
  subst q
  rw[yae (qae hb hn),hb] at z
  cases z
section
variable {X:Cx}{e o:Expr}{es:List Expr}{t:TA}{ta:TE}{p pos apos:Pos}{x m:Str}{C:Addr}
theorem pe_xI {n:Nat}{ps:List Str}{sp:Sp} (h:XInit X.prog X.w X.K X.mg X.base x C ps sp) (hr:Room n X.A) (ha:PA X (e::es) t) (hk:2≤n:=by decide) (hg:Gl X x:=by rfl) (hdb:(x == ("__debug__" : Str))=false:=by decide)
  (he:starEach (e::es) X.env=(false,eval e X.env)::starEach es X.env:=by rfl) (hpl:(backTo pos (starEach es X.env)).any (·.1)=false:=by rfl):PE X (.Call (.Name x p) (e::es) [] pos) (tXMake C sp t):=by
 obtain ⟨h1,h2,h3,f,fd,h4,h5,h6,h7⟩:=h
 exact pe_xmake h3 h4 h5 h7 (hr.mono hk) h6 h2 hg h1 ha hdb he hpl
end
section
variable {X:Cx}
theorem passX0:qdt (CX1 X.prog X.w) X E0:=fun _ _ _ _ _ _ _ h=>by
 obtain ⟨_,_,_,_,_,_,_,_,_,_,_,_,hE⟩:=h
 exact hE.elim
end
theorem raised_x {H H':Hp}{a d C:Addr}{fs:List (Str×V)} (hn:H a=none) (x:XD H' a C (some d) fs) (sx:SetX a d none (upd H a (.ext (qbf a C none))) H') :
  H' a=some (.ext (qbf a C (some d)))∧Same H (upd H' a (.ext (qbk a C (some d))))∧XAt (upd H' a (.ext (qbk a C (some d)))) a C fs:=by
 rcases x with ⟨e,_⟩|⟨d',e,h1,h2⟩
 ·cases e
 cases e
 have nd:d≠a:=by
  rcases sx.dd with z|⟨_,z⟩
  ·cases z
  ·intro q
   subst q
   rw[yaa] at z
   cases z
 refine ⟨h1,(SetX.sm hn rfl sx).at hn,.inr (.inr (.inr ⟨d,yaa,?_⟩))⟩
 rw[yae nd]
 exact h2
end L2
namespace Mx
open PySem L2 PyProof.Rows
section
variable {X:Cx}{o e:Expr}{es:List Expr}{te to:TE}{t:TA}{pos p2:Pos}
theorem qe_sl {lo hi:Option Expr}{tl th:TO}{r:V→Option Int→Option Int→Hp→VK→Prop} (hr:SlR X r) (he:QE X e te) (hl:PO X lo tl) (hu:PO X hi th):QE X (.Subscript e (.Slice lo hi none p2) pos) (tSl r te tl th):=⟨qb5 hr he.of hl hu⟩
theorem yg5 {name:Str}{apos cpos:Pos}{T id:String}{r:V→List V→Hp→VK→Prop} (pa:PlainAttrs T) (slot:Slot T name id) (hty:typeOf (.builtin id)=pure (.type "method_descriptor")) (hm:MtR X id r) (ho:QE X o to) (ha:QA X (e::es) t)
  (hbase:attributeBase o name X.env (eval o X.env)=eval o X.env:=by rfl)
  (hfew:((backTo cpos (starEach (e::es) X.env)).all (fun x=>!x.1)&&(backToKw cpos (keywordEach [] X.env)).all (fun x=>x.1.isSome)
   && decide ((e::es).length+([]:List Keyword).length+(if ([]:List Keyword).isEmpty then 0 else 1)<30))=true:=by rfl)
  (hline:(apos.endLine == cpos.line)=true:=by rfl) (hs:starEach (e::es) X.env=(false,eval e X.env)::starEach es X.env:=by rfl) (hplain:(backTo cpos (starEach es X.env)).any (·.1)=false:=by rfl) :
  QE X (.Call (.Attribute o name apos) (e::es) [] cpos) (tBM X.K T r to t):=⟨yhx pa slot hty hm ho.of ha.of hbase hfew hline hs hplain⟩
end
end Mx
namespace L2
open PySem PySem.Spec PyProof.Rows PySem.W
def AtX (H:Hp) (v:V) (d:PyData):Prop:=At H v d∨(d=.dict []∧∃ a,v=.ref a∧H a=some (.dK []))
def tyD:PyData→Value
 | .none=>.type "NoneType"
 | .bool _=>.type "bool"
 | .int _=>.type "int"
 | .str _=>.type "str"
 | .list _=>.type "list"
 | .tuple _=>.type "tuple"
 | .dict _=>.type "dict"
theorem AtX.ty {K:PySem.W.Frag}{H:Hp}{v:V}{d:PyData} (h:AtX H v d):TyOf K H v (tyD d):=by
 rcases h with h|⟨e,a,ea,h⟩
 ·cases h with
  | non=>exact .non
  | bl b=>exact .bl b
  | int i=>exact .int i
  | str x=>exact .str x
  | lst e _=>exact .lst e
  | tup e _=>exact .tup e
 ·subst e ea
  exact .dK h
def isTup:PyData→Bool | .tuple _=>true|_=>false
def isLst:PyData→Bool | .list _=>true|_=>false
def isStr:PyData→Bool | .str _=>true|_=>false
def isInt:PyData→Bool | .int _=>true | .bool _=>true|_=>false
def isBl:PyData→Bool | .bool _=>true|_=>false
theorem kit_tup {K:PySem.W.Frag} (d:PyData):PySem.W.kitOne K (tyD d) (.type "tuple")=some (isTup d):=by cases d<;>rfl
theorem kit_lst {K:PySem.W.Frag} (d:PyData):PySem.W.kitOne K (tyD d) (.type "list")=some (isLst d):=by cases d<;>rfl
theorem ygw {K:PySem.W.Frag} (d:PyData):PySem.W.kitOne K (tyD d) (.type "str")=some (isStr d):=by cases d<;>rfl
theorem kit_int {K:PySem.W.Frag} (d:PyData):PySem.W.kitOne K (tyD d) (.type "int")=some (isInt d):=by cases d<;>rfl
theorem kit_bl {K:PySem.W.Frag} (d:PyData):PySem.W.kitOne K (tyD d) (.type "bool")=some (isBl d):=by cases d<;>rfl
end L2
namespace L2
open PySem PyProof.Rows
def Lay (L:List Addr) (te:TE) (σ:L2.St) (d:PyData) (H:Hp):Prop:=(∀ b∈L,H b≠none)→∀ H1,Same H H1→∀ Q:VK,(∀ v H',Same H1 H'→At (yb7 H' L) v d→Q v H')→te σ H1 Q
def LayA (L:List Addr) (ta:TA) (σ:L2.St) (ds:List PyData) (H:Hp):Prop:=(∀ b∈L,H b≠none)→∀ H1,Same H H1→∀ Q:List V→Hp→Prop,(∀ vs H',Same H1 H'→AtAll (yb7 H' L) vs ds→Q vs H')→ta σ H1 Q
theorem qhb {L:List Addr}{H H1:Hp}{p:Addr} (hL:∀ b∈L,H b≠none) (s:Same H H1) (hp:H1 p=none):p∉L:=fun z=>by
 cases e:H p with
 | none=>exact hL p z e
 | some o=>rw[s _ _ e] at hp;cases hp
section
variable {K:PySem.W.Frag}{σ:L2.St}{H:Hp}{te tf:TE}{ta:TA}{d:PyData}{ds es:List PyData}{L:List Addr}
theorem ybo:LayA L tNil σ [] H:=fun hL H1 s Q k=>k [] H1 (Same.refl H1) .nil
theorem yak (h:Lay L te σ d H) (r:LayA L ta σ ds H):LayA L (ycd te ta) σ (d::ds) H:=fun hL H1 s Q k=>
 h hL H1 s _ fun v H2 s2 a2=>r hL H2 (s.trans s2) _ fun vs H3 s3 a3=>k (v::vs) H3 (s2.trans s3) (.cons (a2.same (ybj s3 L)) a3)
theorem qhw {H0 H2:Hp}{p:Addr}{vs:List V} (hL:∀ b∈L,H0 b≠none) (s:Same H0 H2) (hp:H2 p=none) (a:AtAll (yb7 H2 L) vs ds):At (yb7 (upd H2 p (.tup vs)) L) (.ref p) (.tuple ds):=
 .tup (by rw[ydp (qhb hL s hp)];exact yaa) (a.same (ybj ((Same.refl H2).upd hp) L))
theorem yfg {H0 H2:Hp}{p:Addr}{vs:List V} (hL:∀ b∈L,H0 b≠none) (s:Same H0 H2) (hp:H2 p=none) (a:AtAll (yb7 H2 L) vs ds):At (yb7 (upd H2 p (.lst vs)) L) (.ref p) (.list ds):=
 .lst (by rw[ydp (qhb hL s hp)];exact yaa) (a.same (ybj ((Same.refl H2).upd hp) L))
theorem ydc (h:LayA L ta σ ds H) (z:ds.length≤1000:=by exact Nat.le_of_ble_eq_true rfl):Lay L (tTup ta) σ (.tuple ds) H:=fun hL H1 s Q k=>
 h hL H1 s _ fun vs H2 s2 a2=>⟨by rw[a2.length];exact Nat.le_trans z (by decide),fun p hp=>k _ _ (s2.upd hp) (qhw hL (s.trans s2) hp a2)⟩
theorem qb0 (h:LayA L ta σ ds H) (z:ds.length≤1000:=by exact Nat.le_of_ble_eq_true rfl):Lay L (tLst ta) σ (.list ds) H:=fun hL H1 s Q k=>
 h hL H1 s _ fun vs H2 s2 a2=>⟨by rw[a2.length];exact Nat.le_trans z (by decide),fun p hp=>k _ _ (s2.upd hp) (yfg hL (s.trans s2) hp a2)⟩
theorem qfp:Lay L (tC .non) σ .none H:=fun hL H1 s Q k=>k _ H1 (Same.refl H1) .non
theorem yg9 {b:Bool}:Lay L (tC (.bl b)) σ (.bool b) H:=fun hL H1 s Q k=>k _ H1 (Same.refl H1) (.bl b)
theorem yc6 {i:Int}:Lay L (tC (.int i)) σ (.int i) H:=fun hL H1 s Q k=>k _ H1 (Same.refl H1) (.int i)
theorem qct {x:Str}:Lay L (tC (.str x)) σ (.str x) H:=fun hL H1 s Q k=>k _ H1 (Same.refl H1) (.str x)
theorem ycu {i:Nat}{v:V} (hσ:σ[i]?=some (some v)) (h:At (yb7 H L) v d):Lay L (tVar i) σ d H:=fun hL H1 s Q k=>⟨v,hσ,k v H1 (Same.refl H1) (h.same (ybj s L))⟩
theorem qfu (h1:Lay L te σ (.list ds) H) (h2:Lay L tf σ (.list es) H) (z:ds.length+es.length≤1000):Lay L (tOp rCat te tf) σ (.list (ds++es)) H:=fun hL H1 s Q k=>
 h1 hL H1 s _ fun v H2 s2 a2=>h2 hL H2 (s.trans s2) _ fun u H3 s3 a3=>by
  obtain ⟨a,vs,rfl,ha,hw⟩:=(a2.same (ybj s3 L)).lstEq
  obtain ⟨b,us,rfl,hb,hu⟩:=a3.lstEq
  exact ⟨a,b,vs,us,rfl,rfl,yau _ _ _ _ ha,yau _ _ _ _ hb,by rw[hw.length,hu.length];exact Nat.le_trans z (by decide),fun p hp=>k _ _ ((s2.trans s3).upd hp) (yfg hL ((s.trans s2).trans s3) hp (hw.append hu))⟩
theorem qe3 {H:Hp}{vs:List V}{ds:List PyData} (h:AtAll H vs ds):∀ n,AtAll H (List.replicate n vs).flatten (List.replicate n ds).flatten
 | 0=>.nil
 | n+1=>by
  rw[List.replicate_succ,List.replicate_succ,List.flatten_cons,List.flatten_cons]
  exact h.append (qe3 h n)
theorem lay_rep {n:Nat} (h1:Lay L te σ (.list ds) H) (hn:n≤1000) (z:ds.length*n≤1000):Lay L (tOp rRep te (tC (.int n))) σ (.list (List.replicate n ds).flatten) H:=fun hL H1 s Q k=>
 h1 hL H1 s _ fun v H2 s2 a2=>by
  obtain ⟨a,vs,rfl,ha,hw⟩:=a2.lstEq
  refine ⟨a,n,vs,rfl,rfl,yau _ _ _ _ ha,by omega,by omega,by rw[hw.length,Int.toNat_natCast];exact Nat.le_trans z (by decide),fun p hp=>k _ _ (s2.upd hp) ?_⟩
  rw[Int.toNat_natCast]
  exact yfg hL (s.trans s2) hp (qe3 hw n)
def rTupOf (K:PySem.W.Frag):List V→Hp→VK→Prop:=fun xs H Q=>∃ p ys,xs=[.ref p]∧((SqL K H p ys∧∀ l,H l=none→Q (.ref l) (upd H l (.tup ys)))∨(SqT K H p ys∧Q (.ref p) H))
theorem qhx (h1:Lay L te σ (.list ds) H):Lay L (tCB (rTupOf K) (ycd te tNil)) σ (.tuple ds) H:=fun hL H1 s Q k=>
 h1 hL H1 s _ fun v H2 s2 a2=>by
  obtain ⟨a,vs,rfl,ha,hw⟩:=a2.lstEq
  exact ⟨a,vs,rfl,.inl ⟨SqL.of (yau _ _ _ _ ha),fun p hp=>k _ _ (s2.upd hp) (qhw hL (s.trans s2) hp hw)⟩⟩
theorem gn {i:Nat}{v:V}{σ:L2.St}{H:Hp}{Q:L2.St→Hp→Prop} (h:Q (σ.set i (some v)) H):qgh i v σ H Q:=h
theorem lay_go {Q:VK} (h:Lay L te σ d H) (hL:∀ b∈L,H b≠none) (k:∀ v H',Same H H'→At (yb7 H' L) v d→Q v H'):te σ H Q:=h hL H (Same.refl H) Q k
theorem lay_set {i:Nat}{rest:TS}{KK:Ends} (h:Lay [] te σ d H) (k:∀ v H',Same H H'→At H' v d→rest KK (σ.set i (some v)) H'):tSeq (tAsg te (qgh i)) rest KK σ H:=
 h (fun b hb=>by cases hb) H (Same.refl H) _ fun v H' s a=>k v H' s (a.same (yau _ _))
end
end L2
namespace L2
open PySem PySem.Spec PyProof.Rows
theorem qgn {x y:Int} (h0:0<y) (h1:y≤18446744073709551616):Builtin.divisionGoesByPylong x y=false:=by
 have hl:y.natAbs.log2<65:=(Nat.log2_lt (by omega)).mpr (by omega)
 unfold Builtin.divisionGoesByPylong
 have e:decide ((if (y == 0)=true then 0 else y.natAbs.log2 / 30+1)>300)=false:=by
  refine decide_eq_false ?_
  rw[if_neg (by simp;omega)]
  omega
 show (decide ((if (y == 0)=true then 0 else y.natAbs.log2 / 30+1)>300)&&_)=false
 rw[e]
 rfl
section
variable {X:Cx}
def CDivB (_ j:Int):Prop:=0<j∧j≤18446744073709551616
theorem op_fdivB:OpR X (binaryOp .FloorDiv) (rI CDivB fun i j=>.int (i / j)):=opI fun i j _ _ _ _ _ hc q=>by
 have h1:(0:Int)<j:=hc.1
 exact floordiv_int (by omega) (by rw[Int.fdiv_eq_ediv_of_nonneg i (by omega)];exact q) (.inl (qgn hc.1 hc.2))
end
section
variable {X:Cx}{pins:List (Addr×Obj)}{σ:St}{H:Hp}{s:Shared}{a:Addr}{kvs:List (Key×V)}
theorem KV.at_ {kvs:List (Key×V)}{vs:List (Key×Value)} (r:KV kvs vs):∀ {i:Nat},i<kvs.length→∃ k v u,kvs[i]?=some (k,v)∧vs[i]?=some (k,u)∧RelV v u:=by
 induction r with
 | nil=>intro i h;exact absurd h (Nat.not_lt_zero _)
 | @cons p q l1 l2 h _ ih=>
  intro i hi
  cases i with
  | zero=>exact ⟨p.1,p.2,q.2,rfl,by rw[h.1];rfl,h.2⟩
  | succ i=>exact ih (i:=i) (by simpa using hi)
end
end L2
namespace L2
open PySem PySem.Spec PyProof.Rows PySem.W
section
variable {cmp:Nat→Nat→(Bool→Shared→Prop)→Shared→Prop}{Ok:Shared→Prop}{g:Nat→Int}{n:Nat}
def Ans (cmp:Nat→Nat→(Bool→Shared→Prop)→Shared→Prop) (Ok:Shared→Prop) (g:Nat→Int) (n:Nat):Prop:=
 ∀ i j C s,i<n→j<n→Ok s→(∀ s',Ok s'→C (decide (g i<g j)) s')→cmp i j C s
def Gk (g:Nat→Int) (p:Array Nat) (k:Nat):Int:=g (p.getD k 0)
def UpTo (g:Nat→Int) (p:Array Nat) (k:Nat):Prop:=∀ i j,i≤j→j<k→Gk g p i≤Gk g p j
def DnTo (g:Nat→Int) (p:Array Nat) (k:Nat):Prop:=∀ i j,i≤j→j<k→Gk g p j≤Gk g p i
def PmN (p:Array Nat) (n:Nat):Prop:=p.Perm (List.toArray (List.range n))
theorem PmN.size {p:Array Nat} (h:PmN p n):p.size=n:=by rw[h.size_eq];simp
theorem PmN.lt {p:Array Nat} (h:PmN p n) {k:Nat} (hk:k<n):p.getD k 0<n:=by
 have hs:k<p.size:=by rw[h.size];exact hk
 have e:p.getD k 0=p[k]:=by simp[Array.getD,hs]
 rw[e]
 have:p[k]∈List.toArray (List.range n):=h.mem_iff.mp (Array.getElem_mem hs)
 simpa using this
theorem qcl {p q:Array Nat}{i j:Nat} (h:p[i]?=q[j]?):Gk g p i=Gk g q j:=by
 unfold Gk;rw[← Array.getD_eq_getD_getElem?.symm,← Array.getD_eq_getD_getElem?.symm];simp[Array.getD_eq_getD_getElem?,h]
theorem qey {p:Array Nat}{src d:Nat} (hs:src<p.size) (hd:d≤src) (k:Nat):Gk g (bubble p src d) k=if k=src-d then Gk g p src else if src-d<k∧k≤src then Gk g p (k-1) else Gk g p k:=by
 have e:=getElem?_bubble hs d hd k
 by_cases h1:k=src-d
 ·rw[if_pos h1] at e ⊢;exact qcl e
 ·rw[if_neg h1] at e ⊢
  by_cases h2:src-d<k∧k≤src
  ·rw[if_pos h2] at e ⊢;exact qcl e
  ·rw[if_neg h2] at e ⊢;exact qcl e
theorem yhn {p:Array Nat}{i j:Nat} (hj:j≤p.size) (k:Nat):Gk g (kas_rev p i j) k=if i≤k∧k<j then Gk g p (i+j-1-k) else Gk g p k:=by
 have e:=getElem?_mirror_all (xs:=p) (i:=i) hj k
 unfold kas_rev
 by_cases h1:i≤k∧k<j
 ·rw[if_pos h1] at e ⊢;exact qcl e
 ·rw[if_neg h1] at e ⊢;exact qcl e
theorem ycj {p:Array Nat}{i j:Nat} (hj:j≤p.size) (heq:∀ k,i≤k→k<j→Gk g p k=Gk g p (j-1)) (k:Nat):Gk g (kas_rev p i j) k=Gk g p k:=by
 rw[yhn hj]
 split
 ·rw[heq _ (by omega) (by omega),heq k (by omega) (by omega)]
 ·rfl
theorem PmN.rev {p:Array Nat} (h:PmN p n) (i j:Nat):PmN (kas_rev p i j) n:=(mirror_perm p i j _).trans h
theorem PmN.bub {p:Array Nat} (h:PmN p n) (i j:Nat):PmN (bubble p i j) n:=(bubble_perm p i j).trans h
theorem t_asc (hc:Ans cmp Ok g n) {p:Array Nat} (hp:PmN p n) {Q:Nat→Shared→Prop}:∀ (f m:Nat) (s:Shared),1≤m→m+f=n→UpTo g p m→Ok s→
  (∀ m' s',Ok s'→m≤m'→m'≤n→UpTo g p m'→(m' < n→Gk g p m' < Gk g p (m' - 1))→Q m' s')→(kas_asc p f m).kasWp cmp Q s
 | 0,m,s,h1,hf,hu,ok,q=>q m s ok (Nat.le_refl _) (by omega) hu (by omega)
 | f+1,m,s,h1,hf,hu,ok,q=>by
  refine hc _ _ _ s (hp.lt (by omega)) (hp.lt (by omega)) ok fun s' ok'=>?_
  by_cases hl:Gk g p m<Gk g p (m-1)
  ·rw[show decide (g (p.getD m 0)<g (p.getD (m-1) 0))=true from decide_eq_true hl]
   exact q m s' ok' (Nat.le_refl _) (by omega) hu fun _=>hl
  ·rw[show decide (g (p.getD m 0)<g (p.getD (m-1) 0))=false from decide_eq_false hl]
   refine t_asc hc hp f (m+1) s' (by omega) (by omega) (fun i j hij hj=>?_) ok' fun m' s'' o1 o2 o3 o4 o5=>q m' s'' o1 (by omega) o3 o4 o5
   by_cases hjm:j<m
   ·exact hu i j hij hjm
   ·have e:j=m:=by omega
    subst e
    by_cases hi:i=j
    ·subst hi;exact Int.le_refl _
    ·exact Int.le_trans (hu i (j-1) (by omega) (by omega)) (Int.not_lt.mp hl)
theorem qg9 (hc:Ans cmp Ok g n) {Q:Array Nat×Nat×Nat→Shared→Prop}:∀ (f:Nat) (p:Array Nat) (m q:Nat) (s:Shared),PmN p n→1≤m→m+f=n→DnTo g p m→q+1≤m→(∀ i,m-(q+1)≤i→i<m→Gk g p i=Gk g p (m-1))→Ok s→
  (∀ p' m' q' s',Ok s'→PmN p' n→m≤m'→m'≤n→DnTo g p' m'→q' + 1≤m'→(∀ i,m' - (q' + 1)≤i→i<m'→Gk g p' i=Gk g p' (m' - 1))→Q (p',m',q') s')→(kas_desc f p m q).kasWp cmp Q s
 | 0,p,m,q,s,hp,h1,hf,hd,hq,he,ok,k=>k p m q s ok hp (Nat.le_refl _) (by omega) hd hq he
 | f+1,p,m,q,s,hp,h1,hf,hd,hq,he,ok,k=>by
  refine hc _ _ _ s (hp.lt (by omega)) (hp.lt (by omega)) ok fun s' ok'=>?_
  have hsz:m≤p.size:=by rw[hp.size];omega
  by_cases hl:Gk g p m<Gk g p (m-1)
  ·rw[show decide (g (p.getD m 0)<g (p.getD (m-1) 0))=true from decide_eq_true hl]
   have step1:∀ xs:Array Nat,(∀ k,Gk g xs k=Gk g p k)→DnTo g xs (m+1):=by
    intro xs hk i j hij hj
    rw[hk,hk]
    by_cases hjx:j<m
    ·exact hd i j hij hjx
    ·have hj':j=m:=by omega
     subst hj'
     by_cases hi':i=j
     ·subst hi';exact Int.le_refl _
     ·exact Int.le_trans (Int.le_of_lt hl) (hd i (j-1) (by omega) (by omega))
   have fin:∀ xs:Array Nat,PmN xs n→(∀ k,Gk g xs k=Gk g p k)→(kas_desc f xs (m+1) 0).kasWp cmp Q s':=fun xs hx hk=>
    qg9 hc f xs (m+1) 0 s' hx (by omega) (by omega) (step1 xs hk) (by omega) (fun i h1 h2=>by congr 1;omega) ok' fun p' m' q' s'' o1 o2 o3=>k p' m' q' s'' o1 o2 (by omega)
   show (if q>0 then _ else _:KasT _).kasWp cmp Q s'
   by_cases hneq:q>0
   ·rw[if_pos hneq]
    exact fin _ (hp.rev _ _) (ycj hsz he)
   ·rw[if_neg hneq]
    exact fin _ hp fun _=>rfl
  ·rw[show decide (g (p.getD m 0)<g (p.getD (m-1) 0))=false from decide_eq_false hl]
   refine hc _ _ _ s' (hp.lt (by omega)) (hp.lt (by omega)) ok' fun s2 ok2=>?_
   by_cases hl2:Gk g p (m-1)<Gk g p m
   ·rw[show decide (g (p.getD (m-1) 0)<g (p.getD m 0))=true from decide_eq_true hl2]
    exact k p m q s2 ok2 hp (Nat.le_refl _) (by omega) hd hq he
   ·rw[show decide (g (p.getD (m-1) 0)<g (p.getD m 0))=false from decide_eq_false hl2]
    have heqx:Gk g p m=Gk g p (m-1):=by omega
    refine qg9 hc f p (m+1) (q+1) s2 hp (by omega) (by omega) (fun i j hij hj=>?_) (by omega) (fun i h1 h2=>?_) ok2 fun p' m' q' s'' o1 o2 o3=>k p' m' q' s'' o1 o2 (by omega)
    ·by_cases hjx:j<m
     ·exact hd i j hij hjx
     ·have hj':j=m:=by omega
      subst hj'
      by_cases hi':i=j
      ·subst hi';exact Int.le_refl _
      ·rw[heqx];exact hd i (j-1) (by omega) (by omega)
    ·rw[show m+1-1=m by omega]
     by_cases hix:i=m
     ·subst hix;rfl
     ·rw[heqx];exact he i (by omega) (by omega)
end
section
variable {cmp:Nat→Nat→(Bool→Shared→Prop)→Shared→Prop}{Ok:Shared→Prop}{g:Nat→Int}{n:Nat}
theorem qg4 (hc:Ans cmp Ok g n) {p:Array Nat} (hp:PmN p n) {Q:Nat×Array Nat→Shared→Prop}{m:Nat}{s:Shared} (h1:1≤m) (hm:m≤n) (hd:DnTo g p m) (ok:Ok s)
  (q:∀ m' p' s',Ok s'→PmN p' n→1≤m'→m'≤n→UpTo g p' m'→Q (m',p') s'):(kas_tail3 m n p).kasWp cmp Q s:=by
 unfold kas_tail3
 rw[KasT.kasWp_bind]
 have hsz:m≤p.size:=by rw[hp.size];exact hm
 refine t_asc hc (hp.rev 0 m) (n-m) m s h1 (by omega) (fun i j hij hj=>?_) ok fun m' s' o1 o2 o3 o4 _=>q m' _ s' o1 (hp.rev 0 m) (by omega) o3 o4
 rw[yhn hsz,yhn hsz,if_pos ⟨Nat.zero_le _,by omega⟩,if_pos ⟨Nat.zero_le _,hj⟩]
 exact hd _ _ (by omega) (by omega)
theorem qdv (hc:Ans cmp Ok g n) {p:Array Nat} (hp:PmN p n) {Q:Nat×Array Nat→Shared→Prop}{m:Nat}{s:Shared} (hm:m+1≤n) (hd:DnTo g p (m+1)) (ok:Ok s)
  (q:∀ m' p' s',Ok s'→PmN p' n→1≤m'→m'≤n→UpTo g p' m'→Q (m',p') s'):(kas_descPart m n p).kasWp cmp Q s:=by
 unfold kas_descPart
 rw[KasT.kasWp_bind]
 refine qg9 hc (n-(m+1)) p (m+1) 0 s hp (by omega) (by omega) hd (by omega) (fun i h1 h2=>by congr 1;omega) ok fun p' m' q' s' o1 o2 o3 o4 o5 o6 o7=>?_
 have hsz:m'≤p'.size:=by rw[o2.size];exact o4
 show (if q' > 0 then _ else _:KasT _).kasWp cmp Q s'
 by_cases hq:q' > 0
 ·rw[if_pos hq]
  refine qg4 (m:=m') hc (o2.rev _ _) (by omega) o4 (fun i j hij hj=>?_) o1 q
  show Gk g (kas_rev p' (m' - (q' + 1)) m') j≤Gk g (kas_rev p' (m' - (q' + 1)) m') i
  rw[ycj hsz o7,ycj hsz o7]
  exact o5 i j hij hj
 ·rw[if_neg hq]
  exact qg4 (m:=m') hc o2 (by omega) o4 o5 o1 q
theorem t_count (hc:Ans cmp Ok g n) {p:Array Nat} (hp:PmN p n) {Q:Nat×Array Nat→Shared→Prop}{s:Shared} (h1:1≤n) (ok:Ok s)
  (q:∀ m' p' s',Ok s'→PmN p' n→1≤m'→m'≤n→UpTo g p' m'→Q (m',p') s'):(kas_count n p).kasWp cmp Q s:=by
 unfold kas_count
 rw[KasT.kasWp_bind]
 refine t_asc hc hp (n-1) 1 s (Nat.le_refl _) (by omega) (fun i j hij hj=>by rw[show i=j by omega];exact Int.le_refl _) ok fun m s' o1 o2 o3 o4 o5=>?_
 by_cases hm:m=n
 ·rw[if_pos (by simp[hm])]
  exact q m p s' o1 hp o2 o3 o4
 ·rw[if_neg (by simp[hm])]
  have hlt:=o5 (by omega)
  by_cases h2:m>1
  ·rw[if_pos h2]
   refine hc _ _ _ s' (hp.lt (by omega)) (hp.lt (by omega)) o1 fun s2 ok2=>?_
   by_cases hl:Gk g p 0<Gk g p (m-1)
   ·rw[show decide (g (p.getD 0 0)<g (p.getD (m-1) 0))=true from decide_eq_true hl]
    exact q m p s2 ok2 hp o2 o3 o4
   ·rw[show decide (g (p.getD 0 0)<g (p.getD (m-1) 0))=false from decide_eq_false hl]
    have hsz:m≤p.size:=by rw[hp.size];exact o3
    have all:∀ k,0≤k→k<m→Gk g p k=Gk g p (m-1):=fun k _ hk=>by
     have a:=o4 0 k (Nat.zero_le _) hk
     have b:=o4 k (m-1) (by omega) (by omega)
     omega
    refine qdv hc (hp.rev 0 m) (by omega) (fun i j hij hj=>?_) ok2 q
    rw[ycj hsz all,ycj hsz all]
    by_cases hj':j<m
    ·rw[all i (Nat.zero_le _) (by omega),all j (Nat.zero_le _) hj'];exact Int.le_refl _
    ·have e:j=m:=by omega
     subst e
     by_cases hi:i=j
     ·subst hi;exact Int.le_refl _
     ·rw[all i (Nat.zero_le _) (by omega)];omega
  ·rw[if_neg h2]
   have e:m=1:=by omega
   subst e
   refine qdv hc hp (by omega) (fun i j hij hj=>?_) o1 q
   by_cases hi:i=j
   ·subst hi;exact Int.le_refl _
   ·rw[show i=0 by omega,show j=1 by omega];exact Int.le_of_lt hlt
theorem qfd (hc:Ans cmp Ok g n) {p:Array Nat} (hp:PmN p n) {k:Nat} (hk:k<n) (hu:UpTo g p k) {Q:Nat→Shared→Prop}:∀ (f l r:Nat) (s:Shared),l≤r→r≤k→r-l≤f→(∀ i,i<l→Gk g p i≤Gk g p k)→(∀ i,r≤i→i<k→Gk g p k<Gk g p i)→Ok s→
  (∀ l s',Ok s'→l≤k→(∀ i,i<l→Gk g p i≤Gk g p k)→(∀ i,l≤i→i<k→Gk g p k<Gk g p i)→Q l s')→(kas_place p k f l r).kasWp cmp Q s
 | 0,l,r,s,h1,h2,h3,hlo,hhi,ok,q=>q l s ok (by omega) hlo fun i a b=>hhi i (by omega) b
 | f+1,l,r,s,h1,h2,h3,hlo,hhi,ok,q=>by
  show (if l≥r then _ else _:KasT _).kasWp cmp Q s
  by_cases hge:l≥r
  ·rw[if_pos hge]
   exact q l s ok (by omega) hlo fun i a b=>hhi i (by omega) b
  ·rw[if_neg hge]
   refine hc _ _ _ s (hp.lt hk) (hp.lt (by omega)) ok fun s' ok'=>?_
   by_cases hl:Gk g p k<Gk g p ((l+r) / 2)
   ·rw[show decide (g (p.getD k 0)<g (p.getD ((l+r) / 2) 0))=true from decide_eq_true hl]
    exact qfd hc hp hk hu f l ((l+r) / 2) s' (by omega) (by omega) (by omega) hlo (fun i a b=>Int.lt_of_lt_of_le hl (hu _ _ a b)) ok' q
   ·rw[show decide (g (p.getD k 0)<g (p.getD ((l+r) / 2) 0))=false from decide_eq_false hl]
    exact qfd hc hp hk hu f ((l+r) / 2+1) r s' (by omega) (by omega) (by omega) (fun i a=>Int.le_trans (hu i ((l+r) / 2) (by omega) (by omega)) (Int.not_lt.mp hl)) hhi ok' q
theorem t_bin (hc:Ans cmp Ok g n) {Q:Array Nat→Shared→Prop}:∀ (f:Nat) (p:Array Nat) (k:Nat) (s:Shared),PmN p n→k+f=n→UpTo g p k→Ok s→(∀ p' s',Ok s'→PmN p' n→UpTo g p' n→Q p' s')→(kas_bin f p k).kasWp cmp Q s
 | 0,p,k,s,hp,hf,hu,ok,q=>q p s ok hp (by rw[← hf];exact hu)
 | f+1,p,k,s,hp,hf,hu,ok,q=>by
  unfold kas_bin
  rw[KasT.kasWp_bind]
  refine qfd hc hp (by omega) hu k 0 k s (Nat.zero_le _) (Nat.le_refl _) (by omega) (fun i h=>by omega) (fun i a b=>by omega) ok fun l s' ok' hl hlo hhi=>?_
  have hs:k<p.size:=by rw[hp.size];omega
  refine t_bin hc f _ (k+1) s' (hp.bub k (k-l)) (by omega) (fun i j hij hj=>?_) ok' q
  rw[qey hs (by omega),qey hs (by omega),show k-(k-l)=l by omega]
  by_cases ei:i=l
  ·rw[if_pos ei]
   by_cases ej:j=l
   ·rw[if_pos ej];exact Int.le_refl _
   ·rw[if_neg ej,if_pos (by omega)];exact Int.le_of_lt (hhi _ (by omega) (by omega))
  ·rw[if_neg ei]
   by_cases i2:l<i∧i≤k
   ·rw[if_pos i2,if_neg (by omega),if_pos (by omega)];exact hu _ _ (by omega) (by omega)
   ·rw[if_neg i2]
    by_cases ej:j=l
    ·rw[if_pos ej];exact hlo i (by omega)
    ·rw[if_neg ej]
     by_cases j2:l<j∧j≤k
     ·rw[if_pos j2];exact hu _ _ (by omega) (by omega)
     ·rw[if_neg j2];exact hu _ _ hij (by omega)
theorem t_sort (hc:Ans cmp Ok g n) (h1:1≤n) {Q:Array Nat→Shared→Prop}{s:Shared} (ok:Ok s) (q:∀ p s',Ok s'→PmN p n→UpTo g p n→Q p s'):(kas_sort n).kasWp cmp Q s:=by
 unfold kas_sort
 rw[KasT.kasWp_bind]
 refine t_count hc (p:=List.toArray (List.range n)) (Array.Perm.refl _) h1 ok fun m p s' o1 o2 o3 o4 o5=>?_
 show (if m<n then _ else _:KasT _).kasWp cmp Q s'
 by_cases hm:m<n
 ·rw[if_pos hm]
  exact t_bin hc _ p (max m 1) s' o2 (by omega) (by rw[show max m 1=m by omega];exact o5) o1 q
 ·rw[if_neg hm]
  exact q p s' o1 o2 (by rw[show n=m by omega];exact o5)
end
def numL:List Int→Int
 | []=>0
 | x::xs=>x*4096 ^ xs.length+numL xs
def Sml (xs:List Int):Prop:=∀ x∈xs,0≤x∧x<4096
theorem yfs:∀ {xs:List Int},Sml xs→0≤numL xs∧numL xs<4096 ^ xs.length
 | [],_=>⟨Int.le_refl _,by show (0:Int)<4096 ^ 0;decide⟩
 | x::xs,h=>by
  obtain ⟨a,b⟩:=yfs (xs:=xs) fun y hy=>h y (List.mem_cons_of_mem _ hy)
  obtain ⟨c,d⟩:=h x (List.mem_cons_self ..)
  have hp:(0:Int)<4096 ^ xs.length:=Int.pow_pos (by decide)
  have e:(4096:Int) ^ (x::xs).length=4096*4096 ^ xs.length:=by rw[List.length_cons,Int.pow_succ,Int.mul_comm]
  have m1:0≤x*4096 ^ xs.length:=Int.mul_nonneg c (Int.le_of_lt hp)
  have m2:x*4096 ^ xs.length≤4095*4096 ^ xs.length:=Int.mul_le_mul_of_nonneg_right (by omega) (Int.le_of_lt hp)
  unfold numL
  rw[e]
  generalize x*4096 ^ xs.length=z at *
  generalize (4096:Int) ^ xs.length=u at *
  constructor<;>omega
theorem yhp {x y:Int}{xs ys:List Int} (hl:xs.length=ys.length) (hx:Sml (x::xs)) (hy:Sml (y::ys)) (h:x<y):numL (x::xs)<numL (y::ys):=by
 obtain ⟨a,b⟩:=yfs (xs:=xs) fun z hz=>hx z (List.mem_cons_of_mem _ hz)
 obtain ⟨c,d⟩:=yfs (xs:=ys) fun z hz=>hy z (List.mem_cons_of_mem _ hz)
 have hp:(0:Int)<4096 ^ ys.length:=Int.pow_pos (by decide)
 rw[hl] at b
 unfold numL
 rw[hl]
 have m:(x+1)*4096 ^ ys.length≤y*4096 ^ ys.length:=Int.mul_le_mul_of_nonneg_right (by omega) (Int.le_of_lt hp)
 rw[Int.add_mul] at m
 generalize x*4096 ^ ys.length=u at *
 generalize y*4096 ^ ys.length=v at *
 generalize (4096:Int) ^ ys.length=q at *
 omega
section
variable {prog:Program}{w:World}{A:Around}{E:Value→Shared→Prop}{s:Shared}{Q:Bool→Shared→Prop}
theorem yf8:∀ {us vs:List Value}{ns ms:List Int} (i:Nat),IntsAre us ns→IntsAre vs ms→ns.length=ms.length→Sml ns→Sml ms→Q (decide (numL ns<numL ms)) s→KatLex prog w A true false Q (us.zip vs) i s
 | _,_,_,_,i,.nil,.nil,_,_,_,h=>kat_nil h
 | _,_,_,_,i,.nil,.cons _ _ _,hl,_,_,_=>by simp at hl
 | _,_,_,_,i,.cons _ _ _,.nil,hl,_,_,_=>by simp at hl
 | _,_,_,_,i,.cons (ns:=ns) n t r,.cons (ns:=ms) m u q,hl,h1,h2,h=>by
  have hl':ns.length=ms.length:=by simpa using hl
  refine kat_cons (wpAny_eqBool_int ?_)
  refine kat_go (fun e=>kat_yes ?_) (fun e=>kat_no ?_)
  ·have e':n=m:=by simpa using e
   subst e'
   refine yf8 (i+1) r q hl' (fun y hy=>h1 y (List.mem_cons_of_mem _ hy)) (fun y hy=>h2 y (List.mem_cons_of_mem _ hy)) ?_
   rw[show decide (numL ns<numL ms)=decide (numL (n::ns)<numL (n::ms)) from decide_eq_decide.mpr (by show _↔n*4096 ^ ns.length+numL ns<n*4096 ^ ms.length+numL ms;rw[hl'];omega)]
   exact h
  ·have e':¬ n=m:=by simpa using e
   have hd:decide (numL (n::ns)<numL (m::ms))=decide (n<m):=by
    refine decide_eq_decide.mpr ⟨fun z=>?_,fun z=>yhp hl' h1 h2 z⟩
    rcases Int.lt_trichotomy n m with a|a|a
    ·exact a
    ·exact absurd a e'
    ·have:=yhp hl'.symm h2 h1 a
     omega
   rw[hd] at h
   cases i with
   | zero=>exact kat_lt_int h
   | succ i=>exact kat_one _ _ (PyProof.Rows.lt_int h)
theorem lt_ints {x y:Addr}{ox oy:Obj}{n k:Nat}{us vs:List Value}{ns ms:List Int} (hx:s.heap.get? x=some ox) (dx:ox.data=.seq us.toArray n) (hy:s.heap.get? y=some oy) (dy:oy.data=.seq vs.toArray k)
  (r:IntsAre us ns) (q:IntsAre vs ms) (hl:ns.length=ms.length) (h1:Sml ns) (h2:Sml ms) (h:Q (decide (numL ns<numL ms)) s):wpAny (model prog w) A (keyLt' (tuples' true) (.ref x) (.ref y)) Q E s:=by
 refine kat_lt hx dx hy dy ?_
 have e1:=r.length
 have e2:=q.length
 have ef:decide (us.toArray.size<vs.toArray.size)=false:=decide_eq_false (by rw[List.size_toArray,List.size_toArray];omega)
 rw[ef]
 exact yf8 0 r q hl h1 h2 h
end
section
variable {prog:Program}{w:World}{A:Around}{E:Value→Shared→Prop}{s:Shared}
theorem sort_by {a:Addr}{vs:List Value}{n:Nat}{κ:SortKind}{g:Nat→Int}{P:PySem.Fin→Shared→Prop} (ho:s.heap.get? a=some (seqObj "list" vs.toArray n)) (h64:vs.length<64)
  (hk:2≤vs.length→∀ s1:Shared,(∀ b o,b≠a→s.heap.get? b=some o→s1.heap.get? b=some o)→∀ (Q:SortKind→Shared→Prop),Q κ s1→wpAny (model prog w) A (keyKind' vs.toArray) Q (fun _ _=>False) s1)
  (hq:∀ s1:Shared,(∀ b o,b≠a→s.heap.get? b=some o→s1.heap.get? b=some o)→∀ i j,i<vs.length→j<vs.length→∀ (C:Bool→Shared→Prop),C (decide (g i<g j)) s1→wpAny (model prog w) A (keyLt' κ (vs.getD i Value.none) (vs.getD j Value.none)) C (fun _ _=>False) s1)
  (h:∀ p:Array Nat,PmN p vs.length→UpTo g p vs.length→P (.done (.ret .none)) { s with heap:=sortedHeap s.heap a vs (List.toArray (p.toList.map fun i=>vs.getD i Value.none)) }) :
  wpAny (model prog w) A (Builtin.«list.sort» ⟨[.ref a],[]⟩) P E s:=by
 rw[list_sort_plain]
 have ha:a<s.heap.objs.size:=Heap.lt_size ho
 refine wpAny_bind (listItems_at ho rfl ?_)
 refine wpAny_bind (listUpdate_at ho rfl ?_)
 obtain ⟨e1,ho1⟩:∃ e1,(s.heap.update a (Obj.mapSeq fun _=>#[])).get? a=some (seqObj "list" #[] e1):=⟨_,get?_update_seq ho (fun _=>#[])⟩
 refine wpAny_bind (seqEpoch_at ho1 rfl ?_)
 refine wpAny_bind (wpAny_newTuple ?_)
 refine wpAny_bind (wpAny_newList ?_)
 refine wpAny_holding ?_
 have ho6:(((s.heap.update a (Obj.mapSeq fun _=>#[])).push (seqObj "tuple" vs.toArray 0)).push (seqObj "list" #[] 0)).get? a=some (seqObj "list" #[] e1):=by
  rw[Heap.get?_push_ne _ _ _ (by rw[size_push',Heap.size_update];exact Nat.ne_of_lt (Nat.lt_succ_of_lt ha)),Heap.get?_push_ne _ _ _ (by rw[Heap.size_update];exact Nat.ne_of_lt ha)]
  exact ho1
 have kp:∀ b o,b≠a→s.heap.get? b=some o→(((s.heap.update a (Obj.mapSeq fun _=>#[])).push (seqObj "tuple" vs.toArray 0)).push (seqObj "list" #[] 0)).get? b=some o:=fun b o hb e=>
  Heap.get?_push_of_some _ (Heap.get?_push_of_some _ ((Heap.get?_update_other _ _ (Ne.symm hb)).trans e))
 show wpAny (model prog w) A _ P E { s with heap:=((s.heap.update a (Obj.mapSeq fun _=>#[])).push (seqObj "tuple" vs.toArray 0)).push (seqObj "list" #[] 0) }
 dsimp only
 have hsz:vs.toArray.size=vs.length:=by simp
 by_cases h2:vs.toArray.size<2
 ·rw[if_pos h2,if_pos h2]
  refine wpAny_bind (wpAny_pure ?_)
  rw[StateT.run_pure]
  refine wpAny_bind (wpAny_pure ?_)
  dsimp only
  refine wpAny_bind (seqEpoch_at ho6 rfl ?_)
  have eo:(arrOf (SortSt.mk' general' (vs.toArray.zip vs.toArray) #[] 7 none)).map (·.2)=List.toArray ((List.toArray (List.range vs.length)).toList.map fun i=>vs.getD i Value.none):=by
   refine kat_snds (ks:=vs) (vs:=vs) rfl (p:=List.toArray (List.range vs.length)) ?_
   have e:=kas_range (vs.toArray.zip vs.toArray)
   rw[show (vs.toArray.zip vs.toArray).size=vs.length by simp] at e
   exact e.symm
  rw[eo]
  refine wpAny_bind (listUpdate_at ho6 rfl ?_ (hsz2:=by rw[List.size_toArray,List.length_map,Array.length_toList,List.size_toArray,List.length_range,sizeLine_eq];omega))
  simp only[bne_self_eq_false,Bool.false_eq_true,if_false]
  refine wpAny_pure (h _ (Array.Perm.refl _) fun i j hij hj=>?_)
  have:i=j:=by omega
  subst this;exact Int.le_refl _
 ·rw[if_neg h2,if_neg h2]
  have h2':2≤vs.length:=by omega
  generalize hs1:({ s with heap:=((s.heap.update a (Obj.mapSeq fun _=>#[])).push (seqObj "tuple" vs.toArray 0)).push (seqObj "list" #[] 0) }:Shared)=s1
  have kp1:∀ b o,b≠a→s.heap.get? b=some o→s1.heap.get? b=some o:=by rw[← hs1];exact kp
  have ho7:s1.heap.get? a=some (seqObj "list" #[] e1):=by rw[← hs1];exact ho6
  refine wpAny_bind (wpAny_mono (hk h2' s1 kp1 (fun κ' s'=>κ'=κ∧s'=s1) ⟨rfl,rfl⟩) ?_ fun _ _ x=>x.elim)
  rintro _ _ ⟨rfl,rfl⟩
  rename_i κ s1
  have ans:Ans (kas_ask prog w A κ vs) (fun s'=>s'=s1) g vs.length:=fun i j C s2 hi hj e k=>by
   have e':s2=s1:=e
   subst e'
   exact hq s2 kp1 i j hi hj C (k s2 rfl)
  refine wpAny_bind (wpAny_mono (kat_run (Q:=fun st' s'=>∃ p:Array Nat,p.size=vs.length∧arrOf st'=p.map (kas_item (vs.toArray.zip vs.toArray))∧failedOf st'=none∧PmN p vs.length∧UpTo g p vs.length∧s'=s1)
   rfl h2' h64 (fun p' st' s' a1 a2 a3 a4=>⟨p',a1,a2,a3,a4⟩) (t_sort ans (by omega) rfl fun p s' ok pm up=>⟨pm,up,ok⟩)) ?_ fun _ _ e=>e)
  rintro ⟨⟨⟩,st'⟩ s' ⟨p,hp,har,hf,pm,up,rfl⟩
  dsimp only
  refine wpAny_bind (seqEpoch_at ho7 rfl ?_)
  rw[kat_snds rfl har]
  refine wpAny_bind (listUpdate_at ho7 rfl ?_ (hsz2:=by rw[List.size_toArray,List.length_map,Array.length_toList,hp,sizeLine_eq];omega))
  rw[hf]
  simp only[bne_self_eq_false,Bool.false_eq_true,if_false]
  refine wpAny_pure ?_
  rw[← hs1]
  exact h p pm up
end
abbrev TL:=Addr×List Int
def TIs (h:Heap) (ts:List TL):Prop:=∀ t∈ts,∃ (o:Obj) (us:List Value) (n:Nat),h.get? t.1=some o∧o.cls=.type "tuple"∧o.data=.seq us.toArray n∧IntsAre us t.2
def yal (ts:List TL):List Value:=ts.map fun t=>Value.ref t.1
def ya6 (ts:List TL):List V:=ts.map fun t=>V.ref t.1
def OkT (m:Nat) (ts:List TL):Prop:=∀ t∈ts,t.2.length=m+1∧Sml t.2
def RiseT (ts:List TL):Prop:=ts.Pairwise fun t u=>numL t.2≤numL u.2
theorem qgs:∀ {h:Heap}{ts:List TL}{m:Nat},TIs h ts→OkT m ts→∃ fs:List Value,KatTups h (yal ts) fs∧fs.length=ts.length∧∀ v∈fs,∃ i t,v=Value.int i t
 | h,[],m,_,_=>⟨[],.nil,rfl,fun v hv=>by simp at hv⟩
 | h,t::ts,m,x,y=>by
  obtain ⟨fs,k1,k2,k3⟩:=qgs (ts:=ts) (fun u hu=>x u (List.mem_cons_of_mem _ hu)) (fun u hu=>y u (List.mem_cons_of_mem _ hu))
  obtain ⟨o,us,n,e1,e2,e3,e4⟩:=x t (List.mem_cons_self ..)
  obtain ⟨y1,_⟩:=y t (List.mem_cons_self ..)
  generalize ht:t.2=ns at *
  cases e4 with
  | nil=>simp at y1
  | cons i tk r=>exact ⟨.int i tk::fs,.cons e1 e2 e3 rfl k1,by simp[k2],fun v hv=>by
    rcases List.mem_cons.mp hv with rfl|hv
    ·exact ⟨i,tk,rfl⟩
    ·exact k3 v hv⟩
theorem qeg:∀ {ts:List TL}{us:List Value},Vals (ya6 ts) us→us=yal ts
 | [],_,.nil=>rfl
 | t::ts,_,.cons r q=>by
  rw[qeg q]
  cases r
  rfl
theorem qez:∀ (ts:List TL),Vals (ya6 ts) (yal ts)
 | []=>.nil
 | t::ts=>.cons rfl (qez ts)
theorem ygm {α:Type} (d:α) (l:List α):(List.range l.length).map (fun i=>l.getD i d)=l:=by
 refine List.ext_getElem? fun i=>?_
 rw[List.getElem?_map]
 by_cases h:i<l.length
 ·rw[List.getElem?_range h,List.getElem?_eq_getElem h]
  simp[List.getD_eq_getElem?_getD,h]
 ·rw[List.getElem?_eq_none (by omega:l.length≤i),List.getElem?_eq_none (by simpa using h)]
  rfl
theorem perm_out {α:Type} (d:α) (l:List α) {p:Array Nat} (h:PmN p l.length):(p.toList.map fun i=>l.getD i d).Perm l:=by
 have:=(Array.perm_iff_toList_perm.mp h).map (fun i=>l.getD i d)
 rw[List.toList_toArray,ygm] at this
 exact this
theorem rise_out {g:Nat→Int}{p:Array Nat}{n:Nat}{α:Type} (f:Nat→α) (key:α→Int) (hs:p.size=n) (hk:∀ i,key (f i)=g i) (h:UpTo g p n):(p.toList.map f).Pairwise fun a b=>key a≤key b:=by
 rw[List.pairwise_iff_getElem]
 intro i j hi hj hij
 rw[List.length_map,Array.length_toList] at hi hj
 have:=h i j (Nat.le_of_lt hij) (by omega)
 rw[List.getElem_map,List.getElem_map,hk,hk]
 unfold Gk at this
 simpa [Array.getD,hi,hj] using this
section
variable {prog:Program}{w:World}{A:Around}{E:Value→Shared→Prop}{s:Shared}
theorem qhp {a:Addr}{ts:List TL}{n m:Nat}{P:PySem.Fin→Shared→Prop} (ho:s.heap.get? a=some (seqObj "list" (yal ts).toArray n)) (h64:ts.length<64) (hT:TIs s.heap ts) (hO:OkT m ts)
  (h:∀ ts':List TL,ts'.Perm ts→RiseT ts'→P (.done (.ret .none)) { s with heap:=sortedHeap s.heap a (yal ts) (yal ts').toArray }) :
  wpAny (model prog w) A (Builtin.«list.sort» ⟨[.ref a],[]⟩) P E s:=by
 have hl:(yal ts).length=ts.length:=List.length_map _
 have kT:∀ s1:Shared,(∀ b o,b≠a→s.heap.get? b=some o→s1.heap.get? b=some o)→TIs s1.heap ts:=fun s1 k t ht=>by
  obtain ⟨o,us,k2,e1,e2,e3,r⟩:=hT t ht
  refine ⟨o,us,k2,k _ _ (fun z=>?_) e1,e2,e3,r⟩
  rw[z,ho] at e1
  cases e1
  exact absurd (Value.type.inj (show Value.type "list" = Value.type "tuple" from e2)) (by decide)
 have hv:∀ i,(yal ts).getD i Value.none=if h:i<ts.length then Value.ref (ts[i]).1 else Value.none:=fun i=>by
  unfold yal
  rw[List.getD_eq_getElem?_getD,List.getElem?_map]
  by_cases h:i<ts.length
  ·rw[dif_pos h,List.getElem?_eq_getElem h];rfl
  ·rw[dif_neg h,List.getElem?_eq_none (by omega)];rfl
 refine sort_by (κ:=tuples' true) (g:=fun i=>numL (ts.getD i (0,[])).2) ho (by omega) (fun h2 s1 k Q q=>?_) (fun s1 k i j hi hj C c=>?_) fun p pm up=>?_
 ·obtain ⟨fs,k1,k2,k3⟩:=qgs (kT s1 k) hO
  refine kat_kind (T:=.type "int") k1 (by omega) (fun v hv=>?_) (by decide) ?_
  ·obtain ⟨i,t,rfl⟩:=k3 v hv
   exact Looks.of_pure rfl
  ·exact q
 ·rw[hl] at hi hj
  rw[hv,hv,dif_pos hi,dif_pos hj]
  obtain ⟨o1,u1,n1,a1,a2,a3,a4⟩:=kT s1 k ts[i] (List.getElem_mem hi)
  obtain ⟨o2,u2,n2,b1,b2,b3,b4⟩:=kT s1 k ts[j] (List.getElem_mem hj)
  obtain ⟨l1,m1⟩:=hO ts[i] (List.getElem_mem hi)
  obtain ⟨l2,m2⟩:=hO ts[j] (List.getElem_mem hj)
  have e1:ts.getD i (0,[])=ts[i]:=by simp[List.getD_eq_getElem?_getD,hi]
  have e2:ts.getD j (0,[])=ts[j]:=by simp[List.getD_eq_getElem?_getD,hj]
  rw[e1,e2] at c
  exact lt_ints a1 a3 b1 b3 a4 b4 (by omega) m1 m2 c
 ·rw[hl] at pm up
  have:=h (p.toList.map fun i=>ts.getD i (0,[])) (perm_out _ _ pm) (rise_out _ (fun t:TL=>numL t.2) pm.size (fun i=>rfl) up)
  have e:(yal (p.toList.map fun i=>ts.getD i (0,[])))=p.toList.map fun i=>(yal ts).getD i Value.none:=by
   unfold yal
   rw[List.map_map]
   refine List.map_congr_left fun i hi=>?_
   have hi':i<ts.length:=by
    have:=(Array.perm_iff_toList_perm.mp pm).mem_iff.mp hi
    simpa using this
   show Value.ref (ts.getD i (0,[])).1=_
   rw[List.getD_eq_getElem?_getD,List.getD_eq_getElem?_getD,List.getElem?_map,List.getElem?_eq_getElem hi']
   rfl
  rw[e] at this
  exact this
theorem ye7 {v:Value}{Q:Value→Shared→Prop}
  (h:wpAny (model prog w) A.in1 (collect v) (fun vs s1=>vs.length<64∧(∀ (s2:Shared),s2={ s1 with heap:=s1.heap.push (seqObj "list" vs.toArray 0) }→
   wpAny (model prog w) A.in1.in1 (Builtin.«list.sort» ⟨[.ref s1.heap.objs.size],[]⟩) (fun f s3=>f=.done (.ret .none)∧Q (.ref s1.heap.objs.size) s3) (fun _ _=>False) s2)) E s) :
  wpAny (model prog w) A (call (.builtin "sorted") [v]) Q E s:=by
 refine Calls.call_function_entry kind_sorted plain_sorted entry_sorted (args_sorted1 v) ?_
 unfold Builtin.«sorted»
 refine wpAny_bind (m:=checkCount "sorted" 1 1 _) ?_
 refine wpAny_pure ?_
 refine wpAny_bind (wpAny_mono h (fun vs s1 hq=>?_) fun _ _ x=>x)
 obtain ⟨h64,k⟩:=hq
 refine wpAny_bind (wpAny_newList ?_ (qd2 (by omega)))
 have gL:(s1.heap.push (seqObj "list" vs.toArray 0)).get? s1.heap.objs.size=some (seqObj "list" vs.toArray 0):=Heap.get?_push_size _ rfl
 refine wpAny_bind (wpAny_holding (wpAny_call_entry slot_list_sort ⟨_,gL,rfl⟩ entry_list_sort (wpAny_mono (k _ rfl) (fun f s3 hf=>?_) fun _ _ x=>x.elim) (args_list_sort _)))
 obtain ⟨rfl,q⟩:=hf
 exact ⟨_,rfl,wpAny_pure ⟨_,rfl,q⟩⟩
end
section
variable {X:Cx}
def rSortT:List V→Hp→VK→Prop:=fun xs H Q=>∃ (l:Addr) (ts:List TL) (m:Nat),xs=[.ref l]∧H l=some (.lst (ya6 ts))∧(∀ t∈ts,H t.1=some (.tup (t.2.map V.int)))∧OkT m ts∧ts.length<64∧
 ∀ (p:Addr) (ts':List TL),H p=none→ts'.Perm ts→RiseT ts'→Q (.ref p) (upd H p (.lst (ya6 ts')))
theorem tis_of {P:Program}{w:World}{H:Hp}{h:Heap} (ok:HOk P w H h) {ts:List TL} (hT:∀ t∈ts,H t.1=some (.tup (t.2.map V.int))):TIs h ts:=fun t ht=>by
 obtain ⟨_,its,r,o,h1,h2,n,h3⟩:=(show yav P w H h t.1 (.tup (t.2.map V.int)) from ok t.1 _ (hT t ht))
 exact ⟨o,its,n,h1,h2,h3,ydu r⟩
theorem TIs.keep {h h':Heap}{ts:List TL} (x:TIs h ts) (k:∀ b o,h.get? b=some o→h'.get? b=some o):TIs h' ts:=fun t ht=>by
 obtain ⟨o,us,n,e1,r⟩:=x t ht
 exact ⟨o,us,n,k _ _ e1,r⟩
theorem ye2 {pins:List (Addr×Obj)}{σ:St}{H:Hp}{s s1:Shared}{ts:List TL}{m:Nat}{Q:VK}{A:Around}{E:Value→Shared→Prop} (I:Inv X pins σ H s) (hh:∃ h' tk,s1={ s with heap:=h',toks:=tk }∧∀ b o,s.heap.get? b=some o→h'.get? b=some o) (hz:s.heap.objs.size≤s1.heap.objs.size)
  (hT:∀ t∈ts,H t.1=some (.tup (t.2.map V.int))) (hO:OkT m ts) (h64:ts.length<64) (q:∀ (p:Addr) (ts':List TL),H p=none→ts'.Perm ts→RiseT ts'→Q (.ref p) (upd H p (.lst (ya6 ts')))) :
  wpAny (model X.prog X.w) A (Builtin.«list.sort» ⟨[.ref s1.heap.objs.size],[]⟩) (fun f s3=>f=.done (.ret .none)∧EP X pins σ Q (.ref s1.heap.objs.size) s3) E { s1 with heap:=s1.heap.push (seqObj "list" (yal ts).toArray 0) }:=by
 obtain ⟨h',tk,rfl,kp⟩:=hh
 have gL:(h'.push (seqObj "list" (yal ts).toArray 0)).get? h'.objs.size=some (seqObj "list" (yal ts).toArray 0):=Heap.get?_push_size _ rfl
 refine qhp (s:={ s with heap:=h'.push (seqObj "list" (yal ts).toArray 0),toks:=tk }) gL h64 ((tis_of I.hok hT).keep fun b o e=>Heap.get?_push_of_some _ (kp b o e)) hO fun ts' hp hr=>⟨rfl,?_⟩
 obtain ⟨ep,ge⟩:=sortedHeap_at (out:=(yal ts').toArray) gL
 have hf:H h'.objs.size=none:=I.hok.fresh hz
 refine ⟨.ref h'.objs.size,_,I.laid (o:=.lst (ya6 ts')) (t':=tk) (fun b o g=>?_) hz ?_,rfl,q _ ts' hf hp hr⟩
 ·have hb:b<h'.objs.size:=Heap.lt_size (kp b o g)
  rw[sortedHeap_old (Nat.ne_of_lt hb) (by rw[show (h'.push (seqObj "list" (yal ts).toArray 0)).objs.size=h'.objs.size+1 from Heap.size_push ..];exact Nat.lt_succ_of_lt hb)]
  exact Heap.get?_push_of_some _ (kp b o g)
 ·exact ⟨qd2 (by unfold ya6;rw[List.length_map,hp.length_eq];omega),yal ts',ep,qez ts',ge⟩
theorem qgf:ybh X (.builtin "sorted") rSortT:=by
 intro pins s σ H xs us Q I r h
 obtain ⟨l,ts,m,rfl,hH,hT,hO,h64,q⟩:=h
 cases r with
 | cons r rr=>
  cases rr
  cases r
  obtain ⟨z,its,n,rv,hl,e⟩:=I.lstM hH
  have ei:=qeg rv
  subst ei
  have hlt:(yal ts).length=ts.length:=List.length_map _
  refine ye7 (collect_list (vs:=yal ts) ⟨_,e,rfl,n,rfl⟩ ⟨by omega,fun s2 hs=>?_⟩ (qd2 (by omega)))
  subst hs
  have kp:∀ b o,s.heap.get? b=some o→((s.heap.push (seqObj "list" #[] 0)).update s.heap.objs.size (Obj.mapSeq (·++(yal ts).toArray))).get? b=some o:=fun b o g=>
   (Heap.get?_update_other _ _ (Ne.symm (Nat.ne_of_lt (Heap.lt_size g)))).trans (Heap.get?_push_of_some _ g)
  exact ye2 (s1:={ s with heap:=(s.heap.push (seqObj "list" #[] 0)).update s.heap.objs.size (Obj.mapSeq (·++(yal ts).toArray)) }) I ⟨_,_,rfl,kp⟩ (by show _≤Array.size _;rw[Heap.size_update,Heap.size_push];exact Nat.le_succ _) hT hO h64 q
end
end L2
namespace L2
open PySem PySem.Spec PyProof.Rows
def Srt (xs:Array Nat):Prop:=∀ (i j:Nat) (x y:Nat),i<j→xs[i]?=some x→xs[j]?=some y→x<y
theorem yd3 (xs:Array Nat) (j:Nat) (hs:Srt xs):∀ (fuel lo hi:Nat),hi-lo≤fuel→lo≤hi→hi≤xs.size→(∀ k x,k<lo→xs[k]?=some x→x<j)→(∀ k x,hi≤k→xs[k]?=some x→j≤x)→
  (∀ k x,k<SetTable.below.go xs j fuel lo hi→xs[k]?=some x→x<j)∧(∀ k x,SetTable.below.go xs j fuel lo hi≤k→xs[k]?=some x→j≤x)∧SetTable.below.go xs j fuel lo hi≤xs.size
 | 0,lo,hi,hf,h1,h2,ha,hb=>by
  have e:lo=hi:=by omega
  subst e
  exact ⟨ha,hb,h2⟩
 | fuel+1,lo,hi,hf,h1,h2,ha,hb=>by
  unfold SetTable.below.go
  by_cases hlt:lo<hi
  ·rw[if_pos hlt]
   have hm:(lo+hi) / 2<xs.size:=by omega
   have hg:xs[(lo+hi) / 2]?=some (xs.getD ((lo+hi) / 2) j):=by
    rw[Array.getD_eq_getD_getElem?,Array.getElem?_eq_getElem hm];rfl
   dsimp only
   by_cases hc:xs.getD ((lo+hi) / 2) j<j
   ·rw[if_pos hc]
    refine yd3 xs j hs fuel _ hi (by omega) (by omega) h2 (fun k x hk hx=>?_) hb
    by_cases he:k=(lo+hi) / 2
    ·subst he;rw[hg] at hx;cases hx;exact hc
    ·have:=hs k ((lo+hi) / 2) x _ (by omega) hx hg
     omega
   ·rw[if_neg hc]
    refine yd3 xs j hs fuel lo _ (by omega) (by omega) (by omega) ha (fun k x hk hx=>?_)
    by_cases he:k=(lo+hi) / 2
    ·subst he;rw[hg] at hx;cases hx;omega
    ·have:=hs ((lo+hi) / 2) k _ x (by omega) hg hx
     omega
  ·rw[if_neg hlt]
   have e:lo=hi:=by omega
   subst e
   exact ⟨ha,hb,h2⟩
theorem yeh {xs:Array Nat} (j:Nat) (hs:Srt xs):(∀ k x,k<SetTable.below xs j→xs[k]?=some x→x<j)∧(∀ k x,SetTable.below xs j≤k→xs[k]?=some x→j≤x)∧SetTable.below xs j≤xs.size:=by
 unfold SetTable.below
 refine yd3 xs j hs xs.size 0 xs.size (by omega) (Nat.zero_le _) (Nat.le_refl _) (fun k x h=>absurd h (Nat.not_lt_zero _)) (fun k x h hx=>?_)
 rw[Array.getElem?_eq_none h] at hx;cases hx
theorem yed {xs:Array Nat}{j n:Nat} (hs:Srt xs) (hn:n≤xs.size) (h1:∀ k x,k<n→xs[k]?=some x→x<j) (h2:∀ k x,n≤k→xs[k]?=some x→j≤x):SetTable.below xs j=n:=by
 obtain ⟨b1,b2,b3⟩:=yeh j hs
 rcases Nat.lt_trichotomy (SetTable.below xs j) n with h|h|h
 ·have hlt:SetTable.below xs j<xs.size:=by omega
  have g:=Array.getElem?_eq_getElem hlt
  have:=h1 _ _ h g
  have:=b2 _ _ (Nat.le_refl _) g
  omega
 ·exact h
 ·have hlt:n<xs.size:=by omega
  have g:=Array.getElem?_eq_getElem hlt
  have:=h2 _ _ (Nat.le_refl _) g
  have:=b1 _ _ h g
  omega
theorem ya4 {α:Type} (xs:Array α) (p:Nat) (x:α) (hp:p≤xs.size) (i:Nat):(SetTable.insertAt xs p x)[i]?=if i<p then xs[i]? else if i=p then some x else xs[i-1]?:=by
 unfold SetTable.insertAt
 have e1:((xs.extract 0 p).push x++xs.extract p xs.size).toList=xs.toList.take p++x::xs.toList.drop p:=by
  simp
  exact List.take_of_length_le (by simp)
 rw[← Array.getElem?_toList,e1]
 have hl:(xs.toList.take p).length=p:=by rw[List.length_take,Array.length_toList];omega
 by_cases h1:i<p
 ·rw[if_pos h1,List.getElem?_append_left (by omega),List.getElem?_take_of_lt h1,Array.getElem?_toList]
 ·rw[if_neg h1,List.getElem?_append_right (by omega),hl]
  by_cases h2:i=p
  ·rw[if_pos h2,h2,Nat.sub_self];rfl
  ·rw[if_neg h2]
   obtain ⟨d,hd⟩:∃ d,i-p=d+1:=⟨i-p-1,by omega⟩
   rw[hd,List.getElem?_cons_succ,List.getElem?_drop,Array.getElem?_toList]
   congr 1
   omega
theorem ygb {xs:Array Nat}{j:Nat} (hs:Srt xs) (hj:xs[SetTable.below xs j]?≠some j):Srt (SetTable.insertAt xs (SetTable.below xs j) j):=by
 obtain ⟨b1,b2,b3⟩:=yeh j hs
 have hgt:∀ k x,SetTable.below xs j≤k→xs[k]?=some x→j<x:=fun k x hk hx=>by
  have h1:=b2 k x hk hx
  by_cases he:x=j
  ·subst he
   by_cases hk2:k=SetTable.below xs x
   ·subst hk2;exact absurd hx hj
   ·have hlt:SetTable.below xs x<xs.size:=by
     have:=(Array.getElem?_eq_some_iff.mp hx).1
     omega
    have g:=Array.getElem?_eq_getElem hlt
    have h2:=hs _ k _ x (by omega) g hx
    have h3:=b2 _ _ (Nat.le_refl _) g
    omega
  ·omega
 intro a b x y hab hx hy
 rw[ya4 _ _ _ b3] at hx hy
 by_cases ha:a<SetTable.below xs j
 ·rw[if_pos ha] at hx
  by_cases hb:b<SetTable.below xs j
  ·rw[if_pos hb] at hy
   exact hs a b x y hab hx hy
  ·rw[if_neg hb] at hy
   have hxj:=b1 a x ha hx
   by_cases hb2:b=SetTable.below xs j
   ·rw[if_pos hb2] at hy;cases hy;exact hxj
   ·rw[if_neg hb2] at hy
    have:=hgt (b-1) y (by omega) hy
    omega
 ·rw[if_neg ha] at hx
  have hb:¬ b<SetTable.below xs j:=by omega
  rw[if_neg hb] at hy
  by_cases ha2:a=SetTable.below xs j
  ·rw[if_pos ha2] at hx
   cases hx
   rw[if_neg (by omega)] at hy
   exact hgt (b-1) y (by omega) hy
  ·rw[if_neg ha2] at hx
   rw[if_neg (by omega)] at hy
   exact hs (a-1) (b-1) x y (by omega) hx hy
theorem qhk (n:Nat):Srt (Array.range n):=by
 intro i j x y hij hx hy
 have h1:=(Array.getElem?_eq_some_iff.mp hx).2
 have h2:=(Array.getElem?_eq_some_iff.mp hy).2
 simp at h1 h2
 omega
theorem srt_of {l:List Nat} (h:l.Pairwise (· < ·)):Srt l.toArray:=by
 intro i j x y hij hx hy
 have hx':l[i]?=some x:=by simpa using hx
 have hy':l[j]?=some y:=by simpa using hy
 obtain ⟨hi,e1⟩:=List.getElem?_eq_some_iff.mp hx'
 obtain ⟨hj,e2⟩:=List.getElem?_eq_some_iff.mp hy'
 have:=List.pairwise_iff_getElem.mp h i j hi hj hij
 rw[e1,e2] at this
 exact this
def TOk (t:SetTable):Prop:=Srt t.place∧t.dummies=#[]
theorem qf4 (j:Nat):SetTable.has #[] j=false:=by
 unfold SetTable.has
 simp
theorem yfo {t:SetTable} (h:TOk t) (j:Nat):t.slot j≠.dummy:=by
 unfold SetTable.slot
 rw[h.2,qf4]
 dsimp only
 split
 ·intro z;cases z
 ·simp
theorem ygh {t:SetTable}{j:Nat} (h:t.slot j=.empty):t.place[SetTable.below t.place j]?≠some j:=by
 intro e
 unfold SetTable.slot at h
 dsimp only at h
 rw[if_pos (by rw[e];simp)] at h
 cases h
theorem ych (t:SetTable) (p:SetTable.Probe):(t.advance p).dummy=p.dummy:=by
 unfold SetTable.advance
 split<;>rfl
theorem qc7 {t:SetTable} (ht:TOk t) (f:Nat→Int) (h:Int):∀ (fuel:Nat) (p:SetTable.Probe) (j:Nat) (d:Option Nat),p.dummy=none→SetTable.probe.go t f h fuel p=some (.empty j d)→t.slot j=.empty∧d=none
 | 0,p,j,d,hp,e=>by
  unfold SetTable.probe.go at e
  cases e
 | fuel+1,p,j,d,hp,e=>by
  unfold SetTable.probe.go at e
  split at e
  ·rename_i hs
   cases e
   exact ⟨hs,hp⟩
  ·rename_i hs
   exact absurd hs (yfo ht _)
  ·split at e
   ·cases e
   ·exact qc7 ht f h fuel _ j d (by rw[ych];exact hp) e
theorem yfj {t:SetTable} (ht:TOk t) {h:Int}{j:Nat}{b:Bool} (e:t.freeSlot h=some (j,b)):t.slot j=.empty:=by
 unfold SetTable.freeSlot at e
 split at e
 ·rename_i j' d hp
  have hq:SetTable.probe.go t (fun _=>h+1) h (10*SetTable.turns t.mask) (t.probeStart h)=some (.empty j' d):=hp
  obtain ⟨h1,h2⟩:=qc7 ht _ _ _ _ _ _ rfl hq
  subst h2
  cases e
  exact h1
 ·cases e
theorem put_ok {t:SetTable} (ht:TOk t) {j:Nat} (h:t.slot j=.empty):TOk (t.put j).1∧(t.put j).1.led=t.led:=by
 refine ⟨⟨ygb ht.1 (ygh h),?_⟩,rfl⟩
 show (if SetTable.has t.dummies j then SetTable.eraseAt t.dummies (SetTable.below t.dummies j) else t.dummies)=#[]
 rw[ht.2,qf4]
 rfl
theorem qb4 (t:SetTable) (n:Nat):TOk (t.standIn n)∧(t.standIn n).led=t.led:=⟨⟨qhk n,rfl⟩,rfl⟩
theorem qet {t:SetTable} (ht:TOk t) (n:Nat):TOk (t.orStandIn n)∧(t.orStandIn n).led=t.led:=by
 unfold SetTable.orStandIn
 split
 ·exact ⟨ht,rfl⟩
 ·exact qb4 t n
theorem yhm {t:SetTable} (ht:TOk t) (es:Array (Int×Value)) (h:Int) (x:Value):TOk (layNew t es h x).2.1∧(layNew t es h x).2.1.led=t.led:=by
 unfold layNew
 split
 ·rename_i j b e
  have hp:=put_ok ht (yfj ht e)
  have ho:=qet hp.1 (SetTable.insertAt es (t.put j).2 (h,x)).size
  exact ⟨ho.1,ho.2.trans hp.2⟩
 ·exact qb4 t _
theorem ycm {α:Type} (f:Nat→Option α):∀ (l:List Nat),l.Pairwise (· < ·)→((l.filterMap fun j=>(f j).map (j,·)).map (·.1)).Pairwise (· < ·):=by
 intro l hl
 have hsub:((l.filterMap fun j=>(f j).map (j,·)).map (·.1)).Sublist l:=by
  induction l with
  | nil=>exact .slnil
  | cons a l ih=>
   rw[List.filterMap_cons]
   have:=ih (List.pairwise_cons.mp hl).2
   cases f a with
   | none=>exact .cons _ this
   | some b=>exact .cons₂ _ this
 exact hl.sublist hsub
theorem qhv {t t':SetTable}{hs:Array Int}{n:Nat}{o:Array Nat} (e:t.relaid hs n=some (t',o)):TOk t'∧t'.led=t.led:=by
 unfold SetTable.relaid SetTable.laid at e
 cases ho:SetTable.layClean (SetTable.sizeAbove n-1) hs with
 | none=>rw[ho] at e;cases e
 | some owner=>
  rw[ho] at e
  cases e
  refine ⟨⟨srt_of ?_,rfl⟩,rfl⟩
  exact ycm (fun j=>owner.getD j none) _ List.pairwise_lt_range
theorem yfn {t:SetTable} (es:Array (Int×Value)) (n:Nat):TOk (relayAll t es n).2.1∧(relayAll t es n).2.1.led=t.led:=by
 unfold relayAll
 split
 ·rename_i t' o e
  dsimp only
  split
  ·exact qhv e
  ·exact qb4 t _
 ·exact qb4 t _
def byTx (w:World):Bool:=w.params.followText "set-order"
def SetL (P:Program) (w:World) (h:Heap) (a:Addr) (ks:List Int):Prop:=
 ∃ o es ep t,h.get? a=some o∧o.ExactSet∧o.data=.set es ep t∧ElemsOf (intKind P w) es.toList∧(∃ ns,IntsAre (es.toList.map (·.2)) ns∧ns.Perm ks)∧es.size<scanBound∧t.fits es.size=true∧TOk t∧(byTx w=true∨t.led=true)
theorem qci {vs' vs:List Value} (p:vs'.Perm vs):∀ {ns:List Int},IntsAre vs ns→∃ ns',IntsAre vs' ns'∧ns'.Perm ns:=by
 induction p with
 | nil=>intro ns h;exact ⟨ns,h,List.Perm.refl _⟩
 | cons x _ ih=>
  intro ns h
  cases h with
  | cons n t r=>
   obtain ⟨ns',h1,h2⟩:=ih r
   exact ⟨n::ns',.cons n t h1,h2.cons n⟩
 | swap x y l=>
  intro ns h
  cases h with
  | cons n t r=>
   cases r with
   | cons m u r=>exact ⟨m::n::_,.cons m u (.cons n t r),List.Perm.swap ..⟩
 | trans _ _ ih1 ih2=>
  intro ns h
  obtain ⟨n1,a1,b1⟩:=ih2 h
  obtain ⟨n2,a2,b2⟩:=ih1 a1
  exact ⟨n2,a2,b2.trans b1⟩
theorem yd5:∀ {vs:List Value}{ns:List Int},IntsAre vs ns→(∀ v∈vs,∃ n t,v=.int n t∧n∈ns)∧∀ n∈ns,∃ t,Value.int n t∈vs
 | _,_,.nil=>⟨fun v h=>by simp at h,fun n h=>by simp at h⟩
 | _,_,.cons n t r=>by
  obtain ⟨h1,h2⟩:=yd5 r
  refine ⟨fun v hv=>?_,fun m hm=>?_⟩
  ·rcases List.mem_cons.mp hv with rfl|hv
   ·exact ⟨n,t,rfl,List.mem_cons_self ..⟩
   ·obtain ⟨m,u,e,hm⟩:=h1 v hv
    exact ⟨m,u,e,List.mem_cons_of_mem _ hm⟩
  ·rcases List.mem_cons.mp hm with rfl|hm
   ·exact ⟨t,List.mem_cons_self ..⟩
   ·obtain ⟨u,hu⟩:=h2 m hm
    exact ⟨u,List.mem_cons_of_mem _ hu⟩
theorem qe9:∀ {vs:List Value}{ns:List Int} (k:Int) (t:Tok),IntsAre vs ns→IntsAre (vs++[.int k t]) (ns++[k])
 | _,_,k,t,.nil=>.cons k t .nil
 | _,_,k,t,.cons n u r=>.cons n u (qe9 k t r)
section
variable {P:Program}{w:World}{A:Around}{E:Value→Shared→Prop}{s:Shared}{a:Addr}{ks:List Int}
theorem storeL {o:Obj}{es:Array (Int×Value)}{ep:Nat}{t:SetTable}{es':Array (Int×Value)}{t':SetTable}{ks':List Int}{h:Heap} (g:h.get? a=some o) (gx:o.ExactSet) (gd:o.data=.set es ep t)
  (el:ElemsOf (intKind P w) es'.toList) (hv:∃ ns,IntsAre (es'.toList.map (·.2)) ns∧ns.Perm ks') (hb:es'.size<scanBound) (hf:t'.fits es'.size=true) (ht:TOk t') (hl:byTx w=true∨t'.led=true) :
  (h.update a (Obj.putSet es' t')).get? a=some { o with data:=.set es' (ep+1) t' }∧SetL P w (h.update a (Obj.putSet es' t')) a ks':=by
 have hg:(h.update a (Obj.putSet es' t')).get? a=some { o with data:=.set es' (ep+1) t' }:=by
  have z:=Heap.get?_update_self (Obj.putSet es' t') g (by rw[putSet_of es' t' gd];rfl)
  rw[putSet_of es' t' gd] at z
  exact z
 exact ⟨hg,_,es',ep+1,t',hg,gx,rfl,el,hv,hb,hf,ht,hl⟩
theorem addL {k:Int}{tk:Tok}{Q:Bool→Shared→Prop} (hS:SetL P w s.heap a ks) (hroom:ks.length+1<scanBound)
  (h:∀ b h',Heap.SameBut a s.heap h'→SetL P w h' a (if k∈ks then ks else ks++[k])→Q b { s with heap:=h' }) :
  wpAny (model P w) A (setAddHashed a (.int k tk) ((intKind P w).hash k)) Q E s:=by
 obtain ⟨o,es,ep,t,g,gx,gd,el,⟨ns,hi,hp⟩,hb,hf,ht,hl⟩:=hS
 have hlen:es.size=ks.length:=by
  have h1:=IntsAre.length hi
  rw[List.length_map,Array.length_toList] at h1
  rw[h1,hp.length_eq]
 have kk:(intKind P w).is k (.int k tk)=true:=intKind_is _ _ _ _
 unfold setAddHashed setAddHashedIn
 refine wpAny_holding (wpAny_bind (wpAny_setState_of g gd hf ?_))
 dsimp only
 rw[byScan_of (knd:=intKind P w) rfl hb el]
 simp only[↓reduceIte]
 unfold setAddByScan
 refine wpAny_bind ?_
 refine wpAny_bind (wpAny_rule ?_)
 refine wpAny_bind (wpAny_setScan_of kk g gd hf el ?_)
 have same:∀ m u,(intKind P w).is k (.int m u)=true→m=k:=fun m u z=>(intKind P w).inj _ m k (intKind_is _ _ _ _) z
 cases hr:List.findIdx? (fun e=>(intKind P w).is k e.2) es.toList with
 | some j=>
  dsimp only
  obtain ⟨hj,hpj,_⟩:=List.findIdx?_eq_some_iff_getElem.mp hr
  have hin:k∈ks:=by
   obtain ⟨m,u,e,hm⟩:=(yd5 hi).1 (es.toList[j]).2 (List.mem_map.mpr ⟨_,List.getElem_mem hj,rfl⟩)
   rw[e] at hpj
   have:=same m u hpj
   subst this
   exact hp.mem_iff.mp hm
  refine wpAny_pure (wpAny_pure ?_)
  have e:s={ s with heap:=s.heap }:=by cases s;rfl
  have z:=h false s.heap (Heap.SameBut.refl a s.heap) (by rw[if_pos hin];exact ⟨o,es,ep,t,g,gx,gd,el,⟨ns,hi,hp⟩,hb,hf,ht,hl⟩)
  rw[e]
  exact z
 | none=>
  dsimp only
  have hout:k∉ks:=fun hin=>by
   obtain ⟨u,hu⟩:=(yd5 hi).2 k (hp.mem_iff.mpr hin)
   obtain ⟨e,he,e2⟩:=List.mem_map.mp hu
   have z:=List.findIdx?_eq_none_iff.mp hr e he
   rw[e2] at z
   rw[show (intKind P w).is k (.int k u)=true from intKind_is _ _ _ _] at z
   cases z
  rw[if_neg hout] at h
  have gw:∀ (b:Bool) {s1:Shared}{Q':Unit→Shared→Prop},Q' () s1→wpAny (model P w) A (match b with|true=>rule "set.scan.the-table-gave-way" | false=>pure ()) Q' E s1:=fun b s1 Q' z=>by cases b<;>first|exact wpAny_pure z|exact wpAny_rule z
  have pm:=layNew_perm t es ((intKind P w).hash k) (.int k tk)
  have fm:=layNew_fits t es ((intKind P w).hash k) (.int k tk)
  have tm:=yhm ht es ((intKind P w).hash k) (.int k tk)
  generalize hL:layNew t es ((intKind P w).hash k) (.int k tk)=L at pm fm tm ⊢
  obtain ⟨es1,t1,wasDummy,gave⟩:=L
  dsimp only at pm fm tm ⊢
  rw[Array.toList_push] at pm
  have el1:ElemsOf (intKind P w) es1.toList:=(el.push kk rfl).perm pm
  have hv1:∃ ns,IntsAre (es1.toList.map (·.2)) ns∧ns.Perm (ks++[k]):=by
   have q:=pm.map (·.2)
   rw[List.map_append] at q
   obtain ⟨n1,i1,p1⟩:=qci q (qe9 k tk hi)
   exact ⟨n1,i1,p1.trans (hp.append_right [k])⟩
  have sz1:es1.size=ks.length+1:=by
   rw[← Array.length_toList,pm.length_eq,List.length_append,Array.length_toList,hlen];rfl
  have hb1:es1.size<scanBound:=by rw[sz1];exact hroom
  refine wpAny_bind (gw _ ?_)
  have tail:∀ (t2:SetTable),t2.fits es1.size=true→TOk t2→(byTx w=true∨t2.led=true)→wpAny (model P w) A (do
    storeSet a es1 t2
    if (!wasDummy&&t2.tooFull)=true then do
      (match (relayAll t2 es1 (SetTable.grown es1.size)).2.2 with|true=>rule "set.scan.the-table-gave-way" | false=>pure ())
      storeSet a (relayAll t2 es1 (SetTable.grown es1.size)).1 (relayAll t2 es1 (SetTable.grown es1.size)).2.1
      pure (some true)
     else pure (some true)) (fun r s1=>wpAny (model P w) A (match r with|some added=>pure added|none=>setAddHashedIn a (.int k tk) ((intKind P w).hash k) 99999) Q E s1) E s:=by
   intro t2 f2 k2 l2
   refine wpAny_bind (wpAny_storeSet_of g gd ?_ (fits_of_scanBound hb1))
   obtain ⟨g1,S1⟩:=storeL (P:=P) (w:=w) g gx gd el1 hv1 hb1 f2 k2 l2
   have sb1:=Heap.SameBut.update s.heap a (Obj.putSet es1 t2)
   split
   ·have pr:=relayAll_perm t2 es1 (SetTable.grown es1.size)
    have fr:=relayAll_fits t2 es1 (SetTable.grown es1.size)
    have tr:=yfn (t:=t2) es1 (SetTable.grown es1.size)
    generalize hR:relayAll t2 es1 (SetTable.grown es1.size)=R at pr fr tr ⊢
    obtain ⟨es2,t3,gave2⟩:=R
    dsimp only at pr fr tr ⊢
    have sz2:es2.size=es1.size:=by rw[← Array.length_toList,pr.length_eq,Array.length_toList]
    have hb2:es2.size<scanBound:=by rw[sz2];exact hb1
    refine wpAny_bind (gw _ ?_)
    refine wpAny_bind (wpAny_storeSet_of g1 rfl ?_ (fits_of_scanBound hb2))
    have hv2:∃ ns,IntsAre (es2.toList.map (·.2)) ns∧ns.Perm (ks++[k]):=by
     obtain ⟨n1,i1,p1⟩:=hv1
     obtain ⟨n2,i2,p2⟩:=qci (pr.map (·.2)) i1
     exact ⟨n2,i2,p2.trans p1⟩
    obtain ⟨_,S2⟩:=storeL (P:=P) (w:=w) g1 gx rfl (el1.perm pr) hv2 hb2 fr tr.1 (l2.imp id fun z=>tr.2.trans z)
    exact wpAny_pure (wpAny_pure (h true _ (sb1.trans (Heap.SameBut.update _ a _)) S2))
   ·exact wpAny_pure (wpAny_pure (h true _ sb1 S1))
  have l1:byTx w=true∨t1.led=true:=hl.imp id fun z=>tm.2.trans z
  split
  ·refine wpAny_bind ?_
   rw[hashByValue_scannable 8 (rfl:(Value.int k tk).scannable=true)]
   refine wpAny_pure ?_
   split
   ·exact tail t1 fm tm.1 l1
   ·exact tail { t1 with plain:=false } (SetTable.fits_plain_off fm) tm.1 l1
  ·refine wpAny_bind (wpAny_pure ?_)
   simp only[↓reduceIte]
   exact tail t1 fm tm.1 l1
end
def qam (f:Nat→Int):Nat→List Int
 | 0=>[]
 | i+1=>if f i∈qam f i then qam f i else qam f i++[f i]
theorem yct (f:Nat→Int):∀ i,(qam f i).length≤i
 | 0=>Nat.le_refl _
 | i+1=>by
  have ih:=yct f i
  unfold qam
  split
  ·omega
  ·rw[List.length_append];show _+1≤_;omega
theorem SetL.at {P:Program}{w:World}{h h':Heap}{a:Addr}{ks:List Int} (x:SetL P w h a ks) (k:∀ o,h.get? a=some o→h'.get? a=some o):SetL P w h' a ks:=by
 obtain ⟨o,es,ep,t,g,r⟩:=x
 exact ⟨o,es,ep,t,k o g,r⟩
section
variable {P:Program}{w:World}{A:Around}{R:Result→Shared→Prop}{I:Addr}{fp wr:List Addr}{G:Array GenState→Array GenState→Prop}{n:Nat}{Pv:Nat→Value→Prop}{St:Nat→Shared→Prop}
theorem loopL (W:WalksS P w A.in1 I fp wr G n Pv St) (d:Addr) (hd:d∉fp) (f:Nat→Int) (hf:∀ i v,Pv i v→∃ t,v=.int (f i) t) (hb:n+1<scanBound):∀ (k i:Nat) (s:Shared),n-i=k→i≤n→St i s→SetL P w s.heap d (qam f i)→
   (∀ s',Moved (d::wr) G s s'→SetL P w s'.heap d (qam f n)→R (.ok (.ret .none)) s')→codeAny (model P w) A (.builtin "set.update.loop" ⟨[.ref d,.ref I],[]⟩) R s:=by
 have hw:d∉wr:=fun z=>hd (W.sub _ z)
 have up:∀ b∈wr,b∈d::wr:=fun b z=>List.mem_cons_of_mem _ z
 intro k
 induction k with
 | zero=>
  intro i s hk hi st hS hR
  have e:i=n:=by omega
  subst e
  refine codeAny_builtin F.entry_set_update_loop ?_
  rw[Around.under_plainId F.plain_set_update_loop _]
  show wpAny _ A.in1 (pyNext (.ref I) >>= _) _ _ _
  refine wpAny_bind (W.done s _ _ st fun s' m=>?_)
  show wpAny _ A.in1 (ret Value.none) _ _ _
  exact wpAny_pure (hR s' (m.mono up) (hS.at fun o g=>m.heap d o hw g))
 | succ k ih=>
  intro i s hk hi st hS hR
  have hlt:i<n:=by omega
  refine codeAny_builtin F.entry_set_update_loop ?_
  rw[Around.under_plainId F.plain_set_update_loop _]
  show wpAny _ A.in1 (pyNext (.ref I) >>= _) _ _ _
  refine wpAny_bind (W.item i s _ _ hlt st fun v s' hP st' m=>?_)
  obtain ⟨t,rfl⟩:=hf i v hP
  have hS':SetL P w s'.heap d (qam f i):=hS.at fun o g=>m.heap d o hw g
  show wpAny _ A.in1 (holding [Value.int (f i) t] (setAdd d (.int (f i) t)) >>= _) _ _ _
  refine wpAny_bind (wpAny_holding ?_)
  unfold setAdd
  refine wpAny_holding ?_
  refine wpAny_bind ((intKind P w).pyHash (k:=f i) (intKind_is _ _ _ _) ?_)
  have room:(qam f i).length+1<scanBound:=by have:=yct f i;omega
  refine addL (s:={ s' with toks:=s'.toks+1 }) hS' room fun b h' sb S2=>?_
  have S3:SetL P w h' d (qam f (i+1)):=S2
  refine wpAny_pure ⟨plainId_quiet F.plain_set_update_loop _,?_⟩
  refine ih (i+1) _ (by omega) hlt (W.frame _ s' _ _ st' (Nat.le_succ _) fun b hb o g=>?_) S3 fun s2 m2 S4=>?_
  ·rw[sb.2 b (fun z:b=d=>hd (by rw[← z];exact hb))];exact g
  ·refine hR s2 (Moved.trans W.gtrans ((m.mono up).then_heap (Nat.le_succ _) fun b o hb g=>?_) m2) S4
   rw[sb.2 b (fun z:b=d=>hb (by rw[z];exact List.mem_cons_self))];exact g
end
section
variable {P:Program}{w:World}{A:Around}{E:Value→Shared→Prop}{s:Shared}
theorem newL (v:Value) {Q1:Value→Shared→Prop} (h:Q1 (.ref s.heap.objs.size) { s with heap:=s.heap.push { cls:=.type "set",dict:=none,data:=.set #[] 0 (.fresh 0 0 (!byTx w)) } }) :
  codeAny (model P w) A (.call (.builtin "set.__new__") ⟨[.type "set",v],[]⟩) (wants Q1 E) s:=by
 refine codeAny_of_tree ?_
 show wpAny _ A.in1 (do checkBuiltinCall "set.__new__" ⟨[.type "set",v],[]⟩;again (.builtin "set.__new__" ⟨[.type "set",v],[]⟩)) _ _ s
 refine wpAny_bind (wpAny_of_eq (F.newCall_set_1 v) (wpAny_pure ⟨plainId_quiet F.plain_set_new _,?_⟩))
 refine codeAny_builtin F.entry_set_new ?_
 rw[Around.under_plainId F.plain_set_new _]
 unfold Builtin.«set.__new__» Builtin.Frozenset.newClass
 have hsub:=sub_set_self
 obtain ⟨hp,g,d,tk,os⟩:=s
 dsimp only
 wp_walk
 refine wpAny_askSetting ?_
 refine wpAny_pure ?_
 dsimp only
 simp only[newObj]
 refine wpAny_bind (wpAny_alloc ?_)
 exact wpAny_pure (wpAny_pure h)
theorem SetL.new {h:Heap}{a:Addr} (g:h.get? a=some { cls:=.type "set",dict:=none,data:=.set #[] 0 (.fresh 0 0 (!byTx w)) }):SetL P w h a []:=by
 refine ⟨_,#[],0,_,g,⟨rfl,rfl,rfl⟩,rfl,fun e he=>by simp at he,⟨[],.nil,List.Perm.refl _⟩,by decide,rfl,⟨fun i j x y _ hx=>by simp[SetTable.fresh] at hx,rfl⟩,?_⟩
 cases byTx w
 ·exact .inr rfl
 ·exact .inl rfl
set_option maxHeartbeats 6400000 in
theorem ygr {l:Addr}{its:Array Value}{ns:List Int}{Q:Value→Shared→Prop} (hh:A.handled=none) (hl:s.heap.IsList l its) (hi:IntsAre its.toList ns) (hb:its.size+1<scanBound)
  (k:∀ (h':Heap) (tk:Nat),SetL P w h' s.heap.objs.size (qam (fun i=>ns.getD i 0) its.size)→(∀ b o,b<s.heap.objs.size→s.heap.get? b=some o→h'.get? b=some o)→Q (.ref s.heap.objs.size) { s with heap:=h',toks:=tk }) :
  wpAny (model P w) A (call (.type "set") [.ref l]) Q E s:=by
 obtain ⟨c0,tl0,c1⟩:=F.called_set.mro
 have c2:=F.called_set.made
 have c3:=F.called_set.sub
 refine wpAny_call (codeAny_of_tree ?_)
 show wpAny _ _ (callAny (.type "set") _) _ _ s
 refine wpAny_pure ⟨?_,?_⟩
 ·exact Code.quiet_builtin _ (by decide +kernel)
 refine codeAny_builtin F.entry_type_call ?_
 rw[Around.under_plain (weight_type_call_type "set" [.ref l] []) rfl]
 have c4:=F.called_set.notType
 have c5:=F.called_set.canCreate
 have c6:=F.typeCall_set_1 (.ref l)
 repeat (any_goals first|assumption|wp_step)
 refine codeAny_mono (newL (.ref l) (E:=E) (Q1:=fun v s1=>v=.ref s.heap.objs.size∧s1={ s with heap:=s.heap.push { cls:=.type "set",dict:=none,data:=.set #[] 0 (.fresh 0 0 (!byTx w)) } }) ⟨rfl,rfl⟩) fun r s1 hr=>?_
 cases r with
 | error e=>exact hr
 | ok fl=>
  cases fl with
  | ret v=>
   obtain ⟨rfl,rfl⟩:=hr
   have g1:(s.heap.push { cls:=.type "set",dict:=none,data:=.set #[] 0 (.fresh 0 0 (!byTx w)) }).get? s.heap.objs.size=some { cls:=.type "set",dict:=none,data:=.set #[] 0 (.fresh 0 0 (!byTx w)) }:=Heap.get?_push_size _ rfl
   have c7:Shared.TypeIs { s with heap:=s.heap.push { cls:=.type "set",dict:=none,data:=.set #[] 0 (.fresh 0 0 (!byTx w)) } } (.ref s.heap.objs.size) "set":=⟨_,g1,rfl⟩
   have c8:=F.called_set.init.lookup
   have c9:=F.called_set.init.bind (.ref s.heap.objs.size)
   repeat (any_goals first|assumption|wp_step)
   refine codeAny_mono (codeAny_call_builtin (R:=wants (fun r s2=>r=.none∧∃ h' tk,s2={ s with heap:=h',toks:=tk }∧SetL P w h' s.heap.objs.size (qam (fun i=>ns.getD i 0) its.size)∧
     (∀ b o,b<s.heap.objs.size→s.heap.get? b=some o→h'.get? b=some o)) E) F.called_set.init.plain F.entry_set_init (check_set_init_1 c7 ?_)) fun r2 s2 hr2=>?_
   ·obtain ⟨ol,gl,cl,nl,dl⟩:=hl
    obtain ⟨qc,qd,qa,qs⟩:=ol
    simp only at cl dl
    subst cl
    subst dl
    have gl':(s.heap.push { cls:=.type "set",dict:=none,data:=.set #[] 0 (.fresh 0 0 (!byTx w)) }).get? l=some { cls:=.type "list",dict:=qd,data:=.seq its nl,slots:=qs }:=Heap.get?_push_of_some _ gl
    have d1:=F.sub_list_set
    have d2:=F.sub_list_frozenset
    have d3:(Value.type "list" == Value.type "dict")=false:=by decide
    have hl1:(s.heap.push { cls:=.type "set",dict:=none,data:=.set #[] 0 (.fresh 0 0 (!byTx w)) }).IsList l its:=⟨_,gl',rfl,nl,rfl⟩
    unfold Builtin.«set.__init__» noKeywords Builtin.Frozenset.updateFrom
    generalize hPI:pyIter=PI
    wp_walk
    subst hPI
    refine wpAny_pyIter_list hl1 ?_
    refine wpAny_bind (wpAny_runValue ?_)
    have lt:l<s.heap.objs.size:=Heap.lt_size gl
    have h3:A.in1.in1.in1.handled=none:=by simp[hh]
    have nI:l≠(s.heap.push { cls:=.type "set",dict:=none,data:=.set #[] 0 (.fresh 0 0 (!byTx w)) }).objs.size:=by
     rw[Heap.size_push];exact Nat.ne_of_lt (Nat.lt_succ_of_lt lt)
    have nf:s.heap.objs.size∉[(s.heap.push { cls:=.type "set",dict:=none,data:=.set #[] 0 (.fresh 0 0 (!byTx w)) }).objs.size,l]:=by
     rw[Heap.size_push];simp only[List.mem_cons,List.mem_singleton,List.not_mem_nil,or_false,not_or]
     exact ⟨Nat.ne_of_lt (Nat.lt_succ_self _),Nat.ne_of_gt lt⟩
    have hv:∀ (i:Nat) (v:Value),its[i]?=some v→∃ t,v=.int ((fun i=>ns.getD i 0) i) t:=fun i v z=>PyProof.Rows.IntsAre.int_at hi i v (by rw[Array.getElem?_toList];exact z)
    refine loopL ((Walks.list h3 _ l nI its).toS) s.heap.objs.size nf (fun i=>ns.getD i 0) hv hb (its.size-0) 0 _ (by omega) (Nat.zero_le _) ⟨⟨_,Heap.get?_push_size _ rfl,rfl,rfl⟩,(hl1.push _)⟩ ?S0 ?R0
    case S0=>exact SetL.new (Heap.get?_push_of_some _ g1)
    case R0=>
     intro s' m S'
     obtain ⟨h',g',d',tk',os'⟩:=s'
     have eg:g'=s.gens:=m.gens
     have ed:d'=s.drawn:=m.drawn
     have eo:os'=s.os:=m.os
     subst eg
     subst ed
     subst eo
     show wpAny _ _ _ _ _ _
     refine wpAny_pure ?_
     show wpAny _ _ (ret Value.none) _ _ _
     refine wpAny_pure ⟨rfl,h',tk',rfl,S',fun b o lb g=>?_⟩
     have b1:b≠s.heap.objs.size:=Nat.ne_of_lt lb
     have b2:b≠(s.heap.push { cls:=.type "set",dict:=none,data:=.set #[] 0 (.fresh 0 0 (!byTx w)) }).objs.size:=by
      rw[Heap.size_push];exact Nat.ne_of_lt (Nat.lt_succ_of_lt lb)
     exact m.heap b o (by simp only[List.mem_cons,List.mem_singleton,List.not_mem_nil,or_false,not_or];exact ⟨b1,b2⟩) (Heap.get?_push_of_some _ (Heap.get?_push_of_some _ g))
   ·cases r2 with
    | error e=>exact hr2
    | ok fl2=>
     cases fl2 with
     | ret r=>
      obtain ⟨rfl,h',tk,rfl,S',kp⟩:=hr2
      repeat (any_goals first|assumption|wp_step)
      exact k _ _ S' kp
     | _=>exact hr2.elim
  | _=>exact hr.elim
end
theorem yaf:Slot "set_iterator" "__next__" "set_iterator.__next__":=
 .of (owner:="set_iterator") (n:="__next__") (by rw[typeLookup_type,builtinLookup_eq_fast];kernel_rfl) (by decide +kernel) (by decide +kernel) (by decide +kernel) (by first|exact .inl (by decide +kernel)|exact .inr (by decide +kernel)) (by rw[isSubtype_type];kernel_rfl)
theorem qax:entryFor table "set_iterator.__next__" = some Builtin.«set_iterator.__next__»:=entryFor_of_tree (by kernel_rfl)
theorem qaz (v:Value):argsOk "set_iterator.__next__" ⟨[v],[]⟩:=by unfold argsOk;kernel_rfl
theorem ybs:entryFor table "set.__iter__" = some Builtin.«frozenset.__iter__»:=
 entryFor_alias (id':="frozenset.__iter__") (by kernel_rfl) (by first|rfl|decide +kernel|(unfold String.splitOn;simp +decide [String.splitOnAux])) (by decide +kernel) (by kernel_rfl)
theorem qd5 {M:Model}{A:Around}{E:Value→Shared→Prop}{s:Shared}{n:Nat}{Q:Nat→Shared→Prop} (hn:n≠0) (h:∀ i d,i<n→Q i { s with drawn:=d }):wpAny M A (choose .order n) Q E s:=
 fun Γ p hΓ=>⟨hn,h _ _ (Nat.mod_lt _ (Nat.pos_of_ne_zero hn))⟩
theorem yco {α:Type}:∀ (xs:List α) (i:Nat) (x:α),xs[i]?=some x→(x::xs.eraseIdx i).Perm xs
 | [],i,x,h=>by simp at h
 | a::xs,0,x,h=>by
  have e:a=x:=by simpa using h
  subst e
  exact List.Perm.refl _
 | a::xs,i+1,x,h=>by
  have ih:=yco xs i x (by simpa using h)
  show (x::a::xs.eraseIdx i).Perm (a::xs)
  exact (List.Perm.swap a x _).trans (ih.cons a)
theorem ybv {α:Type}{M:Model}{A:Around}{E:Value→Shared→Prop}:∀ (n:Nat) (xs:List α) (s:Shared) (Q:List α→Shared→Prop),xs.length=n→(∀ ys d,ys.Perm xs→Q ys { s with drawn:=d })→wpAny M A (drawOrder n xs) Q E s
 | 0,xs,s,Q,hl,h=>by
  unfold drawOrder
  have e:xs=[]:=List.length_eq_zero_iff.mp hl
  subst e
  exact wpAny_pure (h [] s.drawn (List.Perm.refl _))
 | n+1,[],s,Q,hl,h=>by simp at hl
 | n+1,x::xs,s,Q,hl,h=>by
  unfold drawOrder
  refine wpAny_bind (qd5 (by simp) fun i d hi=>?_)
  have hg:(x::xs)[i]?=some (x::xs)[i]:=List.getElem?_eq_getElem hi
  rw[hg]
  dsimp only
  refine wpAny_bind (ybv n _ _ _ (by rw[List.length_eraseIdx];simp only[if_pos hi];omega) fun ys d' hp=>?_)
  exact wpAny_pure (h _ d' ((hp.cons _).trans (yco _ i _ hg)))
theorem qgz {α:Type} (f:Nat→Nat):∀ (n k:Nat) (xs:List α) (out:Array α),xs.length=n→∃ ys:List α,ys.Perm xs∧(pickOrder.go f n k xs out).toList=out.toList++ys
 | 0,k,xs,out,hl=>⟨[],by rw[List.length_eq_zero_iff.mp hl],by unfold pickOrder.go;simp⟩
 | n+1,k,xs,out,hl=>by
  have hlt:f k % xs.length<xs.length:=Nat.mod_lt _ (by omega)
  have hg:xs[f k % xs.length]?=some xs[f k % xs.length]:=List.getElem?_eq_getElem hlt
  unfold pickOrder.go
  rw[hg]
  dsimp only
  obtain ⟨ys,hp,e⟩:=qgz f n (k+1) (xs.eraseIdx (f k % xs.length)) (out.push xs[f k % xs.length]) (by rw[List.length_eraseIdx,if_pos hlt];omega)
  refine ⟨xs[f k % xs.length]::ys,(hp.cons _).trans (yco _ _ _ hg),?_⟩
  rw[e]
  simp
theorem qb8 {α:Type} (f:Nat→Nat) (xs:Array α):(pickOrder f xs).toList.Perm xs.toList:=by
 obtain ⟨ys,hp,e⟩:=qgz f xs.size 0 xs.toList #[] (by simp)
 unfold pickOrder
 rw[e]
 simpa using hp
section
variable {P:Program}{w:World}{A:Around}{E:Value→Shared→Prop}{s:Shared}{a:Addr}{o:Obj}{es:Array (Int×Value)}{ep:Nat}{t:SetTable}
theorem yep {Q:Option (Value×Nat)→Shared→Prop}{slot i:Nat} (hb:byTx w=true) (g:s.heap.get? a=some o) (gd:o.data=.set es ep t) (hf:t.fits es.size=true)
  (h:Q (((pickOrder (w.params.setOrder a ep) es).toList.map (·.2))[i]?.map fun v=>(v,slot)) s):wpAny (model P w) A (setNext a slot i ep) Q E s:=by
 unfold setNext
 refine wpAny_bind (wpAny_setState_of g gd hf ?_)
 dsimp only
 unfold setsByText
 refine wpAny_bind (wpAny_bind (wpAny_askSetting (wpAny_pure ?_)))
 have hb':w.params.followText "set-order" = true:=hb
 show wpAny _ _ (if w.params.followText "set-order" = true then _ else _) _ _ _
 rw[if_pos hb',if_neg (by simp)]
 unfold setWalk
 refine wpAny_bind (wpAny_bind (wpAny_setState_of g gd hf ?_))
 dsimp only
 unfold setsByText
 refine wpAny_bind (wpAny_bind (wpAny_askSetting (wpAny_pure ?_)))
 show wpAny _ _ (if w.params.followText "set-order" = true then _ else _) _ _ _
 rw[if_pos hb']
 refine wpAny_bind (wpAny_askSetting (wpAny_pure ?_))
 refine wpAny_pure ?_
 rw[List.getElem?_map,Array.getElem?_toList,Option.map_map] at h
 exact h
theorem yf6 {Q:Option (Value×Nat)→Shared→Prop}{slot i:Nat} (hb:byTx w=false) (g:s.heap.get? a=some o) (gd:o.data=.set es ep t) (hf:t.fits es.size=true) (hl:t.led=true) (hp:t.plain=true∨es.size≤1)
  (h:Q (match es[SetTable.below t.place slot]?,t.place[SetTable.below t.place slot]? with|some (_,x),some j=>some (x,j+1)|_,_=>none) s):wpAny (model P w) A (setNext a slot i ep) Q E s:=by
 unfold setNext
 refine wpAny_bind (wpAny_setState_of g gd hf ?_)
 dsimp only
 unfold setsByText
 refine wpAny_bind (wpAny_bind (wpAny_askSetting (wpAny_pure ?_)))
 have hb':w.params.followText "set-order" = false:=hb
 show wpAny _ _ (if w.params.followText "set-order" = true then _ else _) _ _ _
 rw[if_neg (by rw[hb'];exact Bool.false_ne_true)]
 refine wpAny_ite_split (fun hd=>?_) fun _=>?_
 ·exfalso
  have hd':(!t.plain&&decide (es.size>1))=true:=hd
  rw[Bool.and_eq_true,decide_eq_true_eq] at hd'
  rcases hp with hp|hp
  ·rw[hp] at hd';exact absurd hd'.1 (by decide)
  ·omega
 ·refine wpAny_bind ?_
  refine wpAny_ite_split (fun hd=>?_) fun _=>?_
  ·exfalso
   have hd':(!t.led && !es.isEmpty)=true:=hd
   rw[hl] at hd'
   exact absurd hd' (by simp)
  ·exact wpAny_pure (wpAny_pure h)
end
theorem ybx:Slot "set_iterator" "__iter__" "set_iterator.__iter__":=
 .of (owner:="set_iterator") (n:="__iter__") (by rw[typeLookup_type,builtinLookup_eq_fast];kernel_rfl) (by decide +kernel) (by decide +kernel) (by decide +kernel) (by first|exact .inl (by decide +kernel)|exact .inr (by decide +kernel)) (by rw[isSubtype_type];kernel_rfl)
theorem yc2:entryFor table "set_iterator.__iter__" = some Builtin.«dict_keyiterator.__iter__»:=
 entryFor_alias (id':="dict_keyiterator.__iter__") (by kernel_rfl) (by first|rfl|decide +kernel|(unfold String.splitOn;simp +decide [String.splitOnAux])) (by decide +kernel) (by kernel_rfl)
theorem qdc (v:Value):argsOk "set_iterator.__iter__" ⟨[v],[]⟩:=by unfold argsOk;kernel_rfl
def SI (h:Heap) (I:Addr) (f:Value) (i:Nat) (a:Addr) (n ep:Nat):Prop:=h.get? I=some { cls:=.type "set_iterator",dict:=none,data:=.fields #[f,rawInt i,.ref a,rawInt n,rawInt ep],slots:=#[] }
section
variable {P:Program}{w:World}{A:Around}{E:Value→Shared→Prop}{s:Shared}
theorem qfc {I:Addr}{Q:Value→Shared→Prop} (hT:s.TypeIs (.ref I) "set_iterator") (h:Q (.ref I) s):wpAny (model P w) A (pyIter (.ref I)) Q E s:=by
 refine wpAny_pyIter_slot hT ybx (wpAny_call_entry ybx hT yc2 ?_ (qdc _))
 show wpAny _ _ (ret (.ref I)) _ _ s
 exact wpAny_pure ⟨_,rfl,"set_iterator",_,hT,yaf.lookup,h⟩
theorem ydt {Q:Fin→Shared→Prop} (hh:A.handled=none) (h:∀ h' e,(∀ b o,s.heap.get? b=some o→h'.get? b=some o)→(∃ o,h'.get? e=some o∧o.cls=.type "StopIteration")→E (.ref e) { s with heap:=h' }) :
  wpAny (model P w) A (newExc (.type "StopIteration") [] >>= fun e=>(raiseNew e:Sem Fin)) Q E s:=by
 refine wpAny_bind ?_
 simp only[newExc,newTuple]
 refine wpAny_bind (wpAny_newObj_type ?_ (by size_fits))
 refine wpAny_bind (m:=firstArgMember _ _) ?_
 refine wpAny_of_eq (a:=Value.none) (by first|rfl|(simp only[firstArgMember];rfl)) ?_
 refine wpAny_newObj_type ?_ (by size_fits)
 simp only[raiseNew]
 refine wpAny_bind (wpAny_handled ?_)
 rw[hh]
 refine wpAny_bind (wpAny_pure (wpAny_throw ?_))
 exact h _ _ (fun b o g=>Heap.get?_push_of_some _ (Heap.get?_push_of_some _ g)) ⟨_,Heap.get?_push_size _ rfl,rfl⟩
theorem yc3 {h':Heap}{I:Addr} (k:∀ b o,b≠I→s.heap.get? b=some o→h'.get? b=some o):Moved [I] (fun x y=>y=x) s { s with heap:=h' }:=
 ⟨fun b o hb g=>k b o (fun z=>hb (by rw[z];exact List.mem_singleton.mpr rfl)) g,rfl,rfl,rfl,Nat.le_refl _⟩
theorem yeb (hh:A.handled=none) {I a:Addr}{o:Obj}{es:Array (Int×Value)}{ep:Nat}{t:SetTable} (nI:a≠I) (gd:o.data=.set es ep t) (hf:t.fits es.size=true) (F:Nat→Nat) (vs:List Value) (hvs:vs.length=es.size)
  (hn:∀ (B:Around) (D:Value→Shared→Prop) (s:Shared) (i:Nat) (Q:Option (Value×Nat)→Shared→Prop),s.heap.get? a=some o→i≤es.size→Q (vs[i]?.map fun v=>(v,F (i+1))) s→wpAny (model P w) B (setNext a (F i) i ep) Q D s) :
  WalksS P w A I [I,a] [I] (fun x y=>y=x) es.size (fun i v=>vs[i]?=some v) (fun i s=>SI s.heap I (rawInt (F i)) i a es.size ep∧s.heap.get? a=some o) where
 sub:=fun b hb=>by rw[List.mem_singleton] at hb;rw[hb];exact List.mem_cons_self ..
 grefl:=fun _=>rfl
 gtrans:=fun _ _ _ h1 h2=>h2.trans h1
 frame:=fun i s h' tk st _ k=>⟨k I (by simp) _ st.1,k a (by simp) _ st.2⟩
 item:=fun i s Q E hi st hQ=>by
  obtain ⟨gI,ga⟩:=st
  have hT:s.TypeIs (.ref I) "set_iterator":=⟨_,gI,rfl⟩
  have hv:vs[i]?=some vs[i]:=List.getElem?_eq_getElem (by omega)
  unfold pyNext
  refine wpAny_bind (wpAny_attempt (wpAny_callSpecial?_slot (name:=Str.ofString "__next__") hT yaf (wpAny_call_entry yaf hT qax ?_ (qaz _))))
  show wpAny _ _ (fieldsOf (.ref I) >>= _) _ _ s
  refine wpAny_bind (wpAny_fieldsOf gI rfl ?_)
  show wpAny _ _ (setEntries a >>= _) _ _ s
  refine wpAny_bind (wpAny_setEntries_of ga gd hf ?_)
  rw[if_neg (by simp)]
  show wpAny _ _ (setNext a (F i) i ep >>= _) _ _ s
  refine wpAny_bind (hn _ _ s i _ ga (by omega) ?_)
  rw[hv]
  show wpAny _ _ (setField (.ref I) 0 (rawInt (F (i+1))) >>= _) _ _ s
  refine wpAny_bind (wpAny_setField_rec gI (by simp) fun m1 g1 e1=>?_)
  refine wpAny_bind (wpAny_setField_rec g1 (by simp) fun m2 g2 e2=>?_)
  refine wpAny_pure ⟨_,rfl,wpAny_pure (hQ _ _ hv ⟨?_,?_⟩ (yc3 fun b ob hb g=>(e2.extBut _ _ hb (e1.extBut _ _ hb g))))⟩
  ·exact g2
  ·exact e2.extBut _ _ nI (e1.extBut _ _ nI ga)
 done:=fun s Q E st hQ=>by
  obtain ⟨gI,ga⟩:=st
  have hT:s.TypeIs (.ref I) "set_iterator":=⟨_,gI,rfl⟩
  have hv:vs[es.size]?=none:=List.getElem?_eq_none (by omega)
  unfold pyNext
  refine wpAny_bind (wpAny_attempt (wpAny_callSpecial?_slot (name:=Str.ofString "__next__") hT yaf (wpAny_call_entry yaf hT qax ?_ (qaz _))))
  show wpAny _ _ (fieldsOf (.ref I) >>= _) _ _ s
  refine wpAny_bind (wpAny_fieldsOf gI rfl ?_)
  show wpAny _ _ (setEntries a >>= _) _ _ s
  refine wpAny_bind (wpAny_setEntries_of ga gd hf ?_)
  rw[if_neg (by simp)]
  show wpAny _ _ (setNext a (F es.size) es.size ep >>= _) _ _ s
  refine wpAny_bind (hn _ _ s es.size _ ga (Nat.le_refl _) ?_)
  rw[hv]
  show wpAny _ _ (setField (.ref I) 2 Value.none >>= _) _ _ s
  refine wpAny_bind (wpAny_setField_rec gI (by simp) fun m1 g1 e1=>?_)
  refine ydt (by first|exact hh|simpa using hh) fun m2 e kp he=>?_
  obtain ⟨ob,go,gc⟩:=he
  refine wpAny_bind (wpAny_isInstance (T:="StopIteration") (b:=true) ⟨ob,go,gc⟩ isSubtype_stop ?_)
  exact wpAny_pure (hQ _ (yc3 fun b ob hb g=>kp b ob (e1.extBut _ _ hb g)))
 self:=fun i s Q E st hQ=>by
  obtain ⟨gI,ga⟩:=st
  exact qfc ⟨_,gI,rfl⟩ hQ
theorem qel (hh:A.handled=none) {I a T:Addr}{o:Obj}{es:Array (Int×Value)}{ep:Nat}{t:SetTable} (nI:a≠I) (nT:T≠I) (gd:o.data=.set es ep t) (hf:t.fits es.size=true) (ps:List Nat) (hps:ps.length=es.size) (hlt:∀ p∈ps,p<es.size) (vs:List Value) (hvs:vs=ps.map fun p=>(es.getD p (0,.none)).2) :
  WalksS P w A I [I,a,T] [I] (fun x y=>y=x) es.size (fun i v=>vs[i]?=some v) (fun i s=>SI s.heap I (.ref T) i a es.size ep∧s.heap.get? a=some o∧s.heap.get? T=some { cls:=.type "tuple",data:=.seq (ps.map fun (p:Nat)=>rawInt p).toArray }) where
 sub:=fun b hb=>by rw[List.mem_singleton] at hb;rw[hb];exact List.mem_cons_self ..
 grefl:=fun _=>rfl
 gtrans:=fun _ _ _ h1 h2=>h2.trans h1
 frame:=fun i s h' tk st _ k=>⟨k I (by simp) _ st.1,k a (by simp) _ st.2.1,k T (by simp) _ st.2.2⟩
 item:=fun i s Q E hi st hQ=>by
  obtain ⟨gI,ga,gT⟩:=st
  have hT:s.TypeIs (.ref I) "set_iterator":=⟨_,gI,rfl⟩
  have hp:ps[i]?=some ps[i]:=List.getElem?_eq_getElem (by omega)
  have hpl:ps[i]<es.size:=hlt _ (List.getElem_mem _)
  have he:es[ps[i]]?=some es[ps[i]]:=Array.getElem?_eq_getElem hpl
  have hv:vs[i]?=some (es[ps[i]]).2:=by
   rw[hvs,List.getElem?_map,hp,Option.map_some,Array.getD_eq_getD_getElem?,he]
   rfl
  have hpi:(ps.map fun (p:Nat)=>rawInt p).toArray[i]?=some (rawInt ps[i]):=by
   rw[List.getElem?_toArray,List.getElem?_map,hp];rfl
  unfold pyNext
  refine wpAny_bind (wpAny_attempt (wpAny_callSpecial?_slot (name:=Str.ofString "__next__") hT yaf (wpAny_call_entry yaf hT qax ?_ (qaz _))))
  show wpAny _ _ (fieldsOf (.ref I) >>= _) _ _ s
  refine wpAny_bind (wpAny_fieldsOf gI rfl ?_)
  show wpAny _ _ (setEntries a >>= _) _ _ s
  refine wpAny_bind (wpAny_setEntries_of ga gd hf ?_)
  rw[if_neg (by simp)]
  show wpAny _ _ (seqItems? (.ref T) >>= _) _ _ s
  refine wpAny_bind (wpAny_seqItems gT rfl ?_)
  dsimp only
  rw[show ((i:Int)).toNat=i from rfl,hpi]
  show wpAny _ _ (setNextDrawn a ps[i] ep >>= _) _ _ s
  unfold setNextDrawn
  refine wpAny_bind (wpAny_bind (wpAny_setState_of ga gd hf ?_))
  dsimp only
  rw[if_neg (by simp),he]
  refine wpAny_pure ?_
  show wpAny _ _ (setField (.ref I) 1 (rawInt (i+1)) >>= _) _ _ s
  refine wpAny_bind (wpAny_setField_rec gI (by simp) fun m1 g1 e1=>?_)
  refine wpAny_pure ⟨_,rfl,wpAny_pure (hQ _ _ hv ⟨?_,?_,?_⟩ (yc3 fun b ob hb g=>e1.extBut _ _ hb g))⟩
  ·exact g1
  ·exact e1.extBut _ _ nI ga
  ·exact e1.extBut _ _ nT gT
 done:=fun s Q E st hQ=>by
  obtain ⟨gI,ga,gT⟩:=st
  have hT:s.TypeIs (.ref I) "set_iterator":=⟨_,gI,rfl⟩
  have hpi:(ps.map fun (p:Nat)=>rawInt p).toArray[es.size]?=none:=by
   rw[List.getElem?_toArray];exact List.getElem?_eq_none (by rw[List.length_map];omega)
  unfold pyNext
  refine wpAny_bind (wpAny_attempt (wpAny_callSpecial?_slot (name:=Str.ofString "__next__") hT yaf (wpAny_call_entry yaf hT qax ?_ (qaz _))))
  show wpAny _ _ (fieldsOf (.ref I) >>= _) _ _ s
  refine wpAny_bind (wpAny_fieldsOf gI rfl ?_)
  show wpAny _ _ (setEntries a >>= _) _ _ s
  refine wpAny_bind (wpAny_setEntries_of ga gd hf ?_)
  rw[if_neg (by simp)]
  show wpAny _ _ (seqItems? (.ref T) >>= _) _ _ s
  refine wpAny_bind (wpAny_seqItems gT rfl ?_)
  dsimp only
  rw[show ((es.size:Int)).toNat=es.size from rfl,hpi]
  show wpAny _ _ (setField (.ref I) 0 (rawInt 0) >>= _) _ _ s
  refine wpAny_bind (wpAny_setField_rec gI (by simp) fun m0 g0 e0=>?_)
  refine wpAny_bind (wpAny_setField_rec g0 (by simp) fun m1 g1 e1=>?_)
  refine ydt (by first|exact hh|simpa using hh) fun m2 e kp he=>?_
  obtain ⟨ob,go,gc⟩:=he
  refine wpAny_bind (wpAny_isInstance (T:="StopIteration") (b:=true) ⟨ob,go,gc⟩ isSubtype_stop ?_)
  exact wpAny_pure (hQ _ (yc3 fun b ob hb g=>kp b ob (e1.extBut _ _ hb (e0.extBut _ _ hb g))))
 self:=fun i s Q E st hQ=>by
  obtain ⟨gI,ga,gT⟩:=st
  exact qfc ⟨_,gI,rfl⟩ hQ
end
theorem qeo {t:SetTable}{n:Nat} (h:t.fits n=true):t.place.size=n:=by
 unfold SetTable.fits at h
 rw[Bool.and_eq_true,beq_iff_eq] at h
 exact h.1
def qe1 (t:SetTable) (i:Nat):Nat:=if i=0 then 0 else t.place.getD (i-1) 0+1
theorem ycw {t:SetTable} (hs:Srt t.place) {i:Nat} (hi:i≤t.place.size):SetTable.below t.place (qe1 t i)=i:=by
 by_cases h0:i=0
 ·subst h0
  exact yed hs (Nat.zero_le _) (fun k x hk=>absurd hk (Nat.not_lt_zero _)) fun k x _ _=>Nat.zero_le _
 ·have hlt:i-1<t.place.size:=by omega
  have hg:t.place[i-1]?=some (t.place.getD (i-1) 0):=by
   rw[Array.getD_eq_getD_getElem?,Array.getElem?_eq_getElem hlt];rfl
  have e:qe1 t i=t.place.getD (i-1) 0+1:=by unfold qe1;rw[if_neg h0]
  rw[e]
  refine yed hs hi (fun k x hk hx=>?_) fun k x hk hx=>?_
  ·by_cases hk2:k=i-1
   ·subst hk2;rw[hg] at hx;cases hx;omega
   ·have:=hs k (i-1) x _ (by omega) hx hg;omega
  ·have:=hs (i-1) k _ x (by omega) hg hx;omega
section
variable {P:Program}{w:World}{A:Around}{E:Value→Shared→Prop}{s:Shared}{a:Addr}{ks:List Int}
def WalkOf (P:Program) (w:World) (s:Shared) (a:Addr) (ks:List Int) (I:Addr) (h':Heap) (d:Drawn):Prop:=
 ∃ (n:Nat) (fp:List Addr) (vs:List Value) (ns:List Int) (St:Nat→Shared→Prop),n=ks.length∧(∀ B:Around,B.handled=none→WalksS P w B I fp [I] (fun x y=>y=x) n (fun i v=>vs[i]?=some v) St)∧St 0 { s with heap:=h',drawn:=d }∧
  s.heap.objs.size≤I∧(∀ b∈fp,b=a∨s.heap.objs.size≤b)∧(∀ b o,s.heap.get? b=some o→h'.get? b=some o)∧IntsAre vs ns∧ns.Perm ks
theorem iterL {Q:Value→Shared→Prop} (hS:SetL P w s.heap a ks) (k:∀ I h' d,WalkOf P w s a ks I h' d→Q (.ref I) { s with heap:=h',drawn:=d }):wpAny (model P w) A (pyIter (.ref a)) Q E s:=by
 obtain ⟨o,es,ep,t,g,gx,gd,el,⟨ns,hi,hp⟩,hb,hf,ht,hl⟩:=hS
 have hT:s.TypeIs (.ref a) "set":=⟨o,g,gx.1⟩
 have hlen:es.size=ks.length:=by
  have h1:=IntsAre.length hi
  rw[List.length_map,Array.length_toList] at h1
  rw[h1,hp.length_eq]
 have hpl:t.place.size=es.size:=qeo hf
 have ha:a<s.heap.objs.size:=Heap.lt_size g
 refine wpAny_pyIter_slot hT F.slot_set_iter (wpAny_call_entry F.slot_set_iter hT ybs ?_ (F.args_set_iter_1 _))
 show wpAny _ _ (Builtin.Frozenset.sizeOf a >>= _) _ _ s
 refine wpAny_bind ?_
 unfold Builtin.Frozenset.sizeOf
 refine wpAny_bind (wpAny_setEntries_of g gd hf ?_)
 refine wpAny_pure ?_
 refine wpAny_bind ?_
 refine wpAny_bind ?_
 refine wpAny_setState_of g gd hf ?_
 dsimp only
 unfold setsByText
 refine wpAny_bind (wpAny_bind (wpAny_askSetting (wpAny_pure ?_)))
 refine wpAny_pure ?_
 dsimp only
 refine wpAny_ite_split (fun hd=>?_) fun hd=>?_
 ·refine wpAny_bind (ybv es.size (List.range es.size) s _ (by simp) fun ps d pp=>?_)
  have hpsl:ps.length=es.size:=by rw[pp.length_eq,List.length_range]
  refine wpAny_bind (wpAny_newTuple ?_ (by rw[List.length_map,hpsl];exact fits_of_scanBound hb))
  have gT:(s.heap.push { cls:=.type "tuple",data:=.seq (ps.map fun (p:Nat)=>rawInt p).toArray }).get? s.heap.objs.size=some { cls:=.type "tuple",data:=.seq (ps.map fun (p:Nat)=>rawInt p).toArray }:=Heap.get?_push_size _ rfl
  have ga:(s.heap.push { cls:=.type "tuple",data:=.seq (ps.map fun (p:Nat)=>rawInt p).toArray }).get? a=some o:=Heap.get?_push_of_some _ g
  refine wpAny_bind (wpAny_setEpoch_of (s:={ s with heap:=s.heap.push { cls:=.type "tuple",data:=.seq (ps.map fun (p:Nat)=>rawInt p).toArray },drawn:=d }) ga gd hf ?_)
  refine wpAny_bind (wpAny_newObj_type ?_ (by size_fits))
  have z1:(s.heap.push { cls:=.type "tuple",data:=.seq (ps.map fun (p:Nat)=>rawInt p).toArray }).objs.size=s.heap.objs.size+1:=Heap.size_push ..
  have hvp:(ps.map fun p=>(es.getD p (0,.none)).2).Perm (es.toList.map (·.2)):=by
   refine (pp.map _).trans (List.Perm.of_eq ?_)
   refine List.ext_getElem (by simp) fun i h1 h2=>?_
   have hi:i<es.size:=by simpa using h2
   rw[List.getElem_map,List.getElem_map,List.getElem_range,Array.getElem_toList]
   show (es.getD i (0,.none)).2=(es[i]).2
   rw[Array.getD_eq_getD_getElem?,Array.getElem?_eq_getElem hi]
   rfl
  obtain ⟨n2,i2,p2⟩:=qci hvp hi
  have nI:a≠(s.heap.push { cls:=.type "tuple",data:=.seq (ps.map fun (p:Nat)=>rawInt p).toArray }).objs.size:=by rw[z1];exact neN (.inl (Nat.lt_succ_of_lt ha))
  have nT:s.heap.objs.size≠(s.heap.push { cls:=.type "tuple",data:=.seq (ps.map fun (p:Nat)=>rawInt p).toArray }).objs.size:=by rw[z1];exact neN (.inl (Nat.lt_succ_self _))
  refine wpAny_pure ⟨_,rfl,"set_iterator",_,⟨_,Heap.get?_push_size _ rfl,rfl⟩,yaf.lookup,k _ _ d ?_⟩
  refine ⟨es.size,_,_,n2,_,hlen,fun B hB=>qel hB nI nT gd hf ps hpsl (fun p hp=>List.mem_range.mp (pp.mem_iff.mp hp)) _ rfl,⟨Heap.get?_push_size _ rfl,Heap.get?_push_of_some _ ga,Heap.get?_push_of_some _ gT⟩,by rw[z1];exact Nat.le_succ _,fun b hb=>?_,fun b ob gb=>Heap.get?_push_of_some _ (Heap.get?_push_of_some _ gb),i2,p2.trans hp⟩
  have hb':b=(s.heap.push { cls:=.type "tuple",data:=.seq (ps.map fun (p:Nat)=>rawInt p).toArray }).objs.size∨b=a∨b=s.heap.objs.size:=by simpa using hb
  rcases hb' with rfl|rfl|rfl
  ·exact .inr (by rw[z1];exact Nat.le_succ _)
  ·exact .inl rfl
  ·exact .inr (Nat.le_refl _)
 ·refine wpAny_bind (wpAny_pure ?_)
  refine wpAny_bind (wpAny_setEpoch_of g gd hf ?_)
  refine wpAny_bind (wpAny_newObj_type ?_ (by size_fits))
  have nI:a≠s.heap.objs.size:=neN (.inl ha)
  have es0:s={ s with drawn:=s.drawn }:=by cases s;rfl
  have fpk:∀ b∈[s.heap.objs.size,a],b=a∨s.heap.objs.size≤b:=fun b hb=>by
   have hb':b=s.heap.objs.size∨b=a:=by simpa using hb
   rcases hb' with rfl|rfl
   ·exact .inr (Nat.le_refl _)
   ·exact .inl rfl
  refine wpAny_pure ⟨_,rfl,"set_iterator",_,⟨_,Heap.get?_push_size _ rfl,rfl⟩,yaf.lookup,?_⟩
  have key:WalkOf P w s a ks s.heap.objs.size (s.heap.push { cls:=.type "set_iterator",data:=.fields #[rawInt 0,rawInt 0,.ref a,rawInt es.size,rawInt ep] }) s.drawn:=by
   by_cases hbt:byTx w=true
   ·have hvp:((pickOrder (w.params.setOrder a ep) es).toList.map (·.2)).Perm (es.toList.map (·.2)):=(qb8 _ es).map _
    obtain ⟨n2,i2,p2⟩:=qci hvp hi
    refine ⟨es.size,_,(pickOrder (w.params.setOrder a ep) es).toList.map (·.2),n2,_,hlen,fun B hB=>yeb hB nI gd hf (fun _=>0) _ (by rw[hvp.length_eq,List.length_map,Array.length_toList]) fun C D s i Q g1 hi1 q=>yep hbt g1 gd hf q,⟨Heap.get?_push_size _ rfl,Heap.get?_push_of_some _ g⟩,Nat.le_refl _,fpk,fun b ob gb=>Heap.get?_push_of_some _ gb,i2,p2.trans hp⟩
   ·have hbf:byTx w=false:=eq_false_of_ne_true hbt
    have hled:t.led=true:=hl.resolve_left hbt
    have hpz:t.plain=true∨es.size≤1:=by
     have hd':¬ ((!byTx w&&(!t.plain&&decide (es.size>1)))=true):=hd
     rw[hbf] at hd'
     cases hq:t.plain with
     | true=>exact .inl rfl
     | false=>
      right
      rw[hq] at hd'
      simpa using hd'
    refine ⟨es.size,_,es.toList.map (·.2),ns,_,hlen,fun B hB=>yeb hB nI gd hf (qe1 t) _ (by rw[List.length_map,Array.length_toList]) fun C D s i Q g1 hi1 q=>yf6 hbf g1 gd hf hled hpz ?_,⟨Heap.get?_push_size _ rfl,Heap.get?_push_of_some _ g⟩,Nat.le_refl _,fpk,fun b ob gb=>Heap.get?_push_of_some _ gb,hi,hp⟩
    rw[ycw ht.1 (by omega)]
    by_cases hlt:i<es.size
    ·have e1:es[i]?=some es[i]:=Array.getElem?_eq_getElem hlt
     have e2:t.place[i]?=some (t.place.getD i 0):=by
      rw[Array.getD_eq_getD_getElem?,Array.getElem?_eq_getElem (by omega)];rfl
     rw[List.getElem?_map,Array.getElem?_toList,e1] at q
     rw[e1,e2]
     exact q
    ·have e1:es[i]?=none:=Array.getElem?_eq_none (by omega)
     rw[List.getElem?_map,Array.getElem?_toList,e1] at q
     rw[e1]
     exact q
  have z:=k _ _ _ key
  exact z
end
theorem qg6:typeLookup (.type "set") "__len__" = pure (some (.builtin "set.__len__")):=by rw[typeLookup_type,builtinLookup_eq_fast];kernel_rfl
section
variable {P:Program}{w:World}{A:Around}{E:Value→Shared→Prop}{s:Shared}{a:Addr}{ks:List Int}
theorem collectL {Q:List Value→Shared→Prop} (hh:A.handled=none) (hS:SetL P w s.heap a ks) (hz:ks.length≤4000)
  (k:∀ vs ns h' d tk,IntsAre vs ns→ns.Perm ks→s.heap.objs.size<h'.objs.size→(∀ b o,s.heap.get? b=some o→h'.get? b=some o)→Q vs { s with heap:=h',drawn:=d,toks:=tk }):wpAny (model P w) A (collect (.ref a)) Q E s:=by
 have hT:s.TypeIs (.ref a) "set":=by
  obtain ⟨o,es,ep,t,g,gx,_⟩:=hS
  exact ⟨o,g,gx.1⟩
 have ha:a<s.heap.objs.size:=by
  obtain ⟨o,es,ep,t,g,gx,_⟩:=hS
  exact Heap.lt_size g
 unfold collect
 refine wpAny_bind (wpAny_runValue (codeAny_builtin F.entry_proto_collect ?_))
 rw[Around.under_plainId F.plain_proto_collect _]
 show wpAny _ A.in1 (newList [] >>= fun l=>again (.builtin "list.__iadd__" ⟨[l,.ref a],[]⟩)) _ _ s
 refine wpAny_bind (wpAny_newObj_type ?_)
 refine wpAny_pure ⟨plainId_quiet F.plain_list_iadd _,?_⟩
 refine codeAny_builtin F.entry_list_iadd ?_
 rw[Around.under_plainId F.plain_list_iadd _]
 show wpAny _ A.in1 (Builtin.List.listExtendWith (.ref s.heap.objs.size) (.ref a) (.ref s.heap.objs.size)) _ _ _
 generalize hH:s.heap.push { cls:=.type "list",data:=.seq ([]:List Value).toArray }=H1
 have g0:H1.get? s.heap.objs.size=some { cls:=.type "list",data:=.seq ([]:List Value).toArray }:=by rw[← hH];exact Heap.get?_push_size _ rfl
 have z1:H1.objs.size=s.heap.objs.size+1:=by rw[← hH];exact Heap.size_push ..
 have kp1:∀ b o,s.heap.get? b=some o→H1.get? b=some o:=fun b o g=>by rw[← hH];exact Heap.get?_push_of_some _ g
 have hS1:SetL P w H1 a ks:=hS.at fun o g=>kp1 a o g
 have hT1:Shared.TypeIs { s with heap:=H1 } (.ref a) "set":=by
  obtain ⟨o,es,ep,t,g,gx,_⟩:=hS1
  exact ⟨o,g,gx.1⟩
 unfold Builtin.List.listExtendWith
 refine wpAny_bind (wpAny_typeOf hT1 ?_)
 have n1:Builtin.List.listSameRef (.ref s.heap.objs.size) (.ref a)=false:=by
  have:s.heap.objs.size≠a:=neN (.inr ha)
  simp[Builtin.List.listSameRef,this]
 rw[if_neg (by rw[n1];decide)]
 refine wpAny_bind (iterL (s:={ s with heap:=H1 }) hS1 fun I h' d W=>?_)
 refine wpAny_bind (wpAny_holding ?_)
 have hT2:Shared.TypeIs { s with heap:=h',drawn:=d } (.ref a) "set":=by
  obtain ⟨n,fp,vs,ns,St,e,W1,st,lI,fpk,kp,i2,p2⟩:=W
  obtain ⟨o,g,c⟩:=hT1
  exact ⟨o,kp _ _ g,c⟩
 unfold Builtin.List.listLengthHint
 refine wpAny_bind (wpAny_specialOf hT2 qg6 ?_)
 wp_delta
 refine wpAny_bind (wpAny_isInstance (T:="set") (b:=true) hT2 (by rw[isSubtype_type];kernel_rfl) ?_)
 show wpAny _ A.in1 (typeOf (Value.ref a) >>= _) _ _ _
 refine wpAny_bind (wpAny_typeOf hT2 ?_)
 refine wpAny_pure ?_
 rw[if_pos (by decide)]
 refine wpAny_bind (wpAny_rule ?_)
 obtain ⟨n,fp,vs,ns,St,en,W1,st,lI,fpk,kp,i2,p2⟩:=W
 have lI':s.heap.objs.size+1≤I:=by rw[← z1];exact lI
 have hd:s.heap.objs.size∉fp:=fun hm=>by
  rcases fpk _ hm with z|z
  ·exact absurd ha (by rw[← z];exact Nat.lt_irrefl _)
  ·have z':s.heap.objs.size+1≤s.heap.objs.size:=by rw[← z1];exact z
   exact absurd z' (Nat.not_succ_le_self _)
 have gS:h'.get? s.heap.objs.size=some { cls:=.type "list",data:=.seq ([]:List Value).toArray }:=kp _ _ g0
 refine wpAny_bind ?_
 show wpAny _ _ (updateSeq s.heap.objs.size (·.push .none) >>= fun _=>updateSeq s.heap.objs.size (·.pop)) _ _ _
 refine wpAny_bind (wpAny_updateSeq gS rfl ?_ (by simp) (by simp))
 have gS1:=Heap.get?_update_self (Obj.mapSeq (·.push Value.none)) gS rfl
 refine wpAny_updateSeq gS1 rfl ?_ (by simp;decide) (by simp)
 have gS2:=Heap.get?_update_self (Obj.mapSeq (·.pop)) gS1 rfl
 have oth:∀ b o,b≠s.heap.objs.size→h'.get? b=some o→((h'.update s.heap.objs.size (Obj.mapSeq (·.push Value.none))).update s.heap.objs.size (Obj.mapSeq (·.pop))).get? b=some o:=fun b o hb g=>by
  rw[Heap.get?_update_other _ _ (Ne.symm hb),Heap.get?_update_other _ _ (Ne.symm hb)]
  exact g
 have st2:=(W1 A.in1 (by simpa using hh)).frame 0 _ ((h'.update s.heap.objs.size (Obj.mapSeq (·.push Value.none))).update s.heap.objs.size (Obj.mapSeq (·.pop))) s.toks st (Nat.le_refl _) fun b hb o g=>oth b o (fun z=>hd (z ▸ hb)) g
 have hvl:n≤sizeLine:=by rw[en];exact qd2 (by omega)
 refine wpAny_pure ⟨plainId_quiet F.plain_extend_loop _,?_⟩
 refine codeAny_extend_loopS (W1 A.in1 (by simpa using hh)) hvl _ hd _ n 0 _ _ _ rfl (Nat.zero_le _) st2 gS2 ⟨rfl,fun j v z=>by simp at z⟩ fun s2 acc c m g2 it=>?_
 show wpAny _ A (load s.heap.objs.size >>= _) _ _ s2
 refine wpAny_bind (wpAny_load g2 ?_)
 have ev:acc.toList=vs:=by
  have hl:acc.size=n:=it.1
  have hvn:vs.length=n:=by
   have h1:=IntsAre.length i2
   rw[h1,p2.length_eq,en]
  refine List.ext_getElem? fun j=>?_
  cases hj:acc.toList[j]? with
  | none=>
   have:=List.getElem?_eq_none_iff.mp hj
   rw[Array.length_toList] at this
   rw[List.getElem?_eq_none (by omega)]
  | some v=>exact (it.2 j v (by rw[← Array.getElem?_toList];exact hj)).symm
 obtain ⟨h2,g',d2,tk,os⟩:=s2
 have eg:g'=s.gens:=m.gens
 have ed:d2=d:=m.drawn
 have eo:os=s.os:=m.os
 subst eg
 subst ed
 subst eo
 refine wpAny_pure ?_
 show Q acc.toList _
 rw[ev]
 refine k vs ns h2 d2 tk i2 p2 (Heap.lt_size g2) fun b o g=>?_
 have hb:b<s.heap.objs.size:=Heap.lt_size g
 refine m.heap b o (fun z=>?_) (oth b o (neN (.inl hb)) (kp b o (kp1 b o g)))
 have z':b=s.heap.objs.size∨b=I:=by simpa using z
 rcases z' with z|z
 ·exact absurd hb (by rw[z];exact Nat.lt_irrefl _)
 ·exact absurd (Nat.lt_of_lt_of_le hb (Nat.le_of_succ_le lI')) (by rw[z];exact Nat.lt_irrefl _)
end
theorem qdw (f:Nat→Int) (k:Int):∀ n,k∈qam f n↔∃ i,i<n∧f i=k
 | 0=>by
  unfold qam
  constructor
  ·intro h;simp at h
  ·rintro ⟨i,h,_⟩;omega
 | n+1=>by
  have ih:=qdw f k n
  have e:k∈qam f (n+1)↔k∈qam f n∨k=f n:=by
   show k∈(if f n∈qam f n then qam f n else qam f n++[f n])↔_
   split
   ·rename_i h
    exact ⟨.inl,fun z=>z.elim id fun z=>z ▸ h⟩
   ·rw[List.mem_append,List.mem_singleton]
  rw[e,ih]
  constructor
  ·rintro (⟨i,h,z⟩|z)
   ·exact ⟨i,by omega,z⟩
   ·exact ⟨n,by omega,z.symm⟩
  ·rintro ⟨i,h,z⟩
   by_cases hi:i=n
   ·subst hi;exact .inr z.symm
   ·exact .inl ⟨i,by omega,z⟩
theorem ycv (f:Nat→Int):∀ n,(qam f n).Nodup
 | 0=>List.nodup_nil
 | n+1=>by
  have ih:=ycv f n
  show (if f n∈qam f n then qam f n else qam f n++[f n]).Nodup
  split
  ·exact ih
  ·rename_i h
   rw[List.nodup_append]
   exact ⟨ih,by simp,fun x hx y hy z=>h (by rw[← List.mem_singleton.mp hy,← z];exact hx)⟩
def uniq (ns:List Int):List Int:=qam (fun i=>ns.getD i 0) ns.length
theorem qf7 (ns:List Int) (k:Int):k∈uniq ns↔k∈ns:=by
 unfold uniq
 rw[qdw]
 constructor
 ·rintro ⟨i,h,z⟩
  rw[List.getD_eq_getElem?_getD,List.getElem?_eq_getElem h] at z
  rw[← z]
  exact List.getElem_mem h
 ·intro h
  obtain ⟨i,hi,e⟩:=List.getElem_of_mem h
  exact ⟨i,hi,by rw[List.getD_eq_getElem?_getD,List.getElem?_eq_getElem hi,e];rfl⟩
theorem ygi (ns:List Int):(uniq ns).Nodup:=ycv _ _
theorem yd6 (ns:List Int):(uniq ns).length≤ns.length:=yct _ _
def SetO (P:Program) (w:World) (a:Addr) (ks:List Int):HO:=.ext fun h=>SetL P w h a ks
section
variable {P:Program}{w:World}{A:Around}{E:Value→Shared→Prop}{s:Shared}{a:Addr}{ks:List Int}
theorem sortedL {Q:Value→Shared→Prop} (hh:A.handled=none) (hS:SetL P w s.heap a ks) (h64:ks.length<64)
  (k:∀ l h' d tk vs ns e,s.heap.objs.size≤l→h'.get? l=some (seqObj "list" (List.toArray vs) e)→IntsAre vs ns→ns.Perm ks→ns.Pairwise (·≤·)→(∀ b o,s.heap.get? b=some o→h'.get? b=some o)→Q (.ref l) { s with heap:=h',drawn:=d,toks:=tk }) :
  wpAny (model P w) A (call (.builtin "sorted") [.ref a]) Q E s:=by
 refine Calls.call_function_entry kind_sorted plain_sorted entry_sorted (args_sorted1 (.ref a)) ?_
 unfold Builtin.«sorted»
 refine wpAny_bind (m:=checkCount "sorted" 1 1 _) ?_
 refine wpAny_pure ?_
 refine wpAny_bind (collectL (by simpa using hh) hS (by omega) fun vs ns h1 d tk i1 p1 hz kp=>?_)
 have hvl:vs.length=ks.length:=by
  have h1:=IntsAre.length i1
  rw[h1,p1.length_eq]
 refine wpAny_bind (wpAny_newList ?_ (qd2 (by omega)))
 have gL:(h1.push (seqObj "list" vs.toArray 0)).get? h1.objs.size=some (seqObj "list" vs.toArray 0):=Heap.get?_push_size _ rfl
 refine wpAny_bind (wpAny_holding (wpAny_call_entry slot_list_sort ⟨_,gL,rfl⟩ entry_list_sort (list_sort_tree gL i1 (by omega) fun out n2 a1 a2 a3=>⟨_,rfl,?_⟩) (args_list_sort _)))
 obtain ⟨ep,ge⟩:=sortedHeap_at (out:=out) gL
 refine wpAny_pure ⟨_,rfl,k _ _ d tk out.toList n2 ep (Nat.le_of_lt hz) (by simpa using ge) a1 (a2.trans p1) a3 fun b o g=>?_⟩
 have hb:b<h1.objs.size:=Heap.lt_size (kp b o g)
 rw[sortedHeap_old (Nat.ne_of_lt hb) (by rw[show (h1.push (seqObj "list" vs.toArray 0)).objs.size=h1.objs.size+1 from Heap.size_push ..];exact Nat.lt_succ_of_lt hb)]
 exact Heap.get?_push_of_some _ (kp b o g)
end
section
variable {X:Cx}{pins:List (Addr×Obj)}{σ:St}{H:Hp}{s:Shared}
theorem Inv.draw (I:Inv X pins σ H s) (d:Drawn):Inv X pins σ H { s with drawn:=d }:=⟨I.ok,I.os,I.bare,I.base,I.loc,I.cell,I.free,I.freeC,I.pin,I.hok,I.len⟩
def rSet (P:Program) (w:World):List V→Hp→VK→Prop:=fun xs H Q=>∃ (l:Addr) (ns:List Int),xs=[.ref l]∧H l=some (.lst (ns.map V.int))∧ns.length≤4000∧∀ p,H p=none→Q (.ref p) (upd H p (SetO P w p (uniq ns)))
theorem ybu (hc:X.calm=true):ybh X (.type "set") (rSet X.prog X.w):=by
 intro pins s σ H xs us Q I r h
 obtain ⟨l,ns,rfl,hH,h4,q⟩:=h
 cases r with
 | cons r rr=>
  cases rr
  cases r
  obtain ⟨z,its,n,rv,hl,e⟩:=I.lstM hH
  have hil:its.length=ns.length:=by rw[← hl,List.length_map]
  have hf:H s.heap.objs.size=none:=I.hok.fresh (Nat.le_refl _)
  refine ygr (by simpa using I.ok.hd hc) (its:=its.toArray) (ns:=ns) ⟨_,e,rfl,n,rfl⟩ (by simpa using ydu rv) (by rw[List.size_toArray,hil];unfold scanBound;omega) fun h' tk S kp=>?_
  have ez:its.toArray.size=ns.length:=by rw[List.size_toArray,hil]
  rw[ez] at S
  refine ⟨.ref s.heap.objs.size,_,I.laid (o:=SetO X.prog X.w s.heap.objs.size (uniq ns)) (t':=tk) (fun b o g=>kp b o (Heap.lt_size g) g) (Nat.le_refl _) ?_,rfl,q _ hf⟩
  refine ⟨S,?_,fun h1 h2 x y=>SetL.at x y⟩
  obtain ⟨o,es,ep,t,g,_⟩:=S
  exact ⟨o,g⟩
def rLenSet (P:Program) (w:World):List V→Hp→VK→Prop:=fun xs H Q=>∃ (p:Addr) (ks:List Int),xs=[.ref p]∧H p=some (SetO P w p ks)∧Q (.int ks.length) H
theorem qbn:ybh X (.builtin "len") (rLenSet X.prog X.w):=by
 intro pins s σ H xs us Q I r h
 obtain ⟨p,ks,rfl,hH,q⟩:=h
 cases r with
 | cons r rr=>
  cases rr
  cases r
  obtain ⟨⟨o,es,ep,t,g,gx,gd,el,⟨ns,hi,hp⟩,hb,hf,ht,hl⟩,_⟩:=I.hok p _ hH
  have hlen:es.size=ks.length:=by
   have h1:=IntsAre.length hi
   rw[List.length_map,Array.length_toList] at h1
   rw[h1,hp.length_eq]
  refine call_len_set g gx gd hf (by unfold scanBound at hb;omega) ?_
  rw[hlen]
  exact ⟨.int ks.length,H,I.tok _,⟨_,rfl⟩,q⟩
def rSortSet (P:Program) (w:World):List V→Hp→VK→Prop:=fun xs H Q=>∃ (p:Addr) (ks:List Int),xs=[.ref p]∧H p=some (SetO P w p ks)∧ks.length<64∧∀ (l:Addr) (ns:List Int),H l=none→ns.Perm ks→ns.Pairwise (·≤·)→Q (.ref l) (upd H l (.lst (ns.map V.int)))
theorem yek (hc:X.calm=true):ybh X (.builtin "sorted") (rSortSet X.prog X.w):=by
 intro pins s σ H xs us Q I r h
 obtain ⟨p,ks,rfl,hH,h64,q⟩:=h
 cases r with
 | cons r rr=>
  cases rr
  cases r
  obtain ⟨S,_⟩:=I.hok p _ hH
  refine sortedL (by simpa using I.ok.hd hc) S h64 fun l h' d tk vs ns e hz gl i1 p1 w1 kp=>?_
  have hf:H l=none:=I.hok.fresh hz
  refine ⟨.ref l,_,(I.draw d).laid (o:=.lst (ns.map V.int)) (t':=tk) (fun b o g=>kp b o g) hz ?_,rfl,q l ns hf p1 w1⟩
  exact ⟨qd2 (by rw[List.length_map,p1.length_eq];omega),vs,e,qe8 i1,gl⟩
end
theorem qbh:bootBuiltins "set" = some (.type "set"):=by decide +kernel
theorem qc5 {K:PySem.W.Frag}{t1 t2:Bool}{l1 l2:Addr}{xs ys:List V}{g:TG}{tt:TT}{te:TE}{ix:List (Option Nat)}{σ:St}{H:Hp}{QD:Hp→Prop}{D:Addr} (hlen:xs.length=ys.length) (Pv:Nat→Hp→Prop) (h0:Pv 0 (upd H D (.lst [])))
  (hl:∀ i H',Pv i H'→Sq K t1 H' l1 xs∧Sq K t2 H' l2 ys) (stop:∀ H',Pv xs.length H'→QD H')
  (step:∀ i x y p H',xs[i]?=some x→ys[i]?=some y→Pv i H'→H' p=none→g (.ref p) (capS ix σ) (upd H' p (.tup [x,y])) fun σ2 H3=>qa4 (capS ix σ) σ2∧tt σ2 H3 fun b H4=>
   if b=true then te σ2 H4 fun v H5=>∃ zs,H5 D=some (.lst zs)∧zs.length<sizeLine∧Pv (i+1) (upd H5 D (.lst (zs++[v]))) else Pv (i+1) H4) :
  ∃ W:Nat→Nat→Hp→Prop,(∃ m,W 0 m (upd H D (.lst [])))∧∀ i m H,W i m H→
   ((Itz K t1 t2 l1 l2).stop i H∧QD H)∨((Itz K t1 t2 l1 l2).go i H∧∃ N:Hp→Prop,(∀ H',N H'→∃ m',m' < m∧W (i+1) m' H')∧∀ x H',(Itz K t1 t2 l1 l2).yld i H x H'→g x (capS ix σ) H' fun σ2 H2=>qa4 (capS ix σ) σ2∧tt σ2 H2 fun b H3=>
    if b=true then te σ2 H3 fun v H4=>∃ zs,H4 D=some (.lst zs)∧zs.length<sizeLine∧N (upd H4 D (.lst (zs++[v]))) else N H3):=by
 refine qg1 (n:=xs.length) Pv h0 (fun H' p=>⟨?_,stop H' p⟩) fun i H' hi p=>⟨?_,?_⟩
 ·obtain ⟨q1,q2⟩:=hl _ H' p
  exact ⟨xs,ys,q1,q2,.inl (by simp)⟩
 ·obtain ⟨q1,q2⟩:=hl _ H' p
  exact ⟨xs,ys,_,_,q1,q2,List.getElem?_eq_getElem hi,List.getElem?_eq_getElem (by omega)⟩
 ·rintro x H2 ⟨pp,u,v,hp,rfl,rfl,hu⟩
  obtain ⟨q1,q2⟩:=hl _ H' p
  obtain ⟨h1,h2⟩:=hu xs ys q1 q2
  exact step i u v pp H' h1 h2 p hp
def dOf:V→PyData
 | .non=>.none
 | .bl b=>.bool b
 | .int i=>.int i
 | .str s=>.str s
 | _=>.none
theorem flat_at {H:Hp}:∀ {v:V},yb6 v=true→At H v (dOf v)
 | .non,_=>.non
 | .bl b,_=>.bl b
 | .int i,_=>.int i
 | .str s,_=>.str s
theorem qf8 {H:Hp}:∀ {vs:List V},vs.all yb6=true→AtAll H vs (vs.map dOf)
 | [],_=>.nil
 | v::vs,h=>by
  rw[List.all_cons,Bool.and_eq_true] at h
  exact .cons (flat_at h.1) (qf8 h.2)
theorem qdg:∀ {vs:List V},vs.all yb6=true→PyData.depthAll (vs.map dOf)≤1
 | [],_=>by simp[PyData.depthAll]
 | v::vs,h=>by
  rw[List.all_cons,Bool.and_eq_true] at h
  have ih:=qdg h.2
  have h1:(dOf v).depth≤1:=by
   cases v<;>first|simp[dOf,PyData.depth]|(simp[yb6] at h)
  simp only[List.map_cons,PyData.depthAll]
  omega
def Fl (xs:List V):Prop:=xs.all yb6=true∧PyData.canLayAll0 (xs.map dOf)=true
theorem eqI:∀ (a b:List Int),PyData.eqvAll (a.map PyData.int) (b.map PyData.int)=decide (a=b)
 | [],[]=>rfl
 | [],_::_=>rfl
 | _::_,[]=>rfl
 | x::a,y::b=>by
  show ((PyData.int x).eqv (.int y)&&PyData.eqvAll (a.map PyData.int) (b.map PyData.int))=_
  rw[eqI a b]
  have:(PyData.int x).eqv (.int y)=decide (x=y):=by simp[PyData.eqv];rfl
  rw[this,Bool.eq_iff_iff]
  simp
theorem qed {H:Hp}:∀ (cs:List Int),AtAll H (cs.map V.int) (cs.map PyData.int)
 | []=>.nil
 | c::cs=>.cons (.int c) (qed cs)
theorem layI:∀ (cs:List Int),PyData.canLayAll0 (cs.map PyData.int)=true
 | []=>rfl
 | c::cs=>by
  have:=layI cs
  simp only[List.map_cons,PyData.canLayAll0,this,Bool.and_true]
  rfl
theorem depI:∀ (cs:List Int),PyData.depthAll (cs.map PyData.int)≤1
 | []=>by simp[PyData.depthAll]
 | c::cs=>by
  have:=depI cs
  simp only[List.map_cons,PyData.depthAll,PyData.depth]
  omega
def tupD (ks:List (List Int)):List PyData:=ks.map fun k=>PyData.tuple (k.map PyData.int)
theorem eqTs:∀ (a b:List (List Int)),PyData.eqvAll (tupD a) (tupD b)=decide (a=b)
 | [],[]=>rfl
 | [],_::_=>rfl
 | _::_,[]=>rfl
 | x::a,y::b=>by
  show ((PyData.tuple (x.map PyData.int)).eqv (.tuple (y.map PyData.int))&&PyData.eqvAll (tupD a) (tupD b))=_
  rw[eqTs a b]
  have:(PyData.tuple (x.map PyData.int)).eqv (.tuple (y.map PyData.int))=decide (x=y):=by rw[PyData.eqv];exact eqI x y
  rw[this,Bool.eq_iff_iff]
  simp
theorem atTs {H:Hp}:∀ {ts:List TL},(∀ t∈ts,H t.1=some (.tup (t.2.map V.int)))→AtAll H (ya6 ts) (tupD (ts.map (·.2)))
 | [],_=>.nil
 | t::ts,h=>.cons (.tup (h t (List.mem_cons_self ..)) (qed _)) (atTs fun u hu=>h u (List.mem_cons_of_mem _ hu))
theorem layTs:∀ (ks:List (List Int)),PyData.canLayAll0 (tupD ks)=true
 | []=>rfl
 | k::ks=>by
  show (PyData.canLay0 (.tuple (k.map PyData.int))&&PyData.canLayAll0 (tupD ks))=true
  rw[layTs ks,Bool.and_true]
  exact layI k
theorem depTs:∀ (ks:List (List Int)),PyData.depthAll (tupD ks)≤2
 | []=>by simp[tupD,PyData.depthAll]
 | k::ks=>by
  have h1:=depTs ks
  have h2:=depI k
  unfold tupD at h1 ⊢
  simp only[List.map_cons,PyData.depthAll,PyData.depth]
  omega
section
variable {X:Cx}
def rInP (neg:Bool):R2:=fun x y H Q=>∃ (q p:Addr) (k:List Int) (ts:List TL),x=.ref q∧y=.ref p∧H q=some (.tup (k.map V.int))∧H p=some (.lst (ya6 ts))∧(∀ t∈ts,H t.1=some (.tup (t.2.map V.int)))∧Q (.bl (if neg then !decide (k∈ts.map (·.2)) else decide (k∈ts.map (·.2)))) H
def eUP (H:Hp) (k:List Int):Value→Bool
 | .ref a=>match H a with|some (.tup xs)=>decide (xs=k.map V.int)|_=>false
 | _=>false
theorem qfm {a b:List Int}:a.map V.int=b.map V.int↔a=b:=by
 constructor
 ·intro h
  have:=congrArg (List.map fun v:V=>match v with | .int i=>i|_=>0) h
  rw[List.map_map,List.map_map] at this
  have e:((fun v:V=>match v with | .int i=>i|_=>(0:Int)) ∘ V.int)=id:=rfl
  rw[e,List.map_id,List.map_id] at this
  exact this
 ·intro h;rw[h]
theorem eUP_at {H:Hp}{k m:List Int}{a:Addr} (ha:H a=some (.tup (m.map V.int))):eUP H k (.ref a)=decide (m=k):=by
 unfold eUP
 dsimp only
 rw[ha]
 dsimp only
 exact decide_eq_decide.mpr qfm
theorem qhj {H:Hp}{k:List Int}:∀ {ts:List TL},(∀ t∈ts,H t.1=some (.tup (t.2.map V.int)))→(yal ts).any (eUP H k)=decide (k∈ts.map (·.2))
 | [],_=>rfl
 | t::ts,h=>by
  show (eUP H k (.ref t.1)||(yal ts).any (eUP H k))=_
  rw[qhj fun u hu=>h u (List.mem_cons_of_mem _ hu),eUP_at (h t (List.mem_cons_self ..)),← Bool.decide_or]
  refine decide_eq_decide.mpr ?_
  rw[List.map_cons,List.mem_cons]
  exact ⟨fun z=>z.imp Eq.symm id,fun z=>z.imp Eq.symm id⟩
theorem eUP_eq {pins:List (Addr×Obj)}{σ:St}{H:Hp}{s:Shared}{n:Nat} (hr:Room n X.A) (I:Inv X pins σ H s) {q:Addr}{k:List Int}{ts:List TL} (hq:H q=some (.tup (k.map V.int))) (hT:∀ t∈ts,H t.1=some (.tup (t.2.map V.int))) :
  ∀ y,y∈yal ts→SeqAt.EqAt X.A.in1 s y (.ref q) (eUP H k y):=fun y hy=>by
 obtain ⟨t,ht,rfl⟩:=List.mem_map.mp hy
 have ha:=hT t ht
 have hu:=hr.units
 obtain ⟨as,rx⟩:=(At.tup hq (qed k)).reads I.hok (u:=.ref q) rfl
 obtain ⟨bs,ry⟩:=(At.tup ha (qed t.2)).reads I.hok (u:=.ref t.1) rfl
 have e:eUP H k (.ref t.1)=PyData.eqv (.tuple (t.2.map PyData.int)) (.tuple (k.map PyData.int)):=by rw[eUP_at ha,PyData.eqv];exact (eqI _ _).symm
 rw[e]
 refine PySem.SeqAt.eqAt_reads _ _ _ _ _ _ _ _ ry rx (layI _) (layI _) ?_
 have h1:=depI t.2
 have h2:=Nat.min_le_left (PyData.tuple (t.2.map PyData.int)).depth (PyData.tuple (k.map PyData.int)).depth
 have h3:(PyData.tuple (t.2.map PyData.int)).depth≤2:=by
  simp only[PyData.depth]
  omega
 show X.A.units+1+_<_
 omega
theorem yha {n:Nat} (hr:Room n X.A):OpR X (compareOp .NotIn) (rInP true):=by
 intro pins s σ H x y v u Q I rx ry h
 obtain ⟨q,p,k,ts,rfl,rfl,hq,hp,hT,kk⟩:=h
 cases rx
 cases ry
 obtain ⟨its,r,pl,hz⟩:=I.list (SqL.of hp)
 have ei:=qeg r
 subst ei
 refine SeqAt.notIn_listAt (eUP H k) pl.isList (fun w hw=>eUP_eq hr I hq hT w (by simpa using hw)) ⟨.bl _,H,I,rfl,?_⟩
 rw[show (yal ts).toArray.any (eUP H k)=(yal ts).any (eUP H k) by simp,qhj hT]
 exact kk
end
def yad (t:SetTable):Nat→SetTable.Probe→SetTable.Probe
 | 0,p=>p
 | n+1,p=>yad t n (t.advance p)
theorem qa2 (t:SetTable):∀ (a b:Nat) (p:SetTable.Probe),yad t (a+b) p=yad t b (yad t a p)
 | 0,b,p=>by rw[Nat.zero_add];rfl
 | a+1,b,p=>by
  rw[Nat.add_right_comm]
  exact qa2 t a b (t.advance p)
def Pr8 (p:SetTable.Probe):Prop:=p.more=0∧p.j=p.i∧p.i<8∧p.dummy=none
theorem run8 {i:Nat} (h:i<8):SetTable.runEnd 7 i-i=0:=by
 unfold SetTable.runEnd
 rw[if_neg (by omega)]
 omega
theorem start8 {t:SetTable} (hm:t.mask=7) (h:Int):Pr8 (t.probeStart h)∧(t.probeStart h).perturb<2 ^ 64:=by
 unfold SetTable.probeStart
 rw[hm]
 have hi:SetTable.bits h % (7+1)<8:=Nat.mod_lt _ (by decide)
 refine ⟨⟨run8 hi,rfl,hi,rfl⟩,?_⟩
 show SetTable.bits h<2 ^ 64
 unfold SetTable.bits
 have h0:=Int.emod_nonneg h (show ((2:Int) ^ 64)≠0 by decide)
 have h1:=Int.emod_lt_of_pos h (show (0:Int)<(2:Int) ^ 64 by decide)
 omega
theorem adv8 {t:SetTable} (hm:t.mask=7) {p:SetTable.Probe} (hp:Pr8 p):Pr8 (t.advance p)∧(t.advance p).i=(p.i*5+1+p.perturb / 32) % 8∧(t.advance p).perturb=p.perturb / 32:=by
 obtain ⟨h1,h2,h3,h4⟩:=hp
 have hi:(p.i*5+1+p.perturb / 32) % 8<8:=Nat.mod_lt _ (by decide)
 unfold SetTable.advance SetTable.leap
 rw[h1,if_neg (by decide),hm]
 exact ⟨⟨run8 hi,rfl,hi,h4⟩,rfl,rfl⟩
theorem yd8 {t:SetTable} (hm:t.mask=7):∀ (n:Nat) {p:SetTable.Probe},Pr8 p→Pr8 (yad t n p)∧(yad t n p).perturb=p.perturb / 32 ^ n
 | 0,p,hp=>⟨hp,by rw[Nat.pow_zero,Nat.div_one];rfl⟩
 | n+1,p,hp=>by
  obtain ⟨a,_,c⟩:=adv8 hm hp
  obtain ⟨x,y⟩:=yd8 hm n a
  refine ⟨x,?_⟩
  show (yad t n (t.advance p)).perturb=_
  rw[y,c,Nat.div_div_eq_div_mul,Nat.pow_succ,Nat.mul_comm]
def it8:Nat→Nat→Nat
 | 0,x=>x
 | n+1,x=>it8 n ((x*5+1) % 8)
theorem cycle8 {t:SetTable} (hm:t.mask=7) {p:SetTable.Probe} (hp:Pr8 p) (h0:p.perturb=0):∀ n,(yad t n p).i=it8 n p.i∧(yad t n p).perturb=0:=by
 intro n
 induction n generalizing p with
 | zero=>exact ⟨rfl,h0⟩
 | succ n ih=>
  obtain ⟨a,b,c⟩:=adv8 hm hp
  rw[h0] at b c
  have:=ih a c
  refine ⟨?_,this.2⟩
  show (yad t n (t.advance p)).i=_
  rw[this.1,b]
  rfl
theorem all8:∀ i:Fin 8,∀ j:Fin 8,∃ n:Fin 8,it8 n.val i.val=j.val:=by decide
theorem meets8 {t:SetTable} (hm:t.mask=7) {p:SetTable.Probe} (hp:Pr8 p) (h64:p.perturb<32 ^ 13) {j:Nat} (hj:j<8):∃ n,n<21∧(yad t n p).j=j:=by
 have key:∀ (d:Nat) (q:SetTable.Probe),q=yad t d p→p.perturb<32 ^ d→∃ n,n<8∧(yad t n q).j=j:=fun d q hq hd=>by
  obtain ⟨a,b⟩:=yd8 hm d hp
  rw[← hq] at a b
  rw[Nat.div_eq_of_lt hd] at b
  obtain ⟨n,hn⟩:=all8 ⟨q.i,a.2.2.1⟩ ⟨j,hj⟩
  refine ⟨n.val,n.isLt,?_⟩
  rw[(yd8 hm n.val a).1.2.1,(cycle8 hm a b n.val).1]
  exact hn
 obtain ⟨n,h1,h2⟩:=key 13 _ rfl h64
 rw[← qa2] at h2
 exact ⟨13+n,by omega,h2⟩
theorem yfy {t:SetTable} (ht:TOk t) (f:Nat→Int) (h:Int):∀ (fuel n:Nat) (p:SetTable.Probe),n<fuel→t.slot (yad t n p).j=.empty→p.dummy=none→
  ∃ m,m≤n∧(∀ k,k<m→∃ i,t.slot (yad t k p).j=.live i∧f i≠h)∧
   ((t.slot (yad t m p).j=.empty∧SetTable.probe.go t f h fuel p=some (.empty (yad t m p).j none))∨
    ∃ i,m<n∧t.slot (yad t m p).j=.live i∧f i=h∧SetTable.probe.go t f h fuel p=some (.candidate (yad t m p).j i (yad t (m+1) p)))
 | 0,n,p,hn,_,_=>absurd hn (Nat.not_lt_zero _)
 | fuel+1,n,p,hn,he,hd=>by
  cases hs:t.slot p.j with
  | empty=>
   refine ⟨0,Nat.zero_le _,fun k hk=>absurd hk (Nat.not_lt_zero _),.inl ⟨hs,?_⟩⟩
   unfold SetTable.probe.go
   rw[hs]
   show some (SetTable.Met.empty p.j p.dummy)=_
   rw[hd]
   rfl
  | dummy=>exact absurd hs (yfo ht _)
  | live i=>
   cases n with
   | zero=>
    rw[show (yad t 0 p).j=p.j from rfl,hs] at he
    cases he
   | succ n=>
    by_cases hf:f i=h
    ·refine ⟨0,Nat.zero_le _,fun k hk=>absurd hk (Nat.not_lt_zero _),.inr ⟨i,Nat.succ_pos _,hs,hf,?_⟩⟩
     unfold SetTable.probe.go
     rw[hs]
     show (if (f i == h)=true then _ else _)=_
     rw[if_pos (by rw[hf];exact beq_self_eq_true h)]
     rfl
    ·obtain ⟨m,h1,h2,h3⟩:=yfy ht f h fuel n (t.advance p) (by omega) he (by rw[ych];exact hd)
     have eg:SetTable.probe.go t f h (fuel+1) p=SetTable.probe.go t f h fuel (t.advance p):=by
      conv=>lhs;unfold SetTable.probe.go
      rw[hs]
      show (if (f i == h)=true then _ else _)=_
      rw[if_neg (by simpa using hf)]
     refine ⟨m+1,by omega,fun k hk=>?_,?_⟩
     ·cases k with
      | zero=>exact ⟨i,hs,hf⟩
      | succ k=>exact h2 k (by omega)
     ·rw[eg]
      rcases h3 with ⟨a,b⟩|⟨i',a,b,c,d⟩
      ·exact .inl ⟨a,b⟩
      ·exact .inr ⟨i',by omega,b,c,d⟩
section
variable {P:Program}{w:World}{A:Around}{E:Value→Shared→Prop}{s:Shared}
theorem yde (d:Nat) {v:Value} (h:carriedByValue v=true):ofAClassStatement d v=pure false:=by
 cases v with
 | ref a=>exact absurd h (fun z=>by unfold carriedByValue at z;cases z)
 | _=>cases d<;>rfl
theorem ycl {ks:List Int}{a:Addr}{Q:Bool→Shared→Prop} (hk:IsTupleKey (intKind P w) s.heap ks a) (h:Q false s):wpAny (model P w) A (ofAClassStatement 8 (.ref a)) Q E s:=by
 have hT:=hk.typeIs
 obtain ⟨o,items,n,ho,_,hd,hi⟩:=hk
 unfold ofAClassStatement
 refine wpAny_bind (wpAny_typeOf hT ?_)
 dsimp only
 refine wpAny_bind ?_
 refine wpAny_pure ?_
 simp only[Bool.not_true,Bool.false_eq_true,if_false]
 refine wpAny_bind (wpAny_seqItems ho hd ?_)
 refine wpAny_bind ?_
 show wpAny _ _ (forIn items _ _) _ _ s
 rw[← Array.forIn_toList]
 refine wpAny_forIn_list _ (fun rest r s'=>r.1=none∧s'=s∧∀ v∈rest,carriedByValue v=true) _ ?_ ?_ _ _ ⟨rfl,rfl,hi.byValue⟩
 ·rintro v rest r s' ⟨hr,rfl,hall⟩
  rw[yde _ (hall v List.mem_cons_self)]
  refine wpAny_bind (wpAny_pure ?_)
  simp only[Bool.false_eq_true,if_false]
  exact wpAny_pure ⟨rfl,rfl,fun u hu'=>hall u (List.mem_cons_of_mem _ hu')⟩
 ·rintro ⟨r1,r2⟩ s' ⟨hr,rfl,_⟩
  simp only at hr
  subst hr
  exact wpAny_pure h
theorem unseen {x:List Int}{a:Addr}{Q:Bool→Shared→Prop} (hx:IsTupleKey (intKind P w) s.heap x a) (ys:List Value) (hy:∀ y∈ys,∃ k b,y=.ref b∧IsTupleKey (intKind P w) s.heap k b) (h:Q false s):wpAny (model P w) A (searchCouldBeSeen (.ref a) ys) Q E s:=by
 unfold searchCouldBeSeen
 refine wpAny_bind ?_
 refine wpAny_forIn_list _ (fun rest r s'=>r.1=none∧s'=s∧∀ y∈rest,∃ k b,y=.ref b∧IsTupleKey (intKind P w) s.heap k b) _ ?_ ?_ _ _ ⟨rfl,rfl,hy⟩
 ·rintro v rest r s' ⟨hr,rfl,hall⟩
  obtain ⟨k,b,rfl,hb⟩:=hall v List.mem_cons_self
  have nx:∀ u∈rest,∃ k b,u=.ref b∧IsTupleKey (intKind P w) s'.heap k b:=fun u hu=>hall u (List.mem_cons_of_mem _ hu)
  dsimp only
  split
  ·exact wpAny_pure ⟨rfl,rfl,nx⟩
  ·refine wpAny_bind ((tupleKind (intKind P w)).quiet hx ?_)
   simp only[Bool.not_true,Bool.false_eq_true,if_false]
   refine wpAny_bind ((tupleKind (intKind P w)).quiet hb ?_)
   simp only[Bool.not_true,Bool.false_eq_true,if_false]
   refine wpAny_bind (ycl hx ?_)
   simp only[Bool.false_eq_true,if_false]
   refine wpAny_bind (ycl hb ?_)
   simp only[Bool.false_eq_true,if_false]
   exact wpAny_pure ⟨rfl,rfl,nx⟩
 ·rintro ⟨r1,r2⟩ s' ⟨hr,rfl,_⟩
  simp only at hr
  subst hr
  exact wpAny_pure h
end
theorem qcd {t:SetTable}{j i:Nat} (h:t.slot j=.live i):t.place[i]?=some j:=by
 unfold SetTable.slot at h
 dsimp only at h
 split at h
 ·rename_i hb
  cases h
  exact eq_of_beq hb
 ·split at h<;>cases h
theorem yd1 {t:SetTable} (ht:TOk t) {j i:Nat} (h:t.place[i]?=some j):t.slot j=.live i:=by
 have hb:SetTable.below t.place j=i:=yed ht.1 (Nat.le_of_lt (Array.getElem?_eq_some_iff.mp h).1) (fun k x hk hx=>ht.1 k i x j hk hx h) (fun k x hk hx=>by
  rcases Nat.lt_or_eq_of_le hk with z|z
  ·exact Nat.le_of_lt (ht.1 i k j x z h hx)
  ·rw[← z,h] at hx;cases hx;exact Nat.le_refl _)
 unfold SetTable.slot
 dsimp only
 rw[hb,h,if_pos (beq_self_eq_true _)]
theorem yeq:∀ {l m:List Nat},l.Nodup→(∀ x∈l,x∈m)→l.length≤m.length
 | [],_,_,_=>Nat.zero_le _
 | x::l,m,hn,h=>by
  obtain ⟨hx,hl⟩:=List.nodup_cons.mp hn
  have:=yeq (m:=m.erase x) hl fun y hy=>(List.mem_erase_of_ne (fun z:y=x=>hx (z ▸ hy))).mpr (h y (List.mem_cons_of_mem _ hy))
  rw[List.length_erase_of_mem (h x (List.mem_cons_self ..))] at this
  have:=List.length_pos_of_mem (h x (List.mem_cons_self ..))
  rw[List.length_cons]
  omega
theorem ex_empty {t:SetTable} (ht:TOk t) (hs:t.place.size≤7):∃ j,j<8∧t.slot j=.empty:=by
 refine Classical.byContradiction fun hn=>?_
 have all:∀ j∈List.range 8,j∈t.place.toList:=fun j hj=>by
  cases e:t.slot j with
  | empty=>exact absurd ⟨j,List.mem_range.mp hj,e⟩ hn
  | dummy=>exact absurd e (yfo ht _)
  | live i=>exact List.mem_of_getElem? (by rw[Array.getElem?_toList];exact qcd e)
 have:=yeq List.nodup_range all
 rw[List.length_range,Array.length_toList] at this
 omega
structure TabT (P:Program) (w:World) (h:Heap) (es:Array (Int×Value)) (t:SetTable) (qs:List (List Int×Addr)):Prop where
 eqs:es.toList=qs.map fun q=>(tupleKeyHash (intKind P w) q.1,Value.ref q.2)
 at_:∀ q∈qs,IsTupleKey (intKind P w) h q.1 q.2
 few:qs.length≤4
 fits:t.fits es.size=true
 ok:TOk t
 mask:t.mask=7
 reach:∀ (i j:Nat) (q:List Int×Addr),t.place[i]?=some j→qs[i]?=some q→∃ m,(yad t m (t.probeStart (tupleKeyHash (intKind P w) q.1))).j=j∧∀ k,k<m→∃ i',t.slot (yad t k (t.probeStart (tupleKeyHash (intKind P w) q.1))).j=.live i'
theorem TabT.size {P:Program}{w:World}{h:Heap}{es:Array (Int×Value)}{t:SetTable}{qs:List (List Int×Addr)} (T:TabT P w h es t qs):es.size=qs.length∧t.place.size=qs.length:=by
 have h1:es.size=qs.length:=by have:=congrArg List.length T.eqs;rwa [Array.length_toList,List.length_map] at this
 refine ⟨h1,?_⟩
 have:=T.fits
 unfold SetTable.fits at this
 rw[Bool.and_eq_true] at this
 rw[eq_of_beq this.1,h1]
theorem TabT.get {P:Program}{w:World}{h:Heap}{es:Array (Int×Value)}{t:SetTable}{qs:List (List Int×Addr)} (T:TabT P w h es t qs) {i j:Nat} (e:t.place[i]?=some j):∃ q,qs[i]?=some q∧es[i]?=some (tupleKeyHash (intKind P w) q.1,.ref q.2):=by
 have hi:i<qs.length:=by rw[← T.size.2];exact (Array.getElem?_eq_some_iff.mp e).1
 refine ⟨qs[i],List.getElem?_eq_getElem hi,?_⟩
 rw[← Array.getElem?_toList,T.eqs,List.getElem?_map,List.getElem?_eq_getElem hi]
 rfl
def stH (es:Array (Int×Value)) (i:Nat):Int:=(es[i]?.map (·.1)).getD 0
section
variable {P:Program}{w:World}{A:Around}{E:Value→Shared→Prop}{s:Shared}{a b:Addr}{o:Obj}{es:Array (Int×Value)}{ep:Nat}{t:SetTable}{qs:List (List Int×Addr)}{x:List Int}{Q:SetFound→Shared→Prop}
theorem qga {c:Addr}{R:Bool→Shared→Prop} (h:R true s):wpAny (model P w) A (isSame (.ref c) (.ref c)) R E s:=by
 unfold isSame
 simp only[beq_self_eq_true,if_true]
 exact wpAny_pure h
theorem searchT (g:s.heap.get? a=some o) (gd:o.data=.set es ep t) (T:TabT P w s.heap es t qs) (hx:IsTupleKey (intKind P w) s.heap x b) (hu:A.units<cLine)
  (yes:x∈qs.map (·.1)→Q (.there none) s) (no:∀ m,t.slot (yad t m (t.probeStart (tupleKeyHash (intKind P w) x))).j=.empty→(∀ k,k<m→∃ i,t.slot (yad t k (t.probeStart (tupleKeyHash (intKind P w) x))).j=.live i)→x∉qs.map (·.1)→Q (.free (yad t m (t.probeStart (tupleKeyHash (intKind P w) x))).j false) s) :
  ∀ (n fuel c:Nat) (stand:Option SetTable.Probe),stand.getD (t.probeStart (tupleKeyHash (intKind P w) x))=yad t c (t.probeStart (tupleKeyHash (intKind P w) x))→t.slot (yad t (c+n) (t.probeStart (tupleKeyHash (intKind P w) x))).j=.empty→n<21→n<fuel→
   (∀ k,k<c→∃ i q,t.slot (yad t k (t.probeStart (tupleKeyHash (intKind P w) x))).j=.live i∧qs[i]?=some q∧q.1≠x)→wpAny (model P w) A (setSearchFrom a (.ref b) (tupleKeyHash (intKind P w) x) true fuel stand) Q E s:=by
 intro n
 induction n using Nat.strongRecOn with
 | ind n ih=>
  intro fuel c stand hst hemp hn hf hold
  obtain ⟨fuel,rfl⟩:∃ f,fuel=f+1:=⟨fuel-1,by omega⟩
  generalize hS:t.probeStart (tupleKeyHash (intKind P w) x)=S at *
  unfold setSearchFrom
  refine wpAny_bind (wpAny_setState_of g gd T.fits ?_)
  dsimp only
  rw[show t.gaveWay=false by unfold SetTable.gaveWay;rw[T.mask];rfl]
  simp only[Bool.false_eq_true,if_false]
  rw[hS,hst]
  have hdm:(yad t c S).dummy=none:=by
   rw[← hS]
   exact (yd8 T.mask c (start8 T.mask _).1).1.2.2.2
  obtain ⟨m,hm,hlt,hcase⟩:=yfy T.ok (stH es) (tupleKeyHash (intKind P w) x) (10*SetTable.turns t.mask) n (yad t c S) (by unfold SetTable.turns;omega) (by rw[← qa2];exact hemp) hdm
  rw[← qa2] at hcase
  have hsh:∀ {i j q},t.place[i]?=some j→qs[i]?=some q→stH es i=tupleKeyHash (intKind P w) q.1:=fun {i j q} e1 e2=>by
   obtain ⟨q',h1,h2⟩:=T.get e1
   rw[e2] at h1
   cases h1
   unfold stH
   rw[h2]
   rfl
  rcases hcase with ⟨he,hgo⟩|⟨i,hmn,hl,hfi,hgo⟩
  ·erw [show t.probe (stH es) (tupleKeyHash (intKind P w) x) (yad t c S)=_ from hgo]
   dsimp only
   have hlive:∀ k,k<c+m→∃ i q,t.slot (yad t k S).j=.live i∧qs[i]?=some q∧q.1≠x:=fun k hk=>by
    by_cases hkc:k<c
    ·exact hold k hkc
    ·obtain ⟨i,e1,e2⟩:=hlt (k-c) (by omega)
     rw[← qa2,show c+(k-c)=k by omega] at e1
     obtain ⟨q,h1,_⟩:=T.get (qcd e1)
     exact ⟨i,q,e1,h1,fun z=>e2 (by rw[hsh (qcd e1) h1,z])⟩
   refine wpAny_pure (no (c+m) he (fun k hk=>let ⟨i,_,e,_⟩:=hlive k hk;⟨i,e⟩) fun hin=>?_)
   obtain ⟨q,hq,eqx⟩:=List.mem_map.mp hin
   obtain ⟨i,hi⟩:=List.getElem?_of_mem hq
   have hil:i<t.place.size:=by rw[T.size.2];exact (List.getElem?_eq_some_iff.mp hi).1
   obtain ⟨m',hj,hl'⟩:=T.reach i _ q (Array.getElem?_eq_getElem hil) hi
   rw[eqx,hS] at hj hl'
   rcases Nat.lt_trichotomy m' (c+m) with z|z|z
   ·obtain ⟨i2,q2,e1,e2,e3⟩:=hlive m' z
    rw[hj,yd1 T.ok (Array.getElem?_eq_getElem hil)] at e1
    cases e1
    rw[hi] at e2
    cases e2
    exact e3 eqx
   ·rw[← z,hj,yd1 T.ok (Array.getElem?_eq_getElem hil)] at he
    cases he
   ·obtain ⟨i2,e⟩:=hl' _ z
    rw[he] at e
    cases e
  ·erw [show t.probe (stH es) (tupleKeyHash (intKind P w) x) (yad t c S)=_ from hgo]
   dsimp only
   obtain ⟨q,hq,hes⟩:=T.get (qcd hl)
   have hqm:q∈qs:=List.mem_of_getElem? hq
   have hall:∀ y∈(es.filter (·.1 == tupleKeyHash (intKind P w) x)).toList.map (·.2),∃ k b,y=.ref b∧IsTupleKey (intKind P w) s.heap k b:=fun y hy=>by
    obtain ⟨e,he,rfl⟩:=List.mem_map.mp hy
    rw[Array.toList_filter] at he
    have:=(List.mem_filter.mp he).1
    rw[T.eqs] at this
    obtain ⟨q',h1,rfl⟩:=List.mem_map.mp this
    exact ⟨_,_,rfl,T.at_ q' h1⟩
   have cont:wpAny (model P w) A (do
     let some (_,y):=es[i]? | unsupported "internal:set-entry"
     let equal ← holding [y] (eqBool y (.ref b))
     let (es',_,t') ← setState a
     if true&&equal then return .there none
     let some same:=t'.sameMemory t.moves t.mask|unsupported "set.changed-during-lookup:is-the-new-block-at-the-old-address"
     let still ← match (if same then t'.slot (yad t (c+m) S).j else .empty) with
      | .live i'=>match es'[i']? with
       | some (_,y')=>do pure (if ← isSame y' y then some i' else none)
       | none=>pure none
      | _=>pure none
     match still with
     | none=>rule "set.search.anew";setSearchFrom a (.ref b) (tupleKeyHash (intKind P w) x) true fuel none
     | some i'=>if equal then return .there (some i') else setSearchFrom a (.ref b) (tupleKeyHash (intKind P w) x) true fuel (some (yad t (m+1) (yad t c S)))) Q E s:=by
    rw[hes]
    dsimp only
    refine wpAny_bind (wpAny_holding ((tupleKind (intKind P w)).eqBool hu (T.at_ q hqm) hx ?_))
    refine wpAny_bind (wpAny_setState_of g gd T.fits ?_)
    dsimp only
    by_cases hqx:q.1=x
    ·rw[decide_eq_true hqx]
     exact wpAny_pure (yes (List.mem_map.mpr ⟨q,hqm,hqx⟩))
    ·rw[decide_eq_false hqx]
     rw[show t.sameMemory t.moves t.mask=some true by unfold SetTable.sameMemory;rw[if_pos (beq_self_eq_true _)]]
     simp only[Bool.and_false,Bool.false_eq_true,if_false,if_true]
     rw[hl]
     dsimp only
     rw[hes]
     dsimp only
     refine wpAny_bind (qga ?_)
     rw[if_pos rfl]
     refine wpAny_bind (wpAny_pure ?_)
     dsimp only
     refine ih (n-m-1) (by omega) fuel (c+m+1) _ ?_ (by rw[show c+m+1+(n-m-1)=c+n by omega];exact hemp) (by omega) (by omega) fun k hk=>?_
     ·show yad t (m+1) (yad t c S)=_
      rw[← qa2]
      rfl
     ·by_cases hkc:k<c
      ·exact hold k hkc
      ·by_cases hkm:k=c+m
       ·rw[hkm];exact ⟨i,q,hl,hq,hqx⟩
       ·obtain ⟨i2,e1,e2⟩:=hlt (k-c) (by omega)
        rw[← qa2,show c+(k-c)=k by omega] at e1
        obtain ⟨q2,h1,_⟩:=T.get (qcd e1)
        exact ⟨i2,q2,e1,h1,fun z=>e2 (by rw[hsh (qcd e1) h1,z])⟩
   cases hled:t.led with
   | true=>
    simp only[Bool.not_true,Bool.false_eq_true,if_false]
    exact cont
   | false=>
    simp only[Bool.not_false,if_true]
    refine wpAny_bind (unseen hx _ hall ?_)
    simp only[Bool.false_eq_true,if_false]
    exact cont
end
theorem ydm {t t':SetTable} (h:t'.mask=t.mask):∀ (n:Nat) (p:SetTable.Probe),yad t' n p=yad t n p
 | 0,p=>rfl
 | n+1,p=>by
  have e:t'.advance p=t.advance p:=by unfold SetTable.advance;rw[h]
  show yad t' n (t'.advance p)=yad t n (t.advance p)
  rw[e]
  exact ydm h n _
theorem qgd {t t':SetTable} (h:t'.mask=t.mask) (z:Int):t'.probeStart z=t.probeStart z:=by
 unfold SetTable.probeStart
 rw[h]
theorem ya7 {α:Type} (xs:Array α) (p:Nat) (x:α):(SetTable.insertAt xs p x).toList=xs.toList.take p++[x]++xs.toList.drop p:=by
 unfold SetTable.insertAt
 rw[Array.toList_append,Array.toList_push,Array.toList_extract,Array.toList_extract]
 simp[List.extract_eq_drop_take]
 exact List.take_of_length_le (by simp)
section
variable {P:Program}{w:World}{h h':Heap}{es:Array (Int×Value)}{t:SetTable}{qs:List (List Int×Addr)}{x:List Int}{b:Addr}
def qd6 (t:SetTable) (qs:List (List Int×Addr)) (j:Nat) (q:List Int×Addr):List (List Int×Addr):=qs.take (t.put j).2++[q]++qs.drop (t.put j).2
theorem TabT.put (T:TabT P w h es t qs) (hx:IsTupleKey (intKind P w) h' x b) (hk:∀ q∈qs,IsTupleKey (intKind P w) h' q.1 q.2) (h3:qs.length≤3) {m:Nat}{pl:Bool}
  (he:t.slot (yad t m (t.probeStart (tupleKeyHash (intKind P w) x))).j=.empty) (hl:∀ k,k<m→∃ i,t.slot (yad t k (t.probeStart (tupleKeyHash (intKind P w) x))).j=.live i) :
  TabT P w h' (SetTable.insertAt es (t.put (yad t m (t.probeStart (tupleKeyHash (intKind P w) x))).j).2 (tupleKeyHash (intKind P w) x,.ref b)) { (t.put (yad t m (t.probeStart (tupleKeyHash (intKind P w) x))).j).1 with plain:=pl }
   (qd6 t qs (yad t m (t.probeStart (tupleKeyHash (intKind P w) x))).j (x,b)):=by
 generalize hS:t.probeStart (tupleKeyHash (intKind P w) x)=S at *
 generalize hj:(yad t m S).j=j at *
 have hp:(t.put j).2=SetTable.below t.place j:=rfl
 have hpl:(t.put j).1.place=SetTable.insertAt t.place (SetTable.below t.place j) j:=rfl
 have hle:SetTable.below t.place j≤t.place.size:=(yeh j T.ok.1).2.2
 have hok:TOk { (t.put j).1 with plain:=pl }:=(put_ok T.ok he).1
 have sz:=T.size
 have hm:({ (t.put j).1 with plain:=pl }:SetTable).mask=t.mask:=rfl
 have keep:∀ {y:Nat},(∃ i,t.slot y=.live i)→∃ i,({ (t.put j).1 with plain:=pl }:SetTable).slot y=.live i:=fun {y} ⟨i,e⟩=>by
  have e':=qcd e
  by_cases hi:i<SetTable.below t.place j
  ·exact ⟨i,yd1 hok (by show (SetTable.insertAt t.place (SetTable.below t.place j) j)[i]?=_;rw[ya4 _ _ _ hle,if_pos hi];exact e')⟩
  ·exact ⟨i+1,yd1 hok (by show (SetTable.insertAt t.place (SetTable.below t.place j) j)[i+1]?=_;rw[ya4 _ _ _ hle,if_neg (by omega),if_neg (by omega)];exact e')⟩
 have qget:∀ i,(qd6 t qs j (x,b))[i]?=if i<SetTable.below t.place j then qs[i]? else if i=SetTable.below t.place j then some (x,b) else qs[i-1]?:=fun i=>by
  have:=ya4 qs.toArray (SetTable.below t.place j) (x,b) (by rw[List.size_toArray,← sz.2];exact hle) i
  rw[← Array.getElem?_toList,ya7] at this
  unfold qd6
  rw[hp]
  simpa using this
 have psz:(SetTable.insertAt t.place (SetTable.below t.place j) j).size=qs.length+1:=by
  rw[← Array.length_toList,ya7]
  simp
  omega
 have esz:(SetTable.insertAt es (SetTable.below t.place j) (tupleKeyHash (intKind P w) x,Value.ref b)).size=qs.length+1:=by
  rw[← Array.length_toList,ya7]
  simp
  omega
 refine ⟨?_,fun q hq=>?_,?_,?_,hok,T.mask,fun i j' q e1 e2=>?_⟩
 ·rw[hp,ya7,T.eqs]
  unfold qd6
  rw[hp]
  simp[List.map_take,List.map_drop]
 ·unfold qd6 at hq
  simp only[List.mem_append,List.mem_singleton] at hq
  rcases hq with (z|z)|z
  ·exact hk q (List.mem_of_mem_take z)
  ·rw[z];exact hx
  ·exact hk q (List.mem_of_mem_drop z)
 ·unfold qd6
  simp
  omega
 ·unfold SetTable.fits SetTable.fill
  rw[Bool.and_eq_true]
  refine ⟨?_,?_⟩
  ·show ((SetTable.insertAt t.place (SetTable.below t.place j) j).size == _)=true
   rw[hp,psz,esz]
   exact beq_self_eq_true _
  ·refine decide_eq_true ?_
   show (SetTable.insertAt t.place (SetTable.below t.place j) j).size+({ (t.put j).1 with plain:=pl }:SetTable).dummies.size≤t.mask
   rw[psz,hok.2,T.mask]
   show qs.length+1+0≤7
   omega
 ·rw[qgd hm]
  simp only[ydm hm]
  have e1':(SetTable.insertAt t.place (SetTable.below t.place j) j)[i]?=some j':=e1
  rw[ya4 _ _ _ hle] at e1'
  rw[qget] at e2
  by_cases h1:i<SetTable.below t.place j
  ·rw[if_pos h1] at e1' e2
   obtain ⟨m',r1,r2⟩:=T.reach i j' q e1' e2
   exact ⟨m',r1,fun k hk'=>keep (r2 k hk')⟩
  ·rw[if_neg h1] at e1' e2
   by_cases h2:i=SetTable.below t.place j
   ·rw[if_pos h2] at e1' e2
    cases e1'
    cases e2
    rw[hS]
    exact ⟨m,hj,fun k hk'=>keep (hl k hk')⟩
   ·rw[if_neg h2] at e1' e2
    obtain ⟨m',r1,r2⟩:=T.reach (i-1) j' q e1' e2
    exact ⟨m',r1,fun k hk'=>keep (r2 k hk')⟩
end
def SetT (P:Program) (w:World) (Z:List Int×Addr→Prop) (h:Heap) (a:Addr) (ks:List (List Int)):Prop:=
 ∃ o es ep t qs,h.get? a=some o∧o.ExactSet∧o.data=.set es ep t∧TabT P w h es t qs∧(qs.map (·.1)).Perm ks∧ks.Nodup∧(byTx w=true∨t.led=true)∧∀ q∈qs,Z q
section
variable {P:Program}{w:World}{A:Around}{E:Value→Shared→Prop}{s:Shared}{a b:Addr}{ks:List (List Int)}{x:List Int}{Z:List Int×Addr→Prop}
theorem qfq {Q:Bool→Shared→Prop} (hk:IsTupleKey (intKind P w) s.heap x b) (h:Q true s):wpAny (model P w) A (hashByValue 8 (.ref b)) Q E s:=by
 have hT:=hk.typeIs
 obtain ⟨o,items,n,ho,_,hd,hi⟩:=hk
 have hint:∀ {ks:List Int}{vs:List Value},PySem.ItemsAre (intKind P w) ks vs→∀ v∈vs,∃ k t,v=.int k t:=fun {ks vs} hi=>by
  induction hi with
  | nil=>intro v hv;cases hv
  | cons hk _ ih=>
   intro v hv
   rcases List.mem_cons.mp hv with rfl|z
   ·obtain ⟨t,rfl⟩:=Value.isInt_shape hk;exact ⟨_,t,rfl⟩
   ·exact ih v z
 unfold hashByValue
 refine wpAny_bind (wpAny_specialOf hT F.slot_tuple_hash.lookup ?_)
 dsimp only
 refine wpAny_bind (wpAny_seqItems ho hd ?_)
 refine wpAny_bind ?_
 show wpAny _ _ (forIn items _ _) _ _ s
 rw[← Array.forIn_toList]
 refine wpAny_forIn_list _ (fun rest r s'=>r.1=none∧s'=s∧∀ v∈rest,∃ k t,v=.int k t) _ ?_ ?_ _ _ ⟨rfl,rfl,hint hi⟩
 ·rintro v rest r s' ⟨hr,rfl,hall⟩
  obtain ⟨k,t,rfl⟩:=hall v List.mem_cons_self
  rw[show hashByValue 7 (.int k t)=pure true from rfl]
  refine wpAny_bind (wpAny_pure ?_)
  simp only[Bool.not_true,Bool.false_eq_true,if_false]
  exact wpAny_pure ⟨rfl,rfl,fun u hu'=>hall u (List.mem_cons_of_mem _ hu')⟩
 ·rintro ⟨r1,r2⟩ s' ⟨hr,rfl,_⟩
  simp only at hr
  subst hr
  exact wpAny_pure h
theorem qd7 {h h':Heap}{o:Obj}{es ep t}{k:List Int}{q:Addr} (x:IsTupleKey (intKind P w) h k q) (ho:h.get? a=some o) (hd:o.data=.set es ep t) (hs:Heap.SameBut a h h'):IsTupleKey (intKind P w) h' k q:=by
 obtain ⟨o',items,n,g,c,d,i⟩:=x
 have hne:q≠a:=fun z=>by
  rw[z,ho] at g
  cases g
  rw[hd] at d
  cases d
 exact ⟨o',items,n,by rw[hs.2 q hne];exact g,c,d,i⟩
theorem addT {Q:Bool→Shared→Prop} (hS:SetT P w Z s.heap a ks) (hz:Z (x,b)) (hx:IsTupleKey (intKind P w) s.heap x b) (hu:A.units<cLine) (hroom:ks.length≤3)
  (h:∀ r h',Heap.SameBut a s.heap h'→SetT P w Z h' a (if x∈ks then ks else ks++[x])→Q r { s with heap:=h' }) :
  wpAny (model P w) A (setAddHashed a (.ref b) (tupleKeyHash (intKind P w) x)) Q E s:=by
 obtain ⟨o,es,ep,t,qs,g,gx,gd,T,hp,hnd,hl,hZ⟩:=id hS
 have hql:qs.length≤3:=by have:=hp.length_eq;rw[List.length_map] at this;omega
 have es0:s={ s with heap:=s.heap }:=by cases s;rfl
 unfold setAddHashed
 refine wpAny_holding ?_
 unfold setAddHashedIn
 refine wpAny_bind (wpAny_setState_of g gd T.fits ?_)
 dsimp only
 rw[show byScan (.ref b) es=false from rfl]
 simp only[Bool.false_eq_true,if_false]
 obtain ⟨j,hj,hje⟩:=ex_empty T.ok (by rw[T.size.2];omega)
 obtain ⟨st1,st2⟩:=start8 T.mask (tupleKeyHash (intKind P w) x)
 obtain ⟨n,hn,hnj⟩:=meets8 T.mask st1 (Nat.lt_trans st2 (by decide +kernel)) hj
 refine wpAny_bind ?_
 unfold setSearch
 refine searchT g gd T hx hu (fun hin=>?_) (fun m he hlv hout=>?_) n 100000 0 none rfl (by rw[Nat.zero_add,hnj];exact hje) hn (by omega) (fun k hk=>absurd hk (Nat.not_lt_zero _))
 ·refine wpAny_pure ?_
  rw[es0]
  exact h false s.heap (Heap.SameBut.refl a s.heap) (by rw[if_pos (hp.mem_iff.mp hin)];exact hS)
 ·have hout':x∉ks:=fun z=>hout (hp.mem_iff.mpr z)
  rw[if_neg hout'] at h
  dsimp only
  refine wpAny_bind (wpAny_setState_of g gd T.fits ?_)
  dsimp only
  have tail:∀ pl:Bool,wpAny (model P w) A (do
    storeSet a (SetTable.insertAt es (t.put (yad t m (t.probeStart (tupleKeyHash (intKind P w) x))).j).2 (tupleKeyHash (intKind P w) x,.ref b)) { (t.put (yad t m (t.probeStart (tupleKeyHash (intKind P w) x))).j).1 with plain:=pl }
    if (!false&&({ (t.put (yad t m (t.probeStart (tupleKeyHash (intKind P w) x))).j).1 with plain:=pl }:SetTable).tooFull)=true then do
     setRelay a (SetTable.grown (es.size+1))
     return true
    else return true) Q E s:=fun pl=>by
   have sb:=Heap.SameBut.update s.heap a (Obj.putSet (SetTable.insertAt es (t.put (yad t m (t.probeStart (tupleKeyHash (intKind P w) x))).j).2 (tupleKeyHash (intKind P w) x,.ref b)) { (t.put (yad t m (t.probeStart (tupleKeyHash (intKind P w) x))).j).1 with plain:=pl })
   have T':=T.put (pl:=pl) (qd7 hx g gd sb) (fun q hq=>qd7 (T.at_ q hq) g gd sb) hql he hlv
   have hq4:=T'.few
   have hs4:=T'.size
   refine wpAny_bind (wpAny_storeSet_of g gd ?_ (by rw[hs4.1];exact Nat.le_trans hq4 (by decide)))
   rw[if_neg ?_]
   ·have z:=Heap.get?_update_self (Obj.putSet (SetTable.insertAt es (t.put (yad t m (t.probeStart (tupleKeyHash (intKind P w) x))).j).2 (tupleKeyHash (intKind P w) x,.ref b)) { (t.put (yad t m (t.probeStart (tupleKeyHash (intKind P w) x))).j).1 with plain:=pl }) g (by rw[putSet_of _ _ gd];rfl)
    rw[putSet_of _ _ gd] at z
    have hpm:((qd6 t qs (yad t m (t.probeStart (tupleKeyHash (intKind P w) x))).j (x,b)).map (·.1)).Perm (ks++[x]):=by
     unfold qd6
     generalize (t.put (yad t m (t.probeStart (tupleKeyHash (intKind P w) x))).j).2=p
     rw[List.map_append,List.map_append,List.map_take,List.map_drop]
     refine List.Perm.trans ?_ (hp.append_right [x])
     refine (List.perm_append_comm.append_right _).trans ?_
     rw[List.append_assoc,List.take_append_drop]
     exact List.perm_append_comm
    refine wpAny_pure (h true _ sb ⟨_,_,_,_,_,z,gx,rfl,T',hpm,?_,hl.imp id fun z=>z,fun q hq=>?_⟩)
    rotate_left
    ·unfold qd6 at hq
     simp only[List.mem_append,List.mem_singleton] at hq
     rcases hq with (z|z)|z
     ·exact hZ q (List.mem_of_mem_take z)
     ·rw[z];exact hz
     ·exact hZ q (List.mem_of_mem_drop z)
    refine List.nodup_append.mpr ⟨hnd,List.nodup_cons.mpr ⟨by simp,List.nodup_nil⟩,fun y hy z' hz'=>?_⟩
    rw[List.mem_singleton.mp hz']
    exact fun e=>hout' (e ▸ hy)
   ·unfold SetTable.tooFull SetTable.fill
    rw[T'.ok.2,hs4.2,T'.mask]
    simp
    omega
  split
  ·refine wpAny_bind (qfq hx ?_)
   simp only[if_true]
   exact tail (t.put (yad t m (t.probeStart (tupleKeyHash (intKind P w) x))).j).1.plain
  ·refine wpAny_bind (wpAny_pure ?_)
   simp only[if_true]
   exact tail (t.put (yad t m (t.probeStart (tupleKeyHash (intKind P w) x))).j).1.plain
end
def yay (f:Nat→List Int):Nat→List (List Int)
 | 0=>[]
 | i+1=>if f i∈yay f i then yay f i else yay f i++[f i]
theorem qd0 (f:Nat→List Int):∀ i,(yay f i).length≤i
 | 0=>Nat.le_refl _
 | i+1=>by
  have:=qd0 f i
  unfold yay
  split
  ·omega
  ·rw[List.length_append,List.length_singleton];omega
theorem TabT.at {P:Program}{w:World}{h h':Heap}{es:Array (Int×Value)}{t:SetTable}{qs:List (List Int×Addr)} (T:TabT P w h es t qs) (k:∀ q∈qs,IsTupleKey (intKind P w) h' q.1 q.2):TabT P w h' es t qs:=⟨T.eqs,k,T.few,T.fits,T.ok,T.mask,T.reach⟩
theorem SetT.at {P:Program}{w:World}{Z:List Int×Addr→Prop}{h h':Heap}{a:Addr}{ks:List (List Int)} (x:SetT P w Z h a ks) (k:∀ b o,(b=a∨∃ items n,o.data=.seq items n)→h.get? b=some o→h'.get? b=some o):SetT P w Z h' a ks:=by
 obtain ⟨o,es,ep,t,qs,g,gx,gd,T,r⟩:=x
 refine ⟨o,es,ep,t,qs,k a o (.inl rfl) g,gx,gd,T.at fun q hq=>?_,r⟩
 obtain ⟨o',items,n,g',c,d,i⟩:=T.at_ q hq
 exact ⟨o',items,n,k _ _ (.inr ⟨_,_,d⟩) g',c,d,i⟩
section
variable {P:Program}{w:World}{A:Around}{R:Result→Shared→Prop}{I:Addr}{fp wr:List Addr}{G:Array GenState→Array GenState→Prop}{n:Nat}{Pv:Nat→Value→Prop}{St:Nat→Shared→Prop}{Z:List Int×Addr→Prop}
theorem loopT (W:WalksS P w A.in1 I fp wr G n Pv St) (d:Addr) (hd:d∉fp) (f:Nat→List Int) (ad:Nat→Addr) (hf:∀ i v,i<n→Pv i v→v=.ref (ad i)) (hb:n≤3) (hz:∀ i,i<n→Z (f i,ad i)) (hu:A.in1.units<cLine) (hwr:∀ (s:Shared) (i:Nat) (b:Addr) (o:Obj),St i s→b∈wr→s.heap.get? b=some o→∀ items m,o.data≠.seq items m) :
  ∀ (k i:Nat) (s:Shared),n-i=k→i≤n→St i s→SetT P w Z s.heap d (yay f i)→(∀ j,j<n→IsTupleKey (intKind P w) s.heap (f j) (ad j))→
   (∀ s',Moved (d::wr) G s s'→SetT P w Z s'.heap d (yay f n)→R (.ok (.ret .none)) s')→codeAny (model P w) A (.builtin "set.update.loop" ⟨[.ref d,.ref I],[]⟩) R s:=by
 have hw:d∉wr:=fun z=>hd (W.sub _ z)
 have up:∀ b∈wr,b∈d::wr:=fun b z=>List.mem_cons_of_mem _ z
 intro k
 induction k with
 | zero=>
  intro i s hk hi st hS hT hR
  have e:i=n:=by omega
  subst e
  refine codeAny_builtin F.entry_set_update_loop ?_
  rw[Around.under_plainId F.plain_set_update_loop _]
  show wpAny _ A.in1 (pyNext (.ref I) >>= _) _ _ _
  refine wpAny_bind (W.done s _ _ st fun s' m=>?_)
  show wpAny _ A.in1 (ret Value.none) _ _ _
  refine wpAny_pure (hR s' (m.mono up) (hS.at fun b o hbo g=>m.heap b o (fun z=>?_) g))
  rcases hbo with rfl|⟨items,q,e⟩
  ·exact hw z
  ·exact hwr s _ b o st z g _ _ e
 | succ k ih=>
  intro i s hk hi st hS hT hR
  have hlt:i<n:=by omega
  refine codeAny_builtin F.entry_set_update_loop ?_
  rw[Around.under_plainId F.plain_set_update_loop _]
  show wpAny _ A.in1 (pyNext (.ref I) >>= _) _ _ _
  refine wpAny_bind (W.item i s _ _ hlt st fun v s' hP st' m=>?_)
  obtain rfl:=hf i v hlt hP
  have kp:∀ b o,(b=d∨∃ items n,o.data=.seq items n)→s.heap.get? b=some o→s'.heap.get? b=some o:=fun b o hbo g=>m.heap b o (fun z=>by
   rcases hbo with rfl|⟨items,q,e⟩
   ·exact hw z
   ·exact hwr s _ b o st z g _ _ e) g
  have hS':SetT P w Z s'.heap d (yay f i):=hS.at kp
  have hT':∀ j,j<n→IsTupleKey (intKind P w) s'.heap (f j) (ad j):=fun j hj=>by
   obtain ⟨o',items,q,g',c,dd,ii⟩:=hT j hj
   exact ⟨o',items,q,kp _ _ (.inr ⟨_,_,dd⟩) g',c,dd,ii⟩
  show wpAny _ A.in1 (holding [Value.ref (ad i)] (setAdd d (.ref (ad i))) >>= _) _ _ _
  refine wpAny_bind (wpAny_holding ?_)
  unfold setAdd
  refine wpAny_holding ?_
  refine wpAny_bind ((tupleKind (intKind P w)).pyHash hu (hT' i hlt) ?_)
  have room:(yay f i).length≤3:=by have:=qd0 f i;omega
  refine addT (s:={ s' with toks:=s'.toks+((f i).length+1) }) hS' (hz i hlt) (hT' i hlt) hu room fun b h' sb S2=>?_
  have S3:SetT P w Z h' d (yay f (i+1)):=S2
  obtain ⟨od,esd,epd,td,qsd,gd1,_,gd2,_⟩:=id hS'
  refine wpAny_pure ⟨plainId_quiet F.plain_set_update_loop _,?_⟩
  refine ih (i+1) _ (by omega) hlt (W.frame _ s' _ _ st' (Nat.le_add_right _ _) fun b hb o g=>?_) S3 (fun j hj=>qd7 (hT' j hj) gd1 gd2 sb) fun s2 m2 S4=>?_
  ·rw[sb.2 b (fun z:b=d=>hd (by rw[← z];exact hb))];exact g
  ·refine hR s2 (Moved.trans W.gtrans ((m.mono up).then_heap (Nat.le_add_right _ _) fun b o hb g=>?_) m2) S4
   rw[sb.2 b (fun z:b=d=>hb (by rw[z];exact List.mem_cons_self))];exact g
end
section
variable {P:Program}{w:World}{A:Around}{E:Value→Shared→Prop}{s:Shared}
theorem SetT.new {Z:List Int×Addr→Prop}{h:Heap}{a:Addr} (g:h.get? a=some { cls:=.type "set",dict:=none,data:=.set #[] 0 (.fresh 0 0 (!byTx w)) }):SetT P w Z h a []:=by
 refine ⟨_,#[],0,_,[],g,⟨rfl,rfl,rfl⟩,rfl,⟨rfl,fun q hq=>by simp at hq,by decide,rfl,⟨fun i j x y _ hx=>by simp[SetTable.fresh] at hx,rfl⟩,rfl,fun i j q e=>by simp[SetTable.fresh] at e⟩,List.Perm.refl _,List.nodup_nil,?_,fun q hq=>by simp at hq⟩
 cases byTx w
 ·exact .inr rfl
 ·exact .inl rfl
set_option maxHeartbeats 6400000 in
theorem ygp {l:Addr}{its:Array Value}{f:Nat→List Int}{ad:Nat→Addr}{Z:List Int×Addr→Prop}{Q:Value→Shared→Prop} (hh:A.handled=none) (hl:s.heap.IsList l its) (hz:∀ i,i<its.size→Z (f i,ad i)) (hi:∀ (i:Nat) (v:Value),its[i]?=some v→v=Value.ref (ad i)) (hkT:∀ i,i<its.size→IsTupleKey (intKind P w) s.heap (f i) (ad i)) (hb:its.size≤3) (hu:A.units+10<cLine)
  (k:∀ (h':Heap) (tk:Nat),SetT P w Z h' s.heap.objs.size (yay f its.size)→(∀ b o,b<s.heap.objs.size→s.heap.get? b=some o→h'.get? b=some o)→Q (.ref s.heap.objs.size) { s with heap:=h',toks:=tk }) :
  wpAny (model P w) A (call (.type "set") [.ref l]) Q E s:=by
 obtain ⟨c0,tl0,c1⟩:=F.called_set.mro
 have c2:=F.called_set.made
 have c3:=F.called_set.sub
 refine wpAny_call (codeAny_of_tree ?_)
 show wpAny _ _ (callAny (.type "set") _) _ _ s
 refine wpAny_pure ⟨?_,?_⟩
 ·exact Code.quiet_builtin _ (by decide +kernel)
 refine codeAny_builtin F.entry_type_call ?_
 rw[Around.under_plain (weight_type_call_type "set" [.ref l] []) rfl]
 have c4:=F.called_set.notType
 have c5:=F.called_set.canCreate
 have c6:=F.typeCall_set_1 (.ref l)
 repeat (any_goals first|assumption|wp_step)
 refine codeAny_mono (newL (.ref l) (E:=E) (Q1:=fun v s1=>v=.ref s.heap.objs.size∧s1={ s with heap:=s.heap.push { cls:=.type "set",dict:=none,data:=.set #[] 0 (.fresh 0 0 (!byTx w)) } }) ⟨rfl,rfl⟩) fun r s1 hr=>?_
 cases r with
 | error e=>exact hr
 | ok fl=>
  cases fl with
  | ret v=>
   obtain ⟨rfl,rfl⟩:=hr
   have g1:(s.heap.push { cls:=.type "set",dict:=none,data:=.set #[] 0 (.fresh 0 0 (!byTx w)) }).get? s.heap.objs.size=some { cls:=.type "set",dict:=none,data:=.set #[] 0 (.fresh 0 0 (!byTx w)) }:=Heap.get?_push_size _ rfl
   have c7:Shared.TypeIs { s with heap:=s.heap.push { cls:=.type "set",dict:=none,data:=.set #[] 0 (.fresh 0 0 (!byTx w)) } } (.ref s.heap.objs.size) "set":=⟨_,g1,rfl⟩
   have c8:=F.called_set.init.lookup
   have c9:=F.called_set.init.bind (.ref s.heap.objs.size)
   repeat (any_goals first|assumption|wp_step)
   refine codeAny_mono (codeAny_call_builtin (R:=wants (fun r s2=>r=.none∧∃ h' tk,s2={ s with heap:=h',toks:=tk }∧SetT P w Z h' s.heap.objs.size (yay f its.size)∧
     (∀ b o,b<s.heap.objs.size→s.heap.get? b=some o→h'.get? b=some o)) E) F.called_set.init.plain F.entry_set_init (check_set_init_1 c7 ?_)) fun r2 s2 hr2=>?_
   ·obtain ⟨ol,gl,cl,nl,dl⟩:=hl
    obtain ⟨qc,qd,qa,qs⟩:=ol
    simp only at cl dl
    subst cl
    subst dl
    have gl':(s.heap.push { cls:=.type "set",dict:=none,data:=.set #[] 0 (.fresh 0 0 (!byTx w)) }).get? l=some { cls:=.type "list",dict:=qd,data:=.seq its nl,slots:=qs }:=Heap.get?_push_of_some _ gl
    have d1:=F.sub_list_set
    have d2:=F.sub_list_frozenset
    have d3:(Value.type "list" == Value.type "dict")=false:=by decide
    have hl1:(s.heap.push { cls:=.type "set",dict:=none,data:=.set #[] 0 (.fresh 0 0 (!byTx w)) }).IsList l its:=⟨_,gl',rfl,nl,rfl⟩
    unfold Builtin.«set.__init__» noKeywords Builtin.Frozenset.updateFrom
    generalize hPI:pyIter=PI
    wp_walk
    subst hPI
    refine wpAny_pyIter_list hl1 ?_
    refine wpAny_bind (wpAny_runValue ?_)
    have lt:l<s.heap.objs.size:=Heap.lt_size gl
    have h3:A.in1.in1.in1.handled=none:=by simp[hh]
    have nI:l≠(s.heap.push { cls:=.type "set",dict:=none,data:=.set #[] 0 (.fresh 0 0 (!byTx w)) }).objs.size:=by
     rw[Heap.size_push];exact Nat.ne_of_lt (Nat.lt_succ_of_lt lt)
    have nf:s.heap.objs.size∉[(s.heap.push { cls:=.type "set",dict:=none,data:=.set #[] 0 (.fresh 0 0 (!byTx w)) }).objs.size,l]:=by
     rw[Heap.size_push];simp only[List.mem_cons,List.mem_singleton,List.not_mem_nil,or_false,not_or]
     exact ⟨Nat.ne_of_lt (Nat.lt_succ_self _),Nat.ne_of_gt lt⟩
    refine loopT ((Walks.list h3 _ l nI its).toS) s.heap.objs.size nf f ad (fun i v _ z=>hi i v z) hb hz ?HU ?HW (its.size-0) 0 _ (by omega) (Nat.zero_le _) ⟨⟨_,Heap.get?_push_size _ rfl,rfl,rfl⟩,(hl1.push _)⟩ ?S0 ?T0 ?R0
    case HU=>show A.units+1+1+1<cLine;omega
    case HW=>
     rintro s1 i b o ⟨⟨o',g',c',d'⟩,_⟩ hb g items m e
     cases List.mem_singleton.mp hb
     rw[g'] at g
     cases g
     rw[d'] at e
     cases e
    case T0=>
     intro j hj
     obtain ⟨o',items,q,g',c,d,i⟩:=hkT j hj
     exact ⟨o',items,q,Heap.get?_push_of_some _ (Heap.get?_push_of_some _ g'),c,d,i⟩
    case S0=>exact SetT.new (Heap.get?_push_of_some _ g1)
    case R0=>
     intro s' m S'
     obtain ⟨h',g',d',tk',os'⟩:=s'
     have eg:g'=s.gens:=m.gens
     have ed:d'=s.drawn:=m.drawn
     have eo:os'=s.os:=m.os
     subst eg
     subst ed
     subst eo
     show wpAny _ _ _ _ _ _
     refine wpAny_pure ?_
     show wpAny _ _ (ret Value.none) _ _ _
     refine wpAny_pure ⟨rfl,h',tk',rfl,S',fun b o lb g=>?_⟩
     have b1:b≠s.heap.objs.size:=Nat.ne_of_lt lb
     have b2:b≠(s.heap.push { cls:=.type "set",dict:=none,data:=.set #[] 0 (.fresh 0 0 (!byTx w)) }).objs.size:=by
      rw[Heap.size_push];exact Nat.ne_of_lt (Nat.lt_succ_of_lt lb)
     exact m.heap b o (by simp only[List.mem_cons,List.mem_singleton,List.not_mem_nil,or_false,not_or];exact ⟨b1,b2⟩) (Heap.get?_push_of_some _ (Heap.get?_push_of_some _ g))
   ·cases r2 with
    | error e=>exact hr2
    | ok fl2=>
     cases fl2 with
     | ret r=>
      obtain ⟨rfl,h',tk,rfl,S',kp⟩:=hr2
      repeat (any_goals first|assumption|wp_step)
      exact k _ _ S' kp
     | _=>exact hr2.elim
  | _=>exact hr.elim
end
def SetV (P:Program) (w:World) (h:Heap) (a:Addr) (us:List Value):Prop:=
 ∃ o es ep t,h.get? a=some o∧o.ExactSet∧o.data=.set es ep t∧(es.toList.map (·.2)).Perm us∧es.size<scanBound∧t.fits es.size=true∧TOk t∧(byTx w=true∨t.led=true)
theorem SetT.v {P:Program}{w:World}{Z:List Int×Addr→Prop}{h:Heap}{a:Addr}{ks:List (List Int)} (x:SetT P w Z h a ks):∃ qs:List (List Int×Addr),SetV P w h a (qs.map fun q=>.ref q.2)∧(∀ q∈qs,IsTupleKey (intKind P w) h q.1 q.2)∧(qs.map (·.1)).Perm ks∧ks.Nodup∧∀ q∈qs,Z q:=by
 obtain ⟨o,es,ep,t,qs,g,gx,gd,T,hp,hn,hl,hZ⟩:=x
 refine ⟨qs,⟨o,es,ep,t,g,gx,gd,by rw[T.eqs,List.map_map];exact List.Perm.refl _,?_,T.fits,T.ok,hl⟩,T.at_,hp,hn,hZ⟩
 have:=T.few
 rw[T.size.1]
 exact Nat.lt_of_le_of_lt this (by decide)
section
variable {P:Program}{w:World}{A:Around}{E:Value→Shared→Prop}{s:Shared}{a:Addr}{ks:List Int}
def WalkV (P:Program) (w:World) (s:Shared) (a:Addr) (us:List Value) (I:Addr) (h':Heap) (d:Drawn):Prop:=
 ∃ (n:Nat) (fp:List Addr) (vs:List Value) (St:Nat→Shared→Prop),n=us.length∧(∀ B:Around,B.handled=none→WalksS P w B I fp [I] (fun x y=>y=x) n (fun i v=>vs[i]?=some v) St)∧St 0 { s with heap:=h',drawn:=d }∧
  s.heap.objs.size≤I∧(∀ b∈fp,b=a∨s.heap.objs.size≤b)∧(∀ b o,s.heap.get? b=some o→h'.get? b=some o)∧vs.Perm us
theorem iterV {Q:Value→Shared→Prop}{us:List Value} (hS:SetV P w s.heap a us) (k:∀ I h' d,WalkV P w s a us I h' d→Q (.ref I) { s with heap:=h',drawn:=d }):wpAny (model P w) A (pyIter (.ref a)) Q E s:=by
 obtain ⟨o,es,ep,t,g,gx,gd,hp,hb,hf,ht,hl⟩:=hS
 have hT:s.TypeIs (.ref a) "set":=⟨o,g,gx.1⟩
 have hlen:es.size=us.length:=by
  have h1:=hp.length_eq
  rwa [List.length_map,Array.length_toList] at h1
 have hpl:t.place.size=es.size:=qeo hf
 have ha:a<s.heap.objs.size:=Heap.lt_size g
 refine wpAny_pyIter_slot hT F.slot_set_iter (wpAny_call_entry F.slot_set_iter hT ybs ?_ (F.args_set_iter_1 _))
 show wpAny _ _ (Builtin.Frozenset.sizeOf a >>= _) _ _ s
 refine wpAny_bind ?_
 unfold Builtin.Frozenset.sizeOf
 refine wpAny_bind (wpAny_setEntries_of g gd hf ?_)
 refine wpAny_pure ?_
 refine wpAny_bind ?_
 refine wpAny_bind ?_
 refine wpAny_setState_of g gd hf ?_
 dsimp only
 unfold setsByText
 refine wpAny_bind (wpAny_bind (wpAny_askSetting (wpAny_pure ?_)))
 refine wpAny_pure ?_
 dsimp only
 refine wpAny_ite_split (fun hd=>?_) fun hd=>?_
 ·refine wpAny_bind (ybv es.size (List.range es.size) s _ (by simp) fun ps d pp=>?_)
  have hpsl:ps.length=es.size:=by rw[pp.length_eq,List.length_range]
  refine wpAny_bind (wpAny_newTuple ?_ (by rw[List.length_map,hpsl];exact fits_of_scanBound hb))
  have gT:(s.heap.push { cls:=.type "tuple",data:=.seq (ps.map fun (p:Nat)=>rawInt p).toArray }).get? s.heap.objs.size=some { cls:=.type "tuple",data:=.seq (ps.map fun (p:Nat)=>rawInt p).toArray }:=Heap.get?_push_size _ rfl
  have ga:(s.heap.push { cls:=.type "tuple",data:=.seq (ps.map fun (p:Nat)=>rawInt p).toArray }).get? a=some o:=Heap.get?_push_of_some _ g
  refine wpAny_bind (wpAny_setEpoch_of (s:={ s with heap:=s.heap.push { cls:=.type "tuple",data:=.seq (ps.map fun (p:Nat)=>rawInt p).toArray },drawn:=d }) ga gd hf ?_)
  refine wpAny_bind (wpAny_newObj_type ?_ (by size_fits))
  have z1:(s.heap.push { cls:=.type "tuple",data:=.seq (ps.map fun (p:Nat)=>rawInt p).toArray }).objs.size=s.heap.objs.size+1:=Heap.size_push ..
  have hvp:(ps.map fun p=>(es.getD p (0,.none)).2).Perm (es.toList.map (·.2)):=by
   refine (pp.map _).trans (List.Perm.of_eq ?_)
   refine List.ext_getElem (by simp) fun i h1 h2=>?_
   have hi:i<es.size:=by simpa using h2
   rw[List.getElem_map,List.getElem_map,List.getElem_range,Array.getElem_toList]
   show (es.getD i (0,.none)).2=(es[i]).2
   rw[Array.getD_eq_getD_getElem?,Array.getElem?_eq_getElem hi]
   rfl
  have nI:a≠(s.heap.push { cls:=.type "tuple",data:=.seq (ps.map fun (p:Nat)=>rawInt p).toArray }).objs.size:=by rw[z1];exact neN (.inl (Nat.lt_succ_of_lt ha))
  have nT:s.heap.objs.size≠(s.heap.push { cls:=.type "tuple",data:=.seq (ps.map fun (p:Nat)=>rawInt p).toArray }).objs.size:=by rw[z1];exact neN (.inl (Nat.lt_succ_self _))
  refine wpAny_pure ⟨_,rfl,"set_iterator",_,⟨_,Heap.get?_push_size _ rfl,rfl⟩,yaf.lookup,k _ _ d ?_⟩
  refine ⟨es.size,_,_,_,hlen,fun B hB=>qel hB nI nT gd hf ps hpsl (fun p hp=>List.mem_range.mp (pp.mem_iff.mp hp)) _ rfl,⟨Heap.get?_push_size _ rfl,Heap.get?_push_of_some _ ga,Heap.get?_push_of_some _ gT⟩,by rw[z1];exact Nat.le_succ _,fun b hb=>?_,fun b ob gb=>Heap.get?_push_of_some _ (Heap.get?_push_of_some _ gb),hvp.trans hp⟩
  have hb':b=(s.heap.push { cls:=.type "tuple",data:=.seq (ps.map fun (p:Nat)=>rawInt p).toArray }).objs.size∨b=a∨b=s.heap.objs.size:=by simpa using hb
  rcases hb' with rfl|rfl|rfl
  ·exact .inr (by rw[z1];exact Nat.le_succ _)
  ·exact .inl rfl
  ·exact .inr (Nat.le_refl _)
 ·refine wpAny_bind (wpAny_pure ?_)
  refine wpAny_bind (wpAny_setEpoch_of g gd hf ?_)
  refine wpAny_bind (wpAny_newObj_type ?_ (by size_fits))
  have nI:a≠s.heap.objs.size:=neN (.inl ha)
  have es0:s={ s with drawn:=s.drawn }:=by cases s;rfl
  have fpk:∀ b∈[s.heap.objs.size,a],b=a∨s.heap.objs.size≤b:=fun b hb=>by
   have hb':b=s.heap.objs.size∨b=a:=by simpa using hb
   rcases hb' with rfl|rfl
   ·exact .inr (Nat.le_refl _)
   ·exact .inl rfl
  refine wpAny_pure ⟨_,rfl,"set_iterator",_,⟨_,Heap.get?_push_size _ rfl,rfl⟩,yaf.lookup,?_⟩
  have key:WalkV P w s a us s.heap.objs.size (s.heap.push { cls:=.type "set_iterator",data:=.fields #[rawInt 0,rawInt 0,.ref a,rawInt es.size,rawInt ep] }) s.drawn:=by
   by_cases hbt:byTx w=true
   ·have hvp:((pickOrder (w.params.setOrder a ep) es).toList.map (·.2)).Perm (es.toList.map (·.2)):=(qb8 _ es).map _
    refine ⟨es.size,_,(pickOrder (w.params.setOrder a ep) es).toList.map (·.2),_,hlen,fun B hB=>yeb hB nI gd hf (fun _=>0) _ (by rw[hvp.length_eq,List.length_map,Array.length_toList]) fun C D s i Q g1 hi1 q=>yep hbt g1 gd hf q,⟨Heap.get?_push_size _ rfl,Heap.get?_push_of_some _ g⟩,Nat.le_refl _,fpk,fun b ob gb=>Heap.get?_push_of_some _ gb,hvp.trans hp⟩
   ·have hbf:byTx w=false:=eq_false_of_ne_true hbt
    have hled:t.led=true:=hl.resolve_left hbt
    have hpz:t.plain=true∨es.size≤1:=by
     have hd':¬ ((!byTx w&&(!t.plain&&decide (es.size>1)))=true):=hd
     rw[hbf] at hd'
     cases hq:t.plain with
     | true=>exact .inl rfl
     | false=>
      right
      rw[hq] at hd'
      simpa using hd'
    refine ⟨es.size,_,es.toList.map (·.2),_,hlen,fun B hB=>yeb hB nI gd hf (qe1 t) _ (by rw[List.length_map,Array.length_toList]) fun C D s i Q g1 hi1 q=>yf6 hbf g1 gd hf hled hpz ?_,⟨Heap.get?_push_size _ rfl,Heap.get?_push_of_some _ g⟩,Nat.le_refl _,fpk,fun b ob gb=>Heap.get?_push_of_some _ gb,hp⟩
    rw[ycw ht.1 (by omega)]
    by_cases hlt:i<es.size
    ·have e1:es[i]?=some es[i]:=Array.getElem?_eq_getElem hlt
     have e2:t.place[i]?=some (t.place.getD i 0):=by
      rw[Array.getD_eq_getD_getElem?,Array.getElem?_eq_getElem (by omega)];rfl
     rw[List.getElem?_map,Array.getElem?_toList,e1] at q
     rw[e1,e2]
     exact q
    ·have e1:es[i]?=none:=Array.getElem?_eq_none (by omega)
     rw[List.getElem?_map,Array.getElem?_toList,e1] at q
     rw[e1]
     exact q
  have z:=k _ _ _ key
  exact z
end
theorem SetV.at {P:Program}{w:World}{h h':Heap}{a:Addr}{us:List Value} (x:SetV P w h a us) (k:∀ o,h.get? a=some o→h'.get? a=some o):SetV P w h' a us:=by
 obtain ⟨o,es,ep,t,g,r⟩:=x
 exact ⟨o,es,ep,t,k o g,r⟩
section
variable {P:Program}{w:World}{A:Around}{E:Value→Shared→Prop}{s:Shared}{a:Addr}
theorem collectV {Q:List Value→Shared→Prop} (hh:A.handled=none) {us:List Value} (hS:SetV P w s.heap a us) (hz:us.length≤4000)
  (k:∀ vs h' d tk,vs.Perm us→s.heap.objs.size<h'.objs.size→(∀ b o,s.heap.get? b=some o→h'.get? b=some o)→Q vs { s with heap:=h',drawn:=d,toks:=tk }):wpAny (model P w) A (collect (.ref a)) Q E s:=by
 have hT:s.TypeIs (.ref a) "set":=by
  obtain ⟨o,es,ep,t,g,gx,_⟩:=hS
  exact ⟨o,g,gx.1⟩
 have ha:a<s.heap.objs.size:=by
  obtain ⟨o,es,ep,t,g,gx,_⟩:=hS
  exact Heap.lt_size g
 unfold collect
 refine wpAny_bind (wpAny_runValue (codeAny_builtin F.entry_proto_collect ?_))
 rw[Around.under_plainId F.plain_proto_collect _]
 show wpAny _ A.in1 (newList [] >>= fun l=>again (.builtin "list.__iadd__" ⟨[l,.ref a],[]⟩)) _ _ s
 refine wpAny_bind (wpAny_newObj_type ?_)
 refine wpAny_pure ⟨plainId_quiet F.plain_list_iadd _,?_⟩
 refine codeAny_builtin F.entry_list_iadd ?_
 rw[Around.under_plainId F.plain_list_iadd _]
 show wpAny _ A.in1 (Builtin.List.listExtendWith (.ref s.heap.objs.size) (.ref a) (.ref s.heap.objs.size)) _ _ _
 generalize hH:s.heap.push { cls:=.type "list",data:=.seq ([]:List Value).toArray }=H1
 have g0:H1.get? s.heap.objs.size=some { cls:=.type "list",data:=.seq ([]:List Value).toArray }:=by rw[← hH];exact Heap.get?_push_size _ rfl
 have z1:H1.objs.size=s.heap.objs.size+1:=by rw[← hH];exact Heap.size_push ..
 have kp1:∀ b o,s.heap.get? b=some o→H1.get? b=some o:=fun b o g=>by rw[← hH];exact Heap.get?_push_of_some _ g
 have hS1:SetV P w H1 a us:=hS.at fun o g=>kp1 a o g
 have hT1:Shared.TypeIs { s with heap:=H1 } (.ref a) "set":=by
  obtain ⟨o,es,ep,t,g,gx,_⟩:=hS1
  exact ⟨o,g,gx.1⟩
 unfold Builtin.List.listExtendWith
 refine wpAny_bind (wpAny_typeOf hT1 ?_)
 have n1:Builtin.List.listSameRef (.ref s.heap.objs.size) (.ref a)=false:=by
  have:s.heap.objs.size≠a:=neN (.inr ha)
  simp[Builtin.List.listSameRef,this]
 rw[if_neg (by rw[n1];decide)]
 refine wpAny_bind (iterV (s:={ s with heap:=H1 }) hS1 fun I h' d W=>?_)
 refine wpAny_bind (wpAny_holding ?_)
 have hT2:Shared.TypeIs { s with heap:=h',drawn:=d } (.ref a) "set":=by
  obtain ⟨n,fp,vs,St,e,W1,st,lI,fpk,kp,p2⟩:=W
  obtain ⟨o,g,c⟩:=hT1
  exact ⟨o,kp _ _ g,c⟩
 unfold Builtin.List.listLengthHint
 refine wpAny_bind (wpAny_specialOf hT2 qg6 ?_)
 wp_delta
 refine wpAny_bind (wpAny_isInstance (T:="set") (b:=true) hT2 (by rw[isSubtype_type];kernel_rfl) ?_)
 show wpAny _ A.in1 (typeOf (Value.ref a) >>= _) _ _ _
 refine wpAny_bind (wpAny_typeOf hT2 ?_)
 refine wpAny_pure ?_
 rw[if_pos (by decide)]
 refine wpAny_bind (wpAny_rule ?_)
 obtain ⟨n,fp,vs,St,en,W1,st,lI,fpk,kp,p2⟩:=W
 have lI':s.heap.objs.size+1≤I:=by rw[← z1];exact lI
 have hd:s.heap.objs.size∉fp:=fun hm=>by
  rcases fpk _ hm with z|z
  ·exact absurd ha (by rw[← z];exact Nat.lt_irrefl _)
  ·have z':s.heap.objs.size+1≤s.heap.objs.size:=by rw[← z1];exact z
   exact absurd z' (Nat.not_succ_le_self _)
 have gS:h'.get? s.heap.objs.size=some { cls:=.type "list",data:=.seq ([]:List Value).toArray }:=kp _ _ g0
 refine wpAny_bind ?_
 show wpAny _ _ (updateSeq s.heap.objs.size (·.push .none) >>= fun _=>updateSeq s.heap.objs.size (·.pop)) _ _ _
 refine wpAny_bind (wpAny_updateSeq gS rfl ?_ (by simp) (by simp))
 have gS1:=Heap.get?_update_self (Obj.mapSeq (·.push Value.none)) gS rfl
 refine wpAny_updateSeq gS1 rfl ?_ (by simp;decide) (by simp)
 have gS2:=Heap.get?_update_self (Obj.mapSeq (·.pop)) gS1 rfl
 have oth:∀ b o,b≠s.heap.objs.size→h'.get? b=some o→((h'.update s.heap.objs.size (Obj.mapSeq (·.push Value.none))).update s.heap.objs.size (Obj.mapSeq (·.pop))).get? b=some o:=fun b o hb g=>by
  rw[Heap.get?_update_other _ _ (Ne.symm hb),Heap.get?_update_other _ _ (Ne.symm hb)]
  exact g
 have st2:=(W1 A.in1 (by simpa using hh)).frame 0 _ ((h'.update s.heap.objs.size (Obj.mapSeq (·.push Value.none))).update s.heap.objs.size (Obj.mapSeq (·.pop))) s.toks st (Nat.le_refl _) fun b hb o g=>oth b o (fun z=>hd (z ▸ hb)) g
 have hvl:n≤sizeLine:=by rw[en];exact qd2 (by omega)
 refine wpAny_pure ⟨plainId_quiet F.plain_extend_loop _,?_⟩
 refine codeAny_extend_loopS (W1 A.in1 (by simpa using hh)) hvl _ hd _ n 0 _ _ _ rfl (Nat.zero_le _) st2 gS2 ⟨rfl,fun j v z=>by simp at z⟩ fun s2 acc c m g2 it=>?_
 show wpAny _ A (load s.heap.objs.size >>= _) _ _ s2
 refine wpAny_bind (wpAny_load g2 ?_)
 have ev:acc.toList=vs:=by
  have hl:acc.size=n:=it.1
  have hvn:vs.length=n:=by
   rw[p2.length_eq,en]
  refine List.ext_getElem? fun j=>?_
  cases hj:acc.toList[j]? with
  | none=>
   have:=List.getElem?_eq_none_iff.mp hj
   rw[Array.length_toList] at this
   rw[List.getElem?_eq_none (by omega)]
  | some v=>exact (it.2 j v (by rw[← Array.getElem?_toList];exact hj)).symm
 obtain ⟨h2,g',d2,tk,os⟩:=s2
 have eg:g'=s.gens:=m.gens
 have ed:d2=d:=m.drawn
 have eo:os=s.os:=m.os
 subst eg
 subst ed
 subst eo
 refine wpAny_pure ?_
 show Q acc.toList _
 rw[ev]
 refine k vs h2 d2 tk p2 (Heap.lt_size g2) fun b o g=>?_
 have hb:b<s.heap.objs.size:=Heap.lt_size g
 refine m.heap b o (fun z=>?_) (oth b o (neN (.inl hb)) (kp b o (kp1 b o g)))
 have z':b=s.heap.objs.size∨b=I:=by simpa using z
 rcases z' with z|z
 ·exact absurd hb (by rw[z];exact Nat.lt_irrefl _)
 ·exact absurd (Nat.lt_of_lt_of_le hb (Nat.le_of_succ_le lI')) (by rw[z];exact Nat.lt_irrefl _)
end
end L2
namespace L2
open PySem PySem.Spec PyProof.Rows PySem.W
theorem ydh {P:Program}{w:World}:∀ {vs:List Value}{ns:List Int},IntsAre vs ns→PySem.ItemsAre (intKind P w) ns vs
 | [],[],.nil=>.nil
 | _,_,.cons n t r=>.cons (by show Value.isInt n (.int n t)=true;simp[Value.isInt]) (ydh r)
theorem TIs.key {P:Program}{w:World}{h:Heap}{ts:List TL} (x:TIs h ts) {t:TL} (ht:t∈ts):IsTupleKey (intKind P w) h t.2 t.1:=by
 obtain ⟨o,us,n,e1,e2,e3,e4⟩:=x t ht
 exact ⟨o,us.toArray,n,e1,e2,e3,by simpa using ydh e4⟩
theorem ydv (f:Nat→List Int) (k:List Int):∀ n,k∈yay f n↔∃ i,i<n∧f i=k
 | 0=>by
  unfold yay
  constructor
  ·intro h;simp at h
  ·rintro ⟨i,h,_⟩;omega
 | n+1=>by
  have ih:=ydv f k n
  have e:k∈yay f (n+1)↔k∈yay f n∨k=f n:=by
   show k∈(if f n∈yay f n then yay f n else yay f n++[f n])↔_
   split
   ·rename_i h
    exact ⟨.inl,fun z=>z.elim id fun z=>z ▸ h⟩
   ·rw[List.mem_append,List.mem_singleton]
  rw[e,ih]
  constructor
  ·rintro (⟨i,h,z⟩|z)
   ·exact ⟨i,by omega,z⟩
   ·exact ⟨n,by omega,z.symm⟩
  ·rintro ⟨i,h,z⟩
   by_cases hi:i=n
   ·subst hi;exact .inr z.symm
   ·exact .inl ⟨i,by omega,z⟩
def SetVO (P:Program) (w:World) (a:Addr) (us:List TL):HO:=.ext fun h=>SetV P w h a (yal us)
section
variable {X:Cx}
def rSetT (P:Program) (w:World):List V→Hp→VK→Prop:=fun xs H Q=>∃ (l:Addr) (ts:List TL),xs=[.ref l]∧H l=some (.lst (ya6 ts))∧(∀ t∈ts,H t.1=some (.tup (t.2.map V.int)))∧ts.length≤3∧
 ∀ (p:Addr) (us:List TL),H p=none→(∀ u∈us,u∈ts)→(us.map (·.2)).Nodup→(∀ t∈ts,t.2∈us.map (·.2))→Q (.ref p) (upd H p (SetVO P w p us))
theorem yf9 (hc:X.calm=true) (hu:X.A.units+64<cLine):ybh X (.type "set") (rSetT X.prog X.w):=by
 intro pins s σ H xs us Q I r h
 obtain ⟨l,ts,rfl,hH,hT,h3,q⟩:=h
 cases r with
 | cons r rr=>
  cases rr
  cases r
  obtain ⟨z,its,n,rv,hl,e⟩:=I.lstM hH
  have ei:=qeg rv
  subst ei
  have hlt:(yal ts).length=ts.length:=List.length_map _
  have hf:H s.heap.objs.size=none:=I.hok.fresh (Nat.le_refl _)
  have tis:=tis_of I.hok hT
  have hm:∀ i,i<(yal ts).toArray.size→ts.getD i (0,[])∈ts:=fun i hi=>by
   rw[List.size_toArray,hlt] at hi
   rw[List.getD_eq_getElem?_getD,List.getElem?_eq_getElem hi]
   exact List.getElem_mem hi
  refine ygp (f:=fun i=>(ts.getD i (0,[])).2) (ad:=fun i=>(ts.getD i (0,[])).1) (Z:=fun q=>(q.2,q.1)∈ts) (by simpa using I.ok.hd hc) (its:=(yal ts).toArray) ⟨_,e,rfl,n,rfl⟩
   (fun i hi=>hm i hi) (fun i v hv=>?_) (fun i hi=>tis.key (hm i hi)) (by rw[List.size_toArray,hlt];exact h3) (by omega) fun h' tk S kp=>?_
  ·have hi:i<ts.length:=by
    have:=(Array.getElem?_eq_some_iff.mp hv).1
    rwa [List.size_toArray,hlt] at this
   unfold yal at hv
   rw[List.getElem?_toArray,List.getElem?_map,List.getElem?_eq_getElem hi] at hv
   simp only[Option.map_some,Option.some.injEq] at hv
   rw[← hv,List.getD_eq_getElem?_getD,List.getElem?_eq_getElem hi]
   rfl
  ·obtain ⟨qs,SV,hk,pm,nd,hZ⟩:=S.v
   have e0:(qs.map fun q:List Int×Addr=>Value.ref q.2)=yal (qs.map fun q=>(q.2,q.1)):=by
    unfold yal
    rw[List.map_map]
    rfl
   rw[e0] at SV
   have e1:(qs.map fun q=>(q.2,q.1)).map (·.2)=qs.map (·.1):=by rw[List.map_map];rfl
   have hin:∀ t∈ts,t.2∈qs.map (·.1):=fun t ht=>pm.mem_iff.mpr <| (ydv _ _ _).mpr <| by
    obtain ⟨i,hi,ei⟩:=List.getElem_of_mem ht
    exact ⟨i,by rw[List.size_toArray,hlt];exact hi,by rw[List.getD_eq_getElem?_getD,List.getElem?_eq_getElem hi,ei];rfl⟩
   refine ⟨.ref s.heap.objs.size,_,I.laid (o:=SetVO X.prog X.w s.heap.objs.size (qs.map fun q=>(q.2,q.1))) (t':=tk) (fun b o g=>kp b o (Heap.lt_size g) g) (Nat.le_refl _) ?_,rfl,
    q _ _ hf (fun u hu=>?_) (by rw[e1];exact pm.nodup_iff.mpr nd) (by rw[e1];exact hin)⟩
   ·refine ⟨SV,?_,fun h1 h2 x y=>SetV.at x y⟩
    obtain ⟨o,es,ep,t,g,_⟩:=SV
    exact ⟨o,g⟩
   ·obtain ⟨q',hq',rfl⟩:=List.mem_map.mp hu
    exact hZ q' hq'
def rSortST (P:Program) (w:World):List V→Hp→VK→Prop:=fun xs H Q=>∃ (a:Addr) (us:List TL) (m:Nat),xs=[.ref a]∧H a=some (SetVO P w a us)∧(∀ t∈us,H t.1=some (.tup (t.2.map V.int)))∧OkT m us∧us.length<64∧
 ∀ (p:Addr) (ts':List TL),H p=none→ts'.Perm us→RiseT ts'→Q (.ref p) (upd H p (.lst (ya6 ts')))
theorem yet:∀ {vs:List Value}{us:List TL},vs.Perm (yal us)→∃ ts:List TL,vs=yal ts∧ts.Perm us:=by
 have key:∀ {l1 l2:List Value},l1.Perm l2→∀ us:List TL,l2=yal us→∃ ts:List TL,l1=yal ts∧ts.Perm us:=by
  intro l1 l2 h
  induction h with
  | nil=>intro us e;cases us with
   | nil=>exact ⟨[],rfl,.refl _⟩
   | cons a b=>simp[yal] at e
  | cons x _ ih=>intro us e;cases us with
   | nil=>simp[yal] at e
   | cons a b=>
    simp only[yal,List.map_cons,List.cons.injEq] at e
    obtain ⟨ts,e1,e2⟩:=ih b e.2
    exact ⟨a::ts,by rw[e.1,e1];rfl,e2.cons a⟩
  | swap x y l=>intro us e;cases us with
   | nil=>simp[yal] at e
   | cons a b=>cases b with
    | nil=>simp[yal] at e
    | cons b c=>
     simp only[yal,List.map_cons,List.cons.injEq] at e
     exact ⟨b::a::c,by rw[e.1,e.2.1,e.2.2];rfl,List.Perm.swap _ _ _⟩
  | trans _ _ ih1 ih2=>
   intro us e
   obtain ⟨ts2,e2,p2⟩:=ih2 us e
   obtain ⟨ts1,e1,p1⟩:=ih1 ts2 e2
   exact ⟨ts1,e1,p1.trans p2⟩
 intro vs us h
 exact key h _ rfl
theorem yfl (hc:X.calm=true):ybh X (.builtin "sorted") (rSortST X.prog X.w):=by
 intro pins s σ H xs us Q I r h
 obtain ⟨a,us,m,rfl,hH,hT,hO,h64,q⟩:=h
 cases r with
 | cons r rr=>
  cases rr
  cases r
  obtain ⟨S,_⟩:=I.hok a _ hH
  have hlt:(yal us).length=us.length:=List.length_map _
  refine ye7 (collectV (by simpa using I.ok.hd hc) S (by omega) fun vs h' d tk pm hz kp=>?_)
  obtain ⟨ts,rfl,pt⟩:=yet pm
  have hl2:(yal ts).length=ts.length:=List.length_map _
  have hl3:=pt.length_eq
  refine ⟨by omega,fun s2 hs=>?_⟩
  subst hs
  exact ye2 (s1:={ s with heap:=h',drawn:=d,toks:=tk }) (I.draw d) ⟨_,_,rfl,kp⟩ (Nat.le_of_lt hz) (fun t ht=>hT t (pt.mem_iff.mp ht)) (fun t ht=>hO t (pt.mem_iff.mp ht)) (by omega) fun p ts' hp pm' ri=>q p ts' hp (pm'.trans pt) ri
end
theorem yg2:∀ {ds:List Addr}{us:List Value},Vals (ds.map V.ref) us→us=ds.map Value.ref
 | [],_,.nil=>rfl
 | d::ds,_,.cons r q=>by
  rw[yg2 q]
  cases r
  rfl
section
variable {X:Cx}
def rIsiXT (K:PySem.W.Frag):List V→Hp→VK→Prop:=fun xs H Q=>∃ (a C:Addr) (fs:List (Str×V)) (tp:Addr) (ds:List Addr) (b:Bool),xs=[.ref a,.ref tp]∧H tp=some (.tup (ds.map V.ref))∧XAt H a C fs∧XTy K C∧PySem.W.kitAny K (.ref C) (ds.map Value.ref)=some b∧Q (.bl b) H
theorem qgk:ybh X (.builtin "isinstance") (rIsiXT X.K):=by
 intro pins s σ H xs us Q I r h
 obtain ⟨a,C,fs,tp,ds,b,rfl,ht,hx,T,hk,q⟩:=h
 cases r with
 | cons r rr=>
  cases rr with
  | cons r' rr=>
   cases rr
   cases r
   cases r'
   obtain ⟨_,its,rv,o,h1,h2,n,h3⟩:=(show yav X.prog X.w H s.heap tp (.tup (ds.map V.ref)) from I.hok tp _ ht)
   have ei:=yg2 rv
   subst ei
   obtain ⟨oc,od,oa,os⟩:=o
   simp only at h2 h3
   subst h2
   subst h3
   exact PySem.W.kia_tup (qhs T) I.kIn (hx.at I) h1 hk (fun z=>nomatch z) fun tk=>⟨.bl b,H,I.tok _,rfl,q⟩
end
end L2
namespace Mh
open PySem L2 PyProof.Rows
def top (i:Nat):Stmt:=PySem.Challenge.pw_marchmend_k51_broken_cells.main.body.getD i (.Pass ⟨0,0,0,0⟩)
def b2i (b:Bool):Int:=if b then 1 else 0
theorem iteB {b:Bool}{A B:Prop} (hb:b=true) (h:A):if b=true then A else B:=by
 rw[if_pos hb];exact h
theorem iteN {b:Bool}{A B:Prop} (hb:b=false) (h:B):if b=true then A else B:=by
 rw[if_neg (by rw[hb];exact Bool.false_ne_true)];exact h
theorem iteD {c:Prop} [Decidable c] {A B:Prop} (hc:c) (h:A):if decide c=true then A else B:=iteB (decide_eq_true hc) h
theorem yce {α β:Type}{f:α→β}{l:List α}{i:Nat}{d:β} (h:(l.map f)[i]?=some d):∃ x,l[i]?=some x∧d=f x:=by
 rw[List.getElem?_map] at h
 cases e:l[i]? with
 | none=>rw[e] at h;cases h
 | some x=>rw[e] at h;exact ⟨x,rfl,(Option.some.inj h).symm⟩
structure Hm where
 w:Str
 c:List Int
 r:List V
def tabP:List (Str×List V):=[("stuck",[.str "cell",.str "bit"]),("slow",[.str "cell",.str "bit"]),("forgets",[.str "cell",.str "bit"]),("misreads",[.str "cell",.str "bit"]),("turns",[.str "cell",.str "cell",.str "bit"]),("sets",[.str "cell",.str "cell",.str "bit",.str "bit"]),
 ("keeps",[.str "cell",.str "cell",.str "bit",.str "bit"]),("nowhere",[.str "cell",.str "bit"]),("other",[.str "cell",.str "cell"]),("both",[.str "cell",.str "cell",.str "how"])]
def bitV (v:V):Prop:=∃ b,v=.int (b2i b)
def howV (v:V):Prop:=v=.str "and"∨v=.str "or"
inductive Rest:List Str→List V→Prop
 | nil:Rest [] []
 | bit {v:V}{ns:List Str}{vs:List V}:bitV v→Rest ns vs→Rest ("bit" :: ns) (v::vs)
 | how {v:V}{ns:List Str}{vs:List V}:howV v→Rest ns vs→Rest ("how" :: ns) (v::vs)
def yai (n:Nat) (ns:List Str):List V:=List.replicate n (V.str "cell")++ns.map V.str
def hV (h:Hm):List V:=.str h.w::(h.c.map V.int++h.r)
structure okH (h:Hm) (ns:List Str):Prop where
 tab:KTD.datumAt h.w tabP=some (yai h.c.length ns)
 rest:Rest ns h.r
 cl:1≤h.c.length∧h.c.length≤2
 rl:ns.length≤2
 nd:h.c.Nodup
 rg:∀ x∈h.c,0≤x∧x<64
theorem Rest.len {ns:List Str}{vs:List V} (h:Rest ns vs):vs.length=ns.length:=by
 induction h with
 | nil=>rfl
 | bit _ _ ih=>simp[ih]
 | how _ _ ih=>simp[ih]
theorem okH.len {h:Hm}{ns:List Str} (o:okH h ns):(h.c.map V.int++h.r).length=(yai h.c.length ns).length:=by
 unfold yai
 simp[o.rest.len]
section
variable {P:Program}{w:World}{K:PySem.W.Frag}{mg:Str→Option Value}{base:Heap}
def qcf:Sp:=fun vs H Q _=>∃ i,vs=[.int i]∧Q (.bl true) H
abbrev ybi:Stmt:=top 6
theorem qbq:FnScope ["thing"] ["thing"] (yab ybi):=⟨rfl,rfl,rfl,by decide +kernel,rfl,by decide +kernel,by decide +kernel⟩
theorem qfl (B:Bl mg) (F:FnAt K mg "is_whole" ybi ["thing"]):Has P w K mg base 1 "is_whole" ["thing"] qcf:=by
 refine Has.of F qbq (fun vs H Q E h=>?_) (fun f cdv A outer s H vs Q E hr h=>?_)
 ·obtain ⟨i,rfl,_⟩:=h
  rfl
 ·obtain ⟨i,rfl,k⟩:=h
  have sc:=qbq
  refine ⟨_,(qai (qa1 (qay (qag qap rfl (B.of rfl) boot_isinstance (qaa (pv 0) (qaa (qas (v:=.ty "int") rfl (B.of rfl) boot_int rfl) yac))) (ybg (yhb (qag qap rfl (B.of rfl) boot_isinstance (qaa (pv 0) (qaa (qas (v:=.ty "bool") rfl (B.of rfl) boot_bool rfl) yac)))))))),?_⟩
  refine ⟨_,rfl,_,_,_,_,rfl,.int i,rfl,_,rfl,iteT ?_⟩
  refine ⟨_,rfl,_,_,_,_,rfl,.int i,rfl,_,rfl,?_⟩
  exact k
def qev:Sp:=fun vs H Q _=>∃ b,vs=[.int (b2i b)]∧∀ H',Same H H'→Q (.bl true) H'
abbrev qcm:Stmt:=top 7
theorem ycg:FnScope ["thing"] ["thing"] (yab qcm):=⟨rfl,rfl,rfl,by decide +kernel,rfl,by decide +kernel,by decide +kernel⟩
theorem qgx (ya1:Has P w K mg base 1 "is_whole" ["thing"] qcf) (F:FnAt K mg "is_bit" qcm ["thing"]):Has P w K mg base 2 "is_bit" ["thing"] qev:=by
 refine Has.of F ycg (fun vs H Q E h=>?_) (fun f cdv A outer s H vs Q E hr h=>?_)
 ·obtain ⟨i,rfl,_⟩:=h
  rfl
 ·obtain ⟨b,rfl,k⟩:=h
  have sc:=ycg
  refine ⟨_,(qai (qa1 (qay (yaj ya1 hr (qaa (pv 0) yac)) (ybg (yat ya8 (pv 0) (qem (qaa qac (qaa qac yac))) (by with_unfolding_all rfl)))))),?_⟩
  refine ⟨_,rfl,_,rfl,_,rfl,iteT ?_⟩
  refine ⟨_,rfl,(by show 2≤sizeLine;decide),fun p hp=>⟨p,_,rfl,.inr (SqT.of yaa),rfl,rfl,?_⟩⟩
  cases b<;>exact k _ (Same.upd (Same.refl _) hp)
def qcw (K:PySem.W.Frag):Sp:=fun vs H Q _=>∃ x a xs,vs=[.str x,.ref a]∧(∀ H',SqT K H' a xs)∧xs.all yb6=true∧Q (.bl (inV (.str x) xs)) H
abbrev yba:Stmt:=top 8
theorem ybe:FnScope ["thing","words"] ["thing","words"] (yab yba):=⟨rfl,rfl,rfl,by decide +kernel,rfl,by decide +kernel,by decide +kernel⟩
theorem yel (B:Bl mg) (F:FnAt K mg "is_one_of" yba ["thing","words"]):Has P w K mg base 1 "is_one_of" ["thing","words"] (qcw K):=by
 refine Has.of F ybe (fun vs H Q E h=>?_) (fun f cdv A outer s H vs Q E hr h=>?_)
 ·obtain ⟨x,a,xs,rfl,_⟩:=h
  rfl
 ·obtain ⟨x,a,xs,rfl,hq,hf,k⟩:=h
  have sc:=ybe
  refine ⟨_,(qai (qa1 (qay (qag qap rfl (B.of rfl) boot_isinstance (qaa (pv 0) (qaa (qas (v:=.ty "str") rfl (B.of rfl) boot_str rfl) yac))) (ybg (yat ya8 (pv 0) (pv 1) (by with_unfolding_all rfl)))))),?_⟩
  refine ⟨_,rfl,_,_,_,_,rfl,.str x,rfl,_,rfl,iteT ?_⟩
  exact ⟨_,rfl,_,rfl,a,xs,rfl,.inr (hq _),rfl,hf,k⟩
def ydx:Sp:=fun vs H Q _=>∃ x,vs=[.int x]∧0≤x∧x<64∧Q (.bl true) H
abbrev ybz:Stmt:=top 15
theorem yb1:FnScope ["thing"] ["thing"] (yab ybz):=⟨rfl,rfl,rfl,by decide +kernel,rfl,by decide +kernel,by decide +kernel⟩
theorem qgb (qbt:∃ t,mg "MOST_CELLS" = some (.int 64 t)) (ya1:Has P w K mg base 1 "is_whole" ["thing"] qcf) (F:FnAt K mg "is_cell" ybz ["thing"]):Has P w K mg base 2 "is_cell" ["thing"] ydx:=by
 refine Has.of F yb1 (fun vs H Q E h=>?_) (fun f cdv A outer s H vs Q E hr h=>?_)
 ·obtain ⟨x,rfl,_⟩:=h
  rfl
 ·obtain ⟨x,rfl,h0,h1,k⟩:=h
  have sc:=yb1
  refine ⟨_,(qai (qa1 (qay (yaj ya1 hr (qaa (pv 0) yac)) (qay (yat op_ge (pv 0) qac (yap _)) (ybg (yat op_lt (pv 0) (ycp qbt) (yap _))))))),?_⟩
  refine ⟨_,rfl,x,rfl,_,rfl,iteT ?_⟩
  refine ⟨_,rfl,_,_,rfl,rfl,_,rfl,iteD (by omega) ?_⟩
  refine ⟨_,rfl,_,_,rfl,rfl,?_⟩
  show Q (.bl (decide (x<64))) H
  rw[decide_eq_true h1]
  exact k
def PartOk (nm:Str) (v:V):Prop:=(nm="cell"∧∃ x,v=.int x∧0≤x∧x<64)∨(nm="bit"∧bitV v)∨(nm="how"∧howV v)
def qdx:Sp:=fun vs H Q _=>∃ nm v,vs=[.str nm,v]∧PartOk nm v∧∀ H',Same H H'→Q (.bl true) H'
abbrev qbx:Stmt:=top 16
theorem yb4:FnScope ["name","thing"] ["name","thing"] (yab qbx):=⟨rfl,rfl,rfl,by decide +kernel,rfl,by decide +kernel,by decide +kernel⟩
theorem qge (ycs:GTup K mg "JOININGS" [.str "and",.str "or"]) (ydk:Has P w K mg base 2 "is_cell" ["thing"] ydx) (yd7:Has P w K mg base 2 "is_bit" ["thing"] qev) (ycf:Has P w K mg base 1 "is_one_of" ["thing","words"] (qcw K)) (F:FnAt K mg "is_part" qbx ["name","thing"]):Has P w K mg base 3 "is_part" ["name","thing"] qdx:=by
 refine Has.of F yb4 (fun vs H Q E h=>?_) (fun f cdv A outer s H vs Q E hr h=>?_)
 ·obtain ⟨nm,v,rfl,_⟩:=h
  rfl
 ·obtain ⟨nm,v,rfl,hp,k⟩:=h
  have sc:=yb4
  refine ⟨_,(qak (qd9 (yby ydq (pv 0) qan (yap _))
    (qai (qa1 (yaj ydk hr (qaa (pv 1) yac))))
    qby)
   (qak (qd9 (yby ydq (pv 0) qan (yap _))
    (qai (qa1 (yaj yd7 hr (qaa (pv 1) yac))))
    qby)
   (qai (qa1 (yaj ycf hr (qaa (pv 1) (qaa (qhg ycs) yac))))))),?_⟩
  rcases hp with ⟨rfl,x,rfl,h0,h1⟩|⟨rfl,b,rfl⟩|⟨rfl,hv⟩
  ·refine ⟨_,rfl,rfl,_,rfl,iteB (by decide +kernel) ?_⟩
   exact ⟨_,rfl,x,rfl,h0,h1,k H (Same.refl H)⟩
  ·refine ⟨_,rfl,rfl,_,rfl,iteN (by decide +kernel) ?_⟩
   refine ⟨_,rfl,rfl,_,rfl,iteB (by decide +kernel) ?_⟩
   exact ⟨_,rfl,b,rfl,k⟩
  ·refine ⟨_,rfl,rfl,_,rfl,iteN (by decide +kernel) ?_⟩
   refine ⟨_,rfl,rfl,_,rfl,iteN (by decide +kernel) ?_⟩
   rcases hv with rfl|rfl
   ·refine ⟨_,rfl,fun a ha=>⟨_,a,_,rfl,ha,by decide,?_⟩⟩
    exact k H (Same.refl H)
   ·refine ⟨_,rfl,fun a ha=>⟨_,a,_,rfl,ha,by decide,?_⟩⟩
    exact k H (Same.refl H)
def HAt (H:Hp) (v:V) (h:Hm):Prop:=∃ a,v=.ref a∧H a=some (.tup (hV h))
def qdh:Sp:=fun vs H Q _=>∃ v h ns,vs=[v]∧HAt H v h∧okH h ns∧Q (.bl true) H
abbrev qbj:Stmt:=top 17
theorem ybp:FnScope ["thing"] ["thing"] (yab qbj):=⟨rfl,rfl,rfl,by decide +kernel,rfl,by decide +kernel,by decide +kernel⟩
theorem qfj (B:Bl mg) {aP:Addr} (gP:mg "PARTS" = some (.ref aP)) (TP:TabK K aP tabP) (F:FnAt K mg "has_word" qbj ["thing"]):Has P w K mg base 1 "has_word" ["thing"] qdh:=by
 refine Has.of F ybp (fun vs H Q E h=>?_) (fun f cdv A outer s H vs Q E hr h=>?_)
 ·obtain ⟨v,h,ns,rfl,_⟩:=h
  rfl
 ·obtain ⟨v,h,ns,rfl,⟨a,rfl,ha⟩,ok,k⟩:=h
  have sc:=ybp
  refine ⟨_,(qai (qa1 (qay (qag qap rfl (B.of rfl) boot_isinstance (qaa (pv 0) (qaa (qas (v:=.ty "tuple") rfl (B.of rfl) boot_tuple rfl) yac))) (qay (yat qex (qag qah rfl (B.of rfl) boot_len (qaa (pv 0) yac)) qac (yap _)) (qay (qag qap rfl (B.of rfl) boot_isinstance (qaa (ycn yaz (pv 0) qac (fun _ _=>rfl)) (qaa (qas (v:=.ty "str") rfl (B.of rfl) boot_str rfl) yac))) (ybg (yat (qf2 (D:=tabP)) (ycn yaz (pv 0) qac (fun _ _=>rfl)) (qa8 (v:=.ref aP) rfl gP rfl) (by with_unfolding_all rfl)))))))),?_⟩
  refine ⟨_,rfl,_,_,_,_,rfl,.tup ha,rfl,_,rfl,iteT ?_⟩
  refine ⟨_,rfl,a,_,rfl,.inr (SqT.of ha),_,_,rfl,rfl,_,rfl,iteD (by unfold hV;simp;omega) ?_⟩
  refine ⟨_,rfl,a,_,_,_,rfl,rfl,SqT.of ha,yah 0 rfl,_,_,_,_,rfl,.str _,rfl,_,rfl,iteT ?_⟩
  refine ⟨_,rfl,a,_,_,_,rfl,rfl,SqT.of ha,yah 0 rfl,aP,h.w,rfl,rfl,TP,?_⟩
  have e:KTD.inKeys h.w tabP=true:=by rw[← KTD.isSome_datumAt,ok.tab];rfl
  rw[e]
  exact k
end
section
variable {P:Program}{w:World}{K:PySem.W.Frag}{mg:Str→Option Value}{base:Heap}
theorem Rest.get {ns:List Str}{vs:List V} (h:Rest ns vs):∀ {i:Nat}{n:Str}{v:V},ns[i]?=some n→vs[i]?=some v→(n="bit"∧bitV v)∨(n="how"∧howV v):=by
 induction h with
 | nil=>intro i n v h;simp at h
 | bit hb _ ih=>
  intro i n v h1 h2
  cases i with
  | zero=>simp at h1 h2;subst h1 h2;exact .inl ⟨rfl,hb⟩
  | succ i=>simp at h1 h2;exact ih h1 h2
 | how hb _ ih=>
  intro i n v h1 h2
  cases i with
  | zero=>simp at h1 h2;subst h1 h2;exact .inr ⟨rfl,hb⟩
  | succ i=>simp at h1 h2;exact ih h1 h2
theorem okH.cellAt {h:Hm}{ns:List Str} (o:okH h ns) {i:Nat}{x y:V} (hx:(yai h.c.length ns)[i]?=some x) (hy:(h.c.map V.int++h.r)[i]?=some y) :
  (x=.str "cell"∧∃ c,h.c[i]?=some c∧y=.int c)∨(h.c.length≤i∧((x=.str "bit"∧bitV y)∨(x=.str "how"∧howV y))):=by
 unfold yai at hx
 by_cases hi:i<h.c.length
 ·rw[List.getElem?_append_left (by simpa using hi),List.getElem?_replicate,if_pos hi] at hx
  rw[List.getElem?_append_left (by simpa using hi)] at hy
  obtain ⟨c,hc,rfl⟩:=yce hy
  exact .inl ⟨(Option.some.inj hx).symm,c,hc,rfl⟩
 ·rw[List.getElem?_append_right (by simpa using Nat.le_of_not_lt hi)] at hx
  rw[List.getElem?_append_right (by simpa using Nat.le_of_not_lt hi)] at hy
  simp only[List.length_replicate,List.length_map] at hx hy
  obtain ⟨n,hn,rfl⟩:=yce hx
  rcases o.rest.get hn hy with ⟨rfl,hb⟩|⟨rfl,hb⟩
  ·exact .inr ⟨Nat.le_of_not_lt hi,.inl ⟨rfl,hb⟩⟩
  ·exact .inr ⟨Nat.le_of_not_lt hi,.inr ⟨rfl,hb⟩⟩
theorem okH.partAt {h:Hm}{ns:List Str} (o:okH h ns) {i:Nat}{x y:V} (hx:(yai h.c.length ns)[i]?=some x) (hy:(h.c.map V.int++h.r)[i]?=some y):∃ nm,x=.str nm∧PartOk nm y:=by
 rcases o.cellAt hx hy with ⟨rfl,c,hc,rfl⟩|⟨_,⟨rfl,hb⟩|⟨rfl,hb⟩⟩
 ·exact ⟨_,rfl,.inl ⟨rfl,c,rfl,o.rg c (List.mem_of_getElem? hc)⟩⟩
 ·exact ⟨_,rfl,.inr (.inl ⟨rfl,hb⟩)⟩
 ·exact ⟨_,rfl,.inr (.inr ⟨rfl,hb⟩)⟩
theorem yee (h:Hm):cutV (hV h) (some 1) none=h.c.map V.int++h.r:=by
 unfold hV
 exact qef 1
theorem yfu (h:Hm):¬ (HT.sIx (hV h).length 0 (some 1)=0∧HT.sIx (hV h).length (hV h).length none=(hV h).length):=by
 rintro ⟨h0,_⟩
 unfold hV HT.sIx at h0
 simp at h0
def ycx:Sp:=fun vs H Q _=>∃ v h ns,vs=[v]∧HAt H v h∧okH h ns∧∀ H',Same H H'→Q (.bl true) H'
abbrev ya9:Stmt:=top 19
theorem qbd:FnScope ["thing","names"] ["thing"] (yab ya9):=⟨rfl,rfl,rfl,by decide +kernel,rfl,by decide +kernel,by decide +kernel⟩
theorem yfb (B:Bl mg) (yc0:mg "zip" = none) (ygg:mg "all" = none) {aP:Addr} (gP:mg "PARTS" = some (.ref aP)) (TP:TabK K aP tabP) (qc6:Has P w K mg base 3 "is_part" ["name","thing"] qdx) (F:FnAt K mg "has_parts" ya9 ["thing"]):Has P w K mg base 4 "has_parts" ["thing"] ycx:=by
 refine Has.of F qbd (fun vs H Q E h=>?_) (fun f cdv A outer s H vs Q E hr h=>?_)
 ·obtain ⟨v,h,ns,rfl,_⟩:=h
  rfl
 ·obtain ⟨v,h,ns,rfl,⟨a,rfl,ha⟩,ok,k⟩:=h
  have sc:=qbd
  refine ⟨_,(qak (ybk (i:=1) sc.nd rfl (Or.inl rfl) (ycn (qfy (D:=tabP)) (qa8 (v:=.ref aP) rfl gP rfl) (ycn yaz (pv 0) qac (fun _ _=>rfl)) (fun _ _=>rfl)))
   (qai (qa1 (qay (yat ydq (qag qah rfl (B.of rfl) boot_len (qaa (pv 0) yac)) (qbg qbr (qag qah rfl (B.of rfl) boot_len (qaa (pv 1) yac)) qac) (yap _)) (ybg (qag (qe4 rfl) rfl ygg qfa (qaa (yc9 rfl (qb1 rfl) (M:=["name","part"]) (ix:=[none,none]) (qfw rfl yc0 (qaa (pv 1) (qaa (qb5 qfz (pv 0) (qbs qac) ycq) yac))) (fun _ _ _ _=>(yd9 (K:=K) (n:=2) rfl rfl (yao (qal (i:=0) (show List.Nodup (["name","part"]:List Str) by decide +kernel) rfl (Or.inl rfl)) (yao (qal (i:=1) (show List.Nodup (["name","part"]:List Str) by decide +kernel) rfl (Or.inl rfl)) ybt)))) (fun _ _ _ _=>yfe) (fun _ _ _ _=>(yaj qc6 hr (qaa (pv 0) (qaa (pv 1) yac))))) yac))))))),?_⟩
  refine ⟨_,rfl,a,_,_,_,rfl,rfl,SqT.of ha,yah 0 rfl,aP,h.w,_,rfl,rfl,TP,ok.tab,fun pn hpn=>?_⟩
  refine ⟨_,rfl,a,_,rfl,.inr (SqT.of ha),_,rfl,pn,_,rfl,.inr (hpn _),_,_,rfl,rfl,rfl,_,rfl,iteD ?_ ?_⟩
  ·have:=ok.len
   congr 1
   unfold hV
   rw[List.length_cons,this]
   rfl
  refine ⟨_,rfl,_,rfl,_,rfl,a,_,rfl,SqT.of ha,yfu h,fun q hq=>?_⟩
  rw[yee]
  have s1:Same H (upd H q (.tup (h.c.map V.int++h.r))):=(Same.refl H).upd hq
  have e1:upd H q (.tup (h.c.map V.int++h.r)) q=some (.tup (h.c.map V.int++h.r)):=yaa
  revert s1 e1
  generalize upd H q (.tup (h.c.map V.int++h.r))=H1
  intro s1 e1
  refine ⟨true,true,pn,q,_,_,rfl,hpn _,SqT.of e1,fun D hD=>?_⟩
  refine qc5 (K:=K) (ok.len.symm) (fun i H'=>Same H1 H'∧H' D=some (.lst ((List.replicate i true).map V.bl))) ⟨(Same.refl H1).upd hD,yaa⟩ ?_ ?_ ?_
  ·rintro i H2 ⟨s2,e2⟩
   exact ⟨hpn _,SqT.of (s2 _ _ e1)⟩
  ·rintro H2 ⟨s2,e2⟩
   refine ⟨D,_,rfl,e2,?_⟩
   rw[show (List.replicate (yai h.c.length ns).length true).all id=true by simp]
   exact k _ (s1.trans s2)
  ·rintro i x y p H2 hx hy ⟨s2,e2⟩ hp
   obtain ⟨nm,rfl,hpo⟩:=ok.partAt hx hy
   refine ⟨p,_,rfl,SqT.of yaa,rfl,?_⟩
   refine ⟨_,_,rfl,_,_,rfl,rfl,qa4.set (qa4.set (qa4.refl _) rfl) rfl,yes ?_⟩
   refine ⟨_,rfl,_,rfl,nm,y,rfl,hpo,fun H3 s3=>?_⟩
   have s23:Same H2 H3:=((Same.refl H2).upd hp).trans s3
   refine ⟨_,s23 _ _ e2,qce ?_,(s2.trans s23).at hD,?_⟩
   ·have h1:=(List.getElem?_eq_some_iff.mp hx).1
    have h2:=ok.cl
    have h3:=ok.rl
    simp[yai] at h1 ⊢
    omega
   ·rw[yaa,List.replicate_succ',List.map_append];rfl
end
section
variable {P:Program}{w:World}{K:PySem.W.Frag}{mg:Str→Option Value}{base:Heap}
theorem qe5 {h:Hm}{i:Nat} (hi:h.c.length≤i):h.c.take (i+1)=h.c.take i:=by
 rw[List.take_of_length_le hi,List.take_of_length_le (by omega)]
def qbm:Sp:=fun vs H Q _=>∃ v h ns,vs=[v]∧HAt H v h∧okH h ns∧∀ D H',Same H H'→H D=none→H' D=some (.lst (h.c.map V.int))→Q (.ref D) H'
abbrev qbl:Stmt:=top 18
theorem ybq:FnScope ["harm"] ["harm"] (yab qbl):=⟨rfl,rfl,rfl,by decide +kernel,rfl,by decide +kernel,by decide +kernel⟩
theorem qfe (B:Bl mg) (yc0:mg "zip" = none) {aP:Addr} (gP:mg "PARTS" = some (.ref aP)) (TP:TabK K aP tabP) (F:FnAt K mg "cells_in" qbl ["harm"]):Has P w K mg base 1 "cells_in" ["harm"] qbm:=by
 refine Has.of F ybq (fun vs H Q E h=>?_) (fun f cdv A outer s H vs Q E hr h=>?_)
 ·obtain ⟨v,h,ns,rfl,_⟩:=h
  rfl
 ·obtain ⟨v,h,ns,rfl,⟨a,rfl,ha⟩,ok,k⟩:=h
  have sc:=ybq
  refine ⟨_,(qai (qa1 (yc9 rfl (qb1 rfl) (M:=["name","part"]) (ix:=[none,none]) (qfw rfl yc0 (qaa (ycn (qfy (D:=tabP)) (qa8 (v:=.ref aP) rfl gP rfl) (ycn yaz (pv 0) qac (fun _ _=>rfl)) (fun _ _=>rfl)) (qaa (qb5 qfz (pv 0) (qbs qac) ycq) yac))) (fun _ _ _ _=>(yd9 (K:=K) (n:=2) rfl rfl (yao (qal (i:=0) (show List.Nodup (["name","part"]:List Str) by decide +kernel) rfl (Or.inl rfl)) (yao (qal (i:=1) (show List.Nodup (["name","part"]:List Str) by decide +kernel) rfl (Or.inl rfl)) ybt)))) (fun _ _ _ _=>(qg3 (yby ydq (pv 0) qan (yap _)))) (fun _ _ _ _=>(pv 1))))),?_⟩
  refine ⟨_,rfl,a,_,_,_,rfl,rfl,SqT.of ha,yah 0 rfl,aP,h.w,_,rfl,rfl,TP,ok.tab,fun pn hpn=>?_⟩
  refine ⟨_,rfl,_,rfl,a,_,rfl,SqT.of ha,yfu h,fun q hq=>?_⟩
  rw[yee]
  have s1:Same H (upd H q (.tup (h.c.map V.int++h.r))):=(Same.refl H).upd hq
  have e1:upd H q (.tup (h.c.map V.int++h.r)) q=some (.tup (h.c.map V.int++h.r)):=yaa
  revert s1 e1
  generalize upd H q (.tup (h.c.map V.int++h.r))=H1
  intro s1 e1
  refine ⟨true,true,pn,q,_,_,rfl,hpn _,SqT.of e1,fun D hD=>?_⟩
  refine qc5 (K:=K) (ok.len.symm) (fun i H'=>Same H1 H'∧H' D=some (.lst ((h.c.take i).map V.int))) ⟨(Same.refl H1).upd hD,yaa⟩ ?_ ?_ ?_
  ·rintro i H2 ⟨s2,e2⟩
   exact ⟨hpn _,SqT.of (s2 _ _ e1)⟩
  ·rintro H2 ⟨s2,e2⟩
   rw[List.take_of_length_le (by simp[yai])] at e2
   exact k D H2 (s1.trans s2) (s1.free hD) e2
  ·rintro i x y p H2 hx hy ⟨s2,e2⟩ hp
   have s3:Same H2 (upd H2 p (.tup [x,y])):=(Same.refl H2).upd hp
   refine ⟨p,_,rfl,SqT.of yaa,rfl,?_⟩
   revert s3
   generalize upd H2 p (.tup [x,y])=H3
   intro s3
   refine ⟨_,_,rfl,_,_,rfl,rfl,qa4.set (qa4.set (qa4.refl _) rfl) rfl,?_⟩
   rcases ok.cellAt hx hy with ⟨rfl,c,hc,rfl⟩|⟨hge,hh⟩
   ·refine ⟨_,rfl,rfl,_,rfl,iteB (by decide +kernel) ?_⟩
    refine ⟨_,rfl,_,s3 _ _ e2,qce ?_,(s2.trans s3).at hD,?_⟩
    ·have:=ok.cl
     simp
     omega
    ·rw[yaa,List.take_add_one,hc];simp
   ·have hxn:∃ nm,x=.str nm∧nm≠"cell":=by
     rcases hh with ⟨rfl,_⟩|⟨rfl,_⟩
     ·exact ⟨_,rfl,by decide +kernel⟩
     ·exact ⟨_,rfl,by decide +kernel⟩
    obtain ⟨nm,rfl,hnm⟩:=hxn
    refine ⟨_,rfl,rfl,_,rfl,iteN (by simpa using hnm) ?_⟩
    refine ⟨s2.trans s3,?_⟩
    rw[qe5 hge]
    exact s3 _ _ e2
theorem not_take {l:List Int} (h:l.Nodup) {i:Nat} (hi:i<l.length):l[i]∉l.take i:=by
 intro hm
 obtain ⟨j,hj,e⟩:=List.getElem_of_mem hm
 rw[List.getElem_take] at e
 have hj':j<i:=by simp at hj;omega
 have:=(List.nodup_iff_pairwise_ne.mp h)
 exact (List.pairwise_iff_getElem.mp h j i (by omega) hi hj') e
theorem qep {l:List Int} (h:l.Nodup):∀ i,i≤l.length→qam (fun i=>l.getD i 0) i=l.take i
 | 0,_=>rfl
 | i+1,hi=>by
  show (if l.getD i 0∈qam (fun i=>l.getD i 0) i then qam (fun i=>l.getD i 0) i else qam (fun i=>l.getD i 0) i++[l.getD i 0])=_
  rw[qep h i (by omega)]
  have e:l.getD i 0=l[i]:=by rw[List.getD_eq_getElem?_getD,List.getElem?_eq_getElem (by omega)];rfl
  rw[e,if_neg (not_take h (by omega)),List.take_add_one,List.getElem?_eq_getElem (by omega)]
  rfl
theorem yc7 {l:List Int} (h:l.Nodup):uniq l=l:=by
 unfold uniq
 rw[qep h _ (Nat.le_refl _),List.take_length]
theorem HAt.same {H H':Hp}{v:V}{h:Hm} (s:Same H H') (x:HAt H v h):HAt H' v h:=by
 obtain ⟨a,rfl,ha⟩:=x
 exact ⟨a,rfl,s _ _ ha⟩
def qdu:Sp:=fun vs H Q _=>∃ v h ns,vs=[v]∧HAt H v h∧okH h ns∧∀ H',Same H H'→Q (.bl true) H'
abbrev qbv:Stmt:=top 20
theorem yb2:FnScope ["thing","cells"] ["thing"] (yab qbv):=⟨rfl,rfl,rfl,by decide +kernel,rfl,by decide +kernel,by decide +kernel⟩
theorem ygk (B:Bl mg) (ybr:mg "set" = none) (qcp:Has P w K mg base 1 "has_word" ["thing"] qdh) (qcc:Has P w K mg base 4 "has_parts" ["thing"] ycx) (ya2:Has P w K mg base 1 "cells_in" ["harm"] qbm) (F:FnAt K mg "is_harm" qbv ["thing"]):Has P w K mg base 5 "is_harm" ["thing"] qdu:=by
 refine Has.of F yb2 (fun vs H Q E h=>?_) (fun f cdv A outer s H vs Q E hr h=>?_)
 ·obtain ⟨v,h,ns,rfl,_⟩:=h
  rfl
 ·obtain ⟨v,h,ns,rfl,hv,ok,k⟩:=h
  have sc:=yb2
  refine ⟨_,(qak (qd9 (PW.pt (pw_or (qda (qcx (yaj qcp hr (qaa (pv 0) yac)))) (qf5 (qda (qcx (yaj qcc hr (qaa (pv 0) yac)))))))
    (qai (qa1 qd4))
    qby)
   (qak (ybk (i:=1) sc.nd rfl (Or.inl rfl) (yaj ya2 hr (qaa (pv 0) yac)))
   (qai (qa1 (yat ydq (qag qbn rfl (B.of rfl) boot_len (qaa (qcg (ybu rfl) rfl ybr qbh (qaa (pv 1) yac)) yac)) (qag qah rfl (B.of rfl) boot_len (qaa (pv 1) yac)) (yap _)))))),?_⟩
  refine ⟨_,rfl,v,h,ns,rfl,hv,ok,_,rfl,iteF ?_⟩
  refine ⟨_,rfl,v,h,ns,rfl,hv,ok,fun H1 s1=>⟨_,rfl,iteF ?_⟩⟩
  refine ⟨_,rfl,v,h,ns,rfl,HAt.same s1 hv,ok,fun D H2 s2 hD e2=>?_⟩
  refine ⟨_,rfl,D,h.c,rfl,e2,by have:=ok.cl;omega,fun p hp=>?_⟩
  refine ⟨p,_,rfl,yaa,?_⟩
  have s3:Same H2 (upd H2 p (SetO P w p (uniq h.c))):=(Same.refl H2).upd hp
  refine ⟨_,rfl,D,_,rfl,.inl (SqL.of (s3 _ _ e2)),rfl,?_⟩
  rw[yc7 ok.nd,List.length_map,decide_eq_true rfl]
  rw[yc7 ok.nd] at s3
  exact k _ ((s1.trans s2).trans s3)
end
theorem nodup_le {l:List Int} (h:l.Nodup):∀ {S:List Int},(∀ x∈l,x∈S)→l.length≤S.length:=by
 induction l with
 | nil=>intro S _;exact Nat.zero_le _
 | cons x l ih=>
  intro S hs
  have hx:=hs x (by simp)
  have hn:=List.nodup_cons.mp h
  have:=ih hn.2 (S:=S.erase x) (fun y hy=>(List.mem_erase_of_ne (fun z=>by subst z;exact hn.1 hy)).mpr (hs y (by simp[hy])))
  rw[List.length_erase_of_mem hx] at this
  have:=List.length_pos_of_mem hx
  simp
  omega
def allC (hs:List Hm):List Int:=hs.flatMap Hm.c
structure okHs (hs:List Hm) (S:List Int):Prop where
 len:hs.length≤3
 ok:∀ h∈hs,∃ ns,okH h ns
 sl:S.length≤3
 mem:∀ h∈hs,∀ c∈h.c,c∈S
structure HsV (H:Hp) (vs:List V) (hs:List Hm):Prop where
 len:vs.length=hs.length
 at_:∀ (i:Nat) (v:V) (h:Hm),vs[i]?=some v→hs[i]?=some h→HAt H v h
theorem HsV.same {H H':Hp}{vs:List V}{hs:List Hm} (s:Same H H') (x:HsV H vs hs):HsV H' vs hs:=⟨x.len,fun i v h a b=>HAt.same s (x.at_ i v h a b)⟩
theorem HsV.get {H:Hp}{vs:List V}{hs:List Hm} (x:HsV H vs hs) {i:Nat}{v:V} (h:vs[i]?=some v):∃ g,hs[i]?=some g∧HAt H v g:=by
 have hi:=(List.getElem?_eq_some_iff.mp h).1
 have e:hs[i]?=some (hs[i]'(by rw[← x.len];exact hi)):=List.getElem?_eq_getElem _
 exact ⟨_,e,x.at_ i v _ h e⟩
theorem qch {hs:List Hm}{i:Nat}{h:Hm} (e:hs[i]?=some h):allC (hs.take (i+1))=allC (hs.take i)++h.c:=by
 unfold allC
 rw[List.take_add_one,e]
 simp
theorem okHs.sub {hs:List Hm}{S:List Int} (o:okHs hs S) {l:List Hm} (hl:∀ h∈l,h∈hs):∀ x∈allC l,x∈S:=by
 intro x hx
 unfold allC at hx
 obtain ⟨h,hh,hc⟩:=List.mem_flatMap.mp hx
 exact o.mem h (hl h hh) x hc
theorem okHs.few {hs:List Hm}{S:List Int} (o:okHs hs S) {l:List Hm} (hl:∀ h∈l,h∈hs):(uniq (allC l)).length≤3:=
 Nat.le_trans (nodup_le (ygi _) (fun x hx=>o.sub hl x ((qf7 _ x).mp hx))) o.sl
theorem allC_len {l:List Hm} (h:∀ x∈l,x.c.length≤2):(allC l).length≤2*l.length:=by
 induction l with
 | nil=>simp[allC]
 | cons a l ih=>
  have h1:=h a (by simp)
  have h2:=ih (fun x hx=>h x (by simp[hx]))
  unfold allC at *
  rw[List.flatMap_cons,List.length_append,List.length_cons]
  omega
theorem okHs.clen {hs:List Hm}{S:List Int} (o:okHs hs S) {l:List Hm} (hl:∀ h∈l,h∈hs):(allC l).length≤2*l.length:=
 allC_len fun x hx=>by
  obtain ⟨ns,h⟩:=o.ok x (hl x hx)
  exact h.cl.2
theorem qgi {c:Prop} [Decidable c] {A B:Prop} (hc:¬ c) (h:B):if decide c=true then A else B:=iteN (decide_eq_false hc) h
section
variable {P:Program}{w:World}{K:PySem.W.Frag}{mg:Str→Option Value}{base:Heap}
def qc3:Sp:=fun vs H Q _=>∃ L us hs S,vs=[.ref L]∧H L=some (.lst us)∧HsV H us hs∧okHs hs S∧∀ H',Same H H'→Q .non H'
abbrev qau:Stmt:=top 21
theorem yax:FnScope ["thing","cells","number","harm"] ["thing"] (yab qau):=⟨rfl,rfl,rfl,by decide +kernel,rfl,by decide +kernel,by decide +kernel⟩
theorem qc1 (B:Bl mg) (ybr:mg "set" = none) (yb0:∃ t,mg "MOST_HARMS" = some (.int 3 t)) (ybm:∃ t,mg "MOST_UNLIKE" = some (.int 3 t)) (ydg:Has P w K mg base 5 "is_harm" ["thing"] qdu) (ya2:Has P w K mg base 1 "cells_in" ["harm"] qbm) (F:FnAt K mg "look_at_harms" qau ["thing"]):Has P w K mg base 6 "look_at_harms" ["thing"] qc3:=by
 refine Has.of F yax (fun vs H Q E h=>?_) (fun f cdv A outer s H vs Q E hr h=>?_)
 ·obtain ⟨L,us,hs,S,rfl,_⟩:=h
  rfl
 ·obtain ⟨L,us,hs,S,rfl,hL,hv,ok,k⟩:=h
  have sc:=yax
  refine ⟨_,(qak (qd9 (PW.pt (pw_or (qda (qcx (qag qap rfl (B.of rfl) boot_isinstance (qaa (pv 0) (qaa (qas (v:=.ty "list") rfl (B.of rfl) boot_list rfl) yac))))) (qf5 (yby qex (qag qah rfl (B.of rfl) boot_len (qaa (pv 0) yac)) (ycp yb0) (yap _)))))
    (qai yef)
    qby)
   (qak (ybk (i:=1) sc.nd rfl (Or.inl rfl) (qf6 yac))
   (qai (qhu PassesOwn.never rfl (qej rfl (B.of rfl) (qaa (pv 0) yac)) (yem rfl (yao (qal (i:=2) sc.nd rfl (Or.inl rfl)) (yao (qal (i:=3) sc.nd rfl (Or.inl rfl)) ybt)))
    (qak (qd9 (qda (qcx (yaj ydg hr (qaa (pv 3) yac))))
     (qai yef)
     qby)
    (qak (qd8 (yhx PySem.F.plainAttrs_list PySem.F.slot_list_extend PySem.F.type_list_extend yen (pv 1) (qaa (yaj ya2 hr (qaa (pv 3) yac)) yac)))
    (qai (qd9 (yby qex (qag qbn rfl (B.of rfl) boot_len (qaa (qcg (ybu rfl) rfl ybr qbh (qaa (pv 1) yac)) yac)) (ycp ybm) (yap _))
     (qai yef)
     qby)))))))),?_⟩
  refine ⟨_,rfl,_,_,_,_,rfl,.lst hL,rfl,_,rfl,iteF ?_⟩
  refine ⟨_,rfl,L,us,rfl,.inl (SqL.of hL),_,_,rfl,rfl,_,rfl,qgi (by have:=hv.len;have:=ok.len;omega) ?_⟩
  refine ⟨Nat.zero_le _,fun p hp=>?_⟩
  have npL:L≠p:=qae hL hp
  refine ⟨_,rfl,L,us,rfl,SqL.of (by rw[yae npL];exact hL),qc4 (xs:=us) (fun i σ H2=>∃ (o2 o3:Option V),σ=[some (.ref L),some (.ref p),o2,o3]∧Same H H2∧H2 p=some (.lst ((allC (hs.take i)).map V.int)))
   ⟨none,none,rfl,(Same.refl H).upd hp,yaa⟩ (fun i σ H2 _ ⟨_,_,_,h,_⟩=>SqL.of (h _ _ hL)) ?_ ?_⟩
  ·rintro i x pp σ H2 hx ⟨o2,o3,rfl,s2,e2⟩ hpp
   obtain ⟨g,hg,hat⟩:=hv.get hx
   obtain ⟨ns,og⟩:=ok.ok g (List.mem_of_getElem? hg)
   have sP:Same H2 (upd H2 pp (.tup [.int i,x])):=(Same.refl H2).upd hpp
   refine ⟨pp,_,rfl,SqT.of yaa,rfl,_,_,rfl,_,_,rfl,rfl,?_⟩
   refine ⟨_,rfl,x,g,ns,rfl,HAt.same (s2.trans sP) hat,og,fun H3 s3=>⟨_,rfl,iteF ?_⟩⟩
   have s23:Same H2 H3:=sP.trans s3
   refine ⟨_,rfl,.inl ⟨rfl,_,SqL.of (s23 _ _ e2)⟩,?_⟩
   refine ⟨_,rfl,x,g,ns,rfl,HAt.same (s2.trans s23) hat,og,fun D H4 s4 hD eD=>?_⟩
   have s24:=s23.trans s4
   have hsub:∀ h∈hs.take (i+1),h∈hs:=fun h hh=>List.mem_of_mem_take hh
   have hlt:(allC (hs.take (i+1))).length≤6:=by
    have h1:=ok.clen hsub
    have h2:=ok.len
    rw[List.length_take] at h1
    omega
   refine ⟨p,D,_,_,rfl,rfl,s24 _ _ e2,eD,?_,?_⟩
   ·rw[← List.length_append,← List.map_append,← qch hg,List.length_map]
    exact Nat.le_of_lt (qce (by omega))
   rw[← List.map_append,← qch hg]
   have s5:Same H (upd H4 p (.lst ((allC (hs.take (i+1))).map V.int))):=(s2.trans s24).at hp
   have e5:upd H4 p (.lst ((allC (hs.take (i+1))).map V.int)) p=some (.lst ((allC (hs.take (i+1))).map V.int)):=yaa
   revert s5 e5
   generalize upd H4 p (.lst ((allC (hs.take (i+1))).map V.int))=H5
   intro s5 e5
   refine ⟨_,rfl,p,_,rfl,e5,by omega,fun q hq=>?_⟩
   have s6:Same H5 (upd H5 q (SetO P w q (uniq (allC (hs.take (i+1)))))):=(Same.refl H5).upd hq
   refine ⟨q,_,rfl,yaa,_,_,rfl,rfl,_,rfl,qgi (by have:=ok.few hsub;omega) ?_⟩
   exact ⟨_,_,rfl,s5.trans s6,s6 _ _ e5⟩
  ·rintro σ H2 ⟨o2,o3,rfl,s2,e2⟩
   exact k _ s2
end
def Hm.cell (h:Hm) (i:Nat):Int:=h.c.getD i 0
theorem qei {vs:List V} (h:Rest ["bit"] vs):∃ b,vs=[.int (b2i b)]:=by
 cases h with
 | bit hb h=>
  cases h
  obtain ⟨b,rfl⟩:=hb
  exact ⟨b,rfl⟩
theorem qhm {vs:List V} (h:Rest ["bit","bit"] vs):∃ b c,vs=[.int (b2i b),.int (b2i c)]:=by
 cases h with
 | bit hb h=>
  obtain ⟨b,rfl⟩:=hb
  obtain ⟨c,rfl⟩:=qei h
  exact ⟨b,c,rfl⟩
theorem rest_how {vs:List V} (h:Rest ["how"] vs):∃ v,vs=[v]∧howV v:=by
 cases h with
 | how hb h=>
  cases h
  exact ⟨_,rfl,hb⟩
theorem map_str {ns ms:List Str} (h:ns.map V.str=ms.map V.str):ns=ms:=List.map_inj_right (fun _ _ e=>V.str.inj e) |>.mp h
theorem ybn {h:Hm}{ns:List Str} (o:okH h ns):(∃ a,h.c=[a])∨∃ a b,h.c=[a,b]:=by
 obtain ⟨h1,h2⟩:=o.cl
 match hc:h.c with
 | []=>rw[hc] at h1;simp at h1
 | [a]=>exact .inl ⟨a,rfl⟩
 | [a,b]=>exact .inr ⟨a,b,rfl⟩
 | _::_::_::_=>rw[hc] at h2;simp at h2
theorem qf0 {h:Hm}{ns N:List Str} (o:okH h ns) (hw:KTD.datumAt h.w tabP=some (N.map V.str)):List.replicate h.c.length ("cell" : Str)++ns=N:=by
 have e:=Option.some.inj (o.tab.symm.trans hw)
 unfold yai at e
 apply map_str
 rw[← e,List.map_append,List.map_replicate]
theorem ydn:("cell" : Str)≠"bit":=by decide +kernel
theorem yfd:("cell" : Str)≠"how":=by decide +kernel
theorem okH.s1 {h:Hm}{ns:List Str} (o:okH h ns) (hw:KTD.datumAt h.w tabP=some ((["cell","bit"]:List Str).map V.str)):∃ a b,h.c=[a]∧h.r=[.int (b2i b)]:=by
 have e:=qf0 o hw
 have hr:=o.rest
 rcases ybn o with ⟨a,hc⟩|⟨a,b,hc⟩
 ·rw[hc] at e
  obtain ⟨_,rfl⟩:=List.cons.inj e
  obtain ⟨b,hb⟩:=qei hr
  exact ⟨a,b,hc,hb⟩
 ·rw[hc] at e
  exact absurd (List.cons.inj (List.cons.inj e).2).1 ydn
theorem okH.c2 {h:Hm}{ns N:List Str} (o:okH h ns) (hw:KTD.datumAt h.w tabP=some ((("cell" : Str)::("cell" : Str)::N:List Str).map V.str)) (hN:∀ n∈ns,n≠"cell"):∃ a b,h.c=[a,b]∧ns=N:=by
 have e:=qf0 o hw
 rcases ybn o with ⟨a,hc⟩|⟨a,b,hc⟩
 ·rw[hc] at e
  have e2:=(List.cons.inj e).2
  exact absurd rfl (hN "cell" (by show ("cell" : Str)∈ns;rw[show ns=("cell" : Str)::N from e2];simp))
 ·rw[hc] at e
  exact ⟨a,b,hc,(List.cons.inj (List.cons.inj e).2).2⟩
theorem Rest.nocell {ns:List Str}{vs:List V} (h:Rest ns vs):∀ n∈ns,n≠"cell":=by
 induction h with
 | nil=>intro n h;simp at h
 | bit _ _ ih=>
  intro n hn
  rcases List.mem_cons.mp hn with rfl|hn
  ·exact ydn.symm
  ·exact ih n hn
 | how _ _ ih=>
  intro n hn
  rcases List.mem_cons.mp hn with rfl|hn
  ·exact yfd.symm
  ·exact ih n hn
theorem okH.sTurns {h:Hm}{ns:List Str} (o:okH h ns) (hw:KTD.datumAt h.w tabP=some ((["cell","cell","bit"]:List Str).map V.str)):∃ a b x,h.c=[a,b]∧h.r=[.int (b2i x)]:=by
 obtain ⟨a,b,hc,rfl⟩:=o.c2 hw o.rest.nocell
 obtain ⟨x,hx⟩:=qei o.rest
 exact ⟨a,b,x,hc,hx⟩
theorem okH.sSets {h:Hm}{ns:List Str} (o:okH h ns) (hw:KTD.datumAt h.w tabP=some ((["cell","cell","bit","bit"]:List Str).map V.str)):∃ a b x y,h.c=[a,b]∧h.r=[.int (b2i x),.int (b2i y)]:=by
 obtain ⟨a,b,hc,rfl⟩:=o.c2 hw o.rest.nocell
 obtain ⟨x,y,hx⟩:=qhm o.rest
 exact ⟨a,b,x,y,hc,hx⟩
theorem okH.sOther {h:Hm}{ns:List Str} (o:okH h ns) (hw:KTD.datumAt h.w tabP=some ((["cell","cell"]:List Str).map V.str)):∃ a b,h.c=[a,b]∧h.r=[]:=by
 obtain ⟨a,b,hc,rfl⟩:=o.c2 hw o.rest.nocell
 have:=o.rest
 cases hr:h.r with
 | nil=>exact ⟨a,b,hc,rfl⟩
 | cons v l=>rw[hr] at this;cases this
theorem okH.sBoth {h:Hm}{ns:List Str} (o:okH h ns) (hw:KTD.datumAt h.w tabP=some ((["cell","cell","how"]:List Str).map V.str)):∃ a b v,h.c=[a,b]∧h.r=[v]∧howV v:=by
 obtain ⟨a,b,hc,rfl⟩:=o.c2 hw o.rest.nocell
 obtain ⟨v,hv,hw⟩:=rest_how o.rest
 exact ⟨a,b,v,hc,hv,hw⟩
theorem okH.at1 {h:Hm}{ns:List Str} (o:okH h ns):(hV h)[1]?=some (.int (h.cell 0)):=by
 rcases ybn o with ⟨a,hc⟩|⟨a,b,hc⟩<;>(unfold hV Hm.cell;rw[hc];rfl)
theorem yb3 {s:Str} (h:s="stuck"∨s="slow"∨s="forgets"∨s="misreads"∨s="nowhere"):KTD.datumAt s tabP=some ((["cell","bit"]:List Str).map V.str):=by
 rcases h with rfl|rfl|rfl|rfl|rfl<;>decide +kernel
theorem qdp:KTD.datumAt ("turns" : Str) tabP=some ((["cell","cell","bit"]:List Str).map V.str):=by decide +kernel
theorem qco {s:Str} (h:s="sets"∨s="keeps"):KTD.datumAt s tabP=some ((["cell","cell","bit","bit"]:List Str).map V.str):=by
 rcases h with rfl|rfl<;>decide +kernel
theorem qen:KTD.datumAt ("other" : Str) tabP=some ((["cell","cell"]:List Str).map V.str):=by decide +kernel
theorem qfx:KTD.datumAt ("both" : Str) tabP=some ((["cell","cell","how"]:List Str).map V.str):=by decide +kernel
def Oks (hs:List Hm):Prop:=∀ h∈hs,∃ ns,okH h ns
end Mh
namespace Mh
open PySem L2 PyProof.Rows Mx
theorem eqS {a s:Str}:(eqV (.str a) (.str s)=true)=(s=a):=by
 show ((a == s)=true)=_
 rw[beq_iff_eq]
 exact propext eq_comm
theorem ye1 {s:Str}{x:List V}:∀ {D:List (Str×List V)},KTD.datumAt s D=some x→s∈D.map (·.1)
 | [],h=>by simp[KTD.datumAt] at h
 | (k,y)::D,h=>by
  unfold KTD.datumAt at h
  by_cases e:s=k
  ·subst e;simp
  ·simp[e] at h
   have:=ye1 h
   simp at this ⊢
   exact .inr this
theorem words_ok:∀ s∈tabP.map (·.1),PyData.canLay0 (.str s)=true:=by decide +kernel
theorem Rest.fl {ns:List Str}{vs:List V} (h:Rest ns vs):Fl vs:=by
 induction h with
 | nil=>exact ⟨rfl,rfl⟩
 | bit hb _ ih=>
  obtain ⟨b,rfl⟩:=hb
  exact ⟨by rw[List.all_cons];exact ih.1,by simpa [PyData.canLayAll0,dOf,PyData.canLay0] using ih.2⟩
 | how hb _ ih=>
  have e:PyData.canLay0 (.str "and")=true∧PyData.canLay0 (.str "or")=true:=by decide +kernel
  rcases hb with rfl|rfl
  ·exact ⟨by rw[List.all_cons];exact ih.1,by simp only[List.map_cons,PyData.canLayAll0,dOf,e.1,Bool.true_and];exact ih.2⟩
  ·exact ⟨by rw[List.all_cons];exact ih.1,by simp only[List.map_cons,PyData.canLayAll0,dOf,e.2,Bool.true_and];exact ih.2⟩
theorem fl_ints (l:List Int) {vs:List V} (h:Fl vs):Fl (l.map V.int++vs):=by
 induction l with
 | nil=>exact h
 | cons a l ih=>exact ⟨by show (V.int a::(l.map V.int++vs)).all yb6=true;rw[List.all_cons];exact ih.1,by simpa [PyData.canLayAll0,dOf,PyData.canLay0] using ih.2⟩
theorem okH.fl {h:Hm}{ns:List Str} (o:okH h ns):Fl (hV h):=by
 have f:=fl_ints h.c o.rest.fl
 unfold hV
 refine ⟨by rw[List.all_cons];exact f.1,?_⟩
 simp only[List.map_cons,PyData.canLayAll0,dOf,words_ok _ (ye1 o.tab),Bool.true_and]
 exact f.2
def Dig (ds zs:List Int):Prop:=ds.length=zs.length∧∀ (i:Nat) d z,ds[i]?=some d→zs[i]?=some z→0≤d∧d<z
theorem Dig.get {ds zs:List Int} (h:Dig ds zs) {i:Nat}{z:Int} (hz:zs[i]?=some z):∃ d,ds[i]?=some d∧0≤d∧d<z:=by
 have hi:i<ds.length:=by rw[h.1];exact (List.getElem?_eq_some_iff.mp hz).1
 exact ⟨ds[i],by simp[hi],h.2 i _ z (by simp[hi]) hz⟩
theorem qgp {ds:List Int}{i:Nat}{v:V} (h:(ds.map V.int)[i]?=some v):∃ d,ds[i]?=some d∧v=.int d:=yce h
theorem qec {ds:List Int}{i:Nat}{d:Int} (h:ds[i]?=some d):(ds.map V.int)[i]?=some (.int d):=by rw[List.getElem?_map,h];rfl
section
variable {P:Program}{w:World}{K:PySem.W.Frag}{mg:Str→Option Value}{base:Heap}
def yeu:Sp:=fun vs H Q _=>∃ c t a zs,vs=[.int c,.int t,.ref a]∧H a=some (.lst (zs.map V.int))∧zs.length≤130∧(∀ z∈zs,0<z∧z≤18446744073709551616)∧0≤t∧t≤1000000∧
 ∀ p ds H',Same H H'→H p=none→H' p=some (.lst (ds.map V.int))→Dig ds zs→Q (.ref p) H'
abbrev qa7:Stmt:=top 26
theorem qca:FnScope ["_law_cell","_law_turn","_law_sizes","_law_number","_law_wide","_law_seed","_law_found","_law_k","_law_size"] ["_law_cell","_law_turn","_law_sizes"] (yab qa7):=⟨rfl,rfl,rfl,by decide +kernel,rfl,by decide +kernel,by decide +kernel⟩
theorem yhc (B:Bl mg) (F:FnAt K mg "_law_digits" qa7 ["_law_cell","_law_turn","_law_sizes"]):Has P w K mg base 1 "_law_digits" ["_law_cell","_law_turn","_law_sizes"] yeu:=by
 refine Has.of F qca (fun vs H Q E h=>?_) (fun f cdv A outer s H vs Q E hr h=>?_)
 ·obtain ⟨c,t,a,zs,rfl,_⟩:=h
  rfl
 ·obtain ⟨c,t,a,zs,rfl,ha,hl,hz,ht0,ht1,k⟩:=h
  have sc:=qca
  refine ⟨_,(qak (ybk (i:=3) sc.nd rfl (Or.inl rfl) (qag call_abs rfl (B.of rfl) boot_abs (qaa (pv 0) yac)))
   (qak (ybk (i:=4) sc.nd rfl (Or.inl rfl) (yat op_ge (pv 3) (qbg op_pow qac qac) (yap _)))
   (qak (ybk (i:=5) sc.nd rfl (Or.inl rfl) (qbg qbr (qbg yb9 (pv 3) qac) (qbg qf1 qac (pv 1))))
   (qak (ybk (i:=6) sc.nd rfl (Or.inl rfl) (qf6 yac))
   (qak (qhu PassesOwn.never rfl (qej rfl (B.of rfl) (qaa (pv 2) yac)) (yem rfl (yao (qal (i:=7) sc.nd rfl (Or.inl rfl)) (yao (qal (i:=8) sc.nd rfl (Or.inl rfl)) ybt)))
    (qai (qd9 (PW.pt (pw_and (qcx (pv 4)) (pw_and1 (yby qex (pv 3) qac (yap _)))))
     (qak (qd8 (yhx PySem.F.plainAttrs_list PySem.F.slot_list_append PySem.F.type_list_append qa5 (pv 6) (qaa (qbg yb9 (pv 3) (pv 8)) yac)))
     (qai (ybk (i:=3) sc.nd rfl (Or.inl rfl) (qbg op_fdivB (pv 3) (pv 8)))))
     (qak (ybk (i:=5) sc.nd rfl (Or.inl rfl) (qbg yb9 (qbg op_pow (qbg qbr (pv 5) (qbg qf1 qac (qbg qbr (pv 7) qac))) qac) qac))
     (qai (qd8 (yhx PySem.F.plainAttrs_list PySem.F.slot_list_append PySem.F.type_list_append qa5 (pv 6) (qaa (qbg yb9 (qbg qfn (pv 5) qac) (pv 8)) yac))))))))
   (qai (qa1 (pv 6)))))))),?_⟩
  refine ⟨_,rfl,c,rfl,?_⟩
  refine ⟨_,rfl,10,18,rfl,rfl,⟨by decide,by decide,by decide⟩,_,_,rfl,rfl,?_⟩
  refine ⟨_,rfl,_,_,rfl,rfl,(by show (0:Int)<2147483647;decide),_,rfl,_,_,rfl,rfl,.inl ⟨by decide,by decide⟩,_,_,rfl,rfl,?_⟩
  refine ⟨Nat.zero_le _,fun p hp=>?_⟩
  generalize hnum:(if c<0 then -c else c)=num
  generalize hwd:decide ((10:Int) ^ (18:Int).toNat≤num)=wd
  have hs0:0≤num % 2147483647+7919*t:=by have:=Int.emod_nonneg num (show (2147483647:Int)≠0 by decide);omega
  have hs1:num % 2147483647+7919*t<2 ^ 40:=by have:=Int.emod_lt_of_pos num (show (0:Int)<2147483647 by decide);omega
  refine ⟨_,rfl,a,_,rfl,SqL.of (by rw[yae (qae ha hp)];exact ha),qc4 (xs:=zs.map V.int) (fun i σ H2=>∃ (nu seed:Int) (ds:List Int) (q1 q2:Option V),σ=[some (.int c),some (.int t),some (.ref a),some (.int nu),some (.bl wd),some (.int seed),some (.ref p),q1,q2]∧
   Same H H2∧H2 p=some (.lst (ds.map V.int))∧ds.length=i∧(∀ (j:Nat) d z,ds[j]?=some d→zs[j]?=some z→0≤d∧d<z)∧0≤seed∧seed<2 ^ 40) ?_ (fun i σ H2 _ ⟨_,_,_,_,_,_,s2,_⟩=>SqL.of (s2 _ _ ha)) ?_ ?_⟩
  ·exact ⟨num,_,[],none,none,by rw[← hwd];rfl,(Same.refl H).upd hp,yaa,rfl,fun j d z h=>by simp at h,hs0,hs1⟩
  ·rintro i x pp σ H2 hx ⟨nu,seed,ds,q1,q2,rfl,s2,hp2,hln,hds,hse0,hse1⟩ hpp
   obtain ⟨z,hzi,rfl⟩:=qgp hx
   obtain ⟨hz0,hz1⟩:=hz z (List.mem_of_getElem? hzi)
   have hil:i<zs.length:=(List.getElem?_eq_some_iff.mp hzi).1
   have s3:Same H (upd H2 pp (.tup [.int i,.int z])):=s2.upd hpp
   have hp3:upd H2 pp (.tup [.int i,.int z]) p=some (.lst (ds.map V.int)):=by rw[yae (qae hp2 hpp)];exact hp2
   have fin:∀ (d:Int),0≤d→d<z→∀ (j:Nat) d' z',(ds++[d])[j]?=some d'→zs[j]?=some z'→0≤d'∧d' < z':=fun d h0 h1 j d' z' hj hj2=>by
    by_cases hlt:j<ds.length
    ·rw[List.getElem?_append_left hlt] at hj
     exact hds j d' z' hj hj2
    ·rw[List.getElem?_append_right (by omega)] at hj
     have hj0:j-ds.length=0:=by
      cases q:j-ds.length with
      | zero=>rfl
      | succ n=>rw[q] at hj;simp at hj
     rw[hj0] at hj
     have e1:d=d':=by simpa using hj
     have e2:j=i:=by omega
     subst e1 e2
     rw[hzi] at hj2;cases hj2
     exact ⟨h0,h1⟩
   refine ⟨pp,_,rfl,SqT.of yaa,rfl,_,_,rfl,_,_,rfl,rfl,?_⟩
   refine ⟨_,rfl,wd,rfl,?_⟩
   cases wd with
   | true=>
    refine iteT ⟨_,rfl,_,_,rfl,rfl,_,rfl,?_⟩
    by_cases hn:0<nu
    ·refine iteD hn ?_
     refine ⟨_,rfl,.inl ⟨rfl,_,SqL.of hp3⟩,_,rfl,_,rfl,_,_,rfl,rfl,hz0,p,_,_,rfl,rfl,hp3,qce (by rw[List.length_map];omega),?_⟩
     refine ⟨_,rfl,_,rfl,_,_,rfl,rfl,⟨hz0,hz1⟩,?_⟩
     exact ⟨_,seed,ds++[nu % z],_,_,rfl,s3.at hp,by rw[List.map_append];exact yaa,by simp[hln],fin _ (Int.emod_nonneg _ (by omega)) (Int.emod_lt_of_pos _ hz0),hse0,hse1⟩
    ·refine iteN (decide_eq_false hn) ?_
     refine ⟨_,rfl,_,rfl,_,_,rfl,rfl,_,_,rfl,rfl,.inl ⟨by decide,by decide⟩,_,_,rfl,rfl,_,_,rfl,rfl,⟨by decide,by decide,by omega⟩,_,_,rfl,rfl,(by show (0:Int)<2147483587;decide),?_⟩
     have g0:=Int.emod_nonneg ((seed+104729*((i:Int)+1)) ^ (2:Int).toNat) (show (2147483587:Int)≠0 by decide)
     have g1:=Int.emod_lt_of_pos ((seed+104729*((i:Int)+1)) ^ (2:Int).toNat) (show (0:Int)<2147483587 by decide)
     generalize hse':(seed+104729*((i:Int)+1)) ^ (2:Int).toNat % 2147483587=seed' at g0 g1
     refine ⟨_,rfl,.inl ⟨rfl,_,SqL.of hp3⟩,_,rfl,_,_,rfl,rfl,⟨by decide,by decide⟩,_,rfl,_,_,rfl,rfl,hz0,p,_,_,rfl,rfl,hp3,qce (by rw[List.length_map];omega),?_⟩
     exact ⟨nu,seed',ds++[seed' / 16 % z],_,_,by rw[← hse'];rfl,s3.at hp,by rw[List.map_append,← hse'];exact yaa,by simp[hln],fin _ (Int.emod_nonneg _ (by omega)) (Int.emod_lt_of_pos _ hz0),g0,by omega⟩
   | false=>
    refine iteF (iteF ?_)
    refine ⟨_,rfl,_,rfl,_,_,rfl,rfl,_,_,rfl,rfl,.inl ⟨by decide,by decide⟩,_,_,rfl,rfl,_,_,rfl,rfl,⟨by decide,by decide,by omega⟩,_,_,rfl,rfl,(by show (0:Int)<2147483587;decide),?_⟩
    have g0:=Int.emod_nonneg ((seed+104729*((i:Int)+1)) ^ (2:Int).toNat) (show (2147483587:Int)≠0 by decide)
    have g1:=Int.emod_lt_of_pos ((seed+104729*((i:Int)+1)) ^ (2:Int).toNat) (show (0:Int)<2147483587 by decide)
    generalize hse':(seed+104729*((i:Int)+1)) ^ (2:Int).toNat % 2147483587=seed' at g0 g1
    refine ⟨_,rfl,.inl ⟨rfl,_,SqL.of hp3⟩,_,rfl,_,_,rfl,rfl,⟨by decide,by decide⟩,_,rfl,_,_,rfl,rfl,hz0,p,_,_,rfl,rfl,hp3,qce (by rw[List.length_map];omega),?_⟩
    exact ⟨nu,seed',ds++[seed' / 16 % z],_,_,by rw[← hse'];rfl,s3.at hp,by rw[List.map_append,← hse'];exact yaa,by simp[hln],fin _ (Int.emod_nonneg _ (by omega)) (Int.emod_lt_of_pos _ hz0),g0,by omega⟩
  ·rintro σ H2 ⟨nu,seed,ds,q1,q2,rfl,s2,hp2,hln,hds,_,_⟩
   rw[List.length_map] at hln
   exact ⟨_,rfl,k p ds H2 s2 hp hp2 ⟨hln,hds⟩⟩
end
def fl1 (v:V):Prop:=(∃ i,v=.int i)∨∃ s,v=.str s
theorem qeu {H:Hp}:∀ {l vs:List V},(∀ x∈l,fl1 x)→AtAll H vs (l.map dOf)→vs=l
 | [],_,_,h=>by cases h;rfl
 | x::l,_,hf,h=>by
  cases h with
  | cons a r=>
   have ih:=qeu (fun y hy=>hf y (List.mem_cons_of_mem _ hy)) r
   rw[ih]
   rcases hf x (List.mem_cons_self ..) with ⟨i,rfl⟩|⟨s,rfl⟩
   ·rw[a.intEq]
   ·rw[a.strEq]
theorem hat_of {H:Hp}{v:V}{h:Hm} (hf:∀ x∈h.r,fl1 x) (a:At H v (.tuple ((hV h).map dOf))):HAt H v h:=by
 obtain ⟨t,vs,rfl,ht,hw⟩:=a.tupEq
 refine ⟨t,rfl,?_⟩
 rw[ht,qeu (l:=hV h) (fun x hx=>?_) hw]
 unfold hV at hx
 rcases List.mem_cons.mp hx with rfl|hx
 ·exact .inr ⟨_,rfl⟩
 ·rcases List.mem_append.mp hx with hx|hx
  ·obtain ⟨c,_,rfl⟩:=List.mem_map.mp hx
   exact .inl ⟨_,rfl⟩
  ·exact hf x hx
def hD (h:Hm):PyData:=.tuple ((hV h).map dOf)
theorem qhl {H:Hp}:∀ {us:List V}{hs:List Hm},(∀ h∈hs,∀ x∈h.r,fl1 x)→AtAll H us (hs.map hD)→HsV H us hs
 | us,hs,hf,h=>by
  refine ⟨by rw[h.length,List.length_map],fun i v g h1 h2=>?_⟩
  obtain ⟨d,hd,ha⟩:=h.get h1
  rw[List.getElem?_map,h2] at hd
  cases hd
  exact hat_of (hf g (List.mem_of_getElem? h2)) ha
def ones (a v:Int):List Hm:=[⟨"stuck",[a],[.int v]⟩,⟨"slow",[a],[.int v]⟩,⟨"forgets",[a],[.int v]⟩,⟨"misreads",[a],[.int v]⟩,⟨"nowhere",[a],[.int v]⟩]
def twos (a b u v:Int):List Hm:=[⟨"turns",[a,b],[.int u]⟩,⟨"sets",[a,b],[.int u,.int v]⟩,⟨"keeps",[a,b],[.int u,.int v]⟩,⟨"other",[a,b],[]⟩]
def oneB (a b:Int) (u:Int):Hm:=⟨"both",[a,b],[.str (if u=0 then "and" else "or")]⟩
def qgl (n:Int) (h:Hm):Prop:=(∃ ns,okH h ns)∧∀ c∈h.c,0≤c∧c<n
theorem ygo {n a v:Int} (h0:0≤a) (h1:a<n) (hn:n≤64) (hv:bitV (.int v)):∀ h∈ones a v,qgl n h:=by
 have rg:∀ x∈([a]:List Int),0≤x∧x<64:=fun x hx=>by rw[List.mem_singleton.mp hx];omega
 have rn:∀ x∈([a]:List Int),0≤x∧x<n:=fun x hx=>by rw[List.mem_singleton.mp hx];omega
 intro h hh
 unfold ones at hh
 simp only[List.mem_cons,List.not_mem_nil,or_false] at hh
 rcases hh with rfl|rfl|rfl|rfl|rfl
 ·exact ⟨⟨["bit"],yb3 (by simp),.bit hv .nil,by simp,by simp,by simp,rg⟩,rn⟩
 ·exact ⟨⟨["bit"],yb3 (by simp),.bit hv .nil,by simp,by simp,by simp,rg⟩,rn⟩
 ·exact ⟨⟨["bit"],yb3 (by simp),.bit hv .nil,by simp,by simp,by simp,rg⟩,rn⟩
 ·exact ⟨⟨["bit"],yb3 (by simp),.bit hv .nil,by simp,by simp,by simp,rg⟩,rn⟩
 ·exact ⟨⟨["bit"],yb3 (by simp),.bit hv .nil,by simp,by simp,by simp,rg⟩,rn⟩
theorem yhl {n a b u v:Int} (h0:0≤a) (h1:a<n) (h2:0≤b) (h3:b<n) (hne:a≠b) (hn:n≤64) (hu:bitV (.int u)) (hv:bitV (.int v)):∀ h∈twos a b u v++[oneB a b u],qgl n h:=by
 have rg:∀ x∈([a,b]:List Int),0≤x∧x<64:=fun x hx=>by
  simp at hx
  rcases hx with rfl|rfl<;>omega
 have rn:∀ x∈([a,b]:List Int),0≤x∧x<n:=fun x hx=>by
  simp at hx
  rcases hx with rfl|rfl<;>omega
 have nd:([a,b]:List Int).Nodup:=by simp[hne]
 intro h hh
 unfold twos at hh
 simp only[List.cons_append,List.nil_append,List.mem_cons,List.not_mem_nil,or_false] at hh
 rcases hh with rfl|rfl|rfl|rfl|rfl
 ·exact ⟨⟨["bit"],qdp,.bit hu .nil,by simp,by simp,nd,rg⟩,rn⟩
 ·exact ⟨⟨["bit","bit"],qco (.inl rfl),.bit hu (.bit hv .nil),by simp,by simp,nd,rg⟩,rn⟩
 ·exact ⟨⟨["bit","bit"],qco (.inr rfl),.bit hu (.bit hv .nil),by simp,by simp,nd,rg⟩,rn⟩
 ·exact ⟨⟨[],qen,.nil,by simp,by simp,nd,rg⟩,rn⟩
 ·refine ⟨⟨["how"],qfx,.how ?_ .nil,⟨Nat.le_of_ble_eq_true rfl,Nat.le_of_ble_eq_true rfl⟩,by simp,nd,rg⟩,rn⟩
  unfold howV
  by_cases e:u=0
  ·rw[if_pos e];exact .inl rfl
  ·rw[if_neg e];exact .inr rfl
theorem ygd {n a k:Int} (h0:0≤a) (h1:a<n) (k1:1≤k) (k2:k<n):(a+k) % n≠a∧0≤(a+k) % n∧(a+k) % n<n:=by
 have hp:(0:Int)<n:=by omega
 refine ⟨?_,Int.emod_nonneg _ (by omega),Int.emod_lt_of_pos _ hp⟩
 by_cases h:a+k<n
 ·rw[Int.emod_eq_of_lt (by omega) h];omega
 ·rw[show a+k=(a+k-n)+n by omega,Int.add_emod_right,Int.emod_eq_of_lt (by omega) (by omega)];omega
theorem bit_of {d:Int} (h0:0≤d) (h1:d<2):∃ b,d=b2i b:=by
 rcases (by omega:d=0∨d=1) with rfl|rfl
 ·exact ⟨false,rfl⟩
 ·exact ⟨true,rfl⟩
theorem HsV.upL {H:Hp}{us:List V}{hs:List Hm}{D:Addr}{xs:List V}{o:HO} (x:HsV H us hs) (hD:H D=some (.lst xs)):HsV (L2.upd H D o) us hs:=⟨x.len,fun i v h a b=>by
 obtain ⟨z,e,hz⟩:=x.at_ i v h a b
 exact ⟨z,e,by rw[yae (fun q=>by subst q;rw[hD] at hz;cases hz)];exact hz⟩⟩
theorem HsV.snoc {H:Hp}{us:List V}{hs:List Hm}{v:V}{h:Hm} (x:HsV H us hs) (hv:HAt H v h):HsV H (us++[v]) (hs++[h]):=by
 refine ⟨by simp[x.len],fun i v' h' a b=>?_⟩
 by_cases hi:i<us.length
 ·rw[List.getElem?_append_left hi] at a
  rw[List.getElem?_append_left (by rw[← x.len];exact hi)] at b
  exact x.at_ i v' h' a b
 ·have hi':i=us.length:=by
   have:=(List.getElem?_eq_some_iff.mp a).1
   simp at this
   omega
  subst hi'
  rw[List.getElem?_append_right (Nat.le_refl _)] at a
  rw[x.len,List.getElem?_append_right (Nat.le_refl _)] at b
  simp at a b
  subst a b
  exact hv
theorem rest_fl {ns:List Str}{rr:List V} (re:Rest ns rr):∀ x∈rr,fl1 x:=by
 induction re with
 | nil=>intro x hx;cases hx
 | bit hb _ ih=>
  obtain ⟨b,rfl⟩:=hb
  intro x hx
  rcases List.mem_cons.mp hx with rfl|hx
  ·exact .inl ⟨_,rfl⟩
  ·exact ih x hx
 | how hb _ ih=>
  intro x hx
  rcases List.mem_cons.mp hx with rfl|hx
  ·rcases hb with rfl|rfl<;>exact .inr ⟨_,rfl⟩
  ·exact ih x hx
theorem fr (h:Hm) (o:∃ ns,okH h ns):∀ x∈h.r,fl1 x:=by
 obtain ⟨ns,o⟩:=o
 exact rest_fl o.rest
theorem lay_c {te:TE}{ta:TA}{σ:L2.St}{H:Hp}{d:PyData}{Q:List V→Hp→Prop} (h:Lay [] te σ d H) (k:∀ v H',Same H H'→At H' v d→ta σ H' fun vs H2=>Q (v::vs) H2):ycd te ta σ H Q:=
 h (fun b hb=>by cases hb) H (Same.refl H) _ fun v H' s a=>k v H' s (a.same (yau _ _))
section
variable {P:Program}{w:World}{K:PySem.W.Frag}{mg:Str→Option Value}{base:Heap}
def yfv:Sp:=fun vs H Q _=>∃ (D:Addr) (d0 d1 d2 d3 d4:Int) (n:Int),vs=[.ref D,.int n]∧H D=some (.lst [.int d0,.int d1,.int d2,.int d3,.int d4])∧0≤d0∧0≤d1∧0≤d2∧0≤d3∧d3<2∧0≤d4∧d4<2∧1≤n∧n≤64∧
 ∀ v h H',Same H H'→HAt H' v h→qgl n h→Q v H'
abbrev qbp:Stmt:=top 27
theorem ycy:FnScope ["_law_d","_law_size","_law_a","_law_b","_law_u","_law_v","_law_some"] ["_law_d","_law_size"] (yab qbp):=⟨rfl,rfl,rfl,by decide +kernel,rfl,by decide +kernel,by decide +kernel⟩
theorem ok_lharm (B:Bl mg) (F:FnAt K mg "_law_harm" qbp ["_law_d","_law_size"]):Has P w K mg base 1 "_law_harm" ["_law_d","_law_size"] yfv:=by
 refine Has.ofQ F ycy (fun vs H Q E h=>?_) (fun f cdv A outer s H vs Q E hr h=>?_)
 ·obtain ⟨D,d0,d1,d2,d3,d4,n,rfl,_⟩:=h
  rfl
 ·obtain ⟨D,d0,d1,d2,d3,d4,n,rfl,hDD,p0,p1,p2,p3,q3,p4,q4,n1,n64,k⟩:=h
  have sc:=ycy
  refine ⟨_,(qao rfl (qaf (qaq (i:=2) sc.nd rfl (Or.inl rfl) (qbi yb9 (ybf qa9 (qab (pv 0)) (qab qac) (fun _ _=>rfl)) (qab (pv 1))))
   (qaf (qaq (i:=3) sc.nd rfl (Or.inl rfl) (qbi yb9 (qbi qbr (qbi qbr (qab (pv 2)) (qab qac)) (qbi yb9 (ybf qa9 (qab (pv 0)) (qab qac) (fun _ _=>rfl)) (qav (ygt rfl) rfl (B.of rfl) boot_max (yar (qab qac) (qdr (qbi op_sub (qab (pv 1)) (qab qac)) qad))))) (qab (pv 1))))
   (qaf (qaq (i:=4) sc.nd rfl (Or.inl rfl) (ybf qa9 (qab (pv 0)) (qab qac) (fun _ _=>rfl)))
   (qaf (qaq (i:=5) sc.nd rfl (Or.inl rfl) (ybf qa9 (qab (pv 0)) (qab qac) (fun _ _=>rfl)))
   (qaf (qaq (i:=6) sc.nd rfl (Or.inl rfl) (qbb (qcn (ya3 (yar (qab qan) (qaj (qab (pv 2)) (qaj (qab (pv 5)) qad)))) (qcn (ya3 (yar (qab qan) (qaj (qab (pv 2)) (qaj (qab (pv 5)) qad)))) (qcn (ya3 (yar (qab qan) (qaj (qab (pv 2)) (qaj (qab (pv 5)) qad)))) (qcn (ya3 (yar (qab qan) (qaj (qab (pv 2)) (qaj (qab (pv 5)) qad)))) (qcn (ya3 (yar (qab qan) (qaj (qab (pv 2)) (qaj (qab (pv 5)) qad)))) qad)))))))
   (qhi (ybd (ya5 qex (qab (pv 1)) (qab qac) (yap _))
    (qaf (qaq (i:=6) sc.nd rfl (Or.inl rfl) (qbi qek (qab (pv 6)) (qbb (qcn (ya3 (yar (qab qan) (qaj (qab (pv 2)) (qaj (qab (pv 3)) (qaj (qab (pv 4)) qad))))) (qcn (ya3 (yar (qab qan) (qaj (qab (pv 2)) (qaj (qab (pv 3)) (qaj (qab (pv 4)) (qaj (qab (pv 5)) qad)))))) (qcn (ya3 (yar (qab qan) (qaj (qab (pv 2)) (qaj (qab (pv 3)) (qaj (qab (pv 4)) (qaj (qab (pv 5)) qad)))))) (qcn (ya3 (yar (qab qan) (qaj (qab (pv 2)) (qaj (qab (pv 3)) qad)))) qad)))))))
    (yag (qcb (yg5 PySem.F.plainAttrs_list PySem.F.slot_list_append PySem.F.type_list_append qa5 (qab (pv 6)) (qcn (ya3 (yar (qab qan) (qaj (qab (pv 2)) (qaj (qab (pv 3)) (yfi (ybf qa9 (qbb (yar (qab qan) (yar (qab qan) qad))) (qab (pv 4)) (fun _ _=>rfl)) qad))))) qad)))))
    ya0)
   (yag (yam (ybf qa9 (qab (pv 6)) (qbi yb9 (ybf qa9 (qab (pv 0)) (qab qac) (fun _ _=>rfl)) (qav qah rfl (B.of rfl) boot_len (qaj (qab (pv 6)) qad))) (fun _ _=>rfl))))))))))),?_⟩
  have a0:=Int.emod_nonneg d1 (b:=n) (by omega)
  have a1:=Int.emod_lt_of_pos d1 (b:=n) (by omega)
  refine ⟨_,rfl,D,_,_,_,rfl,rfl,SqL.of hDD,yah 1 rfl,_,rfl,_,_,rfl,rfl,by omega,?_⟩
  refine gn ?_
  dsimp only
  obtain ⟨a,ha⟩:∃ a,d1 % n=a:=⟨_,rfl⟩
  rw[ha] at a0 a1 ⊢
  refine ⟨_,rfl,_,_,rfl,rfl,_,rfl,D,_,_,_,rfl,rfl,SqL.of hDD,yah 2 rfl,_,rfl,_,_,rfl,rfl,_,_,rfl,_,_,rfl,rfl,(by show (0:Int)<(if n-1>1 then n-1 else 1);split<;>omega),_,_,rfl,rfl,_,rfl,_,_,rfl,rfl,by omega,?_⟩
  show qgh 3 (V.int ((a+1+d2 % (if n-1>1 then n-1 else 1)) % n)) _ _ _
  obtain ⟨b,hb,hb2⟩:∃ b,(a+1+d2 % (if n-1>1 then n-1 else 1)) % n=b∧(1<n→a≠b∧0≤b∧b<n):=by
   refine ⟨_,rfl,fun hn1=>?_⟩
   have e:(if n-1>1 then n-1 else 1)=n-1:=by split<;>omega
   rw[e]
   have m0:=Int.emod_nonneg d2 (b:=n-1) (by omega)
   have m1:=Int.emod_lt_of_pos d2 (b:=n-1) (by omega)
   rw[show a+1+d2 % (n-1)=a+(1+d2 % (n-1)) by omega]
   obtain ⟨h1,h2,h3⟩:=ygd (k:=1+d2 % (n-1)) a0 a1 (by omega) (by omega)
   exact ⟨fun z=>h1 z.symm,h2,h3⟩
  rw[hb]
  refine gn ?_
  dsimp only
  refine ⟨_,rfl,D,_,_,_,rfl,rfl,SqL.of hDD,yah 3 rfl,?_⟩
  refine ⟨_,rfl,D,_,_,_,rfl,rfl,SqL.of hDD,yah 4 rfl,?_⟩
  refine gn ?_
  dsimp only
  have bu:bitV (.int d3):=by obtain ⟨b,rfl⟩:=bit_of p3 q3;exact ⟨b,rfl⟩
  have bv:bitV (.int d4):=by obtain ⟨b,rfl⟩:=bit_of p4 q4;exact ⟨b,rfl⟩
  have g1:=ygo a0 a1 n64 bv
  have ia:At H (.int a) (.int a):=.int _
  have iv:At H (.int d4) (.int d4):=.int _
  refine lay_set (d:=.list ((ones a d4).map hD)) ?_ fun x1 H1 s1 x1a=>?_
  ·show Lay [] _ _ (.list [.tuple [.str "stuck",.int a,.int d4],.tuple [.str "slow",.int a,.int d4],.tuple [.str "forgets",.int a,.int d4],.tuple [.str "misreads",.int a,.int d4],.tuple [.str "nowhere",.int a,.int d4]]) _
   repeat' (first|exact qfp|exact yg9|exact yc6|exact qct|exact lay_neg|exact ybo|refine yak ?_ ?_|refine ydc ?_|refine qb0 ?_|exact ycu rfl (.int _))
  -- behind the second sort
  refine ⟨fun σ' HX=>∃ (p:Addr) (us:List V) (hs:List Hm),σ'=[some (.ref D),some (.int n),some (.int a),some (.int b),some (.int d3),some (.int d4),some (.ref p)]∧Same H HX∧HX p=some (.lst us)∧HsV HX us hs∧1≤hs.length∧hs.length≤10∧∀ h∈hs,qgl n h,?_,?_⟩
  ·refine ⟨_,rfl,_,_,rfl,rfl,_,rfl,?_⟩
   by_cases hn1:1<n
   ·refine iteB (decide_eq_true hn1) ?_
    obtain ⟨hne,b0,b1⟩:=hb2 hn1
    have g2:=yhl a0 a1 b0 b1 hne n64 bu bv
    refine ⟨_,rfl,?_⟩
    refine lay_go (L:=[]) (d:=.list ((twos a b d3 d4).map hD)) ?_ (fun b hb=>by cases hb) fun x2 H2 s2 x2a=>?_
    ·show Lay [] _ _ (.list [.tuple [.str "turns",.int a,.int b,.int d3],.tuple [.str "sets",.int a,.int b,.int d3,.int d4],.tuple [.str "keeps",.int a,.int b,.int d3,.int d4],.tuple [.str "other",.int a,.int b]]) _
     repeat' (first|exact qfp|exact yg9|exact yc6|exact qct|exact lay_neg|exact ybo|refine yak ?_ ?_|refine ydc ?_|refine qb0 ?_|exact ycu rfl (.int _))
    obtain ⟨q,ys,rfl,hq,hwq⟩:=(x2a.same (yau _ _)).lstEq
    obtain ⟨p1,us1,rfl,hp1,hw1⟩:=(x1a.same s2).lstEq
    have l1:us1.length=5:=hw1.length
    have l2:ys.length=4:=hwq.length
    refine ⟨p1,q,us1,ys,rfl,rfl,hp1,hq,qd2 (by omega),fun p hp=>?_⟩
    have nH:H p=none:=(s1.trans s2).free hp
    have hw:AtAll H2 (us1++ys) ((ones a d4++twos a b d3 d4).map hD):=by rw[List.map_append];exact hw1.append hwq
    have hv2:=qhl (hs:=ones a d4++twos a b d3 d4) (fun h hh=>fr h (by
     rcases List.mem_append.mp hh with hh|hh
     ·exact (g1 h hh).1
     ·exact (g2 h (List.mem_append_left _ hh)).1)) hw
    generalize hG3:upd H2 p _=H3
    have s3:Same H2 H3:=by rw[← hG3];exact (Same.refl H2).upd hp
    have f3:H3 p=some (.lst (us1++ys)):=by rw[← hG3];exact yaa
    clear hG3
    refine gn ?_
    dsimp only
    refine ⟨_,rfl,.inl ⟨rfl,_,SqL.of f3⟩,?_⟩
    refine lay_c (d:=hD (oneB a b d3)) ?_ fun v4 H4 s4 a4=>?_
    ·show Lay [] _ _ (.tuple [.str "both",.int a,.int b,.str (if d3=0 then "and" else "or")]) _
     refine ydc (yak qct (yak (ycu rfl (.int _)) (yak (ycu rfl (.int _)) (yak ?_ ybo))))
     have hix:atI [V.str "and",.str "or"] d3=some (.str (if d3=0 then "and" else "or")):=by
      rcases (by omega:d3=0∨d3=1) with rfl|rfl<;>rfl
     exact fun hL H7 s7 Q7 k7=>⟨(by show 2≤sizeLine;decide),fun q hq=>⟨_,rfl,q,_,_,_,rfl,rfl,SqL.of yaa,hix,k7 _ _ ((Same.refl H7).upd hq) (.str _)⟩⟩
    ·have hat:HAt H4 v4 (oneB a b d3):=hat_of (fr _ (g2 _ (by simp)).1) a4
     refine ⟨p,us1++ys,v4,rfl,rfl,s4 _ _ f3,qce (by rw[List.length_append];omega),?_⟩
     refine ⟨p,us1++ys++[v4],(ones a d4++twos a b d3 d4)++[oneB a b d3],rfl,(((s1.trans s2).trans s3).trans s4).at nH,yaa,((hv2.same (s3.trans s4)).snoc hat).upL (s4 _ _ f3),Nat.le_of_ble_eq_true rfl,Nat.le_of_ble_eq_true rfl,fun h hh=>?_⟩
     rw[List.append_assoc] at hh
     rcases List.mem_append.mp hh with hh|hh
     ·exact g1 h hh
     ·exact g2 h hh
   ·refine iteN (decide_eq_false hn1) ?_
    obtain ⟨p,us,rfl,hp,hw⟩:=x1a.lstEq
    exact ⟨p,us,ones a d4,rfl,s1,hp,qhl (fun h hh=>fr h (g1 h hh).1) hw,Nat.le_of_ble_eq_true rfl,Nat.le_of_ble_eq_true rfl,g1⟩
  ·rintro σ1 HX ⟨p,us,hs,rfl,sX,eX,hvX,l1,l10,hg⟩
   have hul:=hvX.len
   have hDX:=sX _ _ hDD
   obtain ⟨j,hj,hjl⟩:∃ j:Nat,d0 % (us.length:Int)=(j:Int)∧j<us.length:=by
    have h1:=Int.emod_nonneg d0 (b:=(us.length:Int)) (by omega)
    have h2:=Int.emod_lt_of_pos d0 (b:=(us.length:Int)) (by omega)
    exact ⟨(d0 % (us.length:Int)).toNat,by omega,by omega⟩
   have hgj:hs[j]?=some (hs[j]'(by omega)):=List.getElem?_eq_getElem _
   refine ⟨_,rfl,_,rfl,D,_,_,_,rfl,rfl,SqL.of hDX,yah 0 rfl,_,rfl,p,_,rfl,.inl (SqL.of eX),_,_,rfl,rfl,(by show (0:Int)<(us.length:Int);omega),p,us,_,us[j],rfl,rfl,SqL.of eX,?_,k _ _ HX sX (hvX.at_ j _ _ (List.getElem?_eq_getElem hjl) hgj) (hg _ (List.mem_of_getElem? hgj))⟩
   show atI us (d0 % (us.length:Int))=_
   rw[hj]
   exact qhc (List.getElem?_eq_getElem hjl)
end
theorem in5 {s a b c d e:Str}:inV (.str s) (([a,b,c,d,e]:List Str).map V.str)=decide (s=a∨s=b∨s=c∨s=d∨s=e):=by
 unfold inV
 rw[Bool.eq_iff_iff]
 simp[eqS]
theorem qhn {h:Hm}{ns:List Str} (o:okH h ns):(h.w="stuck"∨h.w="slow"∨h.w="forgets"∨h.w="misreads"∨h.w="nowhere")∨h.w="turns"∨(h.w="sets"∨h.w="keeps")∨h.w="other"∨h.w="both":=by
 have hk:KTD.inKeys h.w tabP=true:=by rw[← KTD.isSome_datumAt,o.tab];rfl
 have:h.w="stuck"∨h.w="slow"∨h.w="forgets"∨h.w="misreads"∨h.w="turns"∨h.w="sets"∨h.w="keeps"∨h.w="nowhere"∨h.w="other"∨h.w="both":=by
  simpa [tabP,KTD.inKeys] using hk
 rcases this with e|e|e|e|e|e|e|e|e|e
 ·exact .inl (.inl e)
 ·exact .inl (.inr (.inl e))
 ·exact .inl (.inr (.inr (.inl e)))
 ·exact .inl (.inr (.inr (.inr (.inl e))))
 ·exact .inr (.inl e)
 ·exact .inr (.inr (.inl (.inl e)))
 ·exact .inr (.inr (.inl (.inr e)))
 ·exact .inl (.inr (.inr (.inr (.inr e))))
 ·exact .inr (.inr (.inr (.inl e)))
 ·exact .inr (.inr (.inr (.inr e)))
def two5:List Str:=["turns","sets","keeps","other","both"]
theorem two_is {h:Hm}{ns:List Str} (o:okH h ns):inV (.str h.w) (two5.map V.str)=decide (h.c.length=2):=by
 unfold two5
 rw[in5]
 rcases qhn o with hw|hw|hw|hw|hw
 ·obtain ⟨a,b,hc,_⟩:=o.s1 (yb3 hw)
  rw[show h.c.length=1 by rw[hc];rfl]
  rcases hw with hw|hw|hw|hw|hw<;>rw[hw]<;>decide +kernel
 ·obtain ⟨a,b,x,hc,_⟩:=o.sTurns (by rw[hw];exact qdp)
  rw[show h.c.length=2 by rw[hc];rfl,hw];decide +kernel
 ·obtain ⟨a,b,x,y,hc,_⟩:=o.sSets (qco hw)
  rw[show h.c.length=2 by rw[hc];rfl]
  rcases hw with hw|hw<;>rw[hw]<;>decide +kernel
 ·obtain ⟨a,b,hc,_⟩:=o.sOther (by rw[hw];exact qen)
  rw[show h.c.length=2 by rw[hc];rfl,hw];decide +kernel
 ·obtain ⟨a,b,v,hc,_⟩:=o.sBoth (by rw[hw];exact qfx)
  rw[show h.c.length=2 by rw[hc];rfl,hw];decide +kernel
theorem qgy {hs:List Hm} (o:Oks hs):(allC hs).length≤2*hs.length:=by
 induction hs with
 | nil=>simp[allC]
 | cons h hs ih=>
  have:=ih fun g hg=>o g (List.mem_cons_of_mem _ hg)
  obtain ⟨ns,oh⟩:=o h (List.mem_cons_self ..)
  have hc:=oh.cl
  unfold allC at this ⊢
  rw[List.flatMap_cons,List.length_append,List.length_cons]
  omega
section
variable {P:Program}{w:World}{K:PySem.W.Frag}{mg:Str→Option Value}{base:Heap}
def ye5:Sp:=fun vs H Q _=>∃ L us hs,vs=[.ref L]∧H L=some (.lst us)∧HsV H us hs∧Oks hs∧hs.length≤4∧∀ (D:Addr) (ns:List Int) (H':Hp),Same H H'→H D=none→H' D=some (.lst (ns.map V.int))→ns.Perm (uniq (allC hs))→ns.Pairwise (·≤·)→Q (.ref D) H'
abbrev ybc:Stmt:=top 28
theorem yck:FnScope ["_law_harms_here","_law_found","_law_harm_here"] ["_law_harms_here"] (yab ybc):=⟨rfl,rfl,rfl,by decide +kernel,rfl,by decide +kernel,by decide +kernel⟩
theorem yhw (B:Bl mg) (ybr:mg "set" = none) (F:FnAt K mg "_law_cells" ybc ["_law_harms_here"]):Has P w K mg base 1 "_law_cells" ["_law_harms_here"] ye5:=by
 refine Has.ofQ F yck (fun vs H Q E h=>?_) (fun f cdv A outer s H vs Q E hr h=>?_)
 ·obtain ⟨L,us,hs,rfl,_⟩:=h
  rfl
 ·obtain ⟨L,us,hs,rfl,hL,hv,ok,h4,k⟩:=h
  have sc:=yck
  refine ⟨_,(qao rfl (qaf (qaq (i:=1) sc.nd rfl (Or.inl rfl) (qbb qad))
   (qaf (qcz PassesOwn.never rfl (yeg (qab (pv 0))) (qal (i:=2) sc.nd rfl (Or.inl rfl))
    (qaf (qcb (yg5 PySem.F.plainAttrs_list PySem.F.slot_list_append PySem.F.type_list_append qa5 (qab (pv 1)) (yfi (ybf yaz (qab (pv 2)) (qab qac) (fun _ _=>rfl)) qad)))
    (yag (ybd (ya5 ya8 (ybf yaz (qab (pv 2)) (qab qac) (fun _ _=>rfl)) (qe_tstrs (xs:=["turns","sets","keeps","other","both"]) (by decide +kernel)) (by with_unfolding_all rfl))
     (yag (qcb (yg5 PySem.F.plainAttrs_list PySem.F.slot_list_append PySem.F.type_list_append qa5 (qab (pv 1)) (yfi (ybf yaz (qab (pv 2)) (qab qac) (fun _ _=>rfl)) qad))))
     ya0))))
   (yag (yam (qav (yek rfl) rfl (B.of rfl) qbw (ygc (qbu (ybu rfl) rfl ybr qbh (qaj (qab (pv 1)) qad)) qad))))))),?_⟩
  have z5:5≤sizeLine:=by decide
  have al:∀ i,(allC (hs.take i)).length≤8:=fun i=>by
   have h1:=qgy (hs:=hs.take i) fun h hh=>ok h (List.mem_of_mem_take hh)
   rw[List.length_take] at h1
   omega
  refine ⟨Nat.zero_le _,fun p hp=>?_⟩
  generalize hG1:upd H p _=H1
  have s1:Same H H1:=by rw[← hG1];exact (Same.refl H).upd hp
  have f1:H1 p=some (.lst []):=by rw[← hG1];exact yaa
  clear hG1
  refine ⟨_,rfl,L,rfl,⟨us,SqL.of (s1 _ _ hL)⟩,yc4 (xs:=us) (fun i σ H2=>∃ (o2:Option V),σ=[some (.ref L),some (.ref p),o2]∧Same H H2∧H2 p=some (.lst ((allC (hs.take i)).map V.int)))
   ⟨none,rfl,s1,f1⟩ (fun i σ H2 _ ⟨_,_,h,_⟩=>SqL.of (h _ _ hL)) ?_ ?_⟩
  ·rintro i x σ H2 hx ⟨o2,rfl,s2,e2⟩
   obtain ⟨g,hg,hat⟩:=hv.get hx
   obtain ⟨nn,og⟩:=ok g (List.mem_of_getElem? hg)
   obtain ⟨a,rfl,ha⟩:=HAt.same s2 hat
   have ali:=al i
   refine ⟨_,rfl,.inl ⟨rfl,_,SqL.of e2⟩,?_⟩
   refine ⟨_,rfl,a,_,_,_,rfl,rfl,SqT.of ha,yah 1 og.at1,p,_,_,rfl,rfl,e2,qce (by rw[List.length_map];omega),?_⟩
   have nap:a≠p:=fun z=>by subst z;rw[e2] at ha;cases ha
   generalize hG3:upd H2 p _=H3
   have s3:Same H H3:=by rw[← hG3];exact s2.at hp
   have f3:H3 p=some (.lst ((allC (hs.take i)).map V.int++[.int (g.cell 0)])):=by rw[← hG3];exact yaa
   have ha3:H3 a=some (.tup (hV g)):=by rw[← hG3,yae nap];exact ha
   clear hG3
   refine ⟨_,rfl,a,_,_,_,rfl,rfl,SqT.of ha3,yah 0 rfl,z5,fun t ht=>?_⟩
   have s4:Same H3 (upd H3 t (.tup (two5.map V.str))):=(Same.refl H3).upd ht
   refine ⟨t,two5.map V.str,rfl,.inr (SqT.of yaa),rfl,rfl,_,rfl,?_⟩
   generalize hG4:upd H3 t _=H4
   have s4:Same H3 H4:=by rw[← hG4];exact s4
   clear hG4
   rcases ybn og with ⟨c,hc⟩|⟨c,c2,hc⟩
   ·refine iteN (by show inV _ _=false;rw[two_is og,hc];rfl) ?_
    refine ⟨_,rfl,s3.trans s4,?_⟩
    rw[s4 _ _ f3,qch hg,hc,List.map_append]
    unfold Hm.cell
    rw[hc]
    rfl
   ·refine iteB (by show inV _ _=true;rw[two_is og,hc];rfl) ?_
    have h2:(hV g)[2]?=some (.int c2):=by unfold hV;rw[hc];rfl
    refine ⟨_,rfl,.inl ⟨rfl,_,SqL.of (s4 _ _ f3)⟩,?_⟩
    refine ⟨_,rfl,a,_,_,_,rfl,rfl,SqT.of (s4 _ _ ha3),yah 2 h2,p,_,_,rfl,rfl,s4 _ _ f3,qce (by rw[List.length_append,List.length_map];simp;omega),?_⟩
    refine ⟨_,rfl,(s3.trans s4).at hp,?_⟩
    rw[yaa,qch hg,hc,List.map_append]
    unfold Hm.cell
    rw[hc]
    simp
  ·rintro σ H2 ⟨o2,rfl,s2,e2⟩
   rw[hv.len,List.take_length] at e2
   have a8:=qgy ok
   have u8:=yd6 (allC hs)
   refine ⟨_,rfl,p,_,rfl,e2,by omega,fun q hq=>?_⟩
   have s6:Same H2 (upd H2 q (SetO P w q (uniq (allC hs)))):=(Same.refl H2).upd hq
   refine ⟨q,_,rfl,yaa,by omega,fun l ns hl hpm hso=>?_⟩
   exact k l ns _ ((s2.trans s6).upd hl) ((s2.trans s6).free hl) yaa hpm hso
end
theorem take5 {l:List Int}{a:Nat} (h:a+5≤l.length):(l.drop a).take 5=[l.getD a 0,l.getD (a+1) 0,l.getD (a+2) 0,l.getD (a+3) 0,l.getD (a+4) 0]:=by
 have g:∀ k,k<l.length→l.getD k 0=l[k]?.getD 0:=fun k _=>List.getD_eq_getElem?_getD ..
 rw[List.drop_eq_getElem_cons (show a<l.length by omega),List.drop_eq_getElem_cons (show a+1<l.length by omega),List.drop_eq_getElem_cons (show a+1+1<l.length by omega),List.drop_eq_getElem_cons (show a+1+1+1<l.length by omega),List.drop_eq_getElem_cons (show a+1+1+1+1<l.length by omega)]
 simp only[List.take_succ_cons,List.take_zero,List.getD_eq_getElem?_getD]
 rw[List.getElem?_eq_getElem (show a<l.length by omega),List.getElem?_eq_getElem (show a+1<l.length by omega),List.getElem?_eq_getElem (show a+2<l.length by omega),List.getElem?_eq_getElem (show a+3<l.length by omega),List.getElem?_eq_getElem (show a+4<l.length by omega)]
 rfl
theorem cut_mid {xs:List V}{a b:Nat}:cutV xs (some (a:Int)) (some (b:Int))=(xs.drop (min a xs.length)).take (min b xs.length-min a xs.length):=by
 unfold cutV
 rw[HT.sIx_nat,HT.sIx_nat]
def dg16:List Int:=[4,20,64,64,2,2,20,64,64,2,2,20,64,64,2,2]
theorem dg_at {ds:List Int} (h:Dig ds dg16) {i:Nat} (hi:i<3):ds.length=16∧0≤ds.getD (1+5*i) 0∧0≤ds.getD (1+5*i+1) 0∧0≤ds.getD (1+5*i+2) 0∧(0≤ds.getD (1+5*i+3) 0∧ds.getD (1+5*i+3) 0<2)∧0≤ds.getD (1+5*i+4) 0∧ds.getD (1+5*i+4) 0<2:=by
 have g:∀ {j:Nat}{z:Int},dg16[j]?=some z→0≤ds.getD j 0∧ds.getD j 0<z:=fun {j z} hz=>by
  obtain ⟨d,h1,h2,h3⟩:=h.get hz
  rw[List.getD_eq_getElem?_getD,h1]
  exact ⟨h2,h3⟩
 refine ⟨h.1,?_⟩
 rcases (by omega:i=0∨i=1∨i=2) with rfl|rfl|rfl
 ·exact ⟨(g (j:=1) rfl).1,(g (j:=2) rfl).1,(g (j:=3) rfl).1,g (j:=4) rfl,(g (j:=5) rfl).1,(g (j:=5) rfl).2⟩
 ·exact ⟨(g (j:=6) rfl).1,(g (j:=7) rfl).1,(g (j:=8) rfl).1,g (j:=9) rfl,(g (j:=10) rfl).1,(g (j:=10) rfl).2⟩
 ·exact ⟨(g (j:=11) rfl).1,(g (j:=12) rfl).1,(g (j:=13) rfl).1,g (j:=14) rfl,(g (j:=15) rfl).1,(g (j:=15) rfl).2⟩
section
variable {P:Program}{w:World}{K:PySem.W.Frag}{mg:Str→Option Value}{base:Heap}
def qe7:Sp:=fun vs H Q _=>∃ (D:Addr) (ds:List Int) (n:Int),vs=[.ref D,.int n]∧H D=some (.lst (ds.map V.int))∧Dig ds dg16∧1≤n∧n≤64∧∀ (p:Addr) (us:List V) (hs:List Hm) (S:List Int) (H':Hp),Same H H'→H p=none→H' p=some (.lst us)→HsV H' us hs→okHs hs S→(∀ h∈hs,qgl n h)→Q (.ref p) H'
abbrev qbc:Stmt:=top 29
theorem qcj:FnScope ["_law_d","_law_size","_law_harms_here","_law_k","_law_more"] ["_law_d","_law_size"] (yab qbc):=⟨rfl,rfl,rfl,by decide +kernel,rfl,by decide +kernel,by decide +kernel⟩
theorem qgo (B:Bl mg) (qfi:Has P w K mg base 1 "_law_harm" ["_law_d","_law_size"] yfv) (yez:Has P w K mg base 1 "_law_cells" ["_law_harms_here"] ye5) (F:FnAt K mg "_law_harms" qbc ["_law_d","_law_size"]):Has P w K mg base 2 "_law_harms" ["_law_d","_law_size"] qe7:=by
 refine Has.ofQ F qcj (fun vs H Q E h=>?_) (fun f cdv A outer s H vs Q E hr h=>?_)
 ·obtain ⟨D,ds,n,rfl,_⟩:=h
  rfl
 ·obtain ⟨D,ds,n,rfl,hD,hdg,n1,n64,k⟩:=h
  have sc:=qcj
  refine ⟨_,(qao rfl (qaf (qaq (i:=2) sc.nd rfl (Or.inl rfl) (qbb qad))
   (qaf (qcz PassesOwn.never rfl (qi_of (ye9 rfl (B.of rfl) (qaa (ycn qa9 (pv 0) qac (fun _ _=>rfl)) yac))) (qal (i:=3) sc.nd rfl (Or.inl rfl))
    (qaf (qaq (i:=4) sc.nd rfl (Or.inl rfl) (qbi qek (qab (pv 2)) (qbb (ygc (yaw qfi hr (yfi (qe_sl yfk (qab (pv 0)) (qbs (qbg qbr qac (qbg qf1 qac (pv 3)))) (qbs (qbg qbr qac (qbg qf1 qac (pv 3))))) (qaj (qab (pv 1)) qad))) qad))))
    (yag (ybd (ya5 op_lt (qav qah rfl (B.of rfl) boot_len (ygc (yaw yez hr (qaj (qab (pv 4)) qad)) qad)) (qab qac) (yap _))
     (yag (qaq (i:=2) sc.nd rfl (Or.inl rfl) (qab (pv 4))))
     ya0))))
   (yag (yam (qab (pv 2))))))),?_⟩
  have z1:1≤sizeLine:=by decide
  obtain ⟨d0,g0,m0,m4⟩:=hdg.get (i:=0) (z:=4) rfl
  obtain ⟨nn,hnn⟩:∃ nn:Nat,d0=(nn:Int):=⟨d0.toNat,by omega⟩
  subst hnn
  refine ⟨Nat.zero_le _,fun p0 hp0=>?_⟩
  generalize hG1:upd H p0 _=H1
  have s1:Same H H1:=by rw[← hG1];exact (Same.refl H).upd hp0
  have f1:H1 p0=some (.lst []):=by rw[← hG1];exact yaa
  clear hG1
  refine ⟨_,rfl,D,_,_,_,rfl,rfl,SqL.of (s1 _ _ hD),yah 0 (qec g0),nn,rfl,by omega,by omega,yew (n:=nn) (fun i σ H2=>∃ (p:Addr) (us:List V) (hs:List Hm) (S:List Int) (o3 o4:Option V),σ=[some (.ref D),some (.int n),some (.ref p),o3,o4]∧Same H H2∧H p=none∧H2 p=some (.lst us)∧HsV H2 us hs∧hs.length≤i∧okHs hs S∧∀ h∈hs,qgl n h)
   ⟨p0,[],[],[],_,_,rfl,s1,hp0,f1,⟨rfl,fun i v h a b=>by simp at a⟩,by simp,⟨by simp,(fun _ h=>nomatch h),by simp,(fun _ h=>nomatch h)⟩,(fun _ h=>nomatch h)⟩ ?_ ?_⟩
  ·rintro i σ H2 hi ⟨p,us,hs,S,o3,o4,rfl,s2,np,e2,hv,hl,ok,hg⟩
   obtain ⟨dl,q0,q1,q2,q3,q4⟩:=dg_at hdg (i:=i) (by omega)
   have cm5:CMul 5 (0+(i:Int)):=.inl ⟨by decide,by decide⟩
   refine ⟨_,rfl,_,rfl,_,rfl,_,_,rfl,rfl,cm5,_,_,rfl,rfl,((1+5*i:Nat):Int),congrArg V.int (by show (1:Int)+5*(0+(i:Int))=_;omega),_,rfl,_,_,rfl,rfl,cm5,_,_,rfl,rfl,((6+5*i:Nat):Int),congrArg V.int (by show (6:Int)+5*(0+(i:Int))=_;omega),D,_,rfl,SqL.of (s2 _ _ hD),fun q hq=>?_⟩
   have ecut:cutV (ds.map V.int) (some ((1+5*i:Nat):Int)) (some ((6+5*i:Nat):Int))=[V.int (ds.getD (1+5*i) 0),.int (ds.getD (1+5*i+1) 0),.int (ds.getD (1+5*i+2) 0),.int (ds.getD (1+5*i+3) 0),.int (ds.getD (1+5*i+4) 0)]:=by
    rw[cut_mid,List.length_map,dl,show min (6+5*i) 16-min (1+5*i) 16=5 by omega,show min (1+5*i) 16=1+5*i by omega,← List.map_drop,← List.map_take,take5 (by omega)]
    rfl
   rw[ecut]
   generalize hG3:upd H2 q _=H3
   have s3:Same H2 H3:=by rw[← hG3];exact (Same.refl H2).upd hq
   have f3:H3 q=some (.lst [V.int (ds.getD (1+5*i) 0),.int (ds.getD (1+5*i+1) 0),.int (ds.getD (1+5*i+2) 0),.int (ds.getD (1+5*i+3) 0),.int (ds.getD (1+5*i+4) 0)]):=by rw[← hG3];exact yaa
   clear hG3 ecut
   refine ⟨_,rfl,q,_,_,_,_,_,n,rfl,f3,q0,q1,q2,q3.1,q3.2,q4.1,q4.2,n1,n64,fun v h H4 s4 hat hgd=>?_⟩
   refine ⟨z1,fun b hb=>?_⟩
   generalize hG5:upd H4 b _=H5
   have s5:Same H4 H5:=by rw[← hG5];exact (Same.refl H4).upd hb
   have f5:H5 b=some (.lst [v]):=by rw[← hG5];exact yaa
   clear hG5
   have s25:=(s3.trans s4).trans s5
   have hul:=hv.len
   refine ⟨p,b,us,_,rfl,rfl,s25 _ _ e2,f5,qd2 (by simp;omega),fun p2 hp2=>?_⟩
   generalize hG6:upd H5 p2 _=H6
   have s6:Same H5 H6:=by rw[← hG6];exact (Same.refl H5).upd hp2
   have f6:H6 p2=some (.lst (us++[v])):=by rw[← hG6];exact yaa
   clear hG6
   have s26:=s25.trans s6
   have np2:H p2=none:=(s2.trans s25).free hp2
   have hv6:HsV H6 (us++[v]) (hs++[h]):=(hv.same s26).snoc (HAt.same (s5.trans s6) hat)
   have oks6:Oks (hs++[h]):=fun g hg'=>by
    rcases List.mem_append.mp hg' with hg' | hg'
    ·exact ok.ok g hg'
    ·rw[List.mem_singleton.mp hg'];exact hgd.1
   refine gn ?_
   dsimp only
   refine ⟨_,rfl,p2,_,_,rfl,f6,hv6,oks6,by simp;omega,fun DD ns H7 s7 nDD eDD hpm hso=>?_⟩
   refine ⟨DD,_,rfl,.inl (SqL.of eDD),_,_,rfl,rfl,_,rfl,?_⟩
   have s27:=s26.trans s7
   by_cases h4:ns.length<4
   ·refine iteB (decide_eq_true (by rw[List.length_map];omega)) ?_
    refine ⟨_,rfl,p2,us++[v],hs++[h],ns,_,_,rfl,s2.trans s27,np2,s7 _ _ f6,hv6.same s7,by simp;omega,⟨by simp;omega,oks6,by omega,fun g hg' c hc=>?_⟩,fun g hg'=>?_⟩
    ·exact hpm.mem_iff.mpr ((qf7 _ c).mpr (List.mem_flatMap.mpr ⟨g,hg',hc⟩))
    ·rcases List.mem_append.mp hg' with hg' | hg'
     ·exact hg g hg'
     ·rw[List.mem_singleton.mp hg'];exact hgd
   ·refine iteN (decide_eq_false (by rw[List.length_map];omega)) ?_
    exact ⟨p,us,hs,S,_,_,rfl,s2.trans s27,np,s27 _ _ e2,hv.same s27,by omega,ok,hg⟩
  ·rintro σ H2 ⟨p,us,hs,S,o3,o4,rfl,s2,np,e2,hv,hl,ok,hg⟩
   exact ⟨_,rfl,k p us hs S H2 s2 np e2 hv ok hg⟩
end
def ye8:PyData→Bool | .int _=>true|_=>false
def bitD:PyData→Bool | .int i=>decide (i=0∨i=1)|_=>false
def oneD (xs:List V):PyData→Bool | .str x=>inV (.str x) xs|_=>false
section
variable {P:Program}{w:World}{K:PySem.W.Frag}{mg:Str→Option Value}{base:Heap}
def yei:Sp:=fun vs H Q _=>∃ v d,vs=[v]∧AtX H v d∧Q (.bl (ye8 d)) H
theorem og_whole (B:Bl mg) (F:FnAt K mg "is_whole" ybi ["thing"]):Has P w K mg base 1 "is_whole" ["thing"] yei:=by
 refine Has.ofQ F qbq (fun vs H Q E h=>?_) (fun f cdv A outer s H vs Q E hr h=>?_)
 ·obtain ⟨v,d,rfl,_⟩:=h
  rfl
 ·obtain ⟨v,d,rfl,hv,q⟩:=h
  have sc:=qbq
  refine ⟨_,(qao rfl (yag (yam (qab (qay (qag qap rfl (B.of rfl) boot_isinstance (qaa (pv 0) (qaa (qas (v:=.ty "int") rfl (B.of rfl) boot_int rfl) yac))) (ybg (yhb (qag qap rfl (B.of rfl) boot_isinstance (qaa (pv 0) (qaa (qas (v:=.ty "bool") rfl (B.of rfl) boot_bool rfl) yac)))))))))),?_⟩
  refine ⟨_,rfl,_,_,_,_,rfl,hv.ty,kit_int d,_,rfl,?_⟩
  cases hi:isInt d with
  | false=>
   have e:ye8 d=false:=by cases d<;>first|rfl|cases hi
   rw[e] at q
   exact iteF q
  | true=>
   refine iteT ⟨_,rfl,_,_,_,_,rfl,hv.ty,kit_bl d,_,rfl,?_⟩
   have e:ye8 d=!isBl d:=by cases d<;>first|rfl|cases hi
   rw[e] at q
   exact q
def sg_bit:Sp:=fun vs H Q _=>∃ v d,vs=[v]∧AtX H v d∧∀ H',Same H H'→Q (.bl (bitD d)) H'
theorem og_bit (ya1:Has P w K mg base 1 "is_whole" ["thing"] yei) (F:FnAt K mg "is_bit" qcm ["thing"]):Has P w K mg base 2 "is_bit" ["thing"] sg_bit:=by
 refine Has.ofQ F ycg (fun vs H Q E h=>?_) (fun f cdv A outer s H vs Q E hr h=>?_)
 ·obtain ⟨v,d,rfl,_⟩:=h
  rfl
 ·obtain ⟨v,d,rfl,hv,q⟩:=h
  have sc:=ycg
  refine ⟨_,(qao rfl (yag (yam (qab (qay (yaj ya1 hr (qaa (pv 0) yac)) (ybg (yat ya8 (pv 0) (qem (qaa qac (qaa qac yac))) (by with_unfolding_all rfl)))))))),?_⟩
  refine ⟨_,rfl,v,d,rfl,hv,_,rfl,?_⟩
  cases hw:ye8 d with
  | false=>
   have e:bitD d=false:=by cases d<;>first|rfl|cases hw
   rw[e] at q
   exact iteF (q H (Same.refl H))
  | true=>
   obtain ⟨i,rfl⟩:∃ i,d=.int i:=by cases d<;>first|exact ⟨_,rfl⟩|cases hw
   have ev:v=.int i:=by
    rcases hv with h|⟨e,_⟩
    ·exact h.intEq
    ·cases e
   subst ev
   refine iteT ⟨_,rfl,(by show 2≤sizeLine;decide),fun t ht=>⟨t,_,rfl,.inr (SqT.of yaa),rfl,by decide,?_⟩⟩
   have e:inV (.int i) [.int 0,.int 1]=bitD (.int i):=by
    unfold bitD
    show ((0 == i)||((1 == i)||false))=_
    rw[Bool.eq_iff_iff,decide_eq_true_eq,Bool.or_false,Bool.or_eq_true,beq_iff_eq,beq_iff_eq]
    constructor
    ·rintro (h|h)
     ·exact .inl h.symm
     ·exact .inr h.symm
    ·rintro (h|h)
     ·exact .inl h.symm
     ·exact .inr h.symm
   show Q (.bl (inV (.int i) [.int 0,.int 1])) _
   rw[e]
   exact q _ ((Same.refl H).upd ht)
def sg_one (K:PySem.W.Frag):Sp:=fun vs H Q _=>∃ v d a xs,vs=[v,.ref a]∧AtX H v d∧(∀ H',SqT K H' a xs)∧xs.all yb6=true∧Q (.bl (oneD xs d)) H
theorem og_one (B:Bl mg) (F:FnAt K mg "is_one_of" yba ["thing","words"]):Has P w K mg base 1 "is_one_of" ["thing","words"] (sg_one K):=by
 refine Has.ofQ F ybe (fun vs H Q E h=>?_) (fun f cdv A outer s H vs Q E hr h=>?_)
 ·obtain ⟨v,d,a,xs,rfl,_⟩:=h
  rfl
 ·obtain ⟨v,d,a,xs,rfl,hv,ha,hx,q⟩:=h
  have sc:=ybe
  refine ⟨_,(qao rfl (yag (yam (qab (qay (qag qap rfl (B.of rfl) boot_isinstance (qaa (pv 0) (qaa (qas (v:=.ty "str") rfl (B.of rfl) boot_str rfl) yac))) (ybg (yat ya8 (pv 0) (pv 1) (by with_unfolding_all rfl)))))))),?_⟩
  refine ⟨_,rfl,_,_,_,_,rfl,hv.ty,ygw d,_,rfl,?_⟩
  cases hs:isStr d with
  | false=>
   have e:oneD xs d=false:=by cases d<;>first|rfl|cases hs
   rw[e] at q
   exact iteF q
  | true=>
   obtain ⟨x,rfl⟩:∃ x,d=.str x:=by cases d<;>first|exact ⟨_,rfl⟩|cases hs
   have ev:v=.str x:=by
    rcases hv with h|⟨e,_⟩
    ·exact h.strEq
    ·cases e
   subst ev
   exact iteT ⟨_,rfl,_,rfl,a,xs,rfl,.inr (ha _),rfl,hx,q⟩
def yg0:PyData→Bool | .int i=>decide (0≤i∧i<64)|_=>false
def yhk:Sp:=fun vs H Q _=>∃ v d,vs=[v]∧AtX H v d∧Q (.bl (yg0 d)) H
theorem og_cell (qbt:∃ t,mg "MOST_CELLS" = some (.int 64 t)) (ya1:Has P w K mg base 1 "is_whole" ["thing"] yei) (F:FnAt K mg "is_cell" ybz ["thing"]):Has P w K mg base 2 "is_cell" ["thing"] yhk:=by
 refine Has.ofQ F yb1 (fun vs H Q E h=>?_) (fun f cdv A outer s H vs Q E hr h=>?_)
 ·obtain ⟨v,d,rfl,_⟩:=h
  rfl
 ·obtain ⟨v,d,rfl,hv,q⟩:=h
  have sc:=yb1
  refine ⟨_,(qao rfl (yag (yam (qab (qay (yaj ya1 hr (qaa (pv 0) yac)) (qay (yat op_ge (pv 0) qac (yap _)) (ybg (yat op_lt (pv 0) (ycp qbt) (yap _))))))))),?_⟩
  refine ⟨_,rfl,v,d,rfl,hv,_,rfl,?_⟩
  cases hw:ye8 d with
  | false=>
   have e:yg0 d=false:=by cases d<;>first|rfl|cases hw
   rw[e] at q
   exact iteF q
  | true=>
   obtain ⟨i,rfl⟩:∃ i,d=.int i:=by cases d<;>first|exact ⟨_,rfl⟩|cases hw
   have ev:v=.int i:=by
    rcases hv with h|⟨e,_⟩
    ·exact h.intEq
    ·cases e
   subst ev
   have e:yg0 (.int i)=decide (0≤i∧i<64):=rfl
   rw[e] at q
   refine iteT ⟨_,rfl,_,_,rfl,rfl,_,rfl,?_⟩
   by_cases h0:0≤i
   ·refine iteD h0 ⟨_,rfl,_,_,rfl,rfl,?_⟩
    rw[show decide (0≤i∧i<64)=decide (i<64) by simp[h0]] at q
    exact q
   ·refine qgi h0 ?_
    rw[decide_eq_false (fun z=>h0 z.1)] at q
    exact q
def qb7 (nm:Str) (d:PyData):Bool:=if nm="cell" then yg0 d else if nm="bit" then bitD d else oneD [.str "and",.str "or"] d
def yhe:Sp:=fun vs H Q _=>∃ nm v d,vs=[.str nm,v]∧AtX H v d∧∀ H',Same H H'→Q (.bl (qb7 nm d)) H'
theorem og_part (ycs:GTup K mg "JOININGS" [.str "and",.str "or"]) (ydk:Has P w K mg base 2 "is_cell" ["thing"] yhk) (yd7:Has P w K mg base 2 "is_bit" ["thing"] sg_bit) (ycf:Has P w K mg base 1 "is_one_of" ["thing","words"] (sg_one K)) (F:FnAt K mg "is_part" qbx ["name","thing"]):Has P w K mg base 3 "is_part" ["name","thing"] yhe:=by
 refine Has.ofQ F yb4 (fun vs H Q E h=>?_) (fun f cdv A outer s H vs Q E hr h=>?_)
 ·obtain ⟨nm,v,d,rfl,_⟩:=h
  rfl
 ·obtain ⟨nm,v,d,rfl,hv,q⟩:=h
  have sc:=yb4
  refine ⟨_,(qao rfl (qaf (ybd (ya5 ydq (qab (pv 0)) (qab qan) (yap _))
    (yag (yam (yaw ydk hr (qaj (qab (pv 1)) qad))))
    ya0)
   (qaf (ybd (ya5 ydq (qab (pv 0)) (qab qan) (yap _))
    (yag (yam (yaw yd7 hr (qaj (qab (pv 1)) qad))))
    ya0)
   (yag (yam (yaw ycf hr (qaj (qab (pv 1)) (qaj (qab (qhg ycs)) qad)))))))),?_⟩
  unfold qb7 at q
  refine ⟨_,rfl,rfl,_,rfl,?_⟩
  by_cases h1:nm="cell"
  ·rw[if_pos h1] at q
   exact iteB (by rw[h1];decide +kernel) ⟨_,rfl,v,d,rfl,hv,q H (Same.refl H)⟩
  ·rw[if_neg h1] at q
   refine iteN (by simpa using h1) ⟨_,rfl,rfl,_,rfl,?_⟩
   by_cases h2:nm="bit"
   ·rw[if_pos h2] at q
    exact iteB (by rw[h2];decide +kernel) ⟨_,rfl,v,d,rfl,hv,q⟩
   ·rw[if_neg h2] at q
    exact iteN (by simpa using h2) ⟨_,rfl,fun g hg=>⟨v,d,g,_,rfl,hv,hg,by decide,q H (Same.refl H)⟩⟩
def yfa:PyData→Bool | .tuple (.str x::_)=>KTD.inKeys x tabP|_=>false
def yhs:Sp:=fun vs H Q _=>∃ v d,vs=[v]∧AtX H v d∧Q (.bl (yfa d)) H
theorem og_word (B:Bl mg) {aP:Addr} (gP:mg "PARTS" = some (.ref aP)) (TP:TabK K aP tabP) (F:FnAt K mg "has_word" qbj ["thing"]):Has P w K mg base 1 "has_word" ["thing"] yhs:=by
 refine Has.ofQ F ybp (fun vs H Q E h=>?_) (fun f cdv A outer s H vs Q E hr h=>?_)
 ·obtain ⟨v,d,rfl,_⟩:=h
  rfl
 ·obtain ⟨v,d,rfl,hv,q⟩:=h
  have sc:=ybp
  refine ⟨_,(qao rfl (yag (yam (qab (qay (qag qap rfl (B.of rfl) boot_isinstance (qaa (pv 0) (qaa (qas (v:=.ty "tuple") rfl (B.of rfl) boot_tuple rfl) yac))) (qay (yat qex (qag qah rfl (B.of rfl) boot_len (qaa (pv 0) yac)) qac (yap _)) (qay (qag qap rfl (B.of rfl) boot_isinstance (qaa (ycn yaz (pv 0) qac (fun _ _=>rfl)) (qaa (qas (v:=.ty "str") rfl (B.of rfl) boot_str rfl) yac))) (ybg (yat (qf2 (D:=tabP)) (ycn yaz (pv 0) qac (fun _ _=>rfl)) (qa8 (v:=.ref aP) rfl gP rfl) (by with_unfolding_all rfl)))))))))),?_⟩
  refine ⟨_,rfl,_,_,_,_,rfl,hv.ty,kit_tup d,_,rfl,?_⟩
  cases hs:isTup d with
  | false=>
   have e:yfa d=false:=by cases d<;>first|rfl|cases hs
   rw[e] at q
   exact iteF q
  | true=>
   obtain ⟨ds,rfl⟩:∃ ds,d=.tuple ds:=by cases d<;>first|exact ⟨_,rfl⟩|cases hs
   have hv':At H v (.tuple ds):=by
    rcases hv with h|⟨e,_⟩
    ·exact h
    ·cases e
   obtain ⟨a,vs,rfl,ha,hw⟩:=hv'.tupEq
   refine iteT ⟨_,rfl,a,_,rfl,.inr (SqT.of ha),_,_,rfl,rfl,_,rfl,?_⟩
   cases hw with
   | nil=>exact qgi (by simp) q
   | cons h1 rr=>
    rename_i x d1 xs ds1
    refine iteD (by simp) ?_
    refine ⟨_,rfl,a,_,_,_,rfl,rfl,SqT.of ha,yah 0 rfl,_,_,_,_,rfl,AtX.ty (.inl h1),ygw d1,_,rfl,?_⟩
    cases hs1:isStr d1 with
    | false=>
     have e:yfa (.tuple (d1::ds1))=false:=by cases d1<;>first|rfl|cases hs1
     rw[e] at q
     exact iteF q
    | true=>
     obtain ⟨o,rfl⟩:∃ o,d1=.str o:=by cases d1<;>first|exact ⟨_,rfl⟩|cases hs1
     have:=h1.strEq
     subst this
     exact iteT ⟨_,rfl,a,_,_,_,rfl,rfl,SqT.of ha,yah 0 rfl,aP,o,rfl,rfl,TP,q⟩
end
structure okP (h:Hm) (ns:List Str):Prop where
 tab:KTD.datumAt h.w tabP=some (yai h.c.length ns)
 rest:Rest ns h.r
 cl:1≤h.c.length∧h.c.length≤2
 rl:ns.length≤2
 rg:∀ x∈h.c,0≤x∧x<64
theorem okP.full {h:Hm}{ns:List Str} (o:okP h ns) (nd:h.c.Nodup):okH h ns:=⟨o.tab,o.rest,o.cl,o.rl,nd,o.rg⟩
theorem okP.len {h:Hm}{ns:List Str} (o:okP h ns):(h.c.map V.int++h.r).length=(yai h.c.length ns).length:=by
 unfold yai
 simp[o.rest.len]
theorem okP.cellAt {h:Hm}{ns:List Str} (o:okP h ns) {i:Nat}{x y:V} (hx:(yai h.c.length ns)[i]?=some x) (hy:(h.c.map V.int++h.r)[i]?=some y) :
  (x=.str "cell"∧∃ c,h.c[i]?=some c∧y=.int c)∨(h.c.length≤i∧((x=.str "bit"∧bitV y)∨(x=.str "how"∧howV y))):=by
 unfold yai at hx
 by_cases hi:i<h.c.length
 ·rw[List.getElem?_append_left (by simpa using hi),List.getElem?_replicate,if_pos hi] at hx
  rw[List.getElem?_append_left (by simpa using hi)] at hy
  obtain ⟨c,hc,rfl⟩:=yce hy
  exact .inl ⟨(Option.some.inj hx).symm,c,hc,rfl⟩
 ·rw[List.getElem?_append_right (by simpa using Nat.le_of_not_lt hi)] at hx
  rw[List.getElem?_append_right (by simpa using Nat.le_of_not_lt hi)] at hy
  simp only[List.length_replicate,List.length_map] at hx hy
  obtain ⟨n,hn,rfl⟩:=yce hx
  rcases o.rest.get hn hy with ⟨rfl,hb⟩|⟨rfl,hb⟩
  ·exact .inr ⟨Nat.le_of_not_lt hi,.inl ⟨rfl,hb⟩⟩
  ·exact .inr ⟨Nat.le_of_not_lt hi,.inr ⟨rfl,hb⟩⟩
section
variable {P:Program}{w:World}{K:PySem.W.Frag}{mg:Str→Option Value}{base:Heap}
def qdi:Sp:=fun vs H Q _=>∃ v h ns,vs=[v]∧HAt H v h∧okP h ns∧∀ D H',Same H H'→H D=none→H' D=some (.lst (h.c.map V.int))→Q (.ref D) H'
theorem yfh (B:Bl mg) (yc0:mg "zip" = none) {aP:Addr} (gP:mg "PARTS" = some (.ref aP)) (TP:TabK K aP tabP) (F:FnAt K mg "cells_in" qbl ["harm"]):Has P w K mg base 1 "cells_in" ["harm"] qdi:=by
 refine Has.of F ybq (fun vs H Q E h=>?_) (fun f cdv A outer s H vs Q E hr h=>?_)
 ·obtain ⟨v,h,ns,rfl,_⟩:=h
  rfl
 ·obtain ⟨v,h,ns,rfl,⟨a,rfl,ha⟩,ok,k⟩:=h
  have sc:=ybq
  refine ⟨_,(qai (qa1 (yc9 rfl (qb1 rfl) (M:=["name","part"]) (ix:=[none,none]) (qfw rfl yc0 (qaa (ycn (qfy (D:=tabP)) (qa8 (v:=.ref aP) rfl gP rfl) (ycn yaz (pv 0) qac (fun _ _=>rfl)) (fun _ _=>rfl)) (qaa (qb5 qfz (pv 0) (qbs qac) ycq) yac))) (fun _ _ _ _=>(yd9 (K:=K) (n:=2) rfl rfl (yao (qal (i:=0) (show List.Nodup (["name","part"]:List Str) by decide +kernel) rfl (Or.inl rfl)) (yao (qal (i:=1) (show List.Nodup (["name","part"]:List Str) by decide +kernel) rfl (Or.inl rfl)) ybt)))) (fun _ _ _ _=>(qg3 (yby ydq (pv 0) qan (yap _)))) (fun _ _ _ _=>(pv 1))))),?_⟩
  refine ⟨_,rfl,a,_,_,_,rfl,rfl,SqT.of ha,yah 0 rfl,aP,h.w,_,rfl,rfl,TP,ok.tab,fun pn hpn=>?_⟩
  refine ⟨_,rfl,_,rfl,a,_,rfl,SqT.of ha,yfu h,fun q hq=>?_⟩
  rw[yee]
  have s1:Same H (upd H q (.tup (h.c.map V.int++h.r))):=(Same.refl H).upd hq
  have e1:upd H q (.tup (h.c.map V.int++h.r)) q=some (.tup (h.c.map V.int++h.r)):=yaa
  revert s1 e1
  generalize upd H q (.tup (h.c.map V.int++h.r))=H1
  intro s1 e1
  refine ⟨true,true,pn,q,_,_,rfl,hpn _,SqT.of e1,fun D hD=>?_⟩
  refine qc5 (K:=K) (ok.len.symm) (fun i H'=>Same H1 H'∧H' D=some (.lst ((h.c.take i).map V.int))) ⟨(Same.refl H1).upd hD,yaa⟩ ?_ ?_ ?_
  ·rintro i H2 ⟨s2,e2⟩
   exact ⟨hpn _,SqT.of (s2 _ _ e1)⟩
  ·rintro H2 ⟨s2,e2⟩
   rw[List.take_of_length_le (by simp[yai])] at e2
   exact k D H2 (s1.trans s2) (s1.free hD) e2
  ·rintro i x y p H2 hx hy ⟨s2,e2⟩ hp
   have s3:Same H2 (upd H2 p (.tup [x,y])):=(Same.refl H2).upd hp
   refine ⟨p,_,rfl,SqT.of yaa,rfl,?_⟩
   revert s3
   generalize upd H2 p (.tup [x,y])=H3
   intro s3
   refine ⟨_,_,rfl,_,_,rfl,rfl,qa4.set (qa4.set (qa4.refl _) rfl) rfl,?_⟩
   rcases ok.cellAt hx hy with ⟨rfl,c,hc,rfl⟩|⟨hge,hh⟩
   ·refine ⟨_,rfl,rfl,_,rfl,iteB (by decide +kernel) ?_⟩
    refine ⟨_,rfl,_,s3 _ _ e2,qce ?_,(s2.trans s3).at hD,?_⟩
    ·have:=ok.cl
     simp
     omega
    ·rw[yaa,List.take_add_one,hc];simp
   ·have hxn:∃ nm,x=.str nm∧nm≠"cell":=by
     rcases hh with ⟨rfl,_⟩|⟨rfl,_⟩
     ·exact ⟨_,rfl,by decide +kernel⟩
     ·exact ⟨_,rfl,by decide +kernel⟩
    obtain ⟨nm,rfl,hnm⟩:=hxn
    refine ⟨_,rfl,rfl,_,rfl,iteN (by simpa using hnm) ?_⟩
    refine ⟨s2.trans s3,?_⟩
    rw[qe5 hge]
    exact s3 _ _ e2
end
def qar (x:Str):Nat:=if x∈[("turns" : Str),"sets","keeps","other","both"] then 2 else 1
theorem qha {x:Str} (h:KTD.inKeys x tabP=true):∃ ns:List Str,KTD.datumAt x tabP=some (yai (qar x) ns)∧ns.length≤2∧∀ n∈ns,n="bit"∨n="how":=by
 have:x="stuck"∨x="slow"∨x="forgets"∨x="misreads"∨x="turns"∨x="sets"∨x="keeps"∨x="nowhere"∨x="other"∨x="both":=by
  simpa [tabP,KTD.inKeys] using h
 rcases this with rfl|rfl|rfl|rfl|rfl|rfl|rfl|rfl|rfl|rfl
 ·exact ⟨["bit"],by decide +kernel,by decide,by decide +kernel⟩
 ·exact ⟨["bit"],by decide +kernel,by decide,by decide +kernel⟩
 ·exact ⟨["bit"],by decide +kernel,by decide,by decide +kernel⟩
 ·exact ⟨["bit"],by decide +kernel,by decide,by decide +kernel⟩
 ·exact ⟨["bit"],by decide +kernel,by decide,by decide +kernel⟩
 ·exact ⟨["bit","bit"],by decide +kernel,by decide,by decide +kernel⟩
 ·exact ⟨["bit","bit"],by decide +kernel,by decide,by decide +kernel⟩
 ·exact ⟨["bit"],by decide +kernel,by decide,by decide +kernel⟩
 ·exact ⟨[],by decide +kernel,by decide,by decide +kernel⟩
 ·exact ⟨["how"],by decide +kernel,by decide,by decide +kernel⟩
def yas:List Str→List PyData→Bool
 | [],[]=>true
 | n::ns,p::ps=>qb7 n p&&yas ns ps
 | _,_=>false
theorem qdy:∀ {nms:List Str}{ps:List PyData},yas nms ps=true→ps.length=nms.length
 | [],[],_=>rfl
 | n::ns,p::ps,h=>by
  have h':(qb7 n p&&yas ns ps)=true:=h
  rw[Bool.and_eq_true] at h'
  rw[List.length_cons,List.length_cons,qdy h'.2]
 | [],_::_,h=>by cases h
 | _::_,[],h=>by cases h
theorem qdz:∀ {nms:List Str}{ps:List PyData},ps.length=nms.length→yas nms ps=((nms.zip ps).map fun x=>qb7 x.1 x.2).all id
 | [],[],_=>rfl
 | n::ns,p::ps,h=>by
  show (qb7 n p&&yas ns ps)=_
  rw[qdz (nms:=ns) (ps:=ps) (by simpa using h)]
  rfl
 | [],_::_,h=>by cases h
 | _::_,[],h=>by cases h
def nmL (n:Nat) (ns:List Str):List Str:=List.replicate n ("cell" : Str)++ns
theorem qcr (n:Nat) (ns:List Str):yai n ns=(nmL n ns).map V.str:=by simp[yai,nmL]
def intD:PyData→Int | .int i=>i|_=>0
def qa0 (n:Nat) (ps:List PyData):List Int:=(ps.take n).map intD
theorem yhr {H:Hp}:∀ {ns:List Str}{ps:List PyData}{ws:List V},(∀ n∈ns,n="bit"∨n="how")→AtAll H ws ps→yas ns ps=true→Rest ns ws
 | [],[],_,_,.nil,_=>.nil
 | n::ns,p::ps,_,hn,.cons a r,h=>by
  have h':(qb7 n p&&yas ns ps)=true:=h
  rw[Bool.and_eq_true] at h'
  have ih:=yhr (fun x hx=>hn x (List.mem_cons_of_mem _ hx)) r h'.2
  have hp:=h'.1
  unfold qb7 at hp
  rcases hn n (List.mem_cons_self ..) with rfl|rfl
  ·rw[if_neg (by decide +kernel),if_pos rfl] at hp
   obtain ⟨i,rfl⟩:∃ i,p=.int i:=by cases p<;>first|exact ⟨_,rfl⟩|exact absurd hp (by simp[bitD])
   have:=a.intEq
   subst this
   have hi:i=0∨i=1:=of_decide_eq_true hp
   refine .bit ?_ ih
   rcases hi with rfl|rfl
   ·exact ⟨false,rfl⟩
   ·exact ⟨true,rfl⟩
  ·rw[if_neg (by decide +kernel),if_neg (by decide +kernel)] at hp
   obtain ⟨x,rfl⟩:∃ x,p=.str x:=by cases p<;>first|exact ⟨_,rfl⟩|exact absurd hp (by simp[oneD])
   have:=a.strEq
   subst this
   refine .how ?_ ih
   have h1:inV (.str x) [.str "and",.str "or"]=true:=hp
   have e:∀ {a b:Str},¬ b=a→eqV (V.str a) (V.str b)=false:=fun {a b} h=>by simp[eqV];exact fun z=>h z.symm
   by_cases h0:x="and"
   ·exact .inl (by rw[h0])
   by_cases h2:x="or"
   ·exact .inr (by rw[h2])
   exfalso
   revert h1
   simp[inV,e h0,e h2]
 | [],_::_,_,_,_,h=>by cases h
 | _::_,[],_,_,_,h=>by cases h
theorem yf4 {H:Hp}{ns:List Str} (hn:∀ x∈ns,x="bit"∨x="how"):∀ (n:Nat) {ps:List PyData}{ws:List V},AtAll H ws ps→yas (nmL n ns) ps=true→
  ws=(qa0 n ps).map V.int++ws.drop n∧Rest ns (ws.drop n)∧(qa0 n ps).length=n∧∀ x∈qa0 n ps,0≤x∧x<64
 | 0,ps,ws,a,h=>⟨rfl,yhr hn a h,rfl,fun x hx=>by cases hx⟩
 | n+1,[],ws,a,h=>by
  have h':yas ("cell" :: nmL n ns) []=true:=h
  cases h'
 | n+1,p::ps,_,.cons a r,h=>by
  have h':(qb7 "cell" p&&yas (nmL n ns) ps)=true:=h
  rw[Bool.and_eq_true] at h'
  obtain ⟨i1,i2,i3,i4⟩:=yf4 hn n r h'.2
  have hp:=h'.1
  unfold qb7 at hp
  rw[if_pos rfl] at hp
  obtain ⟨i,rfl⟩:∃ i,p=.int i:=by cases p<;>first|exact ⟨_,rfl⟩|exact absurd hp (by simp[yg0])
  have:=a.intEq
  subst this
  have hi:0≤i∧i<64:=of_decide_eq_true hp
  refine ⟨?_,i2,?_,fun x hx=>?_⟩
  ·show _=V.int i::((qa0 n ps).map V.int++_)
   rw[List.drop_succ_cons,← i1]
  ·show (intD (.int i)::qa0 n ps).length=_
   rw[List.length_cons,i3]
  ·have hx':x∈i::qa0 n ps:=hx
   rcases List.mem_cons.mp hx' with rfl|hx'
   ·exact hi
   ·exact i4 x hx'
theorem qer (x:Str):1≤qar x∧qar x≤2:=by
 unfold qar
 split<;>omega
theorem hm_of {H:Hp}{a:Addr}{x:Str}{ps:List PyData}{ws:List V}{ns:List Str} (ha:H a=some (.tup (.str x::ws))) (hw:AtAll H ws ps) (ht:KTD.datumAt x tabP=some (yai (qar x) ns)) (hl:ns.length≤2) (hn:∀ n∈ns,n="bit"∨n="how") (hp:yas (nmL (qar x) ns) ps=true) :
  ∃ h,HAt H (.ref a) h∧okP h ns∧h.c=qa0 (qar x) ps:=by
 obtain ⟨i1,i2,i3,i4⟩:=yf4 hn (qar x) hw hp
 have:=qer x
 refine ⟨⟨x,qa0 (qar x) ps,ws.drop (qar x)⟩,⟨a,rfl,?_⟩,⟨?_,i2,?_,hl,i4⟩,rfl⟩
 ·unfold hV
  rw[ha]
  show some (HO.tup (V.str x::ws))=some (HO.tup (V.str x::((qa0 (qar x) ps).map V.int++ws.drop (qar x))))
  rw[← i1]
 ·show KTD.datumAt x tabP=some (yai (qa0 (qar x) ps).length ns)
  rw[i3]
  exact ht
 ·show 1≤(qa0 (qar x) ps).length∧(qa0 (qar x) ps).length≤2
  rw[i3]
  exact this
theorem yd6:∀ (c:List Int),c.length≤2→decide ((uniq c).length=c.length)=decide c.Nodup
 | [],_=>by rw[yc7 List.nodup_nil];rfl
 | [a],_=>by rw[yc7 (by simp)];simp
 | [a,b],_=>by
  by_cases h:a=b
  ·subst h
   have e:uniq [a,a]=[a]:=by simp[uniq,qam]
   rw[e]
   simp
  ·have hn:[a,b].Nodup:=by simp[h]
   rw[yc7 hn,decide_eq_true hn]
   simp
 | _::_::_::_,h=>by simp at h
theorem yhy (u:V) (ws:List V):cutV (u::ws) (some 1) none=ws:=qef 1
theorem tail_ne1 (u:V) (ws:List V):¬ (HT.sIx (u::ws).length 0 (some 1)=0∧HT.sIx (u::ws).length (u::ws).length none=(u::ws).length):=by
 rintro ⟨h0,_⟩
 unfold HT.sIx at h0
 simp at h0
section
variable {P:Program}{w:World}{K:PySem.W.Frag}{mg:Str→Option Value}{base:Heap}
def qf3:Sp:=fun vs H Q _=>∃ v x ps n ns,vs=[v]∧At H v (.tuple (.str x::ps))∧KTD.datumAt x tabP=some (yai n ns)∧n≤2∧ns.length≤2∧∀ H',Same H H'→Q (.bl (yas (nmL n ns) ps)) H'
theorem og_parts (B:Bl mg) (yc0:mg "zip" = none) (ygg:mg "all" = none) {aP:Addr} (gP:mg "PARTS" = some (.ref aP)) (TP:TabK K aP tabP) (qc6:Has P w K mg base 3 "is_part" ["name","thing"] yhe) (F:FnAt K mg "has_parts" ya9 ["thing"]):Has P w K mg base 4 "has_parts" ["thing"] qf3:=by
 refine Has.of F qbd (fun vs H Q E h=>?_) (fun f cdv A outer s H vs Q E hr h=>?_)
 ·obtain ⟨v,x,ps,n,ns,rfl,_⟩:=h
  rfl
 ·obtain ⟨v,x,ps,n,ns,rfl,hv,ht,hn2,hl2,k⟩:=h
  obtain ⟨a,vs,rfl,ha,hw⟩:=hv.tupEq
  cases hw with
  | cons h1 hw=>
  rename_i u ws
  have:=h1.strEq
  subst this
  have hwl:=hw.length
  have hnl:(nmL n ns).length=n+ns.length:=by simp[nmL]
  have hnm:(yai n ns).length=n+ns.length:=by rw[qcr,List.length_map,hnl]
  have sc:=qbd
  refine ⟨_,(qak (ybk (i:=1) sc.nd rfl (Or.inl rfl) (ycn (qfy (D:=tabP)) (qa8 (v:=.ref aP) rfl gP rfl) (ycn yaz (pv 0) qac (fun _ _=>rfl)) (fun _ _=>rfl)))
   (qai (qa1 (qay (yat ydq (qag qah rfl (B.of rfl) boot_len (qaa (pv 0) yac)) (qbg qbr (qag qah rfl (B.of rfl) boot_len (qaa (pv 1) yac)) qac) (yap _)) (ybg (qag (qe4 rfl) rfl ygg qfa (qaa (yc9 rfl (qb1 rfl) (M:=["name","part"]) (ix:=[none,none]) (qfw rfl yc0 (qaa (pv 1) (qaa (qb5 qfz (pv 0) (qbs qac) ycq) yac))) (fun _ _ _ _=>(yd9 (K:=K) (n:=2) rfl rfl (yao (qal (i:=0) (show List.Nodup (["name","part"]:List Str) by decide +kernel) rfl (Or.inl rfl)) (yao (qal (i:=1) (show List.Nodup (["name","part"]:List Str) by decide +kernel) rfl (Or.inl rfl)) ybt)))) (fun _ _ _ _=>yfe) (fun _ _ _ _=>(yaj qc6 hr (qaa (pv 0) (qaa (pv 1) yac))))) yac))))))),?_⟩
  refine ⟨_,rfl,a,_,_,_,rfl,rfl,SqT.of ha,yah 0 rfl,aP,x,_,rfl,rfl,TP,ht,fun pn hpn=>?_⟩
  refine ⟨_,rfl,a,_,rfl,.inr (SqT.of ha),_,rfl,pn,_,rfl,.inr (hpn _),_,_,rfl,rfl,rfl,_,rfl,?_⟩
  by_cases hlen:ps.length=(nmL n ns).length
  rotate_left
  ·refine iteN (decide_eq_false (fun z=>?_)) ?_
   ·have:=V.int.inj z
    rw[List.length_cons,hnm] at this
    omega
   ·have e:yas (nmL n ns) ps=false:=by
     cases hb:yas (nmL n ns) ps with
     | false=>rfl
     | true=>exact absurd (qdy hb) hlen
    rw[e] at k
    exact k H (Same.refl H)
  refine iteB (decide_eq_true ?_) ?_
  ·congr 1
   rw[List.length_cons,hnm]
   omega
  refine ⟨_,rfl,_,rfl,_,rfl,a,_,rfl,SqT.of ha,tail_ne1 _ _,fun q hq=>?_⟩
  rw[yhy]
  have s1:Same H (upd H q (.tup ws)):=(Same.refl H).upd hq
  have e1:upd H q (.tup ws) q=some (.tup ws):=yaa
  revert s1 e1
  generalize upd H q (.tup ws)=H1
  intro s1 e1
  refine ⟨true,true,pn,q,_,_,rfl,hpn _,SqT.of e1,fun D hD=>?_⟩
  refine qc5 (K:=K) (xs:=yai n ns) (ys:=ws) (by omega) (fun i H'=>Same H1 H'∧H' D=some (.lst (((((nmL n ns).zip ps).take i).map fun z=>qb7 z.1 z.2).map V.bl))) ⟨(Same.refl H1).upd hD,yaa⟩ ?_ ?_ ?_
  ·rintro i H2 ⟨s2,e2⟩
   exact ⟨hpn _,SqT.of (s2 _ _ e1)⟩
  ·rintro H2 ⟨s2,e2⟩
   rw[List.take_of_length_le (by rw[List.length_zip];omega)] at e2
   refine ⟨D,_,rfl,e2,?_⟩
   rw[← qdz hlen]
   exact k _ (s1.trans s2)
  ·rintro i xx y p H2 hx hy ⟨s2,e2⟩ hp
   rw[qcr] at hx
   obtain ⟨nm,hnm',rfl⟩:=yce hx
   obtain ⟨dy,hdy,hay⟩:=hw.get hy
   have hi:i<n+ns.length:=by have:=(List.getElem?_eq_some_iff.mp hnm').1;omega
   have s3:Same H2 (upd H2 p (.tup [.str nm,y])):=(Same.refl H2).upd hp
   refine ⟨p,_,rfl,SqT.of yaa,rfl,?_⟩
   refine ⟨_,_,rfl,_,_,rfl,rfl,qa4.set (qa4.set (qa4.refl _) rfl) rfl,yes ?_⟩
   refine ⟨_,rfl,_,rfl,nm,y,dy,rfl,.inl (hay.same ((s1.trans s2).trans s3)),fun H3 s4=>?_⟩
   have s23:Same H2 H3:=s3.trans s4
   refine ⟨_,s23 _ _ e2,qce ?_,(s2.trans s23).at hD,?_⟩
   ·rw[List.length_map,List.length_map,List.length_take]
    omega
   ·rw[yaa,List.take_add_one,List.getElem?_zip_eq_some (z:=(nm,dy)) |>.mpr ⟨hnm',hdy⟩]
    simp
def nmOf (x:Str):List Str:=((KTD.datumAt x tabP).getD []).filterMap fun v=>match v with | .str s=>some s|_=>none
theorem qft {x:Str}{n:Nat}{ns:List Str} (h:KTD.datumAt x tabP=some (yai n ns)):nmOf x=nmL n ns:=by
 unfold nmOf
 rw[h,qcr]
 show (List.map V.str (nmL n ns)).filterMap _=_
 rw[List.filterMap_map]
 exact List.filterMap_some
def qff:PyData→Bool
 | .tuple (.str x::ps)=>KTD.inKeys x tabP&&(yas (nmOf x) ps&&decide (qa0 (qar x) ps).Nodup)
 | _=>false
def ydw:PyData→List Int
 | .tuple (.str x::ps)=>qa0 (qar x) ps
 | _=>[]
theorem qg0 {d:PyData} (h:yfa d=true):∃ x ps,d=.tuple (.str x::ps)∧KTD.inKeys x tabP=true:=by
 match d,h with
 | .tuple (.str x::ps),h=>exact ⟨x,ps,rfl,h⟩
theorem noword {d:PyData} (h:yfa d=false):qff d=false:=by
 match d with
 | .tuple (.str x::ps)=>
  have h':KTD.inKeys x tabP=false:=h
  show (KTD.inKeys x tabP&&_)=false
  rw[h']
  rfl
 | .tuple []=>rfl
 | .tuple (.none::_)=>rfl
 | .tuple (.bool _::_)=>rfl
 | .tuple (.int _::_)=>rfl
 | .tuple (.list _::_)=>rfl
 | .tuple (.tuple _::_)=>rfl
 | .tuple (.dict _::_)=>rfl
 | .none=>rfl
 | .bool _=>rfl
 | .int _=>rfl
 | .str _=>rfl
 | .list _=>rfl
 | .dict _=>rfl
theorem harm_of {H:Hp}{v:V}{d:PyData} (hv:At H v d) (h:qff d=true):∃ g ns,HAt H v g∧okH g ns∧g.c=ydw d:=by
 have hw:yfa d=true:=by
  cases hq:yfa d with
  | true=>rfl
  | false=>rw[noword hq] at h;cases h
 obtain ⟨x,ps,rfl,hk⟩:=qg0 hw
 have h':(KTD.inKeys x tabP&&(yas (nmOf x) ps&&decide (qa0 (qar x) ps).Nodup))=true:=h
 rw[Bool.and_eq_true,Bool.and_eq_true] at h'
 obtain ⟨ns,ht,hl,hn⟩:=qha hk
 obtain ⟨a,vs,rfl,ha,hwa⟩:=hv.tupEq
 cases hwa with
 | cons h1 hwa=>
 have:=h1.strEq
 subst this
 have hp:=h'.2.1
 rw[qft ht] at hp
 obtain ⟨g,hg,ok,hc⟩:=hm_of ha hwa ht hl hn hp
 exact ⟨g,ns,hg,ok.full (by rw[hc];exact of_decide_eq_true h'.2.2),hc⟩
def yg4:Sp:=fun vs H Q _=>∃ v d,vs=[v]∧AtX H v d∧∀ H',Same H H'→Q (.bl (qff d)) H'
theorem og_harm (B:Bl mg) (ybr:mg "set" = none) (qcp:Has P w K mg base 1 "has_word" ["thing"] yhs) (qcc:Has P w K mg base 4 "has_parts" ["thing"] qf3) (ya2:Has P w K mg base 1 "cells_in" ["harm"] qdi) (F:FnAt K mg "is_harm" qbv ["thing"]):Has P w K mg base 5 "is_harm" ["thing"] yg4:=by
 refine Has.of F yb2 (fun vs H Q E h=>?_) (fun f cdv A outer s H vs Q E hr h=>?_)
 ·obtain ⟨v,d,rfl,_⟩:=h
  rfl
 ·obtain ⟨v,d,rfl,hv,k⟩:=h
  have sc:=yb2
  refine ⟨_,(qak (qd9 (PW.pt (pw_or (qda (qcx (yaj qcp hr (qaa (pv 0) yac)))) (qf5 (qda (qcx (yaj qcc hr (qaa (pv 0) yac)))))))
    (qai (qa1 qd4))
    qby)
   (qak (ybk (i:=1) sc.nd rfl (Or.inl rfl) (yaj ya2 hr (qaa (pv 0) yac)))
   (qai (qa1 (yat ydq (qag qbn rfl (B.of rfl) boot_len (qaa (qcg (ybu rfl) rfl ybr qbh (qaa (pv 1) yac)) yac)) (qag qah rfl (B.of rfl) boot_len (qaa (pv 1) yac)) (yap _)))))),?_⟩
  refine ⟨_,rfl,v,d,rfl,hv,_,rfl,?_⟩
  cases hw:yfa d with
  | false=>
   rw[noword hw] at k
   exact iteT (iteT (k H (Same.refl H)))
  | true=>
   refine iteF ?_
   obtain ⟨x,ps,rfl,hk⟩:=qg0 hw
   have hv':At H v (.tuple (.str x::ps)):=by
    rcases hv with h|⟨e,_⟩
    ·exact h
    ·cases e
   obtain ⟨ns,ht,hl,hn⟩:=qha hk
   have eh:qff (.tuple (.str x::ps))=(KTD.inKeys x tabP&&(yas (nmOf x) ps&&decide (qa0 (qar x) ps).Nodup)):=rfl
   rw[eh,hk,qft ht,Bool.true_and] at k
   refine ⟨_,rfl,v,x,ps,_,ns,rfl,hv',ht,(qer x).2,hl,fun H1 s1=>⟨_,rfl,?_⟩⟩
   cases hp:yas (nmL (qar x) ns) ps with
   | false=>
    rw[hp] at k
    exact iteB rfl (k H1 s1)
   | true=>
    rw[hp,Bool.true_and] at k
    refine iteN rfl ?_
    obtain ⟨a,vs,rfl,ha,hwa⟩:=(hv'.same s1).tupEq
    cases hwa with
    | cons h1 hwa=>
    have:=h1.strEq
    subst this
    obtain ⟨g,hg,ok,hc⟩:=hm_of ha hwa ht hl hn hp
    refine ⟨_,rfl,_,g,ns,rfl,hg,ok,fun D H2 s2 hD e2=>?_⟩
    refine ⟨_,rfl,D,g.c,rfl,e2,by have:=ok.cl;omega,fun p hp=>?_⟩
    refine ⟨p,_,rfl,yaa,?_⟩
    have s3:Same H2 (upd H2 p (SetO P w p (uniq g.c))):=(Same.refl H2).upd hp
    refine ⟨_,rfl,D,_,rfl,.inl (SqL.of (s3 _ _ e2)),rfl,?_⟩
    rw[← hc,← yd6 g.c ok.cl.2] at k
    have e:decide (V.int ((uniq g.c).length:Int)=V.int ((g.c.map V.int).length:Int))=decide ((uniq g.c).length=g.c.length):=by
     rw[List.length_map]
     apply decide_eq_decide.mpr
     constructor
     ·intro z;have:=V.int.inj z;omega
     ·intro z;rw[z]
    rw[e]
    exact k _ ((s1.trans s2).trans s3)
end
def optN:Option Nat→V|none=>.non|some n=>.int n
def accH (ds:List PyData) (i:Nat):List Int:=(ds.take i).flatMap ydw
def qcq (ds:List PyData) (i:Nat):Bool:=!(qff (ds.getD i .none))||decide (3<(uniq (accH ds (i+1))).length)
def yan:PyData→Option (Option Nat)
 | .list ds=>if 3<ds.length then some none else ((List.range ds.length).find? (qcq ds)).map some
 | _=>some none
theorem ydb {ds:List PyData}{i:Nat} (hl:¬ 3<ds.length) (hi:i<ds.length) (hb:qcq ds i=true) (ho:∀ j,j<i→qcq ds j=false):yan (.list ds)=some (some i):=by
 show (if 3<ds.length then some none else ((List.range ds.length).find? (qcq ds)).map some)=_
 rw[if_neg hl,List.find?_range_eq_some.mpr ⟨hb,by simpa using hi,fun j hj=>by rw[ho j hj];rfl⟩]
 rfl
theorem ydo {ds:List PyData} (hl:¬ 3<ds.length) (ho:∀ j,j<ds.length→qcq ds j=false):yan (.list ds)=none:=by
 show (if 3<ds.length then some none else ((List.range ds.length).find? (qcq ds)).map some)=_
 rw[if_neg hl,List.find?_range_eq_none.mpr fun j hj=>by rw[ho j hj];rfl]
 rfl
theorem ygy {ds:List PyData}{i:Nat}{d:PyData} (h:ds[i]?=some d):accH ds (i+1)=accH ds i++ydw d:=by
 unfold accH
 rw[List.take_add_one,h,List.flatMap_append]
 simp
section
variable {P:Program}{w:World}{K:PySem.W.Frag}{mg:Str→Option Value}{base:Heap}
def yf3 (C:Addr):Sp:=fun vs H Q E=>∃ v d,vs=[v]∧AtX H v d∧(yan d=none→∀ H',Same H H'→Q .non H')∧(∀ b,yan d=some b→∀ a H',Same H H'→XAt H' a C [("number",optN b)]→E (.ref a) none H')
theorem og_harms {C:Addr} (B:Bl mg) (xH:XInit P w K mg base "NoHarms" C ["self","number"] (sp_x1 C "number")) (ybr:mg "set" = none) (yb0:∃ t,mg "MOST_HARMS" = some (.int 3 t)) (ybm:∃ t,mg "MOST_UNLIKE" = some (.int 3 t)) (ydg:Has P w K mg base 5 "is_harm" ["thing"] yg4) (ya2:Has P w K mg base 1 "cells_in" ["harm"] qbm)
  (F:FnAt K mg "look_at_harms" qau ["thing"]):HasX P w K mg base 6 "look_at_harms" ["thing"] (yf3 C):=by
 refine HasX.of F yax (fun vs H Q E h=>?_) (fun f cdv A outer s H vs Q E hr h=>?_)
 ·obtain ⟨v,d,rfl,_⟩:=h
  rfl
 ·obtain ⟨v,d,rfl,hv,q1,q2⟩:=h
  have z1:1≤sizeLine:=by decide
  have sc:=yax
  refine ⟨_,(qao rfl (qaf (ybd (QW.pt (yga (qdb (qbo (qav qap rfl (B.of rfl) boot_isinstance (qaj (qab (pv 0)) (qaj (qab (qas (v:=.ty "list") rfl (B.of rfl) boot_list rfl)) qad))))) (yf2 (ya5 qex (qav qah rfl (B.of rfl) boot_len (qaj (qab (pv 0)) qad)) (qab (ycp yb0)) (yap _)))))
    (yag (qs_of (qd1 (pe_xI xH hr (qaa yg1 yac)))))
    ya0)
   (qaf (qaq (i:=1) sc.nd rfl (Or.inl rfl) (qbb qad))
   (yag (qcz passOwnX rfl (qi_of (qej rfl (B.of rfl) (qaa (pv 0) yac))) (yem rfl (yao (qal (i:=2) sc.nd rfl (Or.inl rfl)) (yao (qal (i:=3) sc.nd rfl (Or.inl rfl)) ybt)))
    (qaf (ybd (qdb (qbo (yaw ydg hr (qaj (qab (pv 3)) qad))))
     (yag (qs_of (qd1 (pe_xI xH hr (qaa (pv 2) yac)))))
     ya0)
    (qaf (qcb (qab (yhx PySem.F.plainAttrs_list PySem.F.slot_list_extend PySem.F.type_list_extend yen (pv 1) (qaa (yaj ya2 hr (qaa (pv 3) yac)) yac))))
    (yag (ybd (ya5 qex (qav qbn rfl (B.of rfl) boot_len (ygc (qbu (ybu rfl) rfl ybr qbh (qaj (qab (pv 1)) qad)) qad)) (qab (ycp ybm)) (yap _))
     (yag (qs_of (qd1 (pe_xI xH hr (qaa (pv 2) yac)))))
     ya0))))))))),?_⟩
  have hraise:∀ {H1:Hp}{a:Addr} (b:Option Nat),yan d=some b→Same H H1→H1 a=none→∀ dd H4,XD H4 a C (some dd) [("number",optN b)]→SetX a dd none (upd H1 a (.ext (qbf a C none))) H4→(∃ a' C' dx,V.ref a=V.ref a'∧XTy K C'∧H4 a'=some (.ext (qbf a' C' dx))∧E (.ref a') none (upd H4 a' (.ext (qbk a' C' dx)))):=fun {H1 a} b hb s1 ha dd H4 x4 s4=>by
   obtain ⟨r1,r2,r3⟩:=raised_x ha x4 s4
   exact ⟨a,C,some dd,rfl,xH.2.2.1.toXTy,r1,q2 b hb a _ (s1.trans r2) r3⟩
  refine ⟨_,rfl,_,_,_,_,rfl,hv.ty,kit_lst d,_,rfl,?_⟩
  cases hs:isLst d with
  | false=>
   have e:yan d=some none:=by cases d<;>first|rfl|cases hs
   refine iteT (iteT ⟨z1,fun a ha=>⟨a,_,rfl,.inl ⟨rfl,rfl,yaa⟩,fun dd H1 x1 s1=>⟨rfl,?_⟩⟩⟩)
   exact hraise none e (Same.refl H) ha dd H1 x1 s1
  | true=>
   obtain ⟨ds,rfl⟩:∃ ds,d=.list ds:=by cases d<;>first|exact ⟨_,rfl⟩|cases hs
   have hv':At H v (.list ds):=by
    rcases hv with h|⟨e,_⟩
    ·exact h
    ·cases e
   obtain ⟨L,us,rfl,hL,hu⟩:=hv'.lstEq
   have hul:=hu.length
   refine iteF ⟨_,rfl,L,us,rfl,.inl (SqL.of hL),_,_,rfl,rfl,_,rfl,?_⟩
   by_cases h3:3<ds.length
   ·have e:yan (.list ds)=some none:=by
     show (if 3<ds.length then some none else _)=_
     rw[if_pos h3]
    refine iteD (by omega) ⟨z1,fun a ha=>⟨a,_,rfl,.inl ⟨rfl,rfl,yaa⟩,fun dd H1 x1 s1=>⟨rfl,?_⟩⟩⟩
    exact hraise none e (Same.refl H) ha dd H1 x1 s1
   refine qgi (by omega) ?_
   refine ⟨Nat.zero_le _,fun p hp=>?_⟩
   have npL:L≠p:=qae hL hp
   refine ⟨_,rfl,L,us,rfl,SqL.of (by rw[yae npL];exact hL),qc4 (xs:=us) (fun i σ H2=>∃ (o2 o3:Option V),σ=[some (.ref L),some (.ref p),o2,o3]∧Same H H2∧H2 p=some (.lst ((accH ds i).map V.int))∧(accH ds i).length≤2*i∧∀ j,j<i→qcq ds j=false)
    ⟨none,none,rfl,(Same.refl H).upd hp,yaa,Nat.le_refl _,fun j hj=>absurd hj (by omega)⟩ (fun i σ H2 _ ⟨_,_,_,h,_⟩=>SqL.of (h _ _ hL)) ?_ ?_⟩
   ·rintro i x pp σ H2 hx ⟨o2,o3,rfl,s2,e2,l2,ho⟩ hpp
    obtain ⟨dx,hdx,hat⟩:=hu.get hx
    have hil:i<ds.length:=(List.getElem?_eq_some_iff.mp hdx).1
    have hget:ds.getD i .none=dx:=by rw[List.getD_eq_getElem?_getD,hdx];rfl
    have sP:Same H2 (upd H2 pp (.tup [.int i,x])):=(Same.refl H2).upd hpp
    refine ⟨pp,_,rfl,SqT.of yaa,rfl,_,_,rfl,_,_,rfl,rfl,?_⟩
    refine ⟨_,rfl,x,dx,rfl,.inl (hat.same (s2.trans sP)),fun H3 s3=>⟨_,rfl,?_⟩⟩
    have s23:Same H2 H3:=sP.trans s3
    cases hb:qff dx with
    | false=>
     have e:yan (.list ds)=some (some i):=ydb h3 hil (by unfold qcq;rw[hget,hb];rfl) ho
     refine iteT ⟨_,rfl,z1,fun a ha=>⟨a,_,rfl,.inl ⟨rfl,rfl,yaa⟩,fun dd H1 x1 s1=>⟨rfl,?_⟩⟩⟩
     exact hraise (some i) e (s2.trans s23) ha dd H1 x1 s1
    | true=>
     refine iteF ?_
     obtain ⟨g,ns,hg,ok,hc⟩:=harm_of (hat.same (s2.trans s23)) hb
     refine ⟨_,rfl,.inl ⟨rfl,_,SqL.of (s23 _ _ e2)⟩,?_⟩
     refine ⟨_,rfl,x,g,ns,rfl,hg,ok,fun D H4 s4 hD eD=>?_⟩
     have s24:=s23.trans s4
     have hcl:=ok.cl.2
     have ea:accH ds (i+1)=accH ds i++g.c:=by rw[ygy hdx,hc]
     have hlt:(accH ds (i+1)).length≤2*(i+1):=by rw[ea,List.length_append];omega
     refine ⟨p,D,_,_,rfl,rfl,s24 _ _ e2,eD,?_,?_⟩
     ·rw[List.length_map,List.length_map]
      exact Nat.le_of_lt (qce (by omega))
     rw[← List.map_append,← ea]
     have s5:Same H (upd H4 p (.lst ((accH ds (i+1)).map V.int))):=(s2.trans s24).at hp
     have e5:upd H4 p (.lst ((accH ds (i+1)).map V.int)) p=some (.lst ((accH ds (i+1)).map V.int)):=yaa
     revert s5 e5
     generalize upd H4 p (.lst ((accH ds (i+1)).map V.int))=H5
     intro s5 e5
     refine ⟨_,rfl,p,_,rfl,e5,by omega,fun q hq=>?_⟩
     have s6:Same H5 (upd H5 q (SetO P w q (uniq (accH ds (i+1))))):=(Same.refl H5).upd hq
     refine ⟨q,_,rfl,yaa,_,_,rfl,rfl,_,rfl,?_⟩
     by_cases hu3:3<(uniq (accH ds (i+1))).length
     ·have e:yan (.list ds)=some (some i):=ydb h3 hil (by unfold qcq;rw[hget,hb,decide_eq_true hu3];rfl) ho
      refine iteD (by omega) ⟨_,rfl,z1,fun a ha=>⟨a,_,rfl,.inl ⟨rfl,rfl,yaa⟩,fun dd H1 x1 s1=>⟨rfl,?_⟩⟩⟩
      exact hraise (some i) e (s5.trans s6) ha dd H1 x1 s1
     ·refine qgi (by omega) ⟨_,_,rfl,s5.trans s6,s6 _ _ e5,hlt,fun j hj=>?_⟩
      by_cases ej:j=i
      ·subst ej
       unfold qcq
       rw[hget,hb,decide_eq_false hu3]
       rfl
      ·exact ho j (by omega)
   ·rintro σ H2 ⟨o2,o3,rfl,s2,e2,l2,ho⟩
    exact q1 (ydo h3 fun j hj=>ho j (by omega)) _ s2
end
def cellsAll:PyData→List Int | .list ds=>ds.flatMap ydw|_=>[]
def vD:V→PyData | .int i=>.int i | .str x=>.str x | .bl b=>.bool b|_=>.none
def hmD (h:Hm):PyData:=.tuple (.str h.w::(h.c.map PyData.int++h.r.map vD))
theorem rest_at {H:Hp}{ns:List Str}{vs:List V} (h:Rest ns vs):AtAll H vs (vs.map vD):=by
 induction h with
 | nil=>exact .nil
 | bit hb _ ih=>obtain ⟨b,rfl⟩:=hb;exact .cons (.int _) ih
 | how hb _ ih=>rcases hb with rfl|rfl<;>exact .cons (.str _) ih
theorem ygz {H:Hp}:∀ (cs:List Int),AtAll H (cs.map V.int) (cs.map PyData.int)
 | []=>.nil
 | c::cs=>.cons (.int c) (ygz cs)
theorem hm_at {H:Hp}{v:V}{h:Hm}{ns:List Str} (x:HAt H v h) (ok:okH h ns):At H v (hmD h):=by
 obtain ⟨a,rfl,ha⟩:=x
 exact .tup ha (.cons (.str _) ((ygz h.c).append (rest_at ok.rest)))
theorem qf9 {ns:List Str}{vs:List V} (h:Rest ns vs):yas ns (vs.map vD)=true:=by
 induction h with
 | nil=>rfl
 | bit hb _ ih=>
  obtain ⟨b,rfl⟩:=hb
  show (qb7 "bit" (.int (b2i b))&&_)=true
  rw[ih]
  cases b<;>decide +kernel
 | how hb _ ih=>
  rcases hb with rfl|rfl
  ·show (qb7 "how" (.str "and")&&_)=true
   rw[ih]
   decide +kernel
  ·show (qb7 "how" (.str "or")&&_)=true
   rw[ih]
   decide +kernel
theorem qdd {ns:List Str}{r:List PyData} (hr:yas ns r=true):∀ (c:List Int),(∀ x∈c,0≤x∧x<64)→yas (nmL c.length ns) (c.map PyData.int++r)=true
 | [],_=>hr
 | x::c,h=>by
  show (qb7 "cell" (.int x)&&yas (nmL c.length ns) (c.map PyData.int++r))=true
  rw[qdd hr c fun y hy=>h y (List.mem_cons_of_mem _ hy),Bool.and_true]
  unfold qb7
  rw[if_pos rfl]
  exact decide_eq_true (h x (List.mem_cons_self ..))
theorem qgg {ns:List Str}{r:List V} (h:Rest ns r):∀ n∈ns,n="bit"∨n="how":=by
 induction h with
 | nil=>intro n hn;cases hn
 | bit _ _ ih=>
  intro n hn
  rcases List.mem_cons.mp hn with rfl|hn
  ·exact .inl rfl
  ·exact ih n hn
 | how _ _ ih=>
  intro n hn
  rcases List.mem_cons.mp hn with rfl|hn
  ·exact .inr rfl
  ·exact ih n hn
theorem qgw {h:Hm}{ns:List Str} (ok:okH h ns):qar h.w=h.c.length:=by
 have hk:KTD.inKeys h.w tabP=true:=by rw[← KTD.isSome_datumAt,ok.tab];rfl
 obtain ⟨ns',ht,_,hn'⟩:=qha hk
 have hrest:=qgg ok.rest
 have e:=ht.symm.trans ok.tab
 have e2:=Option.some.inj e
 have cnt:∀ (n:Nat) (ms:List Str),(∀ x∈ms,x="bit"∨x="how")→(yai n ms).countP (fun v=>decide (v=V.str "cell"))=n:=fun n ms hm=>by
  unfold yai
  rw[List.countP_append,List.countP_replicate,List.countP_eq_zero.mpr]
  ·simp
  ·intro v hv
   obtain ⟨x,hx,rfl⟩:=List.mem_map.mp hv
   rcases hm x hx with rfl|rfl<;>decide +kernel
 have h1:=cnt (qar h.w) ns' hn'
 rw[e2,cnt _ ns hrest] at h1
 exact h1.symm
theorem ye4 {h:Hm}{ns:List Str} (ok:okH h ns):qff (hmD h)=true∧ydw (hmD h)=h.c:=by
 have hk:KTD.inKeys h.w tabP=true:=by rw[← KTD.isSome_datumAt,ok.tab];rfl
 have hc:qa0 (qar h.w) (h.c.map PyData.int++h.r.map vD)=h.c:=by
  unfold qa0
  rw[qgw ok,List.take_append_of_le_length (by simp),List.take_of_length_le (by simp),List.map_map]
  simp[Function.comp_def,intD]
 refine ⟨?_,hc⟩
 show (KTD.inKeys h.w tabP&&(yas (nmOf h.w) (h.c.map PyData.int++h.r.map vD)&&decide (qa0 (qar h.w) (h.c.map PyData.int++h.r.map vD)).Nodup))=true
 rw[hk,hc,qft ok.tab,qdd (qf9 ok.rest) h.c ok.rg,decide_eq_true ok.nd]
 rfl
theorem HsV.cons {H:Hp}{u:V}{us:List V}{h:Hm}{hs:List Hm} (x:HsV H (u::us) (h::hs)):HAt H u h∧HsV H us hs:=
 ⟨x.at_ 0 u h rfl rfl,⟨by have:=x.len;simpa using this,fun i v g h1 h2=>x.at_ (i+1) v g h1 h2⟩⟩
theorem hs_at {H:Hp}:∀ {us:List V}{hs:List Hm},HsV H us hs→(∀ h∈hs,∃ ns,okH h ns)→AtAll H us (hs.map hmD)
 | [],[],_,_=>.nil
 | u::us,h::hs,x,o=>by
  obtain ⟨x1,x2⟩:=x.cons
  obtain ⟨ns,ok⟩:=o h (List.mem_cons_self ..)
  exact .cons (hm_at x1 ok) (hs_at x2 fun g hg=>o g (List.mem_cons_of_mem _ hg))
 | [],_::_,x,_=>by have:=x.len;simp at this
 | _::_,[],x,_=>by have:=x.len;simp at this
theorem qcs:∀ {hs:List Hm},(∀ h∈hs,∃ ns,okH h ns)→(hs.map hmD).flatMap ydw=allC hs
 | [],_=>rfl
 | h::hs,o=>by
  obtain ⟨ns,ok⟩:=o h (List.mem_cons_self ..)
  have ih:=qcs (hs:=hs) fun g hg=>o g (List.mem_cons_of_mem _ hg)
  unfold allC at ih ⊢
  rw[List.map_cons,List.flatMap_cons,List.flatMap_cons,ih,(ye4 ok).2]
theorem qgq {H:Hp}{L:Addr}{us:List V}{hs:List Hm}{S:List Int} (hL:H L=some (.lst us)) (hv:HsV H us hs) (ok:okHs hs S):At H (.ref L) (.list (hs.map hmD))∧yan (.list (hs.map hmD))=none∧cellsAll (.list (hs.map hmD))=allC hs:=by
 refine ⟨.lst hL (hs_at hv ok.ok),ydo (by rw[List.length_map];have:=ok.len;omega) fun j hj=>?_,qcs ok.ok⟩
 rw[List.length_map] at hj
 unfold qcq
 have e1:(hs.map hmD).getD j .none=hmD hs[j]:=by rw[List.getD_eq_getElem?_getD,List.getElem?_map,List.getElem?_eq_getElem hj];rfl
 obtain ⟨ns,og⟩:=ok.ok _ (List.getElem_mem hj)
 have e2:accH (hs.map hmD) (j+1)=allC (hs.take (j+1)):=by
  unfold accH
  rw[← List.map_take]
  exact qcs fun g hg=>ok.ok g (List.mem_of_mem_take hg)
 rw[e1,(ye4 og).1,e2,decide_eq_false (by have:=ok.few (l:=hs.take (j+1)) (fun h hh=>List.mem_of_mem_take hh);omega)]
 rfl
theorem yeo:bootBuiltins "divmod" = some (.builtin "divmod"):=by decide +kernel
def th3 (w:Str):Bool:=inV (.str w) (([("turns" : Str),"sets","keeps"]).map V.str)
theorem th3_is {w:Str}:th3 w=true↔w="turns"∨w="sets"∨w="keeps":=by
 unfold th3 inV
 simp[eqS]
def ydf (h:Hm):Int:=if th3 h.w then h.cell 1 else h.cell 0
theorem yfp {h:Hm}{ns:List Str} (o:okH h ns) (t:th3 h.w=true):(hV h)[2]?=some (.int (h.cell 1))∧h.cell 1∈h.c:=by
 have:∃ a b,h.c=[a,b]:=by
  rcases th3_is.mp t with e|e|e
  ·obtain ⟨a,b,x,hc,_⟩:=o.sTurns (by rw[e];exact qdp);exact ⟨a,b,hc⟩
  ·obtain ⟨a,b,x,y,hc,_⟩:=o.sSets (qco (.inl e));exact ⟨a,b,hc⟩
  ·obtain ⟨a,b,x,y,hc,_⟩:=o.sSets (qco (.inr e));exact ⟨a,b,hc⟩
 obtain ⟨a,b,hc⟩:=this
 unfold hV Hm.cell
 rw[hc]
 exact ⟨rfl,by simp⟩
theorem qhr {h:Hm}{ns:List Str} (o:okH h ns):ydf h∈h.c:=by
 unfold ydf
 split
 ·rename_i t;exact (yfp o t).2
 ·have:=o.cl
  unfold Hm.cell
  cases hc:h.c with
  | nil=>rw[hc] at this;simp at this
  | cons a l=>simp
theorem bcell_rg {h:Hm}{ns:List Str} (o:okH h ns):0≤ydf h∧ydf h<64:=o.rg _ (qhr o)
def brkP (l:Int) (h:Hm):List Int:=[ydf h / l,ydf h % l]
def Due (l:Int) (hs:List Hm) (ks:List (List Int)):Prop:=ks.Nodup∧(∀ k,k∈ks↔k∈hs.map (brkP l))∧ks.Pairwise fun a b=>numL a≤numL b
theorem qfh {l:Int}{h:Hm}{ns:List Str} (o:okH h ns) (l1:1≤l) (l8:l≤8):(brkP l h).length=2∧Sml (brkP l h):=by
 obtain ⟨b0,b1⟩:=bcell_rg o
 refine ⟨rfl,fun x hx=>?_⟩
 unfold brkP at hx
 simp only[List.mem_cons,List.not_mem_nil,or_false] at hx
 rcases hx with rfl|rfl
 ·exact ⟨Int.ediv_nonneg b0 (by omega),Int.lt_of_le_of_lt (Int.ediv_le_self _ b0) (by omega)⟩
 ·exact ⟨Int.emod_nonneg _ (by omega),Int.lt_of_lt_of_le (Int.emod_lt_of_pos _ (by omega)) (by omega)⟩
theorem num2_inj {a b:List Int} (ha:a.length=2∧Sml a) (hb:b.length=2∧Sml b) (h:numL a=numL b):a=b:=by
 obtain ⟨la,sa⟩:=ha
 obtain ⟨lb,sb⟩:=hb
 match a,b,la,lb with
 | [x,y],[u,v],_,_=>
  have h1:=sa y (by simp)
  have h2:=sb v (by simp)
  have h':x*4096 ^ 1+(y*4096 ^ 0+0)=u*4096 ^ 1+(v*4096 ^ 0+0):=h
  have:x=u∧y=v:=by omega
  rw[this.1,this.2]
theorem Due.eq {l:Int}{hs:List Hm}{ks ms:List (List Int)} (o:Oks hs) (l1:1≤l) (l8:l≤8) (x:Due l hs ks) (y:Due l hs ms):ks=ms:=by
 obtain ⟨x1,x2,x3⟩:=x
 obtain ⟨y1,y2,y3⟩:=y
 have ok:∀ k∈hs.map (brkP l),k.length=2∧Sml k:=fun k hk=>by
  obtain ⟨h,hh,rfl⟩:=List.mem_map.mp hk
  obtain ⟨ns,oh⟩:=o h hh
  exact qfh oh l1 l8
 have pm:ks.Perm ms:=(List.perm_ext_iff_of_nodup x1 y1).mpr fun k=>(x2 k).trans (y2 k).symm
 exact pm.eq_of_pairwise (fun a b ha hb h1 h2=>num2_inj (ok a ((x2 a).mp ha)) (ok b ((y2 b).mp hb)) (Int.le_antisymm h1 h2)) x3 y3
theorem qhq {l m:List (List Int)} (hl:l.Nodup) (h:∀ x∈l,x∈m):l.length≤m.length:=by
 induction l generalizing m with
 | nil=>simp
 | cons x l ih=>
  have hn:=List.nodup_cons.mp hl
  have hx:=h x (by simp)
  have:=ih hn.2 (m:=m.erase x) (fun y hy=>(List.mem_erase_of_ne (fun z=>by subst z;exact hn.1 hy)).mpr (h y (by simp[hy])))
  rw[List.length_erase_of_mem hx] at this
  have:=List.length_pos_of_mem hx
  simp
  omega
section
variable {P:Program}{w:World}{K:PySem.W.Frag}{mg:Str→Option Value}{base:Heap}
def qb9:Sp:=fun vs H Q _=>∃ v h ns,vs=[v]∧HAt H v h∧okH h ns∧∀ H',Same H H'→Q (.int (ydf h)) H'
abbrev qa6:Stmt:=top 23
theorem yb8:FnScope ["harm"] ["harm"] (yab qa6):=⟨rfl,rfl,rfl,by decide +kernel,rfl,by decide +kernel,by decide +kernel⟩
theorem yds (F:FnAt K mg "broken_cell" qa6 ["harm"]):Has P w K mg base 1 "broken_cell" ["harm"] qb9:=by
 refine Has.ofQ F yb8 (fun vs H Q E h=>?_) (fun f cdv A outer s H vs Q E hr h=>?_)
 ·obtain ⟨v,h,ns,rfl,_⟩:=h
  rfl
 ·obtain ⟨v,h,ns,rfl,hat,og,k⟩:=h
  obtain ⟨a,rfl,ha⟩:=hat
  have sc:=yb8
  refine ⟨_,(qao rfl (yag (yam (qe_ifExp (ya5 ya8 (ybf yaz (qab (pv 0)) (qab qac) (fun _ _=>rfl)) (ya3 (yar (qab qan) (yar (qab qan) (yar (qab qan) qad)))) (by with_unfolding_all rfl)) (ybf yaz (qab (pv 0)) (qab qac) (fun _ _=>rfl)) (ybf yaz (qab (pv 0)) (qab qac) (fun _ _=>rfl)))))),?_⟩
  refine ⟨_,rfl,a,_,_,_,rfl,rfl,SqT.of ha,yah 0 rfl,(by show 3≤sizeLine;decide),fun t ht=>?_⟩
  have s1:Same H (upd H t (.tup (([("turns" : Str),"sets","keeps"]).map V.str))):=(Same.refl H).upd ht
  refine ⟨t,([("turns" : Str),"sets","keeps"]).map V.str,rfl,.inr (SqT.of yaa),rfl,rfl,_,rfl,?_⟩
  have e0:ydf h=if th3 h.w then h.cell 1 else h.cell 0:=rfl
  cases ht3:th3 h.w with
  | true=>
   rw[ht3,if_pos rfl] at e0
   rw[e0] at k
   exact iteB ht3 ⟨_,rfl,a,_,_,_,rfl,rfl,SqT.of (s1 _ _ ha),yah 2 (yfp og ht3).1,k _ s1⟩
  | false=>
   rw[ht3,if_neg Bool.false_ne_true] at e0
   rw[e0] at k
   exact iteN ht3 ⟨_,rfl,a,_,_,_,rfl,rfl,SqT.of (s1 _ _ ha),yah 1 og.at1,k _ s1⟩
def TupsOf (H:Hp) (l:Int) (hs:List Hm) (ts:List TL):Prop:=ts.map (·.2)=hs.map (brkP l)∧∀ t∈ts,H t.1=some (.tup (t.2.map V.int))
def ybw (C:Addr):Sp:=fun vs H Q E=>∃ v l,vs=[v,.int l]∧1≤l∧l≤8∧
 ((∃ L us hs S,v=.ref L∧H L=some (.lst us)∧HsV H us hs∧okHs hs S∧∀ (D:Addr) (ts:List TL) (H':Hp),Same H H'→H D=none→H' D=some (.lst (ya6 ts))→(∀ t∈ts,H' t.1=some (.tup (t.2.map V.int))∧t.2.length=2)→Due l hs (ts.map (·.2))→ts.length≤3→Q (.ref D) H')∨
 ∃ d b,AtX H v d∧yan d=some b∧∀ a H',Same H H'→XAt H' a C [("number",optN b)]→E (.ref a) none H')
abbrev ybl:Stmt:=top 24
theorem qcv:FnScope ["harms","lines"] ["harms","lines"] (yab ybl):=⟨rfl,rfl,rfl,by decide +kernel,rfl,by decide +kernel,by decide +kernel⟩
theorem ye0 {C:Addr} (B:Bl mg) (ybr:mg "set" = none) (z_divmod:mg "divmod" = none) (yc8:HasX P w K mg base 6 "look_at_harms" ["thing"] (yf3 C)) (qeh:Has P w K mg base 1 "broken_cell" ["harm"] qb9) (F:FnAt K mg "broken_of" ybl ["harms","lines"]):HasX P w K mg base 7 "broken_of" ["harms","lines"] (ybw C):=by
 refine HasX.of F qcv (fun vs H Q E h=>?_) (fun f cdv A outer s H vs Q E hr h=>?_)
 ·obtain ⟨v,l,rfl,_⟩:=h
  rfl
 ·obtain ⟨v,l,rfl,l1,l8,h⟩:=h
  have sc:=qcv
  refine ⟨_,(qao rfl (qaf (qcb (qab (yfz yc8 passX hr (qaa (pv 0) yac))))
   (yag (yam (qav (yfl rfl) rfl (B.of rfl) qbw (ygc (qbu (yf9 rfl hr.units) rfl ybr qbh (qa_lc (qab (yc9 rfl (qb1 rfl) (M:=["harm","lines"]) (ix:=[none,some 1]) (qhd (pv 0)) (fun _ _ _ _=>(qal (i:=0) (show List.Nodup (["harm","lines"]:List Str) by decide +kernel) rfl (Or.inl rfl))) (fun _ _ _ _=>yfe) (fun _ _ _ _=>(qag yff rfl z_divmod yeo (qaa (yaj (hk:=(by omega)) qeh hr (qaa (pv 0) yac)) (qaa (pv 1) yac)))))) qad)) qad)))))),?_⟩
  rcases h with ⟨L,us,hs,S,rfl,hL,hv,ok,k⟩|⟨d,b,hv0,hb,kx⟩
  rotate_left
  ·exact ⟨_,rfl,v,d,rfl,hv0,(fun z=>by rw[hb] at z;cases z),fun b' hb' a H' s' x=>by rw[hb] at hb';cases hb';exact kx a H' s' x⟩
  obtain ⟨hg0,hb,_⟩:=qgq hL hv ok
  refine ⟨_,rfl,.ref L,_,rfl,.inl hg0,fun _ H1 s1=>?_,fun b z=>by rw[hb] at z;cases z⟩
  refine ⟨_,rfl,L,rfl,⟨_,SqL.of (s1 _ _ hL)⟩,fun D hD=>qg1 (n:=us.length) (fun i H'=>Same H1 H'∧∃ ts,H' D=some (.lst (ya6 ts))∧TupsOf H' l (hs.take i) ts) ⟨(Same.refl H1).upd hD,[],yaa,rfl,(fun _ h=>nomatch h)⟩ ?_ ?_⟩
  rotate_left
  ·rintro i H3 hi ⟨s3,ts,e3,x3⟩
   refine ⟨⟨_,_,SqL.of (s3 _ _ (s1 _ _ hL)),List.getElem?_eq_getElem hi⟩,?_⟩
   rintro x H4 ⟨rfl,hx⟩
   have hx:=hx _ (SqL.of (s3 _ _ (s1 _ _ hL)))
   obtain ⟨g,hg,hat⟩:=hv.get hx
   obtain ⟨nn,og⟩:=ok.ok g (List.mem_of_getElem? hg)
   refine ⟨qa4.set (qa4.refl _) rfl,yes ?_⟩
   refine ⟨_,rfl,x,g,nn,rfl,HAt.same (s1.trans s3) hat,og,fun H5 s5=>⟨_,rfl,_,_,rfl,⟨by show (0:Int)<l;omega,by show l<(1073741824:Int);omega⟩,fun t ht=>?_⟩⟩
   have nD:H1 D=none:=hD
   have e5:=s5 _ _ e3
   have ntD:D≠t:=fun z=>by rw[← z,e5] at ht;cases ht
   refine ⟨_,by rw[yae ntD];exact e5,qce (by have:=congrArg List.length x3.1;have h3:=ok.len;unfold ya6;simp at this ⊢;omega),(((s3.trans s5).upd ht).at hD),ts++[(t,brkP l g)],?_,?_,fun u hu=>?_⟩
   ·rw[yaa]
    unfold ya6
    rw[List.map_append]
    rfl
   ·rw[List.take_add_one,hg,List.map_append,List.map_append,x3.1]
    rfl
   ·rcases List.mem_append.mp hu with hu|hu
    ·have hu5:=s5 _ _ (x3.2 u hu)
     have n1:u.1≠D:=fun z=>by rw[z,e5] at hu5;cases hu5
     have n2:u.1≠t:=fun z=>by rw[z,ht] at hu5;cases hu5
     rw[yae n1,yae n2]
     exact hu5
    ·rw[List.mem_singleton.mp hu,yae (Ne.symm ntD),yaa]
     rfl
  rintro H3 ⟨s3,ts,e3,x3⟩
  refine ⟨⟨_,SqL.of (s3 _ _ (s1 _ _ hL)),by simp⟩,?_⟩
  rw[hv.len,List.take_length] at x3
  have h3:=ok.len
  have tl:ts.length=hs.length:=by have:=congrArg List.length x3.1;simpa using this
  refine ⟨D,ts,rfl,e3,x3.2,by omega,fun p us' hp hsub nd hall=>?_⟩
  have s4:Same H3 (upd H3 p (SetVO P w p us')):=(Same.refl H3).upd hp
  have mem:∀ k,k∈us'.map (·.2)↔k∈hs.map (brkP l):=fun k=>by
   rw[← x3.1]
   constructor
   ·intro hk
    obtain ⟨u,hu,rfl⟩:=List.mem_map.mp hk
    exact List.mem_map_of_mem (hsub u hu)
   ·intro hk
    obtain ⟨u,hu,rfl⟩:=List.mem_map.mp hk
    exact hall u hu
  have oks:∀ u∈us',u.2.length=2∧Sml u.2:=fun u hu=>by
   have:=(mem u.2).mp (List.mem_map_of_mem hu)
   obtain ⟨h,hh,e⟩:=List.mem_map.mp this
   obtain ⟨nn,oh⟩:=ok.ok h hh
   rw[← e]
   exact qfh oh l1 l8
  have ul:us'.length≤3:=by
   have h1:us'.length=(us'.map (·.2)).length:=by simp
   have h2:=qhq nd fun k hk=>(mem k).mp hk
   rw[List.length_map (as:=hs)] at h2
   omega
  refine ⟨p,us',1,rfl,yaa,fun t ht=>s4 _ _ (x3.2 t (hsub t ht)),oks,by omega,fun q ts' hq pm ri=>?_⟩
  have s5:=s4.upd (o:=.lst (ya6 ts')) hq
  refine k q ts' _ ((s1.trans s3).trans s5) ((s1.trans (s3.trans s4)).free hq) yaa (fun t ht=>⟨s5 _ _ (x3.2 t (hsub t (pm.mem_iff.mp ht))),(oks t (pm.mem_iff.mp ht)).1⟩) ⟨?_,fun k=>?_,?_⟩ (by rw[pm.length_eq];exact ul)
  ·exact (pm.map (·.2)).nodup_iff.mpr nd
  ·exact ((pm.map (·.2)).mem_iff).trans (mem k)
  ·exact List.pairwise_map.mpr ri
end
def yc1 (l:Int):List Hm→List (List Int)
 | []=>[]
 | h::hs=>if brkP l h∈yc1 l hs then yc1 l hs else yc1 l hs++[brkP l h]
theorem qde (l:Int):∀ (hs:List Hm) k,k∈yc1 l hs↔k∈hs.map (brkP l)
 | [],k=>by simp[yc1]
 | h::hs,k=>by
  have ih:=qde l hs k
  unfold yc1
  split
  ·rename_i hm
   rw[ih,List.map_cons,List.mem_cons]
   exact ⟨.inr,fun z=>z.elim (fun e=>by rw[e];exact (qde l hs _).mp hm) id⟩
  ·rw[List.mem_append,List.mem_singleton,ih,List.map_cons,List.mem_cons]
   exact Or.comm
theorem qc8 (l:Int):∀ (hs:List Hm),(yc1 l hs).Nodup
 | []=>List.nodup_nil
 | h::hs=>by
  have ih:=qc8 l hs
  unfold yc1
  split
  ·exact ih
  ·rename_i hm
   exact List.nodup_append.mpr ⟨ih,by simp,fun x hx y hy e=>hm (by rw[← List.mem_singleton.mp hy,← e];exact hx)⟩
theorem qdo (l:Int):∀ (hs:List Hm),(yc1 l hs).length≤hs.length
 | []=>Nat.le_refl _
 | h::hs=>by
  have ih:=qdo l hs
  unfold yc1
  split
  ·rw[List.length_cons];omega
  ·simp;omega
section
variable {P:Program}{w:World}{K:PySem.W.Frag}{mg:Str→Option Value}{base:Heap}
def qgt:Sp:=fun vs H Q _=>∃ L us hs l,vs=[.ref L,.int l]∧H L=some (.lst us)∧HsV H us hs∧Oks hs∧hs.length≤3∧1≤l∧l≤8∧∀ (D:Addr) (ts:List TL) (H':Hp),Same H H'→H D=none→H' D=some (.lst (ya6 ts))→(∀ t∈ts,H' t.1=some (.tup (t.2.map V.int))∧t.2.length=2)→Due l hs (ts.map (·.2))→Q (.ref D) H'
abbrev qb6:Stmt:=top 30
theorem qdj:FnScope ["_law_harms_here","_law_lines","_law_found","_law_harm_here","_law_cell"] ["_law_harms_here","_law_lines"] (yab qb6):=⟨rfl,rfl,rfl,by decide +kernel,rfl,by decide +kernel,by decide +kernel⟩
theorem ok_ldue (B:Bl mg) (F:FnAt K mg "_law_due" qb6 ["_law_harms_here","_law_lines"]):Has P w K mg base 1 "_law_due" ["_law_harms_here","_law_lines"] qgt:=by
 refine Has.ofQ F qdj (fun vs H Q E h=>?_) (fun f cdv A outer s H vs Q E hr h=>?_)
 ·obtain ⟨L,us,hs,l,rfl,_⟩:=h
  rfl
 ·obtain ⟨L,us,hs,l,rfl,hL,hv,ok,h3,l1,l8,k⟩:=h
  have sc:=qdj
  refine ⟨_,(qao rfl (qaf (qaq (i:=2) sc.nd rfl (Or.inl rfl) (qbb qad))
   (qaf (qcz PassesOwn.never rfl (yeg (qab (pv 0))) (qal (i:=3) sc.nd rfl (Or.inl rfl))
    (qaf (qaq (i:=4) sc.nd rfl (Or.inl rfl) (ybf yaz (qab (pv 3)) (qab qac) (fun _ _=>rfl)))
    (qhi (ybd (ya5 ya8 (ybf yaz (qab (pv 3)) (qab qac) (fun _ _=>rfl)) (ya3 (yar (qab qan) (yar (qab qan) (yar (qab qan) qad)))) (by with_unfolding_all rfl))
     (yag (qaq (i:=4) sc.nd rfl (Or.inl rfl) (ybf yaz (qab (pv 3)) (qab qac) (fun _ _=>rfl))))
     ya0)
    (yag (ybd (ya5 (yha hr) (ya3 (qdr (qbi qfn (qab (pv 4)) (qab (pv 1))) (qdr (qbi yb9 (qab (pv 4)) (qab (pv 1))) qad))) (qab (pv 2)) (by with_unfolding_all rfl))
     (yag (qcb (yg5 PySem.F.plainAttrs_list PySem.F.slot_list_append PySem.F.type_list_append qa5 (qab (pv 2)) (qcn (ya3 (qdr (qbi qfn (qab (pv 4)) (qab (pv 1))) (qdr (qbi yb9 (qab (pv 4)) (qab (pv 1))) qad))) qad))))
     ya0)))))
   (yag (yam (qav qgf rfl (B.of rfl) qbw (qaj (qab (pv 2)) qad))))))),?_⟩
  have z3:3≤sizeLine:=by decide
  have z2:2≤sizeLine:=by decide
  refine ⟨Nat.zero_le _,fun p hp=>?_⟩
  generalize hG1:upd H p _=H1
  have s1:Same H H1:=by rw[← hG1];exact (Same.refl H).upd hp
  have f1:H1 p=some (.lst []):=by rw[← hG1];exact yaa
  clear hG1
  refine ⟨_,rfl,L,rfl,⟨us,SqL.of (s1 _ _ hL)⟩,yc4 (xs:=us) (fun i σ H2=>∃ (o3 o4:Option V) (ts:List TL),σ=[some (.ref L),some (.int l),some (.ref p),o3,o4]∧Same H H2∧H2 p=some (.lst (ya6 ts))∧ts.map (·.2)=yc1 l (hs.take i).reverse∧∀ t∈ts,H2 t.1=some (.tup (t.2.map V.int)))
   ⟨none,none,[],rfl,s1,f1,rfl,(fun _ h=>nomatch h)⟩ (fun i σ H2 _ ⟨_,_,_,_,h,_⟩=>SqL.of (h _ _ hL)) ?_ ?_⟩
  ·rintro i x σ H2 hx ⟨o3,o4,ts,rfl,s2,e2,x2,y2⟩
   obtain ⟨g,hg,hat⟩:=hv.get hx
   obtain ⟨nn,og⟩:=ok g (List.mem_of_getElem? hg)
   obtain ⟨a,rfl,ha⟩:=HAt.same s2 hat
   have tl:ts.length≤3:=by
    have h1:=congrArg List.length x2
    have h2:=qdo l (hs.take i).reverse
    rw[List.length_reverse,List.length_take] at h2
    rw[List.length_map] at h1
    omega
   refine ⟨_,rfl,a,_,_,_,rfl,rfl,SqT.of ha,yah 1 og.at1,?_⟩
   have e0:ydf g=if th3 g.w then g.cell 1 else g.cell 0:=rfl
   refine ⟨fun σ' H3=>σ'=[some (.ref L),some (.int l),some (.ref p),some (.ref a),some (.int (ydf g))]∧Same H2 H3,⟨_,rfl,a,_,_,_,rfl,rfl,SqT.of ha,yah 0 rfl,z3,fun t ht=>?_⟩,?_⟩
   ·have s3:Same H2 (upd H2 t (.tup (([("turns" : Str),"sets","keeps"]).map V.str))):=(Same.refl H2).upd ht
    refine ⟨t,([("turns" : Str),"sets","keeps"]).map V.str,rfl,.inr (SqT.of yaa),rfl,rfl,_,rfl,?_⟩
    cases ht3:th3 g.w with
    | true=>
     rw[ht3,if_pos rfl] at e0
     rw[e0]
     exact iteB ht3 ⟨_,rfl,a,_,_,_,rfl,rfl,SqT.of (s3 _ _ ha),yah 2 (yfp og ht3).1,rfl,s3⟩
    | false=>
     rw[ht3,if_neg Bool.false_ne_true] at e0
     rw[e0]
     exact iteN ht3 ⟨rfl,s3⟩
   rintro σ' H3 ⟨rfl,s3⟩
   have cd:CDiv (ydf g) l:=⟨by omega,by omega⟩
   have l0:0<l:=by omega
   have e3:=s3 _ _ e2
   refine ⟨_,rfl,_,rfl,_,_,rfl,rfl,cd,_,rfl,_,rfl,_,_,rfl,rfl,l0,z2,fun q hq=>?_⟩
   generalize hG4:upd H3 q _=H4
   have s4:Same H3 H4:=by rw[← hG4];exact (Same.refl H3).upd hq
   have f4:H4 q=some (.tup ((brkP l g).map V.int)):=by rw[← hG4];exact yaa
   clear hG4
   have s24:=s3.trans s4
   refine ⟨_,rfl,q,p,brkP l g,ts,rfl,rfl,f4,s4 _ _ e3,fun t ht=>s24 _ _ (y2 t ht),_,rfl,?_⟩
   have hrev:(hs.take (i+1)).reverse=g::(hs.take i).reverse:=by rw[List.take_add_one,hg];simp
   have hu:yc1 l (hs.take (i+1)).reverse=if brkP l g∈ts.map (·.2) then ts.map (·.2) else ts.map (·.2)++[brkP l g]:=by
    rw[hrev,x2];rfl
   by_cases hm:brkP l g∈ts.map (·.2)
   ·rw[if_pos hm] at hu
    refine iteN (by simp[hm]) ⟨_,_,ts,rfl,s2.trans s24,s24 _ _ e2,hu.symm,fun t ht=>s24 _ _ (y2 t ht)⟩
   ·rw[if_neg hm] at hu
    refine iteB (by simp[hm]) ?_
    refine ⟨_,rfl,.inl ⟨rfl,_,SqL.of (s24 _ _ e2)⟩,?_⟩
    refine ⟨_,rfl,_,rfl,_,_,rfl,rfl,cd,_,rfl,_,rfl,_,_,rfl,rfl,l0,z2,fun q2 hq2=>?_⟩
    have s5:Same H4 (upd H4 q2 (.tup ((brkP l g).map V.int))):=(Same.refl H4).upd hq2
    have f5:upd H4 q2 (.tup ((brkP l g).map V.int)) q2=some (.tup ((brkP l g).map V.int)):=yaa
    have s25:=s24.trans s5
    refine ⟨p,_,_,rfl,rfl,s25 _ _ e2,qce (by unfold ya6;rw[List.length_map];omega),?_⟩
    have nq:q2≠p:=fun z=>by rw[z,s24 _ _ e2] at hq2;cases hq2
    refine ⟨_,_,ts++[(q2,brkP l g)],rfl,(s2.trans s25).at hp,?_,?_,fun t ht=>?_⟩
    ·rw[yaa];unfold ya6;rw[List.map_append];rfl
    ·rw[hu,List.map_append];rfl
    ·rcases List.mem_append.mp ht with ht|ht
     ·have ht5:=s25 _ _ (y2 t ht)
      have n1:t.1≠p:=fun z=>by have:=y2 t ht;rw[z,e2] at this;cases this
      rw[yae n1]
      exact ht5
     ·rw[List.mem_singleton.mp ht,yae nq]
      exact f5
  ·rintro σ H2 ⟨o3,o4,ts,rfl,s2,e2,x2,y2⟩
   rw[hv.len,List.take_length] at x2
   have mem:∀ k,k∈ts.map (·.2)↔k∈hs.map (brkP l):=fun k=>by
    rw[x2,qde,List.map_reverse,List.mem_reverse]
   have oks:∀ u∈ts,u.2.length=2∧Sml u.2:=fun u hu=>by
    obtain ⟨h,hh,e⟩:=List.mem_map.mp ((mem u.2).mp (List.mem_map_of_mem hu))
    obtain ⟨nn,oh⟩:=ok h hh
    rw[← e]
    exact qfh oh l1 l8
   have tl:ts.length≤3:=by
    have h1:=congrArg List.length x2
    have h2:=qdo l hs.reverse
    rw[List.length_reverse] at h2
    rw[List.length_map] at h1
    omega
   refine ⟨_,rfl,p,ts,1,rfl,e2,y2,oks,by omega,fun q ts' hq pm ri=>?_⟩
   have s5:=(Same.refl H2).upd (o:=.lst (ya6 ts')) hq
   refine k q ts' _ (s2.trans s5) (s2.free hq) yaa (fun t ht=>⟨s5 _ _ (y2 t (pm.mem_iff.mp ht)),(oks t (pm.mem_iff.mp ht)).1⟩) ⟨?_,fun k=>?_,?_⟩
   ·exact (pm.map (·.2)).nodup_iff.mpr (x2 ▸ qc8 l _)
   ·exact ((pm.map (·.2)).mem_iff).trans (mem k)
   ·exact List.pairwise_map.mpr ri
end
theorem HsV.data {H:Hp}:∀ {us:List V}{hs:List Hm},HsV H us hs→Oks hs→AtAll H us (hs.map hD)
 | [],[],_,_=>.nil
 | [],_::_,x,_=>by have:=x.len;simp at this
 | _::_,[],x,_=>by have:=x.len;simp at this
 | u::us,h::hs,x,ok=>by
  obtain ⟨a,rfl,ha⟩:=x.at_ 0 u h rfl rfl
  obtain ⟨ns,o⟩:=ok h (List.mem_cons_self ..)
  refine .cons (.tup ha (qf8 o.fl.1)) (HsV.data ⟨by have:=x.len;simpa using this,fun i v g h1 h2=>x.at_ (i+1) v g (by simpa using h1) (by simpa using h2)⟩ fun g hg=>ok g (List.mem_cons_of_mem _ hg))
theorem qgr {hs:List Hm} (ok:Oks hs):PyData.canLay0 (.list (hs.map hD))=true:=by
 show PyData.canLayAll0 _=true
 induction hs with
 | nil=>rfl
 | cons h hs ih=>
  obtain ⟨ns,o⟩:=ok h (List.mem_cons_self ..)
  show (PyData.canLay0 (hD h)&&_)=true
  rw[ih fun g hg=>ok g (List.mem_cons_of_mem _ hg),Bool.and_true]
  exact o.fl.2
theorem hs_depth {hs:List Hm} (ok:Oks hs):(PyData.list (hs.map hD)).depth≤10:=by
 have:=qdk (n:=3) (xs:=hs.map hD) fun x hx=>by
  obtain ⟨h,hh,rfl⟩:=List.mem_map.mp hx
  obtain ⟨ns,o⟩:=ok h hh
  have:=qdg o.fl.1
  simp only[hD,PyData.depth]
  omega
 simp only[PyData.depth]
 omega
theorem depTs' (ks:List (List Int)):(PyData.list (tupD ks)).depth≤60:=by
 have:=depTs ks
 simp only[PyData.depth]
 omega
section
variable {P:Program}{w:World}{K:PySem.W.Frag}{mg:Str→Option Value}{base:Heap}
def qes:Sp:=fun vs H Q _=>∃ L us hs S l,vs=[.ref L,.int l]∧H L=some (.lst us)∧HsV H us hs∧okHs hs S∧1≤l∧l≤8∧∀ H',Same H H'→Q (.bl true) H'
abbrev qbe:Stmt:=top 31
theorem qck:FnScope ["_law_harms_here","_law_lines","_law_handed","_law_turn","_law_found","_law_one"] ["_law_harms_here","_law_lines"] (yab qbe):=⟨rfl,rfl,rfl,by decide +kernel,rfl,by decide +kernel,by decide +kernel⟩
theorem yhg {C:Addr} (B:Bl mg) (ycb:HasX P w K mg base 7 "broken_of" ["harms","lines"] (ybw C)) (ygf:Has P w K mg base 1 "_law_due" ["_law_harms_here","_law_lines"] qgt) (F:FnAt K mg "_law_right" qbe ["_law_harms_here","_law_lines"]):Has P w K mg base 8 "_law_right" ["_law_harms_here","_law_lines"] qes:=by
 refine Has.ofQ F qck (fun vs H Q E h=>?_) (fun f cdv A outer s H vs Q E hr h=>?_)
 ·obtain ⟨L,us,hs,S,l,rfl,_⟩:=h
  rfl
 ·obtain ⟨L,us,hs,S,l,rfl,hL,hv,ok,l1,l8,k⟩:=h
  have sc:=qck
  refine ⟨_,(qao rfl (qaf (qaq (i:=2) sc.nd rfl (Or.inl rfl) (qbu qfb rfl (B.of rfl) boot_list (qaj (qab (pv 0)) qad)))
   (qaf (qcz PassesOwn.never rfl (qi_of (ye9 rfl (B.of rfl) (qaa qac yac))) (qal (i:=3) sc.nd rfl (Or.inl rfl))
    (qaf (qaq (i:=4) sc.nd rfl (Or.inl rfl) (qab (yfz ycb passX0 hr (qaa (pv 2) (qaa (pv 1) yac)))))
    (qaf (ybd (QW.pt (yga (qdb (qbo (qav qap rfl (B.of rfl) boot_isinstance (qaj (qab (pv 4)) (qaj (qab (qas (v:=.ty "list") rfl (B.of rfl) boot_list rfl)) qad))))) (yga (ya5 (op_neD hr) (qab (pv 4)) (yaw ygf hr (qaj (qab (pv 0)) (qaj (qab (pv 1)) qad))) (yap _)) (yf2 (ya5 (op_neD hr) (qab (pv 2)) (qab (pv 0)) (yap _))))))
     (yag (yam (qab qd4)))
     ya0)
    (qaf (qcz PassesOwn.never rfl (yeg (qab (pv 4))) (qal (i:=5) sc.nd rfl (Or.inl rfl))
     (yag (ybd (QW.pt (yga (qdb (qbo (qav qap rfl (B.of rfl) boot_isinstance (qaj (qab (pv 5)) (qaj (qab (qas (v:=.ty "tuple") rfl (B.of rfl) boot_tuple rfl)) qad))))) (yga (qbo (qav qap rfl (B.of rfl) boot_isinstance (yfi (ybf yaz (qab (pv 5)) (qab qac) (fun _ _=>rfl)) (qaj (qab (qas (v:=.ty "bool") rfl (B.of rfl) boot_bool rfl)) qad)))) (yf2 (qbo (qav qap rfl (B.of rfl) boot_isinstance (yfi (ybf yaz (qab (pv 5)) (qab qac) (fun _ _=>rfl)) (qaj (qab (qas (v:=.ty "bool") rfl (B.of rfl) boot_bool rfl)) qad))))))))
      (yag (yam (qab qd4)))
      ya0)))
    (yag (qcb (yg5 PySem.F.plainAttrs_list PySem.F.slot_list_append PySem.F.type_list_append qa5 (qab (pv 4)) (qcn (ya3 (yar (qab qac) (yar (qab qac) qad))) qad))))))))
   (yag (yam (qab qd4)))))),?_⟩
  refine ⟨_,rfl,L,us,rfl,.inl (SqL.of hL),fun M hM=>?_⟩
  generalize hG1:upd H M _=H1
  have s1:Same H H1:=by rw[← hG1];exact (Same.refl H).upd hM
  have f1:H1 M=some (.lst us):=by rw[← hG1];exact yaa
  clear hG1
  refine gn ?_
  dsimp only
  refine ⟨2,rfl,by decide,by decide,yew (n:=2) (fun i σ H2=>∃ (o3 o4 o5:Option V),σ=[some (.ref L),some (.int l),some (.ref M),o3,o4,o5]∧Same H1 H2) ⟨none,none,none,rfl,Same.refl H1⟩ ?_ ?_⟩
  rotate_left
  ·rintro σ H2 ⟨o3,o4,o5,rfl,s2⟩
   exact k _ (s1.trans s2)
  rintro i σ H2 hi ⟨o3,o4,o5,rfl,s2⟩
  have s02:=s1.trans s2
  refine ⟨_,rfl,_,rfl,.ref M,l,rfl,l1,l8,.inl ⟨M,us,hs,S,rfl,s2 _ _ f1,hv.same s02,ok,fun D ts H3 s3 nD eD hT due t3=>?_⟩⟩
  refine gn ?_
  dsimp only
  refine ⟨_,rfl,_,_,_,_,rfl,.lst eD,rfl,_,rfl,iteN rfl ?_⟩
  refine ⟨_,rfl,_,rfl,_,rfl,L,us,hs,l,rfl,(s02.trans s3) _ _ hL,hv.same (s02.trans s3),ok.ok,ok.len,l1,l8,fun D2 ts2 H4 s4 nD2 eD2 hT2 due2=>?_⟩
  have ek:ts2.map (·.2)=ts.map (·.2):=Due.eq ok.ok l1 l8 due2 due
  have s34:=s02.trans (s3.trans s4)
  refine ⟨_,_,.lst (s4 _ _ eD) (atTs fun t ht=>s4 _ _ (hT t ht).1),.lst eD2 (atTs fun t ht=>(hT2 t ht).1),layTs _,layTs _,depTs' _,_,rfl,iteN (by rw[ek];show (!PyData.eqvAll _ _)=false;rw[eqTs];simp) ?_⟩
  refine ⟨_,rfl,_,rfl,_,_,.lst ((s2.trans (s3.trans s4)) _ _ f1) ((hv.same s34).data ok.ok),.lst (s34 _ _ hL) ((hv.same s34).data ok.ok),qgr ok.ok,qgr ok.ok,Nat.le_trans (hs_depth ok.ok) (by decide),_,rfl,iteN (by rw[SeqAt.eqv_refl _ (qgr ok.ok)];rfl) ?_⟩
  have eD4:=s4 _ _ eD
  refine ⟨_,rfl,D,rfl,⟨_,SqL.of eD4⟩,yc4 (xs:=ya6 ts) (fun j σ H'=>∃ (o5:Option V),σ=[some (.ref L),some (.int l),some (.ref M),some (.int (0+(i:Int))),some (.ref D),o5]∧Same H4 H') ⟨o5,rfl,Same.refl H4⟩ (fun j σ H' _ ⟨_,_,h⟩=>SqL.of (h _ _ eD4)) ?_ ?_⟩
  ·rintro j x σ H5 hx ⟨o5,rfl,s5⟩
   unfold ya6 at hx
   obtain ⟨t,ht,rfl⟩:=yce hx
   obtain ⟨a1,a2⟩:=hT t (List.mem_of_getElem? ht)
   have a5:=(s4.trans s5) _ _ a1
   obtain ⟨x0,x1,e2⟩:∃ x0 x1,t.2=[x0,x1]:=by
    match h:t.2,a2 with
    | [x0,x1],_=>exact ⟨x0,x1,rfl⟩
   rw[e2] at a5
   refine ⟨_,rfl,_,_,_,_,rfl,.tup a5,rfl,_,rfl,iteN rfl ?_⟩
   refine ⟨_,rfl,t.1,_,_,_,rfl,rfl,SqT.of a5,yah 0 rfl,_,_,_,_,rfl,.int x0,rfl,_,rfl,iteN rfl ?_⟩
   refine ⟨_,rfl,t.1,_,_,_,rfl,rfl,SqT.of a5,yah 1 rfl,_,_,_,_,rfl,.int x1,rfl,_,rfl,iteN rfl ?_⟩
   exact ⟨_,rfl,s5⟩
  ·rintro σ H5 ⟨o5,rfl,s5⟩
   refine ⟨_,rfl,.inl ⟨rfl,_,SqL.of (s5 _ _ eD4)⟩,?_⟩
   refine ⟨(by show 2≤sizeLine;decide),fun q hq=>?_⟩
   have s6:=s5.upd (o:=.tup [.int 0,.int 0]) hq
   have s46:=s3.trans (s4.trans s6)
   refine ⟨D,_,_,rfl,rfl,s6 _ _ eD4,qce (by unfold ya6;rw[List.length_map];omega),?_⟩
   exact ⟨_,_,_,rfl,s2.trans (s46.at nD)⟩
end
theorem boot_VE:bootBuiltins "ValueError" = some (.type "ValueError"):=by decide +kernel
theorem dig_drop {ds a b:List Int} (h:Dig ds (a++b)):Dig (ds.drop a.length) b:=by
 obtain ⟨h1,h2⟩:=h
 rw[List.length_append] at h1
 refine ⟨by rw[List.length_drop];omega,fun i d z g1 g2=>?_⟩
 rw[List.getElem?_drop] at g1
 exact h2 (a.length+i) d z g1 (by rw[List.getElem?_append_right (by omega)];simpa using g2)
def dgR:List Int:=[8,64]++dg16
theorem ygq {H:Hp}:∀ {us:List V}{zs:List Int},AtAll H us (zs.map PyData.int)→us=zs.map V.int
 | [],[],.nil=>rfl
 | u::us,z::zs,.cons a r=>by rw[ygq r,a.intEq];rfl
theorem ygn {H:Hp}{v:V}{zs:List Int} (h:At H v (.list (zs.map PyData.int))):∃ a,v=.ref a∧H a=some (.lst (zs.map V.int)):=by
 obtain ⟨a,us,rfl,ha,hu⟩:=h.lstEq
 exact ⟨a,rfl,by rw[ha,ygq hu]⟩
theorem lay_for1 {K:PySem.W.Frag}{te:TE}{σ:L2.St}{d:PyData}{H:Hp}{g:TG}{tb:TS}{D:Ends} (h:Lay [] te σ d H) (k:∀ v H',Same H H'→At H' v d→tFor (iList K (tC v)) g tb D σ H'):tFor (iList K te) g tb D σ H:=
 h (fun b hb=>by cases hb) H (Same.refl H) _ fun v H' s a=>k v H' s (a.same (yau _ _))
theorem next_go {D:Ends}{σ:L2.St}{H:Hp} (h:D.nx σ H):tNext D σ H:=h
structure KX3 (K:PySem.W.Frag) (c0 c1 c2 cM:Addr):Prop where
 ty:XTy K c0
 o0:PySem.W.kitOne K (.ref c0) (.ref c0)=some true
 o1:PySem.W.kitOne K (.ref c0) (.ref c1)=some false
 o2:PySem.W.kitOne K (.ref c0) (.ref c2)=some false
 ve:PySem.W.kitOne K (.ref c0) (.type "ValueError")=some true
 em:PySem.W.exmOne K (.ref c0) (.ref cM)=some true
theorem KX3.any {K:PySem.W.Frag}{c0 c1 c2 cM:Addr} (kx:KX3 K c0 c1 c2 cM):PySem.W.kitAny K (.ref c0) ([c1,c2].map Value.ref)=some false:=by
 show (match PySem.W.kitOne K (.ref c0) (.ref c1) with|some true=>some true|some false=>PySem.W.kitAny K (.ref c0) ([c2].map Value.ref)|none=>none)=_
 rw[kx.o1]
 show (match PySem.W.kitOne K (.ref c0) (.ref c2) with|some true=>some true|some false=>PySem.W.kitAny K (.ref c0) []|none=>none)=_
 rw[kx.o2]
 rfl
section
variable {P:Program}{w:World}{K:PySem.W.Frag}{mg:Str→Option Value}{base:Heap}
abbrev yb5:Stmt:=inClass (top 2) 0
theorem qe6:FnScope ["self","number"] ["self","number"] (yab yb5):=⟨rfl,rfl,rfl,by decide +kernel,rfl,by decide +kernel,by decide +kernel⟩
theorem qhh {f C:Addr}{fd:FuncData} (F:Fun K "__init__" "NoHarms.__init__" yb5 f fd) (c:XOk K C) (n1:NoF K C "number"):FnOk P w K mg base CX0 1 f fd ["self","number"] (sp_x1 C "number"):=by
 refine F.ok qe6 (fun vs H Q E h=>?_) (fun cdv A outer s H vs Q E hr h=>?_)
 ·obtain ⟨a,v,rfl,_⟩:=h
  rfl
 ·obtain ⟨a,v,rfl,hx,k⟩:=h
  have sc:=qe6
  refine ⟨_,(qai (ps_xfld (pv 0) (pv 1))),?_⟩
  exact ⟨_,rfl,_,rfl,a,C,none,[],rfl,hx,c,n1,by decide,fun d H1 x1 s1=>k d H1 x1 s1⟩
def qc9:Sp:=fun vs H Q _=>∃ v d b,vs=[v]∧AtX H v d∧yan d=some b∧∀ H',Same H H'→Q (.bl true) H'
abbrev qa3:Stmt:=top 32
theorem qbz:FnScope ["_law_thing","_law_kept","e"] ["_law_thing"] (yab qa3):=⟨rfl,rfl,rfl,by decide +kernel,rfl,by decide +kernel,by decide +kernel⟩
theorem yfq {c0 c1 c2 cM:Addr} (B:Bl mg) (hVE:mg "ValueError" = none) (gm:mg "MarchError" = some (.ref cM)) (g0:mg "NoHarms" = some (.ref c0)) (g1:mg "NoMemory" = some (.ref c1)) (g2:mg "NoSpares" = some (.ref c2)) (kx:KX3 K c0 c1 c2 cM)
  (ycb:HasX P w K mg base 7 "broken_of" ["harms","lines"] (ybw c0)) (F:FnAt K mg "_law_refused" qa3 ["_law_thing"]):Has P w K mg base 8 "_law_refused" ["_law_thing"] qc9:=by
 refine Has.ofQ F qbz (fun vs H Q E h=>?_) (fun f cdv A outer s H vs Q E hr h=>?_)
 ·obtain ⟨v,d,b,rfl,_⟩:=h
  rfl
 ·obtain ⟨v,d,b,rfl,hv,hb,k⟩:=h
  have sc:=qbz
  refine ⟨_,(qao rfl (qaf (qaq (i:=1) sc.nd rfl (Or.inl rfl) (qab yg1))
   (qaf (qs_of (ps_try (iy:=1) (jn:=2) (fun _ _ z=>z) rfl rfl (psx_expr (pex_call (fun _ _ z=>z) ycb hr (qaa (pv 0) (qaa qac yac)))) sc.nd rfl rfl rfl (Or.inl rfl) (by decide) rfl gm))
   (yag (yam (qab (qay (qag yej rfl (B.of rfl) boot_isinstance (qaa (pv 1) (qaa (qa8 (v:=.ref c0) rfl g0 rfl) yac))) (qay (qag yej rfl (B.of rfl) boot_isinstance (qaa (pv 1) (qaa (qas (v:=.ty "ValueError") rfl hVE boot_VE rfl) yac))) (ybg (yhb (qag qgk rfl (B.of rfl) boot_isinstance (qaa (pv 1) (qaa (qem (qaa (qa8 (v:=.ref c1) rfl g1 rfl) (qaa (qa8 (v:=.ref c2) rfl g2 rfl) yac))) yac))))))))))))),?_⟩
  refine ⟨_,rfl,v,4,rfl,by decide,by decide,.inr ⟨d,b,hv,hb,fun a H1 s1 xa=>⟨a,rfl,a,c0,_,rfl,xa,kx.em,?_⟩⟩⟩
  refine ⟨_,rfl,a,c0,_,.ref c0,_,rfl,.inl ⟨_,rfl⟩,xa,kx.ty,kx.o0,_,rfl,iteT ?_⟩
  refine ⟨_,rfl,a,c0,_,.ty "ValueError",_,rfl,.inr ⟨_,rfl⟩,xa,kx.ty,kx.ve,_,rfl,iteT ?_⟩
  refine ⟨_,rfl,(by show 2≤sizeLine;decide),fun tp ht=>?_⟩
  have s2:Same H1 (upd H1 tp (.tup ([c1,c2].map V.ref))):=(Same.refl H1).upd ht
  refine ⟨a,c0,_,tp,[c1,c2],false,rfl,yaa,XAt.same s2 xa,kx.ty,kx.any,_,rfl,?_⟩
  exact k _ (s1.trans s2)
def thgs (ds:List PyData):List PyData:=[.none,.tuple ds,.list (ds++[.tuple [.str "none",.int 0]]),.list [.tuple [.str "stuck",.int 0,.bool true]],.str "stuck"]
theorem thgs_bad {hs:List Hm}:∀ d∈thgs (hs.map hmD),∃ b,yan d=some b:=by
 intro d hd
 simp only[thgs,List.mem_cons,List.not_mem_nil,or_false] at hd
 have c:∀ d:PyData,(yan d).isSome=true→∃ b,yan d=some b:=fun d h=>Option.isSome_iff_exists.mp h
 rcases hd with rfl|rfl|rfl|rfl|rfl
 ·exact c _ (by decide +kernel)
 ·exact c _ rfl
 ·refine c _ ?_
  cases hb:yan (.list (hs.map hmD++[.tuple [.str "none",.int 0]])) with
  | some b=>rfl
  | none=>
   have h':(if 3<(hs.map hmD++[PyData.tuple [.str "none",.int 0]]).length then some none else ((List.range (hs.map hmD++[PyData.tuple [.str "none",.int 0]]).length).find? (qcq (hs.map hmD++[PyData.tuple [.str "none",.int 0]]))).map some)=none:=hb
   split at h'
   ·cases h'
   ·rw[Option.map_eq_none_iff,List.find?_range_eq_none] at h'
    have:=h' hs.length (by simp)
    unfold qcq at this
    rw[List.getD_eq_getElem?_getD,List.getElem?_append_right (by simp)] at this
    simp at this
    exact absurd this.1 (by decide +kernel)
 ·exact c _ (by decide +kernel)
 ·exact c _ (by decide +kernel)
def yf5 (K:PySem.W.Frag):Sp:=fun vs H Q _=>∃ (a:Addr) (ns:List Int),vs=[.ref a]∧SqL K H a (ns.map V.int)∧ns.length≤63∧∀ H',Q (.bl true) H'
abbrev yd2:Stmt:=top 33
theorem sc_law:FnScope ["_law_script","_law_turn","_law_cell","_law_d","_law_harms_here","_law_thing"] ["_law_script"] (yab yd2):=⟨rfl,rfl,rfl,by decide +kernel,rfl,by decide +kernel,by decide +kernel⟩
theorem ok_law (B:Bl mg) (yec:Has P w K mg base 1 "_law_digits" ["_law_cell","_law_turn","_law_sizes"] yeu) (ye6:Has P w K mg base 2 "_law_harms" ["_law_d","_law_size"] qe7) (qcy:Has P w K mg base 8 "_law_right" ["_law_harms_here","_law_lines"] qes) (ydr:Has P w K mg base 8 "_law_refused" ["_law_thing"] qc9)
  {f:Addr}{fd:FuncData} (F:Fun K "law" "law" yd2 f fd):FnOk P w K mg base CX0 9 f fd ["_law_script"] (yf5 K):=by
 refine Mx.Fun.okQ F sc_law (fun vs H Q E h=>?_) (fun cdv A outer s H vs Q E hr h=>?_)
 ·obtain ⟨a,ns,rfl,_⟩:=h
  rfl
 ·obtain ⟨a,ns,rfl,hS,hnl,k⟩:=h
  have sc:=sc_law
  refine ⟨_,(qao rfl (qaf (qcz PassesOwn.never rfl (qi_of (qej rfl (B.of rfl) (qaa (qb5 yfk (qbg op_catS (pv 0) (qf6 (qaa qac yac))) ycq (qbs qac)) yac))) (yem rfl (yao (qal (i:=1) sc.nd rfl (Or.inl rfl)) (yao (qal (i:=2) sc.nd rfl (Or.inl rfl)) ybt)))
    (qaf (qaq (i:=3) sc.nd rfl (Or.inl rfl) (yaw yec hr (qaj (qab (pv 2)) (qaj (qab (pv 1)) (qdr (qbi qek (qbi qek (qbb (yar (qab qac) (yar (qab qac) qad))) (qbb (yar (qab qac) qad))) (qbi op_rep (qbb (yar (qab qac) (yar (qab qac) (yar (qab qac) (yar (qab qac) (yar (qab qac) qad)))))) (qab qac))) qad)))))
    (qaf (qaq (i:=4) sc.nd rfl (Or.inl rfl) (yaw ye6 hr (yfi (qe_sl yfk (qab (pv 3)) (qbs qac) ycq) (qdr (qbi qbr (qab qac) (ybf qa9 (qab (pv 3)) (qab qac) (fun _ _=>rfl))) qad))))
    (qaf (ybd (QW.pt (yga (qdb (qbo (yaw qcy hr (qaj (qab (pv 4)) (qdr (qbi qbr (qab qac) (ybf qa9 (qab (pv 3)) (qab qac) (fun _ _=>rfl))) qad))))) (yf2 (qdb (qbo (yaw qcy hr (qa_ls (qbb qad) (qdr (qbi qbr (qab qac) (ybf qa9 (qab (pv 3)) (qab qac) (fun _ _=>rfl))) qad))))))))
     (yag (yam (qab qd4)))
     ya0)
    (yag (qcz PassesOwn.never rfl (yeg (qbb (yar (qab yg1) (ygc (qbu qeb rfl (B.of rfl) boot_tuple (qaj (qab (pv 4)) qad)) (qdr (qbi qek (qab (pv 4)) (qbb (qcn (ya3 (yar (qab qan) (yar (qab qac) qad))) qad))) (qa_ls (qbb (qcn (ya3 (yar (qab qan) (yar (qab qac) (yar (qab qd4) qad)))) qad)) (yar (qab qan) qad))))))) (qal (i:=5) sc.nd rfl (Or.inl rfl))
     (yag (ybd (qdb (qbo (yaw ydr hr (qaj (qab (pv 5)) qad))))
      (yag (yam (qab qd4)))
      ya0))))))))
   (yag (yam (qab qd4))))),?_⟩
  have z1:1≤sizeLine:=by decide
  refine ⟨_,rfl,z1,fun c1 h1=>?_⟩
  generalize hG1:upd H c1 _=H1
  have s1:Same H H1:=by rw[← hG1];exact (Same.refl H).upd h1
  have f1:H1 c1=some (.lst [.int 5]):=by rw[← hG1];exact yaa
  have hsl:(sizeLine:Nat)=16777216:=sizeLine_eq
  refine ⟨a,c1,_,_,rfl,rfl,s1.seq hS,SqL.of f1,by rw[List.length_map];simp;omega,fun c3 h3=>?_⟩
  generalize hG3:upd H1 c3 _=H3
  have f3:H3 c3=some (.lst ((ns++[5]).map V.int)):=by rw[← hG3];refine yaa.trans ?_;rw[List.map_append];rfl
  refine ⟨40,rfl,c3,_,rfl,SqL.of f3,fun c4 h4=>?_⟩
  generalize hG4:upd H3 c4 _=H4
  have f4:H4 c4=some (.lst (((ns++[5]).take 40).map V.int)):=by rw[← hG4,yaa,show (40:Int)=((40:Nat):Int) from rfl,cut_take,List.map_take]
  clear hG4 hG3 hG1
  generalize hcs:(ns++[5]).take 40=cs at f4
  have c40:cs.length≤40:=by rw[← hcs,List.length_take];omega
  refine ⟨c4,_,rfl,SqL.of f4,qc4 (xs:=cs.map V.int) (fun i σ H'=>∃ (o1 o2 o3 o4 o5:Option V),σ=[some (.ref a),o1,o2,o3,o4,o5]∧Same H4 H') ⟨_,_,_,_,_,rfl,Same.refl _⟩ (fun i σ H' _ ⟨_,_,_,_,_,_,s⟩=>SqL.of (s _ _ f4)) ?_ (fun σ H' _=>k _)⟩
  rintro i x pp σ H5 hx ⟨o1,o2,o3,o4,o5,rfl,s5⟩ hpp
  obtain ⟨c,hc,rfl⟩:=qgp hx
  have hi:i<cs.length:=(List.getElem?_eq_some_iff.mp hc).1
  refine ⟨pp,_,rfl,SqT.of yaa,rfl,_,_,rfl,_,_,rfl,rfl,?_⟩
  have s6:=s5.upd (o:=.tup [V.int i,.int c]) hpp
  -- the digits
  refine ⟨_,rfl,_,rfl,lay_go (L:=[]) (d:=.list (dgR.map PyData.int)) ?_ (fun b hb=>by cases hb) fun vz H7 s7 a7=>?_⟩
  ·have:(dgR.map PyData.int)=([8,64]:List Int).map PyData.int++([4]:List Int).map PyData.int++(List.replicate 3 (([20,64,64,2,2]:List Int).map PyData.int)).flatten:=rfl
   rw[this]
   refine qfu (qfu (qb0 ?_) (qb0 ?_) (by decide)) (lay_rep (n:=3) (qb0 ?_) (by decide) (by decide)) (by decide)
   all_goals repeat' (first|exact yc6|exact ybo|refine yak ?_ ?_)
  obtain ⟨pz,rfl,hz⟩:=ygn (a7.same (yau _ _))
  refine ⟨c,i,pz,dgR,rfl,hz,by decide,by decide,by omega,by omega,fun dp ds H8 s8 ndp hdp hD=>?_⟩
  have s48:=s6.trans (s7.trans s8)
  obtain ⟨e0,g0,b0,b0'⟩:=hD.get (i:=0) (z:=8) rfl
  obtain ⟨e1,g1,b1,b1'⟩:=hD.get (i:=1) (z:=64) rfl
  have hD16:Dig (ds.drop 2) dg16:=dig_drop (a:=[8,64]) (b:=dg16) hD
  refine gn ?_
  dsimp only
  refine ⟨_,rfl,2,rfl,dp,_,rfl,SqL.of hdp,fun q1 w1=>?_⟩
  rw[show (2:Int)=((2:Nat):Int) from rfl,qef,← List.map_drop]
  generalize hG9:upd H8 q1 _=H9
  have s9:Same H8 H9:=by rw[← hG9];exact (Same.refl H8).upd w1
  have f9:H9 q1=some (.lst ((ds.drop 2).map V.int)):=by rw[← hG9];exact yaa
  clear hG9
  refine ⟨_,rfl,dp,_,_,_,rfl,rfl,SqL.of (s9 _ _ hdp),yah 1 (qec g1),_,_,rfl,rfl,q1,_,1+e1,rfl,f9,hD16,by omega,by omega,fun L us hs S H10 s10 nL hL hv ok hgood=>?_⟩
  refine gn ?_
  dsimp only
  have hdp10:=(s9.trans s10) _ _ hdp
  refine ⟨_,rfl,_,rfl,dp,_,_,_,rfl,rfl,SqL.of hdp10,yah 0 (qec g0),_,_,rfl,rfl,L,us,hs,S,1+e0,rfl,hL,hv,ok,by omega,by omega,fun H11 s11=>⟨_,rfl,iteN rfl ?_⟩⟩
  refine ⟨Nat.zero_le _,fun em hem=>?_⟩
  have s12:Same H11 (upd H11 em (.lst [])):=(Same.refl H11).upd hem
  have f12:upd H11 em (.lst []) em=some (.lst []):=yaa
  revert s12 f12
  generalize upd H11 em (.lst [])=H12
  intro s12 f12
  refine ⟨_,rfl,dp,_,_,_,rfl,rfl,SqL.of ((s11.trans s12) _ _ hdp10),yah 0 (qec g0),_,_,rfl,rfl,em,[],[],[],1+e0,rfl,f12,⟨rfl,fun i v h a b=>by simp at a⟩,⟨by simp,(fun _ h=>nomatch h),by simp,(fun _ h=>nomatch h)⟩,by omega,by omega,fun H13 s13=>⟨_,rfl,iteN rfl ?_⟩⟩
  have s1013:=s11.trans (s12.trans s13)
  obtain ⟨hg0,hb0,_⟩:=qgq (s1013 _ _ hL) (hv.same s1013) ok
  have s413:=s48.trans (s9.trans (s10.trans s1013))
  refine next_go ?_
  dsimp only
  refine lay_for1 (d:=.list (thgs (hs.map hmD))) ?_ fun v H14 s14 a14=>?_
  ·have hl:=ok.len
   have hid:At (yb7 H13 []) (.ref L) (.list (hs.map hmD)):=by
    refine hg0.same fun b o e=>?_
    rw[ydp (by simp)]
    exact e
   refine qb0 (yak qfp (yak (qhx (ycu rfl hid)) (yak (qfu (ycu rfl hid) (qb0 (yak (ydc (yak qct (yak yc6 ybo))) ybo)) (by rw[List.length_map];simp;omega)) (yak (qb0 (yak (ydc (yak qct (yak yc6 (yak yg9 ybo)))) ybo)) (yak qct ybo)))))
  obtain ⟨la,wa,rfl,hla,hwa⟩:=a14.lstEq
  refine ⟨la,rfl,⟨_,SqL.of hla⟩,yc4 (xs:=wa) (fun j σ H'=>∃ q5:Option V,σ=[some (.ref a),some (.int i),some (.int c),some (.ref dp),some (.ref L),q5]∧Same H14 H') ⟨o5,rfl,Same.refl H14⟩ (fun j σ H' _ ⟨_,_,s⟩=>SqL.of (s _ _ hla)) ?_ ?_⟩
  ·rintro j y σ H15 hy ⟨q5,rfl,s15⟩
   obtain ⟨dd,hd,hax⟩:=hwa.get hy
   obtain ⟨b,hb⟩:=thgs_bad dd (List.mem_of_getElem? hd)
   refine ⟨_,rfl,y,dd,b,rfl,.inl (hax.same s15),hb,fun H16 s16=>⟨_,rfl,iteN rfl ?_⟩⟩
   exact ⟨_,rfl,s15.trans s16⟩
  ·rintro σ H15 ⟨q5,rfl,s15⟩
   exact ⟨_,_,_,_,_,rfl,s413.trans (s14.trans s15)⟩
end
end Mh
namespace Mh
open PySem L2 PyProof.Rows
open Mx
theorem yca {K:PySem.W.Frag}{a:Addr}{xs:List V}{od:Option Addr}{its:Array Value}{n:Nat}{sl:Array (Option Value)} (h2:K.lookup a=some ⟨.type "tuple",od,.seq its n,sl⟩) (z:its.size≤sizeLine) (r:Vals xs its.toList):∀ H,SqT K H a xs:=
 fun H=>.inr ⟨_,its,n,h2,rfl,rfl,z,r⟩
def xcO (o:Obj) (C:Addr):Option (List Value):=match o with
 | ⟨.type "type",_,.cls cd,sl⟩=>(match cd.mro,sl.toList with
  | .ref D::bm,[_,_,_,_,some (.builtin n),_]=>if (D == C&&n == "ValueError.__new__" && !cd.hasDel&&cd.hasDict)=true then some bm else none
  | _,_=>none)
 | _=>none
theorem qhf {o:Obj}{C:Addr}{bm:List Value} (q:xcO o C=some bm):∃ od cd sl k0 k1 k2 k3 k5,o=⟨.type "type",od,.cls cd,sl⟩∧cd.mro=.ref C::bm∧sl.toList=[k0,k1,k2,k3,some (.builtin "ValueError.__new__"),k5]∧cd.hasDel=false∧cd.hasDict=true:=by
 unfold xcO at q
 split at q
 ·rename_i od cd sl
  split at q
  ·rename_i D bm' n k0 k1 k2 k3 n' k5 h1 h2
   split at q
   ·rename_i h3
    cases q
    simp only[Bool.and_eq_true,beq_iff_eq,Bool.not_eq_true'] at h3
    obtain ⟨⟨⟨rfl,rfl⟩,h5⟩,h6⟩:=h3
    exact ⟨od,cd,sl,_,_,_,_,_,rfl,h1,h2,h5,h6⟩
   ·cases q
  ·cases q
 ·cases q
theorem yfm {K:PySem.W.Frag}{o:Obj}{C:Addr}{bm:List Value} (l:K.lookup C=some o) (q:xcO o C=some bm) (e:PySem.W.excIn K C bmV "ValueError.__new__" = true):PySem.W.tailIn K bmV bm=true:=by
 obtain ⟨od,cd,sl,k0,k1,k2,k3,k5,rfl,h1,h2,h5,h6⟩:=qhf q
 unfold PySem.W.excIn at e
 rw[l] at e
 simp only[h1,h2,Bool.and_eq_true] at e
 exact e.1.1.2
theorem xclsB_of {K:PySem.W.Frag}{o:Obj}{C:Addr}{bm:List Value} (l:K.lookup C=some o) (q:xcO o C=some bm) (t:PySem.W.tailIn K bmV bm=true):qc0 K C=true:=by
 obtain ⟨od,cd,sl,k0,k1,k2,k3,k5,rfl,h1,h2,h5,h6⟩:=qhf q
 unfold qc0
 rw[l]
 simp only[h1,h2,h5,h6,t]
 simp
theorem xok_of {K:PySem.W.Frag}{o:Obj}{C:Addr}{bm:List Value} (l:K.lookup C=some o) (q:xcO o C=some bm) (t:PySem.W.tailIn K bmV bm=true) (ga:PySem.W.findIn K (.ref C) "__getattribute__" = some (some (.builtin "BaseException.__getattribute__"))) (gh:PySem.W.findIn K (.ref C) "__getattr__" = some none)
  (ha:PySem.W.findIn K (.ref C) "__class__" = some (some (.builtin "object.__class__"))) (hn:PySem.W.specialIn K (.builtin "object.__class__") "__get__" = some (some (.builtin "getset_descriptor.__get__"))) (tk:PySem.W.takesIn K (.builtin "object.__class__")=some true) (hm:PySem.W.mroIn K C (.type "object")=some true)
  (sa:PySem.W.findIn K (.ref C) "__setattr__" = some (some (.builtin "object.__setattr__"))):XOk K C:=by
 refine ⟨⟨xclsB_of l q t,ga,gh,?_,ha,hn,tk,hm⟩,sa⟩
 obtain ⟨od,cd,sl,k0,k1,k2,k3,k5,rfl,h1,h2,h5,h6⟩:=qhf q
 unfold PySem.W.clsIn
 rw[l]
 rfl
theorem fnAt_mk {K:PySem.W.Frag}{h:Heap}{mg:Str→Option Value}{x:Str}{st:Stmt}{ps:List Str}{f:Addr}{oc:Value}{od an:Option Addr}{osl:Array (Option Value)}{kV doc pm cdv ct:Value} (X:K.In h) (G:h.Ns mainGlobals mg)
  (a:PySem.W.nsIn K mainGlobals x=some (some (.ref f))) (l:K.lookup f=some ⟨oc,od,.func (PySem.W.fnOf x x (qba st) (qat st) (yab st) .none kV doc pm an cdv ct),osl⟩) (c:PySem.W.codeIn K cdv x=true) (k:PySem.W.keepIn K (.ref f)=true)
  (hb:∀ (kV doc pm:Value) (an:Option Addr) (cdv ct:Value) (us:List Value),us.length=ps.length→bindArgs (PySem.W.fnOf x x (qba st) (qat st) (yab st) .none kV doc pm an cdv ct) ⟨us,[]⟩=pure (ps.zip us)):FnAt K mg x st ps:=by
 have F:=qht (st:=st) l c k
 exact ⟨f,_,PySem.W.mg_of X G a,F,F.binds hb⟩
def FnP (K:PySem.W.Frag) (x:Str) (st:Stmt):Prop:=∃ (f:Addr) (oc:Value) (od an:Option Addr) (sl:Array (Option Value)) (kV dc pm cd ct:Value),PySem.W.nsIn K mainGlobals x=some (some (.ref f))∧K.lookup f=some ⟨oc,od,.func (PySem.W.fnOf x x (qba st) (qat st) (yab st) .none kV dc pm an cd ct),sl⟩∧PySem.W.codeIn K cd x=true∧PySem.W.keepIn K (.ref f)=true
theorem FnP.at {K:PySem.W.Frag}{h:Heap}{mg:Str→Option Value}{x:Str}{st:Stmt}{ps:List Str} (p:FnP K x st) (X:K.In h) (G:h.Ns mainGlobals mg)
  (hb:∀ (kV doc pm:Value) (an:Option Addr) (cdv ct:Value) (us:List Value),us.length=ps.length→bindArgs (PySem.W.fnOf x x (qba st) (qat st) (yab st) .none kV doc pm an cdv ct) ⟨us,[]⟩=pure (ps.zip us)):FnAt K mg x st ps:=by
 obtain ⟨f,oc,od,an,sl,kV,dc,pm,cd,ct,a,l,c,k⟩:=p
 exact fnAt_mk X G a l c k hb
set_option maxHeartbeats 0 in
theorem all_mk {l:PySem.W.OpenLaw}{w:World}{K:PySem.W.Frag}{h:Heap}{mg:Str→Option Value}{fa:Addr} (X:K.In h) (G:h.Ns mainGlobals mg) (hfa:mg "law" = some (.ref fa))
  (p0:FnP K "is_whole" ybi)
  (p1:FnP K "is_bit" qcm)
  (p2:FnP K "is_one_of" yba)
  (p3:FnP K "is_cell" ybz)
  (p4:FnP K "is_part" qbx)
  (p5:FnP K "has_word" qbj)
  (p6:FnP K "cells_in" qbl)
  (p7:FnP K "has_parts" ya9)
  (p8:FnP K "is_harm" qbv)
  (p9:FnP K "look_at_harms" qau)
  (p10:FnP K "broken_cell" qa6)
  (p11:FnP K "broken_of" ybl)
  (p12:FnP K "_law_digits" qa7)
  (p13:FnP K "_law_harm" qbp)
  (p14:FnP K "_law_cells" ybc)
  (p15:FnP K "_law_harms" qbc)
  (p16:FnP K "_law_due" qb6)
  (p17:FnP K "_law_right" qbe)
  (p18:FnP K "_law_refused" qa3)
  {f19:Addr}{od19 an19:Option Addr}{sl19:Array (Option Value)}{oc19 kV19 dc19 pm19 cd19 ct19:Value}
  (a19:PySem.W.nsIn K mainGlobals "law" = some (some (.ref f19)))
  (l19:K.lookup f19=some ⟨oc19,od19,.func (PySem.W.fnOf "law" "law" (qba yd2) (qat yd2) (yab yd2) .none kV19 dc19 pm19 an19 cd19 ct19),sl19⟩)
  (c19:PySem.W.codeIn K cd19 "law" = true)
  (k19:PySem.W.keepIn K (.ref f19)=true)
  (z0:PySem.W.nsIn K mainGlobals "len" = some none)
  (z1:PySem.W.nsIn K mainGlobals "abs" = some none)
  (z2:PySem.W.nsIn K mainGlobals "max" = some none)
  (z3:PySem.W.nsIn K mainGlobals "min" = some none)
  (z4:PySem.W.nsIn K mainGlobals "repr" = some none)
  (z5:PySem.W.nsIn K mainGlobals "isinstance" = some none)
  (z6:PySem.W.nsIn K mainGlobals "int" = some none)
  (z7:PySem.W.nsIn K mainGlobals "bool" = some none)
  (z8:PySem.W.nsIn K mainGlobals "str" = some none)
  (z9:PySem.W.nsIn K mainGlobals "tuple" = some none)
  (z10:PySem.W.nsIn K mainGlobals "list" = some none)
  (z11:PySem.W.nsIn K mainGlobals "dict" = some none)
  (z12:PySem.W.nsIn K mainGlobals "range" = some none)
  (z13:PySem.W.nsIn K mainGlobals "enumerate" = some none)
  (z14:PySem.W.nsIn K mainGlobals "sorted" = some none)
  (z15:PySem.W.nsIn K mainGlobals "sum" = some none)
  {R2:Addr}
  (RA2:PySem.W.nsIn K mainGlobals "NoHarms" = some (some (.ref R2)))
  {R3:Addr}
  (RA3:PySem.W.nsIn K mainGlobals "NoMemory" = some (some (.ref R3)))
  {R9:Addr}
  (RA9:PySem.W.nsIn K mainGlobals "NoSpares" = some (some (.ref R9)))
  {RM:Addr}
  (RM_:PySem.W.nsIn K mainGlobals "MarchError" = some (some (.ref RM)))
  {Ro2:Obj}{Rbm:List Value}
  (Rlk2:K.lookup R2=some Ro2)
  (Rq2:xcO Ro2 R2=some Rbm)
  {Ro3:Obj}
  (Rlk3:K.lookup R3=some Ro3)
  (Rq3:xcO Ro3 R3=some Rbm)
  (Rex3:PySem.W.excIn K R3 bmV "ValueError.__new__" = true)
  (Rkp2:PySem.W.keepIn K (.ref R2)=true)
  (Rga2:PySem.W.findIn K (.ref R2) "__getattribute__" = some (some (.builtin "BaseException.__getattribute__")))
  (Rgh2:PySem.W.findIn K (.ref R2) "__getattr__" = some none)
  (Rha2:PySem.W.findIn K (.ref R2) "__class__" = some (some (.builtin "object.__class__")))
  (Rhm2:PySem.W.mroIn K R2 (.type "object")=some true)
  (Rsa2:PySem.W.findIn K (.ref R2) "__setattr__" = some (some (.builtin "object.__setattr__")))
  (Ro2_2:PySem.W.kitOne K (.ref R2) (.ref R2)=some true)
  (Ro3_2:PySem.W.kitOne K (.ref R2) (.ref R3)=some false)
  (Ro9_2:PySem.W.kitOne K (.ref R2) (.ref R9)=some false)
  (Rve2:PySem.W.kitOne K (.ref R2) (.type "ValueError")=some true)
  (Rem2:PySem.W.exmOne K (.ref R2) (.ref RM)=some true)
  (Rn2_0:PySem.W.findIn K (.ref R2) "number" = some none)
  {fI2:Addr}{odI2 anI2:Option Addr}{slI2:Array (Option Value)}{ocI2 kVI2 dcI2 pmI2 cdI2 ctI2:Value}
  (Rhi2:PySem.W.findIn K (.ref R2) "__init__" = some (some (.ref fI2)))
  (Rhf2:PySem.W.isFn K (.ref fI2)=true)
  (RlI2:K.lookup fI2=some ⟨ocI2,odI2,.func (PySem.W.fnOf "__init__" "NoHarms.__init__" (qba yb5) (qat yb5) (yab yb5) .none kVI2 dcI2 pmI2 anI2 cdI2 ctI2),slI2⟩)
  (RcI2:PySem.W.codeIn K cdI2 "NoHarms.__init__" = true)
  (RkI2:PySem.W.keepIn K (.ref fI2)=true)
  (Rhn:PySem.W.specialIn K (.builtin "object.__class__") "__get__" = some (some (.builtin "getset_descriptor.__get__")))
  (Rtk:PySem.W.takesIn K (.builtin "object.__class__")=some true)
  (RzV:PySem.W.nsIn K mainGlobals "ValueError" = some none)
  (zset:PySem.W.nsIn K mainGlobals "set" = some none)
  (zzip:PySem.W.nsIn K mainGlobals "zip" = some none)
  (zall:PySem.W.nsIn K mainGlobals "all" = some none)
  {w1 w2 w3:Tok}
  (aMC:PySem.W.nsIn K mainGlobals "MOST_CELLS" = some (some (.int 64 w1)))
  (aMH:PySem.W.nsIn K mainGlobals "MOST_HARMS" = some (some (.int 3 w2)))
  (aMU:PySem.W.nsIn K mainGlobals "MOST_UNLIKE" = some (some (.int 3 w3)))
  {tJ:Addr}{uj1 uj2:Tok}{odJ:Option Addr}{nJ:Nat}{slJ:Array (Option Value)}
  (aJ:PySem.W.nsIn K mainGlobals "JOININGS" = some (some (.ref tJ)))
  (lJ:K.lookup tJ=some ⟨.type "tuple",odJ,.seq #[.str "and" uj1,.str "or" uj2] nJ,slJ⟩)
  {tP qp0 qp1 qp2 qp3 qp4 qp5 qp6 qp7 qp8 qp9:Addr}{xp0 xp1 xp2 xp3 xp4 xp5 xp6 xp7 xp8 xp9:Int}{kp0 kp1 kp2 kp3 kp4 kp5 kp6 kp7 kp8 kp9:Tok}{epP:Nat}
  (aP:PySem.W.nsIn K mainGlobals "PARTS" = some (some (.ref tP)))
  (lP:K.lookup tP=some ⟨.type "dict",none,.dict #[⟨xp0,.str "stuck" kp0,.ref qp0⟩,⟨xp1,.str "slow" kp1,.ref qp1⟩,⟨xp2,.str "forgets" kp2,.ref qp2⟩,⟨xp3,.str "misreads" kp3,.ref qp3⟩,⟨xp4,.str "turns" kp4,.ref qp4⟩,⟨xp5,.str "sets" kp5,.ref qp5⟩,⟨xp6,.str "keeps" kp6,.ref qp6⟩,⟨xp7,.str "nowhere" kp7,.ref qp7⟩,⟨xp8,.str "other" kp8,.ref qp8⟩,⟨xp9,.str "both" kp9,.ref qp9⟩] epP,#[]⟩)
  (mP:(tP == sysModules)=false)
  {oqp0:Option Addr}{yp0_0 yp0_1:Tok}{mp0:Nat}{sqp0:Array (Option Value)}
  (tp0:K.lookup qp0=some ⟨.type "tuple",oqp0,.seq #[.str "cell" yp0_0,.str "bit" yp0_1] mp0,sqp0⟩)
  {oqp1:Option Addr}{yp1_0 yp1_1:Tok}{mp1:Nat}{sqp1:Array (Option Value)}
  (tp1:K.lookup qp1=some ⟨.type "tuple",oqp1,.seq #[.str "cell" yp1_0,.str "bit" yp1_1] mp1,sqp1⟩)
  {oqp2:Option Addr}{yp2_0 yp2_1:Tok}{mp2:Nat}{sqp2:Array (Option Value)}
  (tp2:K.lookup qp2=some ⟨.type "tuple",oqp2,.seq #[.str "cell" yp2_0,.str "bit" yp2_1] mp2,sqp2⟩)
  {oqp3:Option Addr}{yp3_0 yp3_1:Tok}{mp3:Nat}{sqp3:Array (Option Value)}
  (tp3:K.lookup qp3=some ⟨.type "tuple",oqp3,.seq #[.str "cell" yp3_0,.str "bit" yp3_1] mp3,sqp3⟩)
  {oqp4:Option Addr}{yp4_0 yp4_1 yp4_2:Tok}{mp4:Nat}{sqp4:Array (Option Value)}
  (tp4:K.lookup qp4=some ⟨.type "tuple",oqp4,.seq #[.str "cell" yp4_0,.str "cell" yp4_1,.str "bit" yp4_2] mp4,sqp4⟩)
  {oqp5:Option Addr}{yp5_0 yp5_1 yp5_2 yp5_3:Tok}{mp5:Nat}{sqp5:Array (Option Value)}
  (tp5:K.lookup qp5=some ⟨.type "tuple",oqp5,.seq #[.str "cell" yp5_0,.str "cell" yp5_1,.str "bit" yp5_2,.str "bit" yp5_3] mp5,sqp5⟩)
  {oqp6:Option Addr}{yp6_0 yp6_1 yp6_2 yp6_3:Tok}{mp6:Nat}{sqp6:Array (Option Value)}
  (tp6:K.lookup qp6=some ⟨.type "tuple",oqp6,.seq #[.str "cell" yp6_0,.str "cell" yp6_1,.str "bit" yp6_2,.str "bit" yp6_3] mp6,sqp6⟩)
  {oqp7:Option Addr}{yp7_0 yp7_1:Tok}{mp7:Nat}{sqp7:Array (Option Value)}
  (tp7:K.lookup qp7=some ⟨.type "tuple",oqp7,.seq #[.str "cell" yp7_0,.str "bit" yp7_1] mp7,sqp7⟩)
  {oqp8:Option Addr}{yp8_0 yp8_1:Tok}{mp8:Nat}{sqp8:Array (Option Value)}
  (tp8:K.lookup qp8=some ⟨.type "tuple",oqp8,.seq #[.str "cell" yp8_0,.str "cell" yp8_1] mp8,sqp8⟩)
  {oqp9:Option Addr}{yp9_0 yp9_1 yp9_2:Tok}{mp9:Nat}{sqp9:Array (Option Value)}
  (tp9:K.lookup qp9=some ⟨.type "tuple",oqp9,.seq #[.str "cell" yp9_0,.str "cell" yp9_1,.str "how" yp9_2] mp9,sqp9⟩)
  (zdm:PySem.W.nsIn K mainGlobals "divmod" = some none) :
  ∃ fd:FuncData,(∀ (s:Shared) (v:Value),BindsTo s fd ⟨[v],[]⟩ [("_law_script",v)])∧∀ base:Heap,K.In base→base.Ns mainGlobals mg→FnOk l.prog w K mg base CX0 9 fa fd ["_law_script"] (yf5 K):=by
 have e:=hfa.symm.trans (PySem.W.mg_of X G a19)
 cases e
 have B:Bl mg:=⟨fun x hx=>by
  unfold qfk at hx
  simp only[List.mem_cons,List.not_mem_nil,or_false] at hx
  rcases hx with rfl|rfl|rfl|rfl|rfl|rfl|rfl|rfl|rfl|rfl|rfl|rfl|rfl|rfl|rfl|rfl
  ·exact PySem.W.mg_none_of X G z0
  ·exact PySem.W.mg_none_of X G z1
  ·exact PySem.W.mg_none_of X G z2
  ·exact PySem.W.mg_none_of X G z3
  ·exact PySem.W.mg_none_of X G z4
  ·exact PySem.W.mg_none_of X G z5
  ·exact PySem.W.mg_none_of X G z6
  ·exact PySem.W.mg_none_of X G z7
  ·exact PySem.W.mg_none_of X G z8
  ·exact PySem.W.mg_none_of X G z9
  ·exact PySem.W.mg_none_of X G z10
  ·exact PySem.W.mg_none_of X G z11
  ·exact PySem.W.mg_none_of X G z12
  ·exact PySem.W.mg_none_of X G z13
  ·exact PySem.W.mg_none_of X G z14
  ·exact PySem.W.mg_none_of X G z15⟩
 have hVE:=PySem.W.mg_none_of X G RzV
 have gm:=PySem.W.mg_of X G RM_
 have Rtl:=yfm Rlk3 Rq3 Rex3
 have RX2:=xok_of Rlk2 Rq2 Rtl Rga2 Rgh2 Rha2 Rhn Rtk Rhm2 Rsa2
 have kx:KX3 K R2 R3 R9 RM:=⟨RX2.toXTy,Ro2_2,Ro3_2,Ro9_2,Rve2,Rem2⟩
 have ybr:mg "set" = none:=PySem.W.mg_none_of X G zset
 have yc0:mg "zip" = none:=PySem.W.mg_none_of X G zzip
 have ygg:mg "all" = none:=PySem.W.mg_none_of X G zall
 have g_MC:∃ t,mg "MOST_CELLS" = some (.int 64 t):=⟨_,PySem.W.mg_of X G aMC⟩
 have g_MH:∃ t,mg "MOST_HARMS" = some (.int 3 t):=⟨_,PySem.W.mg_of X G aMH⟩
 have g_MU:∃ t,mg "MOST_UNLIKE" = some (.int 3 t):=⟨_,PySem.W.mg_of X G aMU⟩
 have g_J:GTup K mg "JOININGS" [.str "and",.str "or"]:=gtup_mk (PySem.W.mg_of X G aJ) lJ (by show 2≤sizeLine;decide) (.cons ⟨_,rfl⟩ (.cons ⟨_,rfl⟩ .nil))
 have gP:=PySem.W.mg_of X G aP
 have sp0:∀ H,SqT K H qp0 [.str "cell",.str "bit"]:=yca tp0 (by show 2≤sizeLine;decide) (.cons ⟨_,rfl⟩ (.cons ⟨_,rfl⟩ .nil))
 have sp1:∀ H,SqT K H qp1 [.str "cell",.str "bit"]:=yca tp1 (by show 2≤sizeLine;decide) (.cons ⟨_,rfl⟩ (.cons ⟨_,rfl⟩ .nil))
 have sp2:∀ H,SqT K H qp2 [.str "cell",.str "bit"]:=yca tp2 (by show 2≤sizeLine;decide) (.cons ⟨_,rfl⟩ (.cons ⟨_,rfl⟩ .nil))
 have sp3:∀ H,SqT K H qp3 [.str "cell",.str "bit"]:=yca tp3 (by show 2≤sizeLine;decide) (.cons ⟨_,rfl⟩ (.cons ⟨_,rfl⟩ .nil))
 have sp4:∀ H,SqT K H qp4 [.str "cell",.str "cell",.str "bit"]:=yca tp4 (by show 3≤sizeLine;decide) (.cons ⟨_,rfl⟩ (.cons ⟨_,rfl⟩ (.cons ⟨_,rfl⟩ .nil)))
 have sp5:∀ H,SqT K H qp5 [.str "cell",.str "cell",.str "bit",.str "bit"]:=yca tp5 (by show 4≤sizeLine;decide) (.cons ⟨_,rfl⟩ (.cons ⟨_,rfl⟩ (.cons ⟨_,rfl⟩ (.cons ⟨_,rfl⟩ .nil))))
 have sp6:∀ H,SqT K H qp6 [.str "cell",.str "cell",.str "bit",.str "bit"]:=yca tp6 (by show 4≤sizeLine;decide) (.cons ⟨_,rfl⟩ (.cons ⟨_,rfl⟩ (.cons ⟨_,rfl⟩ (.cons ⟨_,rfl⟩ .nil))))
 have sp7:∀ H,SqT K H qp7 [.str "cell",.str "bit"]:=yca tp7 (by show 2≤sizeLine;decide) (.cons ⟨_,rfl⟩ (.cons ⟨_,rfl⟩ .nil))
 have sp8:∀ H,SqT K H qp8 [.str "cell",.str "cell"]:=yca tp8 (by show 2≤sizeLine;decide) (.cons ⟨_,rfl⟩ (.cons ⟨_,rfl⟩ .nil))
 have sp9:∀ H,SqT K H qp9 [.str "cell",.str "cell",.str "how"]:=yca tp9 (by show 3≤sizeLine;decide) (.cons ⟨_,rfl⟩ (.cons ⟨_,rfl⟩ (.cons ⟨_,rfl⟩ .nil)))
 have TP:TabK K tP tabP:=⟨mP,_,_,_,lP,⟨rfl,rfl,rfl⟩,rfl,(.cons rfl ⟨_,rfl,sp0⟩ (.cons rfl ⟨_,rfl,sp1⟩ (.cons rfl ⟨_,rfl,sp2⟩ (.cons rfl ⟨_,rfl,sp3⟩ (.cons rfl ⟨_,rfl,sp4⟩ (.cons rfl ⟨_,rfl,sp5⟩ (.cons rfl ⟨_,rfl,sp6⟩ (.cons rfl ⟨_,rfl,sp7⟩ (.cons rfl ⟨_,rfl,sp8⟩ (.cons rfl ⟨_,rfl,sp9⟩ .nil))))))))))⟩
 have FI2:=qht (st:=yb5) RlI2 RcI2 RkI2
 have z_dm:mg "divmod" = none:=PySem.W.mg_none_of X G zdm
 have F0:FnAt K mg "is_whole" ybi ["thing"]:=p0.at X G fun _ _ _ _ _ _ us hl=>match us,hl with | [_],_=>rfl
 have F1:FnAt K mg "is_bit" qcm ["thing"]:=p1.at X G fun _ _ _ _ _ _ us hl=>match us,hl with | [_],_=>rfl
 have F2:FnAt K mg "is_one_of" yba ["thing","words"]:=p2.at X G fun _ _ _ _ _ _ us hl=>match us,hl with | [_,_],_=>rfl
 have F3:FnAt K mg "is_cell" ybz ["thing"]:=p3.at X G fun _ _ _ _ _ _ us hl=>match us,hl with | [_],_=>rfl
 have F4:FnAt K mg "is_part" qbx ["name","thing"]:=p4.at X G fun _ _ _ _ _ _ us hl=>match us,hl with | [_,_],_=>rfl
 have F5:FnAt K mg "has_word" qbj ["thing"]:=p5.at X G fun _ _ _ _ _ _ us hl=>match us,hl with | [_],_=>rfl
 have F6:FnAt K mg "cells_in" qbl ["harm"]:=p6.at X G fun _ _ _ _ _ _ us hl=>match us,hl with | [_],_=>rfl
 have F7:FnAt K mg "has_parts" ya9 ["thing"]:=p7.at X G fun _ _ _ _ _ _ us hl=>match us,hl with | [_],_=>rfl
 have F8:FnAt K mg "is_harm" qbv ["thing"]:=p8.at X G fun _ _ _ _ _ _ us hl=>match us,hl with | [_],_=>rfl
 have F9:FnAt K mg "look_at_harms" qau ["thing"]:=p9.at X G fun _ _ _ _ _ _ us hl=>match us,hl with | [_],_=>rfl
 have F10:FnAt K mg "broken_cell" qa6 ["harm"]:=p10.at X G fun _ _ _ _ _ _ us hl=>match us,hl with | [_],_=>rfl
 have F11:FnAt K mg "broken_of" ybl ["harms","lines"]:=p11.at X G fun _ _ _ _ _ _ us hl=>match us,hl with | [_,_],_=>rfl
 have F12:FnAt K mg "_law_digits" qa7 ["_law_cell","_law_turn","_law_sizes"]:=p12.at X G fun _ _ _ _ _ _ us hl=>match us,hl with | [_,_,_],_=>rfl
 have F13:FnAt K mg "_law_harm" qbp ["_law_d","_law_size"]:=p13.at X G fun _ _ _ _ _ _ us hl=>match us,hl with | [_,_],_=>rfl
 have F14:FnAt K mg "_law_cells" ybc ["_law_harms_here"]:=p14.at X G fun _ _ _ _ _ _ us hl=>match us,hl with | [_],_=>rfl
 have F15:FnAt K mg "_law_harms" qbc ["_law_d","_law_size"]:=p15.at X G fun _ _ _ _ _ _ us hl=>match us,hl with | [_,_],_=>rfl
 have F16:FnAt K mg "_law_due" qb6 ["_law_harms_here","_law_lines"]:=p16.at X G fun _ _ _ _ _ _ us hl=>match us,hl with | [_,_],_=>rfl
 have F17:FnAt K mg "_law_right" qbe ["_law_harms_here","_law_lines"]:=p17.at X G fun _ _ _ _ _ _ us hl=>match us,hl with | [_,_],_=>rfl
 have F18:FnAt K mg "_law_refused" qa3 ["_law_thing"]:=p18.at X G fun _ _ _ _ _ _ us hl=>match us,hl with | [_],_=>rfl
 have FL:=qht (st:=yd2) l19 c19 k19
 refine ⟨PySem.W.fnOf "law" "law" (qba yd2) (qat yd2) (yab yd2) .none kV19 dc19 pm19 an19 cd19 ct19,fun s v=>.of_eq rfl,fun base _ _=>?_⟩
 have h0:=qfl (P:=l.prog) (w:=w) (base:=base) B F0
 have h1:=qgx h0 F1
 have h2:=yel (P:=l.prog) (w:=w) (base:=base) B F2
 have h3:=qgb g_MC h0 F3
 have h4:=qge g_J h3 h1 h2 F4
 have h5:=qfj (P:=l.prog) (w:=w) (base:=base) B gP TP F5
 have h6:=qfe (P:=l.prog) (w:=w) (base:=base) B yc0 gP TP F6
 have h7:=yfb B yc0 ygg gP TP h4 F7
 have h8:=ygk B ybr h5 h7 h6 F8
 have h9:=qc1 B ybr g_MH g_MU h8 h6 F9
 have xH:=(show XInit l.prog w K mg base "NoHarms" R2 ["self","number"] (sp_x1 R2 "number") from ⟨PySem.W.mg_of X G RA2,Rkp2,RX2,_,_,Rhi2,Rhf2,FI2.binds (fun _ _ _ _ _ _ us hl=>match us,hl with | [_,_],_=>rfl),qhh FI2 RX2 Rn2_0⟩)
 have gw:=og_whole (P:=l.prog) (w:=w) (base:=base) B F0
 have gb:=og_bit gw F1
 have go:=og_one (P:=l.prog) (w:=w) (base:=base) B F2
 have gc:=og_cell g_MC gw F3
 have gp:=og_part g_J gc gb go F4
 have gwd:=og_word (P:=l.prog) (w:=w) (base:=base) B gP TP F5
 have gci:=yfh (P:=l.prog) (w:=w) (base:=base) B yc0 gP TP F6
 have gps:=og_parts B yc0 ygg gP TP gp F7
 have gh:=og_harm B ybr gwd gps gci F8
 have gl:=og_harms B xH ybr g_MH g_MU gh h6 F9
 have h10:=yds (P:=l.prog) (w:=w) (base:=base) F10
 have h11:=ye0 B ybr z_dm gl h10 F11
 have h12:=yhc (P:=l.prog) (w:=w) (base:=base) B F12
 have h13:=ok_lharm (P:=l.prog) (w:=w) (base:=base) B F13
 have h14:=yhw (P:=l.prog) (w:=w) (base:=base) B ybr F14
 have h15:=qgo B h13 h14 F15
 have h16:=ok_ldue (P:=l.prog) (w:=w) (base:=base) B F16
 have h17:=yhg B h11 h16 F17
 have h18:=yfq B hVE gm (PySem.W.mg_of X G RA2) (PySem.W.mg_of X G RA3) (PySem.W.mg_of X G RA9) kx h11 F18
 exact ok_law B h12 h15 h17 h18 FL
theorem walk {l:PySem.W.OpenLaw}{q:Program}{loose:List Str}{XP:(Str→Option Value)→Heap→Prop}{YP:World→Heap→Prop}{d:DefRec}{K:Params→PySem.W.Frag} (hn:l.most=some 63) (hdf:d.params.defaults=[])
  (hY:∀ (w:World) (h:Heap),YP w h→(K w.params).In h)
  (F:∀ (w:World) (mg:Str→Option Value) (fa:Addr) (h:Heap),(K w.params).In h→h.Ns mainGlobals mg→mg d.name=some (.ref fa)→
   ∃ fd:FuncData,(∀ (s:Shared) (u:Value),BindsTo s fd ⟨[u],[]⟩ [("_law_script",u)])∧∀ base:Heap,(K w.params).In base→base.Ns mainGlobals mg→FnOk l.prog w (K w.params) mg base CX0 9 fa fd ["_law_script"] (yf5 (K w.params))) :
  PySem.W.WalkO q loose XP YP l.row.toRowW d [] (fun f vs=>PySem.call f vs):=
 L2.walk_of (n:=63) (k:=9) (x:="_law_script") (CX:=fun _=>CX0) (sp:=fun w=>yf5 (K w.params)) hn (by decide) hdf ⟨rfl,by decide,by decide,rfl⟩ hY F (fun _ _ a ns hl _ hS=>⟨a,ns,rfl,hS,hl,fun _=>rfl⟩) fun _ _ _ _ _ z=>z
end Mh
def PySem.W.Fast.tw1529191293761674538:Nat:=0
def PySem.W.Fast.tw12183852006919572966:Nat:=0
def PySem.W.Fast.tw12970192463799927717:=PySem.Challenge.pw_marchmend_k51_broken_cells
theorem PySem.W.Fast.te12970192463799927717:PySem.Challenge.pw_marchmend_k51_broken_cells=PySem.W.Fast.tw12970192463799927717:=rfl
def PySem.W.Fast.tw10438483776803516847:Nat:=0
def PySem.W.Fast.tw7729217829476968465:Nat:=0
def PySem.W.Fast.tw6441414160200228513:Nat:=0
def PySem.W.Fast.tw12520255749957248174:Nat:=0
def PySem.W.Fast.tw5919654441365765440:Nat:=0
def PySem.W.Fast.tw12644238618109659737:Nat:=0
def PySem.W.Fast.tw6652346398723873947:Nat:=0
def PySem.W.Fast.tw11988007303177833439:Nat:=0
def PySem.W.Fast.tw15134741307027965331:Nat:=0
def PySem.W.Fast.tw7802676420677731104:Nat:=0
def PySem.W.Fast.tw12434950216021359952:Nat:=0
def PySem.W.Fast.tw9271174036674096694:Nat:=0
def PySem.W.Fast.tw1761487927002333588:Nat:=0
def PySem.W.Fast.tw8471169599764789780:Nat:=0
def PySem.W.Fast.tw7319371437999510160:Nat:=0
def PySem.W.Fast.tw2737969602724874418:Nat:=0
def PySem.W.Fast.tw11238561562197660013:Nat:=0
def PySem.W.Fast.tw14216408124008182422:Nat:=0
def PySem.W.Fast.tw5492278576790963055:Nat:=0
def PySem.W.Fast.tw4252734344554575348:Nat:=0
def PySem.W.Fast.tw5103992692519850658:Nat:=0
def PySem.W.Fast.tw1335365438778952640:Nat:=0
def PySem.W.Fast.tw11126782573307270022:Nat:=0
def PySem.W.Fast.tw16286580311814795068:Nat:=0
def PySem.W.Fast.tw9375238071068332119:Nat:=0
def PySem.W.Fast.tw12980296138626751054:Nat:=0
def PySem.W.Fast.tw9206149716655676308:Nat:=0
def PySem.W.Fast.tw15956648011904415391:Nat:=0
def PySem.W.Fast.tw6895315398760767667:Nat:=0
def PySem.W.Fast.tw12448680932292643155:Nat:=0
def PySem.W.Fast.tw16173239153469982878:Nat:=0
def PySem.W.Fast.tw3846225267884788634:Nat:=0
def PySem.W.Fast.tw15827233362706653283:Nat:=0
def PySem.W.Fast.tw7298906492524463295:Nat:=0
def PySem.W.Fast.tw6313513448812278730:Nat:=0
def PySem.W.Fast.tw6416449720356423740:Nat:=0
def PySem.W.Fast.tw10490048743089573198:Nat:=0
def PySem.W.Fast.tw1903116897403215523:Nat:=0
def PySem.W.Fast.tw16484366792035081083:Nat:=0
def PySem.W.Fast.tw3232876940214944276:Nat:=0
def PySem.W.Fast.tw9979263199282513214:Nat:=0
def PySem.W.Fast.tw3654762919350029733:Nat:=0
def PySem.W.Fast.tw4264588379835932777:Nat:=0
def PySem.W.Fast.tw4024523960386827145:Nat:=0
def PySem.W.Fast.tw17732638161785368569:Nat:=0
def PySem.W.Fast.tw16485605954657831829:Nat:=0
open PySem PySem.W PyProof.Rows
set_option maxRecDepth 100000 in
set_option maxHeartbeats 0 in
theorem PySem.Challenge.cw_marchmend_k51_broken_cells_holds : PySem.Challenge.rw_marchmend_k51_broken_cells.Holds := by
  w_on; o_law; k_head; (case hw=>w_witness2)
  k_fill
  refine Mh.walk (l:=PySem.Challenge.rw_marchmend_k51_broken_cells) rfl rfl (fun w h Y=>PySem.W.kIn_of Y) ?F
  case F=>
    intro w mg fa h KX G hmg
    refine' Mh.all_mk KX G hmg ?p0 ?p1 ?p2 ?p3 ?p4 ?p5 ?p6 ?p7 ?p8 ?p9 ?p10 ?p11 ?p12 ?p13 ?p14 ?p15 ?p16 ?p17 ?p18 ?a19 ?l19 ?c19 ?k19 ?z0 ?z1 ?z2 ?z3 ?z4 ?z5 ?z6 ?z7 ?z8 ?z9 ?z10 ?z11 ?z12 ?z13 ?z14 ?z15 ?RA2 ?RA3 ?RA9 ?RM_ ?Rlk2 ?Rq2 ?Rlk3 ?Rq3 ?Rex3 ?Rkp2 ?Rga2 ?Rgh2 ?Rha2 ?Rhm2 ?Rsa2 ?Ro2_2 ?Ro3_2 ?Ro9_2 ?Rve2 ?Rem2 ?Rn2_0 ?Rhi2 ?Rhf2 ?RlI2 ?RcI2 ?RkI2 ?Rhn ?Rtk ?RzV ?zset ?zzip ?zall ?aMC ?aMH ?aMU ?aJ ?lJ ?aP ?lP ?mP ?tp0 ?tp1 ?tp2 ?tp3 ?tp4 ?tp5 ?tp6 ?tp7 ?tp8 ?tp9 ?zdm
    (case p0=>exact ⟨_,_,_,_,_,_,_,_,_,_,by k_is,by k_is,by k_is,by k_is⟩)
    (case p1=>exact ⟨_,_,_,_,_,_,_,_,_,_,by k_is,by k_is,by k_is,by k_is⟩)
    (case p2=>exact ⟨_,_,_,_,_,_,_,_,_,_,by k_is,by k_is,by k_is,by k_is⟩)
    (case p3=>exact ⟨_,_,_,_,_,_,_,_,_,_,by k_is,by k_is,by k_is,by k_is⟩)
    (case p4=>exact ⟨_,_,_,_,_,_,_,_,_,_,by k_is,by k_is,by k_is,by k_is⟩)
    (case p5=>exact ⟨_,_,_,_,_,_,_,_,_,_,by k_is,by k_is,by k_is,by k_is⟩)
    (case p6=>exact ⟨_,_,_,_,_,_,_,_,_,_,by k_is,by k_is,by k_is,by k_is⟩)
    (case p7=>exact ⟨_,_,_,_,_,_,_,_,_,_,by k_is,by k_is,by k_is,by k_is⟩)
    (case p8=>exact ⟨_,_,_,_,_,_,_,_,_,_,by k_is,by k_is,by k_is,by k_is⟩)
    (case p9=>exact ⟨_,_,_,_,_,_,_,_,_,_,by k_is,by k_is,by k_is,by k_is⟩)
    (case p10=>exact ⟨_,_,_,_,_,_,_,_,_,_,by k_is,by k_is,by k_is,by k_is⟩)
    (case p11=>exact ⟨_,_,_,_,_,_,_,_,_,_,by k_is,by k_is,by k_is,by k_is⟩)
    (case p12=>exact ⟨_,_,_,_,_,_,_,_,_,_,by k_is,by k_is,by k_is,by k_is⟩)
    (case p13=>exact ⟨_,_,_,_,_,_,_,_,_,_,by k_is,by k_is,by k_is,by k_is⟩)
    (case p14=>exact ⟨_,_,_,_,_,_,_,_,_,_,by k_is,by k_is,by k_is,by k_is⟩)
    (case p15=>exact ⟨_,_,_,_,_,_,_,_,_,_,by k_is,by k_is,by k_is,by k_is⟩)
    (case p16=>exact ⟨_,_,_,_,_,_,_,_,_,_,by k_is,by k_is,by k_is,by k_is⟩)
    (case p17=>exact ⟨_,_,_,_,_,_,_,_,_,_,by k_is,by k_is,by k_is,by k_is⟩)
    (case p18=>exact ⟨_,_,_,_,_,_,_,_,_,_,by k_is,by k_is,by k_is,by k_is⟩)
    (case a19=>k_is)
    (case l19=>k_is)
    (case c19=>k_is)
    (case k19=>k_is)
    (case z0=>k_is)
    (case z1=>k_is)
    (case z2=>k_is)
    (case z3=>k_is)
    (case z4=>k_is)
    (case z5=>k_is)
    (case z6=>k_is)
    (case z7=>k_is)
    (case z8=>k_is)
    (case z9=>k_is)
    (case z10=>k_is)
    (case z11=>k_is)
    (case z12=>k_is)
    (case z13=>k_is)
    (case z14=>k_is)
    (case z15=>k_is)
    (case RA2=>k_is)
    (case RA3=>k_is)
    (case RA9=>k_is)
    (case RM_=>k_is)
    (case Rlk2=>k_is)
    (case Rq2=>rfl)
    (case Rlk3=>k_is)
    (case Rq3=>rfl)
    (case Rex3=>k_exc)
    (case Rkp2=>k_is)
    (case Rga2=>k_is)
    (case Rgh2=>k_is)
    (case Rha2=>k_is)
    (case Rhm2=>k_is)
    (case Rsa2=>k_is)
    (case Ro2_2=>kit_is)
    (case Ro3_2=>kit_is)
    (case Ro9_2=>kit_is)
    (case Rve2=>kit_is)
    (case Rem2=>kts_exm)
    (case Rn2_0=>k_is)
    (case Rhi2=>k_is)
    (case Rhf2=>k_is)
    (case RlI2=>k_is)
    (case RcI2=>k_is)
    (case RkI2=>k_is)
    (case Rhn=>k_is)
    (case Rtk=>k_is)
    (case RzV=>k_is)
    (case zset=>k_is)
    (case zzip=>k_is)
    (case zall=>k_is)
    (case aMC=>k_is)
    (case aMH=>k_is)
    (case aMU=>k_is)
    (case aJ=>k_is)
    (case lJ=>k_is)
    (case aP=>k_is)
    (case lP=>k_is)
    (case mP=>rfl)
    (case tp0=>k_is)
    (case tp1=>k_is)
    (case tp2=>k_is)
    (case tp3=>k_is)
    (case tp4=>k_is)
    (case tp5=>k_is)
    (case tp6=>k_is)
    (case tp7=>k_is)
    (case tp8=>k_is)
    (case tp9=>k_is)
    (case zdm=>k_is)
#print axioms PySem.Challenge.cw_marchmend_k51_broken_cells_holds
