import PyProof.Rows.All
import Wide.All
import OpenK.AllK
import Wide.FinOn
import Lean
import PyProof.EqAt
import PyProof.EqKinds
import PyProof.TupleCall
import PyProof.StrLawsTight
import PyProof.Rows.StrJoin2
import PyProof.Rows.StrSplitJoin
import KE.KTab
import PyProof.ZipIter
import PyProof.Rows.TupIter
import PyProof.Rows.SortWalk
import PyProof.Rows.SortStr
import PyProof.ConsumeWalk
import KE.KRevSl
import KE.KTryMore
import PyProof.NsDelKeeps
import PyProof.NeKinds
import KE.KIntText
import KE.KDictLaws
import PyProof.DictIter
import PyProof.DictWalks
import PyProof.DictItems
import KE.KSortTup
import KE.KDictList
import PyProof.SetKind
import PyProof.SetRoads
import PyProof.Rows.SetFrom
import PyProof.CollectWalk
import PyProof.CollectIter
import PyProof.Rows.SortShell
import PyProof.Rows.MinMaxN
import KE.KNestM
import KE.KLam
import KE.KMinKey
import PyProof.Rows.CallKwBuiltin
import PySem.Challenge.RW_marchmend_k47_trees_let_by_or_not
set_option Elab.async false
set_option linter.all false
set_option maxRecDepth 100000
set_option maxHeartbeats 8000000
namespace L2
open PySem PySem.Spec PyProof.Rows
abbrev Key:=Sum Int Str
def qfa:Key→Value→Bool
 | .inl k,v=>Value.isInt k v
 | .inr x,v=>Value.isStrOf x v
def keyH (w:World):Key→Int
 | .inl k=>hashInt k
 | .inr x=>hashStr w x
theorem yaw:∀ {k:Key}{v:Value},qfa k v=true→(∃ i t,k=Sum.inl i∧v=Value.int i t)∨(∃ x t,k=Sum.inr x∧v=Value.str x t)
 | .inl i,v,h=>by
  obtain ⟨t,e⟩:=Value.isInt_shape (k:=i) (v:=v) h
  exact .inl ⟨i,t,rfl,e⟩
 | .inr x,v,h=>by
  obtain ⟨t,e⟩:=Value.isStrOf_shape (x:=x) (v:=v) h
  exact .inr ⟨x,t,rfl,e⟩
theorem yfi (i:Int) (t:Tok):qfa (.inl i) (.int i t)=true:=by simp[qfa,Value.isInt]
theorem yfm (x:Str) (t:Tok):qfa (.inr x) (.str x t)=true:=by simp[qfa,Value.isStrOf]
theorem key_ll (a b:Int):decide ((Sum.inl a:Key)=Sum.inl b)=(a == b):=by
 by_cases e:a=b
 ·subst e;simp
 ·have h:¬ (Sum.inl a:Key)=Sum.inl b:=fun q=>e (Sum.inl.inj q)
  rw[decide_eq_false h]
  exact (beq_eq_false_iff_ne.mpr e).symm
theorem key_rr (a b:Str):decide ((Sum.inr a:Key)=Sum.inr b)=decide (a=b):=by
 by_cases e:a=b
 ·subst e;simp
 ·have h:¬ (Sum.inr a:Key)=Sum.inr b:=fun q=>e (Sum.inr.inj q)
  rw[decide_eq_false h,decide_eq_false e]
theorem key_lr (a:Int) (b:Str):decide ((Sum.inl a:Key)=Sum.inr b)=false:=decide_eq_false (fun q=>nomatch q)
theorem key_rl (a:Str) (b:Int):decide ((Sum.inr a:Key)=Sum.inl b)=false:=decide_eq_false (fun q=>nomatch q)
def ya7 (prog:Program) (w:World):PySem.KeyKind prog w Key where
 is:=qfa
 hash:=keyH w
 inj:=fun v a b ha hb=>by
  rcases yaw ha with ⟨i,t,rfl,rfl⟩|⟨x,t,rfl,rfl⟩
  ·rcases yaw hb with ⟨j,u,rfl,e⟩|⟨y,u,rfl,e⟩
   ·injection e with e1 _;rw[e1]
   ·exact nomatch e
  ·rcases yaw hb with ⟨j,u,rfl,e⟩|⟨y,u,rfl,e⟩
   ·exact nomatch e
   ·injection e with e1 _;rw[e1]
 byValue:=fun k v h=>by
  rcases yaw h with ⟨i,t,rfl,rfl⟩|⟨x,t,rfl,rfl⟩<;>rfl
 pyHash:=fun hv h=>by
  rcases yaw hv with ⟨i,t,rfl,rfl⟩|⟨x,t,rfl,rfl⟩
  ·exact wpAny_pyHash_int h
  ·exact wpAny_pyHash_str h
 eqBool:=fun hu hv h=>by
  rcases yaw hu with ⟨i,t,rfl,rfl⟩|⟨x,t,rfl,rfl⟩
  ·rcases yaw hv with ⟨j,u,rfl,rfl⟩|⟨y,u,rfl,rfl⟩
   ·rw[key_ll] at h;exact wpAny_eqBool_int h
   ·rw[key_lr] at h;exact SeqAt.EqAt.int_str i t y u _ _ _ _ h
  ·rcases yaw hv with ⟨j,u,rfl,rfl⟩|⟨y,u,rfl,rfl⟩
   ·rw[key_rl] at h;exact SeqAt.EqAt.str_int x t j u _ _ _ _ h
   ·rw[key_rr] at h;exact wpAny_eqBool_str h
 «strs»:=fun k x t v h=>by
  rcases yaw h with ⟨i,u,rfl,e⟩|⟨y,u,rfl,e⟩
  ·exact nomatch e
  ·injection e with e1 _
   subst e1
   cases v<;>rfl
theorem yen (prog:Program) (w:World) (i:Int) (t:Tok):(ya7 prog w).is (.inl i) (.int i t)=true:=yfi i t
theorem yej (prog:Program) (w:World) (x:Str) (t:Tok):(ya7 prog w).is (.inr x) (.str x t)=true:=yfm x t
end L2
namespace L2
open PySem PySem.Spec PyProof.Rows
inductive V where
 | non|bl (b:Bool)|int (i:Int)|str (x:Str)|byt (b:Array UInt8)|flt (b:UInt64)|ref (a:Addr)|ty (n:String)
 deriving DecidableEq
def RelV:V→Value→Prop
 | .non,u=>u=Value.none
 | .bl b,u=>u=Value.bool b
 | .int i,u=>∃ t,u=Value.int i t
 | .str x,u=>∃ t,u=Value.str x t
 | .byt b,u=>∃ t,u=Value.bytes b t
 | .flt b,u=>∃ t,u=Value.float b t
 | .ref a,u=>u=Value.ref a
 | .ty n,u=>u=Value.type n
abbrev Vals:List V→List Value→Prop:=Paired RelV
theorem Vals.length {xs:List V}{us:List Value} (r:Vals xs us):xs.length=us.length:=Paired.length r
theorem Vals.get:∀ {xs:List V}{us:List Value}{i:Nat}{x:V},Vals xs us→xs[i]?=some x→∃ u,us[i]?=some u∧RelV x u
 | _,_,_,_,.nil,e=>by simp at e
 | _,_,0,_,.cons r _,e=>by simp at e;subst e;exact ⟨_,rfl,r⟩
 | _,_,i+1,x,.cons _ t,e=>by
  obtain ⟨u,h1,h2⟩:=Vals.get (i:=i) (x:=x) t (by simpa using e)
  exact ⟨u,by simpa using h1,h2⟩
theorem Vals.append:∀ {xs ys:List V}{us ws:List Value},Vals xs us→Vals ys ws→Vals (xs++ys) (us++ws)
 | _,_,_,_,.nil,s=>s
 | _,_,_,_,.cons r t,s=>.cons r (Vals.append t s)
theorem Vals.take:∀ {xs:List V}{us:List Value} (n:Nat),Vals xs us→Vals (xs.take n) (us.take n)
 | _,_,0,_=>.nil
 | _,_,_+1,.nil=>.nil
 | _,_,n+1,.cons r t=>.cons r (Vals.take n t)
theorem Vals.drop:∀ {xs:List V}{us:List Value} (n:Nat),Vals xs us→Vals (xs.drop n) (us.drop n)
 | _,_,0,r=>r
 | _,_,_+1,.nil=>.nil
 | _,_,n+1,.cons _ t=>Vals.drop n t
def RelO:Option V→Option Value→Prop
 | some v,some u=>RelV v u
 | none,none=>True
 | _,_=>False
def KV {κ:Type}:List (κ×V)→List (κ×Value)→Prop:=Paired fun (p:κ×V) (q:κ×Value)=>p.1=q.1∧RelV p.2 q.2
def kV:Key→V
 | .inl i=>.int i
 | .inr x=>.str x
inductive HO where
 /-- a list -/
 | lst (xs:List V)
 /-- a tuple (never changes) -/
 | tup (xs:List V)
 /-- a dict whose keys are ints and texts;one whose keys are tuples of ints and texts (the empty one is both) -/
 | dK (kvs:List (Key×V))|dT (kvs:List (List Key×V))
 /-- a set of ints: its members,its size -/
 | set (S:Int→Bool) (n:Nat)
 /-- an instance of the class at C,its dict at dx,its attributes -/
 | ins (C dx:Addr) (fs:List (Str×V))
 /-- the dict of the instance at x -/
 | own (x:Addr)
 /-- the dict of an exception -/
 | xd (fs:List (Str×V))
 /-- a bound method,f of x -/
 | met (f x:Addr)
 /-- a range object lo,lo+1,.. below hi -/
 | rng (lo hi:Int)
 /-- a thing that is known to the object (the script;a dict while a loop walks it): read,never written while it is so -/
 | frz (o:Obj) (u:HO)
 /-- a code object's table -/
 | tbl (ps:Array Value)
 /-- any other thing,by what is true of its one object (a def of one's own: SetO a S n:=HO.ext fun h=>..) -/
 | ext (φ:Heap→Prop)
abbrev Hp:=Addr→Option HO
def upd (H:Hp) (a:Addr) (o:HO):Hp:=fun b=>if b=a then some o else H b
theorem qac {H:Hp}{a:Addr}{o:HO}:upd H a o a=some o:=by unfold upd;rw[if_pos rfl]
theorem yao {H:Hp}{a b:Addr}{o:HO} (h:b≠a):upd H a o b=H b:=by unfold upd;rw[if_neg h]
theorem ne_of {H:Hp}{a b:Addr}{o u:HO} (h:H a=some o) (h':H b=some u) (d:o≠u):a≠b:=by
 intro e;subst e;rw[h] at h';exact d (Option.some.inj h')
theorem qai {H:Hp}{a b:Addr}{o:HO} (h:H a=some o) (h':H b=none):a≠b:=by
 intro e;subst e;rw[h] at h';cases h'
section
variable (P:Program) (w:World)
def ya2 (H:Hp) (h:Heap) (a:Addr):HO→Prop
 | .lst xs=>xs.length≤sizeLine∧∃ (its:List Value) (n:Nat),Vals xs its∧h.get? a=some { cls:=.type "list",data:=.seq its.toArray n }
 | .tup xs=>xs.length≤sizeLine∧∃ its:List Value,Vals xs its∧IsTup h a its.toArray
 | .dK kvs=>kvs.length≤sizeLine∧(a == sysModules)=false∧∃ vs,KV kvs vs∧h.DictOf (ya7 P w) a vs
 | .dT kvs=>kvs.length≤sizeLine∧(a == sysModules)=false∧∃ xs:List (List Key×Addr×Value),
   Paired (fun (p:List Key×V) (q:List Key×Addr×Value)=>p.1=q.1∧H q.2.1=some (.tup (p.1.map kV))∧RelV p.2 q.2.2) kvs xs∧
   ∃ o es ep,h.get? a=some o∧o.ExactDict∧o.data=.dict es ep∧es.toList=xs.map (entryOfKey (tupleKind (ya7 P w)))∧(xs.map (·.1)).Nodup
 | .set S n=>h.SetOf (intKind P w) a S n
 | .ins C dx fs=>H dx=some (.own a)∧fs.length≤1000∧dx≠a∧h.get? a=some (PySem.W.instObj C dx)∧
   ∃ mA,h.Ns1 dx mA∧(∀ f,RelO (fs.lookup f) (mA f))∧PySem.Within mA (fs.map (·.1))
 | .own _=>∃ o,h.get? a=some o
 | .xd fs=>∃ mA,h.Ns1 a mA∧∀ f,RelO (fs.lookup f) (mA f)
 | .rng lo hi=>∃ t u v,h.get? a=some { cls:=.type "range",data:=.fields #[.int lo t,.int hi u,.int 1 v] }
 | .frz o u=>h.get? a=some o∧ya2 H h a u
 | .tbl ps=>h.get? a=some { cls:=.none,data:=.fields ps }
 | .met f x=>h.get? a=some (PySem.W.methodObj (.ref f) (.ref x))
 | .ext φ=>φ h∧(∃ o,h.get? a=some o)∧∀ h1 h2:Heap,φ h1→(∀ o,h1.get? a=some o→h2.get? a=some o)→φ h2
def HOk (H:Hp) (h:Heap):Prop:=∀ a o,H a=some o→ya2 P w H h a o
end
section
variable {P:Program}{w:World}{H H':Hp}{h h':Heap}{a:Addr}{o:HO}
theorem ya2.lt (x:ya2 P w H h a o):a<h.objs.size:=by
 cases o with
 | lst xs=>obtain ⟨_,_,_,_,e⟩:=x;exact Heap.lt_size e
 | tup xs=>obtain ⟨_,_,_,p⟩:=x;exact p.lt
 | dK kvs=>obtain ⟨_,_,_,_,o,_,_,e,_⟩:=x;exact Heap.lt_size e
 | dT kvs=>obtain ⟨_,_,_,_,o,_,_,e,_⟩:=x;exact Heap.lt_size e
 | set S n=>obtain ⟨o,_,_,_,e,_⟩:=x;exact Heap.lt_size e
 | ins C dx fs=>obtain ⟨_,_,_,e,_⟩:=x;exact Heap.lt_size e
 | own y=>obtain ⟨_,e⟩:=x;exact Heap.lt_size e
 | xd fs=>obtain ⟨_,⟨_,_,_,e,_⟩,_⟩:=x;exact Heap.lt_size e
 | rng lo hi=>obtain ⟨_,_,_,e⟩:=x;exact Heap.lt_size e
 | frz ob u=>obtain ⟨e,_⟩:=x;exact Heap.lt_size e
 | tbl ps=>exact Heap.lt_size (show h.get? a=some _ from x)
 | met f y=>exact Heap.lt_size (show h.get? a=some _ from x)
 | ext φ=>obtain ⟨_,⟨_,e⟩,_⟩:=x;exact Heap.lt_size e
theorem Paired.mapP {α β:Type}{F G:α→β→Prop}:∀ {l₁:List α}{l₂:List β},Paired F l₁ l₂→(∀ a b,F a b→G a b)→Paired G l₁ l₂
 | _,_,.nil,_=>.nil
 | _,_,.cons r t,f=>.cons (f _ _ r) (Paired.mapP t f)
theorem ya2.stay (x:ya2 P w H h a o) (k:∀ b u,(b=a∨H b=some (.own a))→h.get? b=some u→h'.get? b=some u)
  (ho:∀ b,H b=some (.own a)→H' b=some (.own a)) (ht:∀ b xs,H b=some (.tup xs)→H' b=some (.tup xs)):ya2 P w H' h' a o:=by
 induction o with
 | lst xs=>obtain ⟨z,its,n,r,e⟩:=x;exact ⟨z,its,n,r,k _ _ (.inl rfl) e⟩
 | tup xs=>obtain ⟨z,its,r,ob,e,c⟩:=x;exact ⟨z,its,r,ob,k _ _ (.inl rfl) e,c⟩
 | dK kvs=>obtain ⟨z,y,vs,r,ob,es,ep,e,c⟩:=x;exact ⟨z,y,vs,r,ob,es,ep,k _ _ (.inl rfl) e,c⟩
 | dT kvs=>
  obtain ⟨z,y,xs,r,ob,es,ep,e,c⟩:=x
  exact ⟨z,y,xs,Paired.mapP r fun p q z=>⟨z.1,ht _ _ z.2.1,z.2.2⟩,ob,es,ep,k _ _ (.inl rfl) e,c⟩
 | set S n=>obtain ⟨ob,es,ep,t,e,c⟩:=x;exact ⟨ob,es,ep,t,k _ _ (.inl rfl) e,c⟩
 | ins C dx fs=>
  obtain ⟨d,z,ne,e,mA,⟨od,es,ep,e2,c⟩,r⟩:=x
  exact ⟨ho _ d,z,ne,k _ _ (.inl rfl) e,mA,⟨od,es,ep,k _ _ (.inr d) e2,c⟩,r⟩
 | own y=>obtain ⟨ob,e⟩:=x;exact ⟨ob,k _ _ (.inl rfl) e⟩
 | xd fs=>obtain ⟨mA,⟨od,es,ep,e,c⟩,r⟩:=x;exact ⟨mA,⟨od,es,ep,k _ _ (.inl rfl) e,c⟩,r⟩
 | rng lo hi=>obtain ⟨t,u,v,e⟩:=x;exact ⟨t,u,v,k _ _ (.inl rfl) e⟩
 | frz ob u ih=>obtain ⟨e,q⟩:=x;exact ⟨k _ _ (.inl rfl) e,ih q⟩
 | tbl ps=>
  have e:h.get? a=some { cls:=.none,data:=.fields ps }:=x
  show h'.get? a=some { cls:=.none,data:=.fields ps }
  exact k a _ (.inl rfl) e
 | met f y=>
  have e:h.get? a=some (PySem.W.methodObj (.ref f) (.ref y)):=x
  show h'.get? a=some (PySem.W.methodObj (.ref f) (.ref y))
  exact k a _ (.inl rfl) e
 | ext φ=>obtain ⟨p,⟨o,e⟩,st⟩:=x;exact ⟨st _ _ p fun o q=>k _ _ (.inl rfl) q,⟨o,k _ _ (.inl rfl) e⟩,st⟩
theorem HOk.lt (x:HOk P w H h) (e:H a=some o):a<h.objs.size:=(x a o e).lt
theorem HOk.fresh (x:HOk P w H h) (e:h.objs.size≤a):H a=none:=by
 cases q:H a with
 | none=>rfl
 | some u=>exact absurd (Nat.lt_of_lt_of_le (x.lt q) e) (Nat.lt_irrefl _)
theorem HOk.kept (x:HOk P w H h) (k:∀ b u,h.get? b=some u→h'.get? b=some u):HOk P w H h':=fun a o e=>
 (x a o e).stay (fun b u _ q=>k b u q) (fun _ q=>q) fun _ _ q=>q
theorem HOk.laid (x:HOk P w H h) (k:∀ b u,h.get? b=some u→h'.get? b=some u) (hp:h.objs.size≤a) (new:ya2 P w (upd H a o) h' a o):HOk P w (upd H a o) h':=fun b u e=>by
 have hn:=x.fresh hp
 by_cases hb:b=a
 ·subst hb;rw[qac] at e;cases e;exact new
 ·rw[yao hb] at e
  exact (x b u e).stay (fun c v _ q=>k c v q) (fun c q=>by rw[yao (qai q hn)];exact q) fun c xs q=>by rw[yao (qai q hn)];exact q
end
def Rd (H:Hp) (a:Addr) (u:HO):Prop:=H a=some u∨∃ o,H a=some (.frz o u)
theorem Rd.ok {P:Program}{w:World}{H:Hp}{h:Heap}{a:Addr}{u:HO} (r:Rd H a u) (x:HOk P w H h):ya2 P w H h a u:=by
 rcases r with r|⟨o,r⟩
 ·exact x a u r
 ·obtain ⟨_,q⟩:=x a _ r
  exact q
def Mut:Option HO→Prop
 | some (.lst _)=>True
 | some (.dK _)=>True
 | some (.dT _)=>True
 | some (.set _ _)=>True
 | some (.ins _ _ _)=>True
 | some (.ext _)=>True
 | _=>False
section
variable {P:Program}{w:World}{H:Hp}{h h':Heap}{x e:Addr}{o':HO}
theorem HOk.write (ok:HOk P w H h) (mu:Mut (H x)) (he:e=x∨H e=some (.own x)) (k:∀ b u,b≠e→h.get? b=some u→h'.get? b=some u) (heo:∃ u,h'.get? e=some u)
  (new:ya2 P w (upd H x o') h' x o'):HOk P w (upd H x o') h':=fun b u q=>by
 have nown:∀ c y,H c=some (.own y)→c≠x:=fun c y r z=>by subst z;rw[r] at mu;exact mu
 have ntup:∀ c xs,H c=some (.tup xs)→c≠x:=fun c xs r z=>by subst z;rw[r] at mu;exact mu
 by_cases hb:b=x
 ·subst hb;rw[qac] at q;cases q;exact new
 ·rw[yao hb] at q
  by_cases hbe:b=e
  ·have q':H b=some (.own x):=by
    rcases he with z|z
    ·exact absurd (hbe.trans z) hb
    ·rw[hbe];exact z
   rw[q] at q';cases q'
   obtain ⟨v,hv⟩:=heo
   exact ⟨v,by rw[hbe];exact hv⟩
  ·refine (ok b u q).stay (fun c v hc r=>k c v ?_ r) (fun c r=>by rw[yao (nown c b r)];exact r) fun c xs r=>by rw[yao (ntup c xs r)];exact r
   rcases hc with rfl|hc
   ·exact hbe
   ·rintro rfl
    rcases he with z|z
    ·exact nown c b hc z
    ·rw[hc] at z;cases z;exact hb rfl
end
structure Un (fs ex:List Addr) (H H':Hp) (h h':Heap):Prop where
 keep:∀ b o,h.get? b=some o→H b=none→b∉fs→b∉ex→h'.get? b=some o
 slot:∀ b o,h.get? b=some o→H b=none→b∈fs→b∉ex→∃ sl,h'.get? b=some { o with slots:=sl }
 free:∀ b o,h.get? b=some o→H b=none→b∉ex→H' b=none
 there:∀ b o,h.get? b=some o→b∉ex→∃ o',h'.get? b=some o'
 tups:∀ b xs,H b=some (.tup xs)→H' b=some (.tup xs)
 frzs:∀ b o u,H b=some (.frz o u)→H' b=some (.frz o u)
 tbls:∀ b ps,H b=some (.tbl ps)→∃ more,H' b=some (.tbl (ps++more))
section
variable {fs fs' ex ex':List Addr}{H H1 H2:Hp}{h h1 h2 h':Heap}{a x e:Addr}{o:HO}
theorem Un.any (u:Un fs ex H H1 h h1) {b:Addr}{ob:Obj} (q:h.get? b=some ob) (n:H b=none) (hx:b∉ex):∃ sl,h1.get? b=some { ob with slots:=sl }:=by
 by_cases hb:b∈fs
 ·exact u.slot b ob q n hb hx
 ·exact ⟨ob.slots,u.keep b ob q n hb hx⟩
theorem Un.kept (k:∀ b u,h.get? b=some u→h'.get? b=some u):Un fs ex H H h h':=
 ⟨fun b ob q _ _ _=>k b ob q,fun b ob q _ _ _=>⟨ob.slots,k b ob q⟩,fun _ _ _ n _=>n,fun b ob q _=>⟨ob,k b ob q⟩,fun _ _ q=>q,fun _ _ _ q=>q,fun _ ps q=>⟨#[],by rw[q];simp⟩⟩
theorem Un.refl:Un fs ex H H h h:=Un.kept fun _ _ q=>q
theorem Un.laid (k:∀ b u,h.get? b=some u→h'.get? b=some u) (hp:h.objs.size≤a) (hn:H a=none):Un fs ex H (upd H a o) h h' where
 keep:=fun b u q _ _ _=>k b u q
 slot:=fun b u q _ _ _=>⟨u.slots,k b u q⟩
 free:=fun b u q n _=>by rw[yao (Nat.ne_of_lt (Nat.lt_of_lt_of_le (Heap.lt_size q) hp))];exact n
 there:=fun b u q _=>⟨u,k b u q⟩
 tups:=fun b xs q=>by rw[yao (qai q hn)];exact q
 frzs:=fun b u xs q=>by rw[yao (qai q hn)];exact q
 tbls:=fun b ps q=>⟨#[],by rw[yao (qai q hn),q];simp⟩
theorem Un.write (mu:Mut (H x)) (he:e=x∨H e=some (.own x)) (k:∀ b u,b≠e→h.get? b=some u→h'.get? b=some u) (heo:∃ u,h'.get? e=some u):Un fs ex H (upd H x o) h h':=by
 have hx:∀ b,H b=none→b≠x:=fun b n z=>by subst z;rw[n] at mu;exact mu
 have hb:∀ b,H b=none→b≠e:=fun b n z=>by
  subst z
  rcases he with r|r
  ·exact hx b n r
  ·rw[n] at r;cases r
 have hm:∀ b u,H b=some u→¬ Mut (some u)→b≠x:=fun b u q nm z=>by subst z;rw[q] at mu;exact nm mu
 refine ⟨fun b u q n _ _=>k b u (hb b n) q,fun b u q n _ _=>⟨u.slots,k b u (hb b n) q⟩,fun b u q n _=>by rw[yao (hx b n)];exact n,fun b u q _=>?_,
  fun b xs q=>by rw[yao (hm b _ q fun z=>z)];exact q,fun b u xs q=>by rw[yao (hm b _ q fun z=>z)];exact q,fun b ps q=>⟨#[],by rw[yao (hm b _ q fun z=>z),q];simp⟩⟩
 by_cases hbe:b=e
 ·subst hbe;exact heo
 ·exact ⟨u,k b u hbe q⟩
end
def trk (h:Heap) (H:Hp):List Addr:=(List.range h.objs.size).filter fun a=>(H a).isSome
def hidT (h:Heap) (H:Hp):Heap:=PySem.W.hideAll h (trk h H)
theorem qgh (h:Heap) (H:Hp):(hidT h H).objs.size=h.objs.size:=PySem.W.hideAll_size _ _
theorem hidT_get {h:Heap}{H:Hp}{b:Addr}{o:Obj} (e:h.get? b=some o) (n:H b=none):(hidT h H).get? b=some o:=
 PySem.W.hideAll_get _ e fun hm=>by
  have q:(H b).isSome=true:=(List.mem_filter.mp hm).2
  rw[n] at q;simp at q
theorem of_hidT {h:Heap}{H:Hp}{b:Addr}{o:Obj} (e:(hidT h H).get? b=some o):h.get? b=some o∧H b=none:=by
 have e':h.get? b=some o:=PySem.W.of_hideAll (trk h H) e
 refine ⟨e',?_⟩
 cases q:H b with
 | none=>rfl
 | some x=>
  have hm:b∈trk h H:=List.mem_filter.mpr ⟨List.mem_range.mpr (Heap.lt_size e'),by simp[q]⟩
  have z:(hidT h H).get? b=none:=PySem.W.hideAll_none (trk h H) hm
  rw[z] at e;cases e
structure Mod (K:PySem.W.Frag) (mg:Str→Option Value) (base:Heap):Prop where
 kin:K.In base
 glob:base.Ns mainGlobals mg
 blt:∃ mb,base.Ns builtinsNs mb∧∀ x:Str,x≠"__name__"→mb x=bootBuiltins x
 nolimit:base.NoLimit
structure Cx where
 prog:Program
 w:World
 K:PySem.W.Frag
 mg:Str→Option Value
 base:Heap
 A:Around
 N:List Str
 s₀:Shared
 H₀:Hp
 env:Env
 outer:List Env
 stack:List Env
 ex:List Addr
 fn:Str→Bool
 calm:Bool
 pn:List (Addr×Obj)
 xe:Value→Shared→Prop
def frs (l:List Env):List Addr:=l.filterMap (·.frame)
abbrev Cx.fs (X:Cx):List Addr:=frs X.outer
def Vis (sc:Scope) (x:Str):Prop:=sc.names.lookup x=some .local∨sc.names.lookup x=some .cell∨sc.names.lookup x=some .free
def Loc (sc:Scope) (x:Str):Prop:=sc.names.lookup x=some .local∨sc.names.lookup x=some .cell
def Look (env:Env) (h:Heap) (m:Str→Option Value) (x:Str) (u:Value):Prop:=
 (env.kindOf x=some .local∧m x=some u)∨((env.kindOf x=some .cell∨env.kindOf x=some .free)∧∃ c,env.cells.lookup x=some c∧h.IsCell c (some u))
structure Cx.Ok (X:Cx):Prop where
 mod:Mod X.K X.mg X.base
 kind:X.env.scope.kind=.function
 glob:X.env.globals=mainGlobals
 blt:X.env.builtins=builtinsNs
 above:X.s₀.heap.objs.size≤X.env.locals
 inj:∀ x y c,X.env.cells.lookup x=some c→X.env.cells.lookup y=some c→x=y
 has:∀ x,(X.env.kindOf x=some .cell∨X.env.kindOf x=some .free)→∃ c,X.env.cells.lookup x=some c
 cab:∀ x c,X.fn x=true→X.env.cells.lookup x=some c→X.s₀.heap.objs.size≤c
 hd:X.calm=true→X.A.handled=none
 frames:X.A.frames=some X.stack
 stk:X.stack=X.outer∨(X.stack=X.env::X.outer∧X.env.frame=some X.env.locals)
 exf:∀ b∈X.ex,b≠X.env.locals∧∀ x c,X.env.cells.lookup x=some c→c≠b
 bs:∀ b o,X.base.get? b=some o→X.s₀.heap.get? b=some o∧X.H₀ b=none
 bsz:X.base.objs.size≤X.s₀.heap.objs.size
 noex:∀ b o,X.base.get? b=some o→b∉X.ex
 exfs:∀ b∈X.ex,b∉X.fs
 funs:X.s₀.heap.FunFrames X.base X.outer
 frf:∀ b∈X.fs,X.H₀ b=none
structure Inv (X:Cx) (pins:List (Addr×Obj)) (σ:List (Option V)) (H:Hp) (s:Shared):Prop where
 ok:X.Ok
 os:s.os=X.s₀.os
 bare:AllBare s.gens
 base:Un X.fs X.ex X.H₀ H X.s₀.heap s.heap
 loc:∃ m,s.heap.Ns X.env.locals m∧∀ (i:Nat) (x:Str) (v:V),X.N[i]?=some x→σ[i]?=some (some v)→Vis X.env.scope x→∃ u,RelV v u∧Look X.env s.heap m x u
 cell:∀ x c,X.env.cells.lookup x=some c→∃ v,s.heap.IsCell c v
 free:H X.env.locals=none
 freeC:∀ x c,X.env.cells.lookup x=some c→H c=none
 pin:∀ p∈X.pn++pins,s.heap.get? p.1=some p.2∧H p.1=none∧p.1≠X.env.locals∧p.1∉X.fs∧∀ v,p.2.data≠.cell v
 hok:HOk X.prog X.w H s.heap
 len:σ.length=X.N.length
section
variable {X:Cx}{pins:List (Addr×Obj)}{σ:List (Option V)}{H H':Hp}{s:Shared}{h':Heap}
theorem Cx.Ok.nofr (ok:X.Ok) {b:Addr}{o:Obj} (e:X.base.get? b=some o):b∉X.fs:=fun hb=>by
 have:=(ok.funs.mem hb).1
 rw[e] at this;cases this
theorem Inv.bs (I:Inv X pins σ H s):∀ b o,X.base.get? b=some o→s.heap.get? b=some o∧H b=none:=fun b o e=>
 ⟨I.base.keep b o (I.ok.bs b o e).1 (I.ok.bs b o e).2 (I.ok.nofr e) (I.ok.noex b o e),I.base.free b o (I.ok.bs b o e).1 (I.ok.bs b o e).2 (I.ok.noex b o e)⟩
theorem Inv.bk (I:Inv X pins σ H s):∀ b o,X.base.get? b=some o→s.heap.get? b=some o:=fun b o e=>(I.bs b o e).1
theorem Inv.mod (I:Inv X pins σ H s):Mod X.K X.mg X.base:=I.ok.mod
theorem Inv.kIn (I:Inv X pins σ H s):X.K.In s.heap:=I.ok.mod.kin.keeps I.bk
theorem Inv.lt (I:Inv X pins σ H s):X.env.locals<s.heap.objs.size:=let ⟨_,hn,_⟩:=I.loc;hn.lt
theorem Inv.sz (I:Inv X pins σ H s):X.s₀.heap.objs.size≤s.heap.objs.size:=Nat.le_trans I.ok.above (Nat.le_of_lt I.lt)
theorem Inv.nofs (I:Inv X pins σ H s) {a:Addr} (h:s.heap.objs.size≤a):a∉X.fs:=fun hb=>by
 obtain ⟨_,o,ho,_⟩:=I.ok.funs.mem hb
 exact absurd (Nat.lt_of_lt_of_le (Heap.lt_size ho) (Nat.le_trans I.sz h)) (Nat.lt_irrefl _)
theorem Inv.cne (I:Inv X pins σ H s):∀ x c,X.env.cells.lookup x=some c→c≠X.env.locals:=fun x c e z=>by
 obtain ⟨v,o,ho,hd⟩:=I.cell x c e
 obtain ⟨m,⟨o',es,ep,ho',hd',_⟩,_⟩:=I.loc
 rw[z,ho'] at ho;cases ho;rw[hd'] at hd;cases hd
theorem Inv.funs (I:Inv X pins σ H s):s.heap.FunFrames X.base X.outer:=by
 have all:∀ (l:List Env),(∀ b∈frs l,b∈X.fs)→X.s₀.heap.FunFrames X.base l→s.heap.FunFrames X.base l:=by
  intro l
  induction l with
  | nil=>intro _ _;trivial
  | cons env r ih=>
   intro hs hl
   obtain ⟨hk,⟨L,o,hf,hn,ho,hd⟩,hr⟩:=hl
   have hL:L∈X.fs:=hs L (by unfold frs;rw[List.filterMap_cons,hf];exact List.mem_cons_self)
   obtain ⟨sl,e⟩:=I.base.slot L o ho (I.ok.frf L hL) hL fun z=>I.ok.exfs L z hL
   exact ⟨hk,⟨L,_,hf,hn,e,hd⟩,ih (fun b hb=>hs b (by unfold frs;rw[List.filterMap_cons,hf];exact List.mem_cons_of_mem _ hb)) hr⟩
 exact all X.outer (fun _ hb=>hb) I.ok.funs
theorem Inv.stack (I:Inv X pins σ H s):s.heap.FunFrames X.base X.stack:=by
 rcases I.ok.stk with e|⟨e,hf⟩
 ·rw[e];exact I.funs
 ·rw[e]
  obtain ⟨m,hn,_⟩:=I.loc
  refine .cons (by rw[I.ok.kind];decide) hf hn ?_ I.funs
  exact Heap.get?_none_of_le (Nat.le_trans I.ok.bsz I.ok.above)
theorem Inv.stkSub (I:Inv X pins σ H s):∀ b∈frs X.stack,b∈X.env.locals::X.fs:=fun b hb=>by
 rcases I.ok.stk with e|⟨e,hf⟩
 ·rw[e] at hb;exact List.mem_cons_of_mem _ hb
 ·rw[e] at hb
  unfold frs at hb
  rw[List.filterMap_cons,hf] at hb
  exact hb
theorem Inv.stkFree (I:Inv X pins σ H s):∀ b∈frs X.stack,H b=none:=fun b hb=>by
 rcases List.mem_cons.mp (I.stkSub b hb) with e|hb
 ·rw[e];exact I.free
 ·obtain ⟨_,o,ho,_⟩:=I.ok.funs.mem hb
  exact I.base.free b o ho (I.ok.frf b hb) fun z=>I.ok.exfs b z hb
theorem Inv.step {g':Array GenState}{t':Nat}{d':Drawn}{ch:List Addr} (I:Inv X pins σ H s)
  (hch:∀ b∈ch,(b∈X.ex∨X.s₀.heap.objs.size≤b)∧b≠X.env.locals∧(∀ x c,X.env.cells.lookup x=some c→c≠b)∧∀ p∈X.pn++pins,p.1≠b)
  (keep:∀ b o,b≠X.env.locals→b∉X.fs→b∉ch→s.heap.get? b=some o→H b=none→h'.get? b=some o)
  (slot:∀ b o,b≠X.env.locals→b∈X.fs→b∉ch→s.heap.get? b=some o→H b=none→∃ sl,h'.get? b=some { o with slots:=sl }) (free:∀ b o,b∉ch→s.heap.get? b=some o→H b=none→H' b=none)
  (there:∀ b o,b∉ch→s.heap.get? b=some o→∃ o',h'.get? b=some o')
  (tups:∀ b xs,H b=some (.tup xs)→H' b=some (.tup xs)) (frzs:∀ b o u,H b=some (.frz o u)→H' b=some (.frz o u)) (tbls:∀ b ps,H b=some (.tbl ps)→∃ more,H' b=some (.tbl (ps++more)))
  (ns:∀ m,s.heap.Ns X.env.locals m→h'.Ns X.env.locals m) (hok:HOk X.prog X.w H' h') (hg:AllBare g') :
  Inv X pins σ H' { s with heap:=h',gens:=g',drawn:=d',toks:=t' }:=by
 have neL:∀ b o,X.s₀.heap.get? b=some o→b≠X.env.locals:=fun b o e=>Nat.ne_of_lt (Nat.lt_of_lt_of_le (Heap.lt_size e) I.ok.above)
 have neC:∀ b o,X.s₀.heap.get? b=some o→b∉X.ex→b∉ch:=fun b o e hx hb=>by
  rcases (hch b hb).1 with z|z
  ·exact hx z
  ·exact absurd (Nat.lt_of_lt_of_le (Heap.lt_size e) z) (Nat.lt_irrefl _)
 have cellK:∀ x c,X.env.cells.lookup x=some c→∀ v,s.heap.IsCell c v→h'.IsCell c v:=fun x c e v ⟨o,ho,hd⟩=>by
  have nch:c∉ch:=fun z=>(hch c z).2.2.1 x c e rfl
  by_cases hc:c∈X.fs
  ·obtain ⟨sl,q⟩:=slot c o (I.cne x c e) hc nch ho (I.freeC x c e)
   exact ⟨_,q,hd⟩
  ·exact ⟨o,keep c o (I.cne x c e) hc nch ho (I.freeC x c e),hd⟩
 refine ⟨I.ok,I.os,hg,⟨fun b o e n hb hx=>?_,fun b o e n hb hx=>?_,fun b o e n hx=>?_,fun b o e hx=>?_,fun b xs e=>tups b xs (I.base.tups b xs e),fun b o xs e=>frzs b o xs (I.base.frzs b o xs e),fun b ps e=>?_⟩,?_,fun x c e=>?_,?_,fun x c e=>?_,fun p hp=>?_,hok,I.len⟩
 ·exact keep b o (neL b o e) hb (neC b o e hx) (I.base.keep b o e n hb hx) (I.base.free b o e n hx)
 ·obtain ⟨sl,e1⟩:=I.base.slot b o e n hb hx
  obtain ⟨sl',e2⟩:=slot b _ (neL b o e) hb (neC b o e hx) e1 (I.base.free b o e n hx)
  exact ⟨sl',e2⟩
 ·obtain ⟨o',e1⟩:=I.base.there b o e hx
  exact free b o' (neC b o e hx) e1 (I.base.free b o e n hx)
 ·obtain ⟨o',e1⟩:=I.base.there b o e hx
  exact there b o' (neC b o e hx) e1
 ·obtain ⟨m1,e1⟩:=I.base.tbls b ps e
  obtain ⟨m2,e2⟩:=tbls b _ e1
  exact ⟨m1++m2,by rw[e2,Array.append_assoc]⟩
 ·obtain ⟨m,hn,hl⟩:=I.loc
  refine ⟨m,ns m hn,fun i x v e1 e2 e3=>?_⟩
  obtain ⟨u,r,l⟩:=hl i x v e1 e2 e3
  refine ⟨u,r,?_⟩
  rcases l with l|⟨k,c,e,z⟩
  ·exact .inl l
  ·exact .inr ⟨k,c,e,cellK x c e _ z⟩
 ·obtain ⟨v,z⟩:=I.cell x c e
  exact ⟨v,cellK x c e v z⟩
 ·obtain ⟨m,⟨o,_,_,ho,_⟩,_⟩:=I.loc
  exact free _ o (fun z=>(hch _ z).2.1 rfl) ho I.free
 ·obtain ⟨v,o,ho,hd⟩:=I.cell x c e
  exact free c o (fun z=>(hch c z).2.2.1 x c e rfl) ho (I.freeC x c e)
 ·obtain ⟨e,n,ne,nf,d⟩:=I.pin p hp
  have nch:p.1∉ch:=fun z=>(hch p.1 z).2.2.2 p hp rfl
  exact ⟨keep p.1 p.2 ne nf nch e n,free p.1 p.2 nch e n,ne,nf,d⟩
theorem Inv.un {t':Nat} (I:Inv X pins σ H s) (u:Un X.fs [] H H' s.heap h') (hok:HOk X.prog X.w H' h'):Inv X pins σ H' { s with heap:=h',toks:=t' }:=by
 obtain ⟨m,⟨o,es,ep,ho,r⟩,_⟩:=id I.loc
 obtain ⟨sl,hL⟩:=u.any ho I.free (by simp)
 exact I.step (g':=s.gens) (d':=s.drawn) (ch:=[]) (fun _ z=>nomatch z) (fun b o _ hb _ e n=>u.keep b o e n hb (by simp)) (fun b o _ hb _ e n=>u.slot b o e n hb (by simp)) (fun b o _ e n=>u.free b o e n (by simp)) (fun b o _ e=>u.there b o e (by simp)) u.tups u.frzs u.tbls (fun m' hm=>by
  obtain ⟨o',es',ep',ho',r'⟩:=hm
  rw[ho] at ho';cases ho'
  exact ⟨_,es',ep',hL,r'⟩) hok I.bare
theorem Inv.call {g':Array GenState}{t':Nat}{d':Drawn}{ch:List Addr} (I:Inv X pins σ H s) (u:Un (frs X.stack) ch H H' s.heap h') (hok:HOk X.prog X.w H' h') (hg:AllBare g')
  (hch:∀ b∈ch,(b∈X.ex∨X.s₀.heap.objs.size≤b)∧b≠X.env.locals∧(∀ x c,X.env.cells.lookup x=some c→c≠b)∧∀ p∈X.pn++pins,p.1≠b) :
  Inv X pins σ H' { s with heap:=h',gens:=g',drawn:=d',toks:=t' }:=by
 obtain ⟨m,⟨o,es,ep,ho,r⟩,_⟩:=id I.loc
 obtain ⟨sl,hL⟩:=u.any ho I.free fun z=>(hch _ z).2.1 rfl
 exact I.step (ch:=ch) hch (fun b o hL hb hc e n=>u.keep b o e n (fun z=>(List.mem_cons.mp (I.stkSub b z)).elim hL hb) hc) (fun b o _ _ hc e n=>u.any e n hc) (fun b o hc e n=>u.free b o e n hc) (fun b o hc e=>u.there b o e hc) u.tups u.frzs u.tbls (fun m' hm=>by
  obtain ⟨o',es',ep',ho',r'⟩:=hm
  rw[ho] at ho';cases ho'
  exact ⟨_,es',ep',hL,r'⟩) hok hg
theorem Inv.turned {t':Nat}{it:Addr} (I:Inv X pins σ H s) (k:∀ b o,b≠it→s.heap.get? b=some o→h'.get? b=some o) (hn:H it=none) (hL:it≠X.env.locals)
  (h1:it∈X.ex∨X.s₀.heap.objs.size≤it) (h2:∀ x c,X.env.cells.lookup x=some c→c≠it) (h3:∀ p∈X.pn++pins,p.1≠it):Inv X pins σ H { s with heap:=h',toks:=t' }:=by
 have nit:∀ b u,H b=some u→b≠it:=fun b u e z=>by rw[z,hn] at e;cases e
 refine I.step (g':=s.gens) (d':=s.drawn) (ch:=[it]) (fun b hb=>?_) (fun b o _ _ hc e _=>k b o (fun z=>hc (by simp[z])) e) (fun b o _ _ hc e _=>⟨o.slots,k b o (fun z=>hc (by simp[z])) e⟩) (fun _ _ _ _ n=>n)
  (fun b o hc e=>⟨o,k b o (fun z=>hc (by simp[z])) e⟩) (fun _ _ e=>e) (fun _ _ _ e=>e) (fun b ps e=>⟨#[],by rw[e];simp⟩) (fun m hm=>?_) (fun b u e=>?_) I.bare
 ·have e:b=it:=by simpa using hb
  subst e
  exact ⟨h1,hL,h2,h3⟩
 ·obtain ⟨o,es,ep,ho,r⟩:=hm
  exact ⟨o,es,ep,k _ o (Ne.symm hL) ho,r⟩
 ·refine (I.hok b u e).stay (fun c v hc q=>k c v ?_ q) (fun _ q=>q) fun _ _ q=>q
  rcases hc with z|z
  ·rw[z];exact nit b u e
  ·exact nit c _ z
theorem Inv.tok (I:Inv X pins σ H s) (t:Nat):Inv X pins σ H { s with toks:=t }:=I.un (h':=s.heap) (t':=t) Un.refl I.hok
theorem Inv.kept {t':Nat} (I:Inv X pins σ H s) (k:∀ b u,s.heap.get? b=some u→h'.get? b=some u):Inv X pins σ H { s with heap:=h',toks:=t' }:=I.un (Un.kept k) (I.hok.kept k)
theorem Inv.laid {a:Addr}{o:HO}{t':Nat} (I:Inv X pins σ H s) (k:∀ b u,s.heap.get? b=some u→h'.get? b=some u) (hp:s.heap.objs.size≤a) (new:ya2 X.prog X.w (upd H a o) h' a o) :
  Inv X pins σ (upd H a o) { s with heap:=h',toks:=t' }:=I.un (Un.laid k hp (I.hok.fresh hp)) (I.hok.laid k hp new)
theorem Inv.write {x e:Addr}{o:HO}{t':Nat} (I:Inv X pins σ H s) (mu:Mut (H x)) (he:e=x∨H e=some (.own x)) (k:∀ b u,b≠e→s.heap.get? b=some u→h'.get? b=some u) (heo:∃ u,h'.get? e=some u)
  (new:ya2 X.prog X.w (upd H x o) h' x o):Inv X pins σ (upd H x o) { s with heap:=h',toks:=t' }:=I.un (Un.write mu he k heo) (I.hok.write mu he k heo new)
theorem Inv.weak {σ':List (Option V)} (I:Inv X pins σ H s) (hl:σ'.length=σ.length) (w:∀ (i:Nat) v,σ'[i]?=some (some v)→σ[i]?=some (some v)):Inv X pins σ' H s:=
 ⟨I.ok,I.os,I.bare,I.base,let ⟨m,hn,hl'⟩:=I.loc;⟨m,hn,fun i x v e1 e2 e3=>hl' i x v e1 (w i v e2) e3⟩,I.cell,I.free,I.freeC,I.pin,I.hok,hl.trans I.len⟩
theorem Inv.pins_of {pins':List (Addr×Obj)} (I:Inv X pins σ H s) (h:∀ p∈pins',s.heap.get? p.1=some p.2∧H p.1=none∧p.1≠X.env.locals∧p.1∉X.fs∧∀ v,p.2.data≠.cell v):Inv X pins' σ H s:=
 ⟨I.ok,I.os,I.bare,I.base,I.loc,I.cell,I.free,I.freeC,fun p hp=>(List.mem_append.mp hp).elim (fun z=>I.pin p (List.mem_append_left _ z)) (h p),I.hok,I.len⟩
theorem ye0 {N:List Str} (hN:N.Nodup) {i j:Nat}{x:Str} (a:N[i]?=some x) (b:N[j]?=some x):i=j:=by
 obtain ⟨h1,e1⟩:=List.getElem?_eq_some_iff.mp a
 obtain ⟨h2,e2⟩:=List.getElem?_eq_some_iff.mp b
 exact (List.getElem_inj hN).mp (e1.trans e2.symm)
theorem qf1 {M:Model}{A:Around}{E:Value→Shared→Prop}{i:Nat}{x:Str}{v:V}{u:Value}{Q:Unit→Shared→Prop} (I:Inv X pins σ H s) (hN:X.N.Nodup) (hi:X.N[i]?=some x) (hx:Loc X.env.scope x) (r:RelV v u)
  (h:∀ s',Inv X pins (σ.set i (some v)) H s'→(∃ a,Heap.SameBut a s.heap s'.heap∧(a=X.env.locals∨X.env.cells.lookup x=some a))→Q () s') (hf:X.fn x=true∨X.env.scope.names.lookup x=some .local:=by first|exact .inl rfl|exact .inr rfl|assumption):wpAny M A (storeName X.env x u) Q E s:=by
 obtain ⟨m,hn,hl⟩:=id I.loc
 have hcls:(X.env.scope.kind == .class||(X.env.scope.kind == .module&&X.env.locals != X.env.globals))=false:=by rw[I.ok.kind];rfl
 have hiσ:i<σ.length:=by rw[I.len];exact (List.getElem?_eq_some_iff.mp hi).1
 have cne:=I.cne
 have tracked:∀ {a:Addr}{h':Heap},(∃ o,s.heap.get? a=some o∧H a=none)→Heap.SameBut a s.heap h'→HOk X.prog X.w H h':=fun {a h'} ha hs b ob e=>by
  obtain ⟨_,_,hfree⟩:=ha
  refine (I.hok b ob e).stay (fun c w' hc q=>(hs.2 c ?_).trans q) (fun _ q=>q) fun _ _ q=>q
  rintro rfl
  rcases hc with rfl|hc
  ·rw[hfree] at e;cases e
  ·rw[hfree] at hc;cases hc
 rcases hx with hk|hk
 ·refine wpAny_storeName_local hk hn (fun h' hn' hs=>?_) hcls
  obtain ⟨oL,_,_,hoL,_⟩:=id hn
  refine h _ ⟨I.ok,I.os,I.bare,⟨fun b o e n hb hx=>?_,fun b o e n hb hx=>?_,I.base.free,fun b o e hx=>?_,I.base.tups,I.base.frzs,I.base.tbls⟩,⟨_,hn',fun j y v' e1 e2 e3=>?_⟩,fun y c e=>?_,I.free,I.freeC,fun p hp=>?_,tracked ⟨oL,hoL,I.free⟩ hs,by simpa using I.len⟩ ⟨_,hs,.inl rfl⟩
  ·exact (hs.2 b (Nat.ne_of_lt (Nat.lt_of_lt_of_le (Heap.lt_size e) I.ok.above))).trans (I.base.keep b o e n hb hx)
  ·obtain ⟨sl,e1⟩:=I.base.slot b o e n hb hx
   exact ⟨sl,(hs.2 b (Nat.ne_of_lt (Nat.lt_of_lt_of_le (Heap.lt_size e) I.ok.above))).trans e1⟩
  ·obtain ⟨o',e1⟩:=I.base.there b o e hx
   exact ⟨o',(hs.2 b (Nat.ne_of_lt (Nat.lt_of_lt_of_le (Heap.lt_size e) I.ok.above))).trans e1⟩
  ·by_cases hj:j=i
   ·subst hj
    rw[hi] at e1;cases e1
    rw[List.getElem?_set_self hiσ] at e2
    cases e2
    exact ⟨u,r,.inl ⟨hk,by simp⟩⟩
   ·rw[List.getElem?_set_ne (Ne.symm hj)] at e2
    obtain ⟨u',r',q⟩:=hl j y v' e1 e2 e3
    refine ⟨u',r',?_⟩
    rcases q with ⟨k,e⟩|⟨k,c,e,z⟩
    ·refine .inl ⟨k,?_⟩
     have:y≠x:=fun e=>hj (ye0 hN e1 (e ▸ hi))
     simp[this,e]
    ·exact .inr ⟨k,c,e,z.sameBut hs (cne y c e)⟩
  ·obtain ⟨w',z⟩:=I.cell y c e
   exact ⟨w',z.sameBut hs (cne y c e)⟩
  ·obtain ⟨e,n,ne,nf,d⟩:=I.pin p hp
   exact ⟨(hs.2 p.1 ne).trans e,n,ne,nf,d⟩
 ·have hfn:X.fn x=true:=by
   rcases hf with z|z
   ·exact z
   ·rw[z] at hk;cases hk
  obtain ⟨c,hc⟩:=I.ok.has x (.inl hk)
  obtain ⟨w',z⟩:=I.cell x c hc
  refine wpAny_storeName_cell I.ok.kind hk hc z (fun h' hc' hs=>?_)
  obtain ⟨oc,hoc,hocd⟩:=id z
  refine h { s with heap:=h' } ⟨I.ok,I.os,I.bare,⟨fun b o e n hb hx=>?_,fun b o e n hb hx=>?_,I.base.free,fun b o e hx=>?_,I.base.tups,I.base.frzs,I.base.tbls⟩,⟨m,hn.sameBut hs (Ne.symm (cne x c hc)),fun j y v' e1 e2 e3=>?_⟩,fun y c' e=>?_,I.free,I.freeC,fun p hp=>?_,tracked ⟨oc,hoc,I.freeC x c hc⟩ hs,by simpa using I.len⟩ ⟨c,hs,.inr hc⟩
  ·exact (hs.2 b (Nat.ne_of_lt (Nat.lt_of_lt_of_le (Heap.lt_size e) (I.ok.cab x c hfn hc)))).trans (I.base.keep b o e n hb hx)
  ·obtain ⟨sl,e1⟩:=I.base.slot b o e n hb hx
   exact ⟨sl,(hs.2 b (Nat.ne_of_lt (Nat.lt_of_lt_of_le (Heap.lt_size e) (I.ok.cab x c hfn hc)))).trans e1⟩
  ·obtain ⟨o',e1⟩:=I.base.there b o e hx
   exact ⟨o',(hs.2 b (Nat.ne_of_lt (Nat.lt_of_lt_of_le (Heap.lt_size e) (I.ok.cab x c hfn hc)))).trans e1⟩
  ·by_cases hj:j=i
   ·subst hj
    rw[hi] at e1;cases e1
    rw[List.getElem?_set_self hiσ] at e2
    cases e2
    exact ⟨u,r,.inr ⟨.inl hk,c,hc,hc'⟩⟩
   ·rw[List.getElem?_set_ne (Ne.symm hj)] at e2
    obtain ⟨u',r',q⟩:=hl j y v' e1 e2 e3
    refine ⟨u',r',?_⟩
    rcases q with q|⟨k,c',e,z'⟩
    ·exact .inl q
    ·refine .inr ⟨k,c',e,z'.sameBut hs ?_⟩
     rintro rfl
     exact hj (ye0 hN e1 (I.ok.inj _ _ _ e hc ▸ hi))
  ·by_cases hcc:c'=c
   ·subst hcc;exact ⟨_,hc'⟩
   ·obtain ⟨w2,z2⟩:=I.cell y c' e
    exact ⟨w2,z2.sameBut hs hcc⟩
  ·obtain ⟨e,n,ne,nf,d⟩:=I.pin p hp
   refine ⟨(hs.2 p.1 ?_).trans e,n,ne,nf,d⟩
   intro q
   rw[q,hoc] at e
   have q':oc=p.2:=Option.some.inj e
   exact d w' (by rw[← q'];exact hocd)
theorem qe8 {M:Model}{A:Around}{E:Value→Shared→Prop}{i:Nat}{x:Str}{v:V}{u:Value}{Q:Unit→Shared→Prop} (I:Inv X pins σ H s) (hN:X.N.Nodup) (hi:X.N[i]?=some x) (hx:Loc X.env.scope x) (r:RelV v u)
  (h:∀ s',Inv X pins (σ.set i (some v)) H s'→Q () s') (hf:X.fn x=true∨X.env.scope.names.lookup x=some .local:=by first|exact .inl rfl|exact .inr rfl|assumption):wpAny M A (storeName X.env x u) Q E s:=
 qf1 I hN hi hx r (fun s' I' _=>h s' I') hf
theorem Inv.call' {s':Shared}{ch:List Addr} (I:Inv X pins σ H s) (ho:s'.os=s.os) (u:Un (frs X.stack) ch H H' s.heap s'.heap) (hok:HOk X.prog X.w H' s'.heap) (hg:AllBare s'.gens)
  (hch:∀ b∈ch,(b∈X.ex∨X.s₀.heap.objs.size≤b)∧b≠X.env.locals∧(∀ x c,X.env.cells.lookup x=some c→c≠b)∧∀ p∈X.pn++pins,p.1≠b):Inv X pins σ H' s':=by
 obtain ⟨h',g',d',t',o'⟩:=s'
 have e:o'=s.os:=ho
 subst e
 exact I.call (g':=g') (t':=t') (d':=d') u hok hg hch
end
abbrev XK:=Value→Option Addr→Hp→Prop
abbrev St:=List (Option V)
abbrev VK:=V→Hp→Prop
abbrev TE:=St→Hp→VK→Prop
abbrev TT:=St→Hp→(Bool→Hp→Prop)→Prop
abbrev TA:=St→Hp→(List V→Hp→Prop)→Prop
structure Ends where
 nx:St→Hp→Prop
 rt:VK
 bk:St→Hp→Prop:=fun _ _=>False
 ct:St→Hp→Prop:=fun _ _=>False
abbrev TS:=Ends→St→Hp→Prop
def EP (X:Cx) (pins:List (Addr×Obj)) (σ:St) (Q:VK) (u:Value) (s':Shared):Prop:=∃ v H',Inv X pins σ H' s'∧RelV v u∧Q v H'
def TP (X:Cx) (pins:List (Addr×Obj)) (σ:St) (Q:Bool→Hp→Prop) (b:Bool) (s':Shared):Prop:=∃ H',Inv X pins σ H' s'∧Q b H'
def AP (X:Cx) (pins:List (Addr×Obj)) (σ:St) (Q:List V→Hp→Prop) (us:List Value) (s':Shared):Prop:=∃ vs H',Inv X pins σ H' s'∧Vals vs us∧Q vs H'
def SP (X:Cx) (pins:List (Addr×Obj)) (D:Ends) (f:Flow) (s':Shared):Prop:=
 match f with
 | .next=>∃ σ' H',Inv X pins σ' H' s'∧D.nx σ' H'
 | .brk=>∃ σ' H',Inv X pins σ' H' s'∧D.bk σ' H'
 | .cont=>∃ σ' H',Inv X pins σ' H' s'∧D.ct σ' H'
 | .ret u=>∃ v σ' H',Inv X pins σ' H' s'∧RelV v u∧D.rt v H'
def PE (X:Cx) (e:Expr) (t:TE):Prop:=
 ∀ (pins:List (Addr×Obj)) (s:Shared) (σ:St) (H:Hp) (Q:VK),Inv X pins σ H s→t σ H Q→wpAny (model X.prog X.w) X.A (eval e X.env) (EP X pins σ Q) X.xe s
def PT (X:Cx) (e:Expr) (t:TT):Prop:=
 ∀ (pins:List (Addr×Obj)) (s:Shared) (σ:St) (H:Hp) (Q:Bool→Hp→Prop),Inv X pins σ H s→t σ H Q→wpAny (model X.prog X.w) X.A (isTrue e X.env (eval e X.env)) (TP X pins σ Q) X.xe s
def PW (X:Cx) (e:Expr) (t:TT):Prop:=
 ∀ (whole:Sem Value) (pins:List (Addr×Obj)) (s:Shared) (σ:St) (H:Hp) (Q:Bool→Hp→Prop),Inv X pins σ H s→t σ H Q→wpAny (model X.prog X.w) X.A (isTrue e X.env whole) (TP X pins σ Q) X.xe s
theorem PW.pt {X:Cx}{e:Expr}{t:TT} (h:PW X e t):PT X e t:=h _
def PA (X:Cx) (es:List Expr) (t:TA):Prop:=
 ∀ (pos:Pos) (pins:List (Addr×Obj)) (s:Shared) (σ:St) (H:Hp) (Q:List V→Hp→Prop),Inv X pins σ H s→t σ H Q→wpAny (model X.prog X.w) X.A (spliced (backTo pos (starEach es X.env))) (AP X pins σ Q) X.xe s
def PS (X:Cx) (st:Stmt) (t:TS):Prop:=
 ∀ (pins:List (Addr×Obj)) (s:Shared) (σ:St) (H:Hp) (D:Ends),Inv X pins σ H s→t D σ H→wpAny (model X.prog X.w) X.A (exec st X.env) (SP X pins D) X.xe s
def PSs (X:Cx) (st:List Stmt) (t:TS):Prop:=
 ∀ (pins:List (Addr×Obj)) (s:Shared) (σ:St) (H:Hp) (D:Ends),Inv X pins σ H s→t D σ H→wpAny (model X.prog X.w) X.A (execs st X.env) (SP X pins D) X.xe s
theorem thn {α:Type}{t:Sem α}{Q Q':α→Shared→Prop}{M:Model}{A:Around}{E:Value→Shared→Prop}{s:Shared} (h:wpAny M A t Q E s) (hQ:∀ a s,Q a s→Q' a s):wpAny M A t Q' E s:=wpAny_mono h hQ fun _ _ x=>x
section
variable {X:Cx}
def tVar (i:Nat):TE:=fun σ H Q=>∃ v,σ[i]?=some (some v)∧Q v H
def tC (v:V):TE:=fun _ H Q=>Q v H
theorem pe_var {i:Nat}{x:Str}{pos:Pos} (hN:X.N[i]?=some x) (hv:Vis X.env.scope x) (hd:(x == ("__debug__" : Str))=false:=by decide) (hcd:(x == ("__classdict__" : Str))=false:=by decide):PE X (.Name x pos) (tVar i):=by
 intro pins s σ H Q I h
 obtain ⟨v,e,h⟩:=h
 obtain ⟨m,hn,hl⟩:=I.loc
 obtain ⟨u,r,l⟩:=hl i x v hN e hv
 have fin:EP X pins σ Q u s:=⟨v,H,I,r,h⟩
 rcases l with ⟨hk,hm⟩|⟨hk,c,hc,hcell⟩
 ·exact wpAny_Name (wpAny_loadName_local I.ok.kind hk hn hm fin) hd
 ·rcases hk with hk|hk
  ·exact wpAny_Name (wpAny_loadName_cell I.ok.kind hk hc hcell fin) hd
  ·exact wpAny_Name (wpAny_loadName_free I.ok.kind hk hc hcell fin hcd) hd
theorem yaa {i j pos}:PE X (.Constant (.int i) j pos) (tC (.int i)):=fun _ _ _ H _ I h=>wpAny_Constant_int ⟨.int i,H,I.tok _,⟨_,rfl⟩,h⟩
theorem qb1 {b j pos}:PE X (.Constant (.bool b) j pos) (tC (.bl b)):=fun _ _ _ H _ I h=>Constant_bool ⟨.bl b,H,I,rfl,h⟩
theorem ybl {j pos}:PE X (.Constant .none j pos) (tC .non):=fun _ _ _ H _ I h=>Constant_none ⟨.non,H,I,rfl,h⟩
theorem yay {x j pos}:PE X (.Constant (.str x) j pos) (tC (.str x)):=fun _ _ _ H _ I h=>Calls.Constant_str ⟨.str x,H,I.tok _,⟨_,rfl⟩,h⟩
def Gl (X:Cx) (x:Str):Prop:=X.env.kindOf x=some .globalImplicit
theorem ld_glob {E:Value→Shared→Prop}{pins:List (Addr×Obj)}{s:Shared}{σ:St}{H:Hp}{x:Str}{u:Value}{pos:Pos}{Q:Value→Shared→Prop} (I:Inv X pins σ H s) (hg:Gl X x) (hm:X.mg x=some u) (h:Q u s)
  (hd:(x == ("__debug__" : Str))=false:=by decide):wpAny (model X.prog X.w) X.A (eval (.Name x pos) X.env) Q E s:=
 Calls.Name_function_global I.ok.kind hg (Calls.loadGlobal_global (by rw[I.ok.glob];exact I.mod.glob.keeps I.bk) hm h) hd
theorem yd0 {E:Value→Shared→Prop}{pins:List (Addr×Obj)}{s:Shared}{σ:St}{H:Hp}{x:Str}{u:Value}{pos:Pos}{Q:Value→Shared→Prop} (I:Inv X pins σ H s) (hg:Gl X x) (hm:X.mg x=none) (hv:bootBuiltins x=some u) (h:Q u s)
  (hn:x≠"__name__":=by decide) (hd:(x == ("__debug__" : Str))=false:=by decide):wpAny (model X.prog X.w) X.A (eval (.Name x pos) X.env) Q E s:=by
 obtain ⟨mb,h1,h2⟩:=I.mod.blt
 exact Calls.Name_function_global I.ok.kind hg (Calls.loadGlobal_builtin (by rw[I.ok.glob];exact I.mod.glob.keeps I.bk) hm (by rw[I.ok.blt];exact h1.keeps I.bk) ((h2 x hn).trans hv) h) hd
theorem ya8 {x:Str}{v:V}{u:Value}{pos:Pos} (hg:Gl X x) (hm:X.mg x=none) (hv:bootBuiltins x=some u) (r:RelV v u) (hn:x≠"__name__":=by decide) (hd:(x == ("__debug__" : Str))=false:=by decide):PE X (.Name x pos) (tC v):=
 fun _ _ _ H _ I h=>yd0 I hg hm hv ⟨v,H,I,r,h⟩ hn hd
variable {a b:Expr}{ta tb:TE}{pos:Pos}
def PC (X:Cx) (op:CmpOp) (a b:Expr) (t:TE):Prop:=
 ∀ (pins:List (Addr×Obj)) (s:Shared) (σ:St) (H:Hp) (Q:VK),Inv X pins σ H s→t σ H Q→
  wpAny (model X.prog X.w) X.A (eval a X.env) (fun v s₁=>wpAny (model X.prog X.w) X.A (eval b X.env) (fun u s₂=>wpAny (model X.prog X.w) X.A (compareOp op v u) (EP X pins σ Q) X.xe s₂) X.xe s₁) X.xe s
theorem ye4 (b:Expr) {op:CmpOp} (h:op≠.In) (h2:op≠.NotIn):behindInMarks op b=false:=by
 have e1:(op == CmpOp.In)=false:=by cases op<;>first|rfl|exact absurd rfl h
 have e2:(op == CmpOp.NotIn)=false:=by cases op<;>first|rfl|exact absurd rfl h2
 cases b<;>simp[behindInMarks,e1,e2]
def tIsN (ta:TE):TE:=fun σ H Q=>ta σ H fun x H1=>Q (.bl (decide (x=.non))) H1
theorem RelV.none_iff {x:V}{v:Value} (r:RelV x v):(v == Value.none)=decide (x=.non):=by
 cases x with
 | non=>cases r;rfl
 | bl _=>cases r;rfl
 | int _=>obtain ⟨t,rfl⟩:=r;rfl
 | str _=>obtain ⟨t,rfl⟩:=r;rfl
 | byt _=>obtain ⟨t,rfl⟩:=r;rfl
 | flt _=>obtain ⟨t,rfl⟩:=r;rfl
 | ref _=>cases r;rfl
 | ty _=>cases r;rfl
theorem yd9 {j pos'} (ha:PE X a ta):PC X .Is a (.Constant .none j pos') (tIsN ta):=by
 intro pins s σ H Q I h
 refine thn (ha pins s σ H _ I h) fun v s1 ⟨x,H1,I1,r1,q1⟩=>?_
 exact Constant_none (is_none_gen ⟨.bl _,H1,I1,by rw[r1.none_iff];rfl,q1⟩)
def tB (t:TE):TT:=fun σ H Q=>t σ H fun x H1=>∃ c,x=.bl c∧Q c H1
theorem yev {op:CmpOp}{t:TE} (h:PC X op a b t) (h1:behindInMarks op b=false:=by first|exact ye4 _ (by decide) (by decide)|rfl):PE X (.Compare a [op] [b] pos) t:=fun pins s σ H Q I hw=>wpAny_Compare1 (h pins s σ H Q I hw) h1
theorem pt_cmp {op:CmpOp}{t:TE} (h:PC X op a b t) (h1:behindInMarks op b=false:=by first|exact ye4 _ (by decide) (by decide)|rfl):PT X (.Compare a [op] [b] pos) (tB t):=by
 intro pins s σ H Q I hw
 refine wpAny_isTrue_Compare1 (thn (h pins s σ H _ I hw) fun v s1 h1=>thn h1 fun u s2 h2=>thn h2 fun c s3 ⟨x,H1,I1,r1,q1⟩=>?_) h1
 obtain ⟨d,rfl,q⟩:=q1
 cases r1
 exact wpAny_truthy_bool ⟨H1,I1,q⟩
theorem ye5 {e:Expr}{t:TE} (h:PE X e t) (he:∀ whole,isTrue e X.env whole=(do let v ← whole;standAt e.pos;holding [v] (truthy v)):=by intro _;rfl):PT X e (tB t):=by
 intro pins s σ H Q I hw
 refine isTrue_plain (thn (h pins s σ H _ I hw) fun v s1 ⟨x,H1,I1,r1,q1⟩=>?_) (he _)
 obtain ⟨d,rfl,q⟩:=q1
 cases r1
 exact wpAny_truthy_bool ⟨H1,I1,q⟩
variable {tA tB':TT}{rest:List Expr}
def tAnd (t u:TT):TT:=fun σ H Q=>t σ H fun c H1=>if c=true then u σ H1 Q else Q false H1
def tOr (t u:TT):TT:=fun σ H Q=>t σ H fun c H1=>if c=true then Q true H1 else u σ H1 Q
def tNot (t:TT):TT:=fun σ H Q=>t σ H fun c H1=>Q (!c) H1
theorem yf5 (ha:PT X a tA):PW X (.BoolOp .And [a] pos) tA:=by
 intro wh pins s σ H Q I h
 refine isTrue_and (thn (ha pins s σ H Q I h) fun c s1 e=>?_)
 cases c with
 | true=>exact isTrue_and_nil e
 | false=>exact e
theorem pw_or1 (ha:PT X a tA):PW X (.BoolOp .Or [a] pos) tA:=by
 intro wh pins s σ H Q I h
 refine isTrue_or (thn (ha pins s σ H Q I h) fun c s1 e=>?_)
 cases c with
 | false=>exact isTrue_or_nil e
 | true=>exact e
theorem pw_and (ha:PT X a tA) (hb:PW X (.BoolOp .And (b::rest) pos) tB'):PW X (.BoolOp .And (a::b::rest) pos) (tAnd tA tB'):=by
 intro wh pins s σ H Q I h
 refine isTrue_and (thn (ha pins s σ H _ I h) fun c s1 ⟨H1,I1,q1⟩=>?_)
 cases c with
 | true=>exact hb wh pins s1 σ H1 Q I1 q1
 | false=>exact ⟨H1,I1,q1⟩
theorem pw_or (ha:PT X a tA) (hb:PW X (.BoolOp .Or (b::rest) pos) tB'):PW X (.BoolOp .Or (a::b::rest) pos) (tOr tA tB'):=by
 intro wh pins s σ H Q I h
 refine isTrue_or (thn (ha pins s σ H _ I h) fun c s1 ⟨H1,I1,q1⟩=>?_)
 cases c with
 | true=>exact ⟨H1,I1,q1⟩
 | false=>exact hb wh pins s1 σ H1 Q I1 q1
theorem pt_not (ha:PT X a tA):PT X (.UnaryOp .Not a pos) (tNot tA):=by
 intro pins s σ H Q I h
 exact isTrue_not (ha pins s σ H (fun c H1=>Q (!c) H1) I h)
def tAndV (ta tb:TE):TE:=fun σ H Q=>ta σ H fun x H1=>∃ c,x=.bl c∧if c=true then tb σ H1 Q else Q (.bl false) H1
def tOrV (ta tb:TE):TE:=fun σ H Q=>ta σ H fun x H1=>∃ c,x=.bl c∧if c=true then Q (.bl true) H1 else tb σ H1 Q
def tNotV (ta:TE):TE:=fun σ H Q=>ta σ H fun x H1=>∃ c,x=.bl c∧Q (.bl (!c)) H1
theorem qbz {op}{t:TE} (h:PE X a t):PE X (.BoolOp op [a] pos) t:=fun pins s σ H Q I hw=>BoolOp_one (h pins s σ H Q I hw)
theorem qbh (ha:PE X a ta) (hb:PE X (.BoolOp .And (b::rest) pos) tb):PE X (.BoolOp .And (a::b::rest) pos) (tAndV ta tb):=by
 intro pins s σ H Q I h
 refine BoolOp_and (thn (ha pins s σ H _ I h) fun v s1 ⟨x,H1,I1,r1,q1⟩=>?_)
 obtain ⟨c,rfl,q1⟩:=q1
 cases r1
 refine wpAny_truthy_bool ?_
 cases c with
 | true=>exact hb pins s1 σ H1 Q I1 q1
 | false=>exact ⟨.bl false,H1,I1,rfl,q1⟩
theorem pe_or (ha:PE X a ta) (hb:PE X (.BoolOp .Or (b::rest) pos) tb):PE X (.BoolOp .Or (a::b::rest) pos) (tOrV ta tb):=by
 intro pins s σ H Q I h
 refine BoolOp_or (thn (ha pins s σ H _ I h) fun v s1 ⟨x,H1,I1,r1,q1⟩=>?_)
 obtain ⟨c,rfl,q1⟩:=q1
 cases r1
 refine wpAny_truthy_bool ?_
 cases c with
 | false=>exact hb pins s1 σ H1 Q I1 q1
 | true=>exact ⟨.bl true,H1,I1,rfl,q1⟩
theorem pe_not (ha:PE X a ta):PE X (.UnaryOp .Not a pos) (tNotV ta):=by
 intro pins s σ H Q I h
 refine UnaryOp_ (thn (ha pins s σ H _ I h) fun v s1 ⟨x,H1,I1,r1,q1⟩=>?_)
 obtain ⟨c,rfl,q1⟩:=q1
 cases r1
 exact not_of (wpAny_truthy_bool ⟨.bl (!c),H1,I1,rfl,q1⟩)
def tIf (t:TT) (ta tb:TE):TE:=fun σ H Q=>t σ H fun c H1=>if c=true then ta σ H1 Q else tb σ H1 Q
theorem pe_ifExp {c:Expr} (hc:PT X c tA) (ha:PE X a ta) (hb:PE X b tb):PE X (.IfExp c a b pos) (tIf tA ta tb):=by
 intro pins s σ H Q I h
 refine wpAny_IfExp (thn (hc pins s σ H _ I h) fun d s1 ⟨H1,I1,q1⟩=>?_)
 cases d with
 | true=>exact ha pins s1 σ H1 Q I1 q1
 | false=>exact hb pins s1 σ H1 Q I1 q1
end
def SqL (K:PySem.W.Frag) (H:Hp) (a:Addr) (xs:List V):Prop:=
 Rd H a (.lst xs)∨
  ∃ (o:Obj) (its:Array Value) (n:Nat),K.lookup a=some o∧o.cls=.type "list"∧o.dict=none∧o.data=.seq its n∧its.size≤sizeLine∧Vals xs its.toList
def SqT (K:PySem.W.Frag) (H:Hp) (a:Addr) (xs:List V):Prop:=
 Rd H a (.tup xs)∨
  ∃ (o:Obj) (its:Array Value) (n:Nat),K.lookup a=some o∧o.cls=.type "tuple"∧o.data=.seq its n∧its.size≤sizeLine∧Vals xs its.toList
def absV:Value→Option V
 | .none=>some .non
 | .bool b=>some (.bl b)
 | .int i _=>some (.int i)
 | .str x _=>some (.str x)
 | .bytes b _=>some (.byt b)
 | .float b _=>some (.flt b)
 | .ref a=>some (.ref a)
 | .type n=>some (.ty n)
 | _=>none
theorem RelV.abs {x:V}{u:Value} (r:RelV x u):absV u=some x:=by
 cases x with
 | non=>cases r;rfl
 | bl _=>cases r;rfl
 | int _=>obtain ⟨t,rfl⟩:=r;rfl
 | str _=>obtain ⟨t,rfl⟩:=r;rfl
 | byt _=>obtain ⟨t,rfl⟩:=r;rfl
 | flt _=>obtain ⟨t,rfl⟩:=r;rfl
 | ref _=>cases r;rfl
 | ty _=>cases r;rfl
theorem RelV.inj {x y:V}{u:Value} (r:RelV x u) (q:RelV y u):x=y:=Option.some.inj (r.abs.symm.trans q.abs)
theorem Vals.inj:∀ {xs ys:List V}{us:List Value},Vals xs us→Vals ys us→xs=ys
 | _,_,_,.nil,.nil=>rfl
 | _,_,_,.cons r t,.cons r' t'=>by rw[r.inj r',Vals.inj t t']
section
variable {X:Cx}{pins:List (Addr×Obj)}{σ:St}{H:Hp}{s:Shared}{a:Addr}{xs ys:List V}
theorem SqL.of {K:PySem.W.Frag} (h:H a=some (.lst xs)):SqL K H a xs:=.inl (.inl h)
theorem SqT.of {K:PySem.W.Frag} (h:H a=some (.tup xs)):SqT K H a xs:=.inl (.inl h)
theorem Inv.list (I:Inv X pins σ H s) (h:SqL X.K H a xs):∃ its:List Value,Vals xs its∧PlainL s.heap a its.toArray∧xs.length≤sizeLine:=by
 rcases h with h|⟨o,its,n,hk,hc,hd,hs,hz,r⟩
 ·obtain ⟨z,its,n,r,e⟩:=h.ok I.hok
  exact ⟨its,r,⟨_,n,e,rfl,rfl,rfl⟩,z⟩
 ·refine ⟨its.toList,r,⟨o,n,I.kIn a o hk,hc,hd,by simpa using hs⟩,?_⟩
  have e:=r.length
  simp only[Array.length_toList] at e
  omega
theorem Inv.tuple (I:Inv X pins σ H s) (h:SqT X.K H a xs):∃ its:List Value,Vals xs its∧IsTup s.heap a its.toArray∧xs.length≤sizeLine:=by
 rcases h with h|⟨o,its,n,hk,hc,hs,hz,r⟩
 ·obtain ⟨z,its,r,p⟩:=h.ok I.hok
  exact ⟨its,r,p,z⟩
 ·refine ⟨its.toList,r,⟨o,I.kIn a o hk,hc,n,by simpa using hs⟩,?_⟩
  have e:=r.length
  simp only[Array.length_toList] at e
  omega
theorem Inv.list_inj (I:Inv X pins σ H s) (h:SqL X.K H a xs) (h':SqL X.K H a ys):xs=ys:=by
 obtain ⟨its,r,⟨o,n,e,_,_,d⟩,_⟩:=I.list h
 obtain ⟨its',r',⟨o',n',e',_,_,d'⟩,_⟩:=I.list h'
 rw[e] at e';cases e'
 rw[d] at d'
 injection d' with d1 _
 have:its=its':=by simpa using congrArg Array.toList d1
 subst this
 exact r.inj r'
end
abbrev Cx.wish (X:Cx) (E:Value→Shared→Prop):Cx:={ X with xe:=E }
abbrev Cx.nox (X:Cx):Cx:=X.wish fun _ _=>False
theorem Cx.Ok.wish {X:Cx} (ok:X.Ok) (E:Value→Shared→Prop):(X.wish E).Ok:=
 ⟨ok.mod,ok.kind,ok.glob,ok.blt,ok.above,ok.inj,ok.has,ok.cab,ok.hd,ok.frames,ok.stk,ok.exf,ok.bs,ok.bsz,ok.noex,ok.exfs,ok.funs,ok.frf⟩
theorem Cx.Ok.unwish {X:Cx}{E:Value→Shared→Prop} (ok:(X.wish E).Ok):X.Ok:=
 ⟨ok.mod,ok.kind,ok.glob,ok.blt,ok.above,ok.inj,ok.has,ok.cab,ok.hd,ok.frames,ok.stk,ok.exf,ok.bs,ok.bsz,ok.noex,ok.exfs,ok.funs,ok.frf⟩
section
variable {X:Cx}{pins:List (Addr×Obj)}{σ:St}{H:Hp}{s:Shared}{E:Value→Shared→Prop}
theorem Inv.wish (I:Inv X pins σ H s) (E:Value→Shared→Prop):Inv (X.wish E) pins σ H s:=⟨I.ok.wish E,I.os,I.bare,I.base,I.loc,I.cell,I.free,I.freeC,I.pin,I.hok,I.len⟩
theorem Inv.unwish (I:Inv (X.wish E) pins σ H s):Inv X pins σ H s:=⟨I.ok.unwish,I.os,I.bare,I.base,I.loc,I.cell,I.free,I.freeC,I.pin,I.hok,I.len⟩
theorem SP.unwish {D:Ends}{f:Flow}{s':Shared} (h:SP (X.wish E) pins D f s'):SP X pins D f s':=by
 cases f with
 | next=>obtain ⟨σ',H',I,q⟩:=h;exact ⟨σ',H',I.unwish,q⟩
 | brk=>obtain ⟨σ',H',I,q⟩:=h;exact ⟨σ',H',I.unwish,q⟩
 | cont=>obtain ⟨σ',H',I,q⟩:=h;exact ⟨σ',H',I.unwish,q⟩
 | ret u=>obtain ⟨v,σ',H',I,r,q⟩:=h;exact ⟨v,σ',H',I.unwish,r,q⟩
theorem PSs.nox {st:List Stmt}{t:TS} (h:PSs X.nox st t):PSs X st t:=fun pins s σ H D I hw=>
 wpAny_mono (h pins s σ H D (I.wish _) hw) (fun _ _ q=>q.unwish) fun _ _ z=>False.elim z
end
section
variable {X:Cx}{st:Stmt}{rest:List Stmt}{t u:TS}{e:Expr}{te:TE}{pos:Pos}
def tNext:TS:=fun D σ H=>D.nx σ H
def tSeq (t u:TS):TS:=fun D σ H=>t { D with nx:=u D } σ H
theorem pss_nil:PSs X [] tNext:=fun _ _ σ H _ I h=>wpAny_execs_nil ⟨σ,H,I,h⟩
theorem qbl (h1:PS X st t) (h2:PSs X rest u):PSs X (st::rest) (tSeq t u):=by
 intro pins s σ H D I h
 refine wpAny_execs_cons (thn (h1 pins s σ H { D with nx:=u D } I h) fun f s1 q=>?_)
 cases f with
 | next=>
  obtain ⟨σ',H',I',q⟩:=q
  exact h2 pins s1 σ' H' D I' q
 | ret v=>exact q
 | brk=>exact q
 | cont=>exact q
theorem ydb (h1:PS X st t):PSs X [st] t:=by
 intro pins s σ H D I h
 refine wpAny_execs_cons (thn (h1 pins s σ H D I h) fun f s1 q=>?_)
 cases f with
 | next=>exact wpAny_execs_nil q
 | ret v=>exact q
 | brk=>exact q
 | cont=>exact q
theorem Inv.quiet {pins:List (Addr×Obj)}{σ:St}{H:Hp}{s:Shared} (I:Inv X pins σ H s):interactive X.env=false:=by simp[interactive,I.ok.kind]
def tDrop (te:TE):TS:=fun D σ H=>te σ H fun _ H1=>D.nx σ H1
theorem yel (he:PE X e te) (hs:swapsWith e none pos.line X.env=pure false:=by rfl):PS X (.Expr e pos) (tDrop te):=by
 intro pins s σ H D I h
 exact wpAny_Expr_any (thn (he pins s σ H _ I h) fun v s1 ⟨x,H1,I1,r1,q1⟩=>⟨σ,H1,I1,q1⟩) I.quiet hs
def tRet (te:TE):TS:=fun D σ H=>te σ H D.rt
theorem ps_ret (he:PE X e te):PS X (.Return (some e) pos) (tRet te):=by
 intro pins s σ H D I h
 exact wpAny_Return_some (thn (he pins s σ H _ I h) fun v s1 ⟨x,H1,I1,r1,q1⟩=>⟨x,σ,H1,I1,r1,q1⟩)
def tIfS (c:TT) (t u:TS):TS:=fun D σ H=>c σ H fun b H1=>if b=true then t D σ H1 else u D σ H1
theorem ps_if {c:Expr}{a b:List Stmt}{tc:TT} (hc:PT X c tc) (ha:PSs X a t) (hb:PSs X b u):PS X (.If c a b pos) (tIfS tc t u):=by
 intro pins s σ H D I h
 refine wpAny_If (thn (hc pins s σ H _ I h) fun d s1 ⟨H1,I1,q1⟩=>?_)
 cases d with
 | true=>exact ha pins s1 σ H1 D I1 q1
 | false=>exact hb pins s1 σ H1 D I1 q1
end
abbrev TG:=V→St→Hp→(St→Hp→Prop)→Prop
abbrev TGs:=List V→St→Hp→(St→Hp→Prop)→Prop
def PG (X:Cx) (target:Expr) (t:TG):Prop:=
 ∀ (pins:List (Addr×Obj)) (s:Shared) (σ:St) (H:Hp) (v:V) (u:Value) (Q:St→Hp→Prop),Inv X pins σ H s→RelV v u→t v σ H Q→
  wpAny (model X.prog X.w) X.A (assign target X.env u) (fun _ s'=>∃ σ' H',Inv X pins σ' H' s'∧Q σ' H') X.xe s
def PGs (X:Cx) (ts:List Expr) (t:TGs):Prop:=
 ∀ (pins:List (Addr×Obj)) (s:Shared) (σ:St) (H:Hp) (vs:List V) (us:List Value) (Q:St→Hp→Prop),Inv X pins σ H s→Vals vs us→t vs σ H Q→
  wpAny (model X.prog X.w) X.A (assignInOrder ((assignEach ts X.env).map (·.2)) us) (fun _ s'=>∃ σ' H',Inv X pins σ' H' s'∧Q σ' H') X.xe s
section
variable {X:Cx}{pos:Pos}
def qco (i:Nat):TG:=fun v σ H Q=>Q (σ.set i (some v)) H
theorem qal {i:Nat}{x:Str} (hN:X.N.Nodup) (hi:X.N[i]?=some x) (hx:Loc X.env.scope x) (hf:X.fn x=true∨X.env.scope.names.lookup x=some .local:=by first|exact .inl rfl|exact .inr rfl|assumption):PG X (.Name x pos) (qco i):=by
 intro pins s σ H v u Q I r h
 exact wpAny_assign_Name (qe8 I hN hi hx r (fun s' I'=>⟨_,H,I',h⟩) hf)
def gNil:TGs:=fun vs σ H Q=>vs=[]∧Q σ H
def gCons (t:TG) (u:TGs):TGs:=fun vs σ H Q=>∃ v r,vs=v::r∧t v σ H fun σ' H'=>u r σ' H' Q
theorem qdy:PGs X [] gNil:=by
 intro pins s σ H vs us Q I r h
 obtain ⟨e,h⟩:=h
 subst e
 cases r
 exact assignInOrder_nil ⟨σ,H,I,h⟩
theorem ybe {e:Expr}{es:List Expr}{t:TG}{u:TGs} (h1:PG X e t) (h2:PGs X es u)
  (hs:(assignEach (e::es) X.env).map (·.2)=assign e X.env::(assignEach es X.env).map (·.2):=by rfl):PGs X (e::es) (gCons t u):=by
 intro pins s σ H vs us Q I r h
 obtain ⟨v,vr,e1,h⟩:=h
 subst e1
 cases r with
 | cons r rr=>
  rw[hs]
  refine assignInOrder_cons (thn (h1 pins s σ H _ _ _ I r h) fun _ s1 ⟨σ1,H1,I1,q1⟩=>?_)
  exact h2 pins s1 σ1 H1 _ _ Q I1 rr q1
def gTup (K:PySem.W.Frag) (n:Nat) (t:TGs):TG:=fun v σ H Q=>∃ a xs,v=.ref a∧SqT K H a xs∧xs.length=n∧t xs σ H Q
theorem qe2 {es:List Expr}{k:Nat}{t:TGs}{n:Nat} (hc:X.calm=true) (h:PGs X es t)
  (hn:(assignEach es X.env).length=n:=by rfl) (hst:(assignEach es X.env).findIdx? (·.1)=none:=by rfl):PG X (.Tuple es k pos) (gTup X.K n t):=by
 intro pins s σ H v u Q I r hw
 obtain ⟨a,xs,e1,hq,hl,hw⟩:=hw
 subst e1
 cases r
 obtain ⟨its,rv,ht,hz⟩:=I.tuple hq
 refine assign_Tuple_tuple (I.ok.hd hc) ht (by simp[hn,← hl,rv.length]) hst fun h' hx=>?_
 have I1:Inv X pins σ H { s with heap:=h' }:=I.kept (t':=s.toks) fun b o e=>hx b o (Nat.ne_of_lt (Heap.lt_size e)) e
 exact h pins _ σ H xs _ Q I1 (by simpa using rv) hw
def tAsg (te:TE) (g:TG):TS:=fun D σ H=>te σ H fun x H1=>g x σ H1 D.nx
theorem ps_asg {tg e:Expr}{te:TE}{g:TG} (he:PE X e te) (hg:PG X tg g) (hs:swapsWithSole [tg] e pos.line X.env=pure false:=by rfl) (hw:swappedStores [tg] e X.env=pure none:=by rfl)
  (h1:(assignEach [tg] X.env).map (·.2)=[assign tg X.env]:=by rfl):PS X (.Assign [tg] e pos) (tAsg te g):=by
 intro pins s σ H D I h
 refine wpAny_Assign_stores (thn (he pins s σ H _ I h) fun v s1 ⟨x,H1,I1,r1,q1⟩=>?_) hs hw
 rw[h1]
 exact thn (hg pins s1 σ H1 x v _ I1 r1 q1) fun _ s2 q=>q
theorem yda {i:Nat}{x:Str}{e:Expr}{te:TE}{pos':Pos} (hN:X.N.Nodup) (hi:X.N[i]?=some x) (hx:Loc X.env.scope x) (he:PE X e te) (hs:swapsWith e (some (.Name x pos')) pos.line X.env=pure false:=by rfl) (hf:X.fn x=true∨X.env.scope.names.lookup x=some .local:=by first|exact .inl rfl|exact .inr rfl|assumption) :
  PS X (.Assign [.Name x pos'] e pos) (tAsg te (qco i)):=by
 intro pins s σ H D I h
 refine wpAny_Assign_Name (thn (he pins s σ H _ I h) fun v s1 ⟨y,H1,I1,r1,q1⟩=>?_) hs
 exact qe8 I1 hN hi hx r1 (fun s2 I2=>⟨_,H1,I2,q1⟩) hf
end
structure It where
 go:Nat→Hp→Prop
 yld:Nat→Hp→V→Hp→Prop
 stop:Nat→Hp→Prop
def FpOk (X:Cx) (pins:List (Addr×Obj)) (H:Hp) (b:Addr):Prop:=
 H b=none∧b≠X.env.locals∧b∉X.fs∧(b∈X.ex∨X.s₀.heap.objs.size≤b)∧(∀ x c,X.env.cells.lookup x=some c→c≠b)∧∀ p∈X.pn++pins,p.1≠b
theorem Inv.fpOk {X:Cx}{pins:List (Addr×Obj)}{σ:St}{H H':Hp}{s:Shared}{b:Addr} (I:Inv X pins σ H s) (hb:s.heap.objs.size≤b) (hn:H' b=none):FpOk X pins H' b:=by
 refine ⟨hn,Nat.ne_of_gt (Nat.lt_of_lt_of_le I.lt hb),I.nofs hb,.inr (Nat.le_trans I.sz hb),fun x c e z=>?_,fun p hp z=>?_⟩
 ·obtain ⟨v,q⟩:=I.cell x c e
  exact absurd (Nat.lt_of_lt_of_le q.lt (by rw[z];exact hb)) (Nat.lt_irrefl _)
 ·exact absurd (Nat.lt_of_lt_of_le (Heap.lt_size (I.pin p hp).1) (by rw[z];exact hb)) (Nat.lt_irrefl _)
structure Turn (P:Program) (w:World) (K:PySem.W.Frag) (tg:Expr) (J:It) (fp:List Addr) (it:Addr) (tn:Nat→Heap→Prop):Prop where
 mem:it∈fp
 obj:∀ i h,tn i h→∀ b∈fp,∃ o,h.get? b=some o∧∀ v,o.data≠.cell v
 keep:∀ i h h',tn i h→(∀ b∈fp,∀ o,h.get? b=some o→h'.get? b=some o)→tn i h'
 item:∀ (X:Cx),X.prog=P→X.w=w→X.K=K→X.calm=true→∀ (i:Nat) (pins:List (Addr×Obj)) (s:Shared) (σ:St) (H:Hp) (E:Value→Shared→Prop),Inv X pins σ H s→(∀ b∈fp,FpOk X pins H b)→tn i s.heap→J.go i H→
  wpAny (model P w) X.A (pyNext (.ref it)) (fun r s1=>∃ u,r=some u∧
   wpAny (model P w) X.A (letOwnedTupleGo tg (.ref it) u) (fun _ s2=>∃ x H',Inv X pins σ H' s2∧RelV x u∧J.yld i H x H'∧tn (i+1) s2.heap∧∀ b∈fp,H' b=none) E s1) E s
 done:∀ (X:Cx),X.prog=P→X.w=w→X.K=K→X.calm=true→∀ (i:Nat) (pins:List (Addr×Obj)) (s:Shared) (σ:St) (H:Hp) (E:Value→Shared→Prop),Inv X pins σ H s→(∀ b∈fp,FpOk X pins H b)→tn i s.heap→J.stop i H→
  wpAny (model P w) X.A (pyNext (.ref it)) (fun r s1=>r=none∧Inv X pins σ H s1) E s
 self:∀ (A:Around) (i:Nat) (s:Shared) (Q:Value→Shared→Prop) (E:Value→Shared→Prop),tn i s.heap→Q (.ref it) s→wpAny (model P w) A (pyIter (.ref it)) Q E s
abbrev TI:=St→Hp→(It→Hp→Prop)→Prop
def PIE (X:Cx) (pins:List (Addr×Obj)) (σ:St) (tg:Expr) (R:It→Hp→Prop) (itv:Value) (s2:Shared):Prop:=
 ∃ (it:Addr) (fp:List Addr) (tn:Nat→Heap→Prop) (J:It) (H':Hp),itv=.ref it∧Inv X pins σ H' s2∧Turn X.prog X.w X.K tg J fp it tn∧tn 0 s2.heap∧(∀ b∈fp,FpOk X pins H' b)∧R J H'
def PI (X:Cx) (tg iter:Expr) (wi:TI):Prop:=
 ∀ (pins:List (Addr×Obj)) (s:Shared) (σ:St) (H:Hp) (R:It→Hp→Prop),Inv X pins σ H s→wi σ H R→
  wpAny (model X.prog X.w) X.A (eval iter X.env) (fun v s1=>wpAny (model X.prog X.w) X.A (pyIter v) (PIE X pins σ tg R) X.xe s1) X.xe s
theorem go_of {M:Model}{A:Around}{E:Value→Shared→Prop}{s:Shared}{tg:Expr}{it:Addr}{u:Value}{o:Obj}{n:String}{vs:Array Value}{Q:Unit→Shared→Prop} (ho:s.heap.get? it=some o) (hc:o.cls=.type n) (hd:o.data=.fields vs)
    (hn:["enumerate","zip","dict_itemiterator","dict_reverseitemiterator","odict_iterator","itertools.zip_longest","itertools.pairwise"].contains n=false) (hQ:Q () s):wpAny M A (letOwnedTupleGo tg (.ref it) u) Q E s:=by
  unfold letOwnedTupleGo
  cases tg<;>first
    | exact wpAny_pure hQ
    | (cases u<;>first
        | exact wpAny_pure hQ
        | (refine wpAny_bind (wpAny_load ho ?_)
           rw[hc,hd]
           show wpAny M A (if (["enumerate","zip","dict_itemiterator","dict_reverseitemiterator","odict_iterator","itertools.zip_longest","itertools.pairwise"].contains n&&vs[0]? == some (rawInt _))=true then _ else _) Q E s
           rw[if_neg (by intro h;rw[hn,Bool.false_and] at h;cases h)]
           exact wpAny_pure hQ))
def Itl (K:PySem.W.Frag) (a:Addr):It:=
 ⟨fun i H=>∃ xs x,SqL K H a xs∧xs[i]?=some x,fun i H x H'=>H'=H∧∀ xs,SqL K H a xs→xs[i]?=some x,fun i H=>∃ xs,SqL K H a xs∧xs.length≤i⟩
def Itr (lo:Int) (n:Nat):It:=⟨fun i _=>i<n,fun i H x H'=>H'=H∧x=.int (lo+i),fun i _=>n≤i⟩
theorem yfq {P:Program}{w:World}{K:PySem.W.Frag}{tg:Expr} (a it:Addr):Turn P w K tg (Itl K a) [it] it (fun i h=>h.IsListIter it a i) where
 mem:=by simp
 obj:=fun i h st b hb=>by
  have e:b=it:=by simpa using hb
  subst e
  obtain ⟨o,e,c,d⟩:=st
  exact ⟨o,e,fun v z=>by rw[d] at z;cases z⟩
 keep:=fun i h h' st k=>st.at fun o e=>k it (by simp) o e
 item:=by
  intro X hP hw hK hc i pins s σ H E I hf st hg
  subst hP hw hK
  obtain ⟨xs,x,hq,hx⟩:=hg
  obtain ⟨its,rv,p,hz⟩:=I.list hq
  obtain ⟨u,hu,ru⟩:=rv.get hx
  obtain ⟨f0,f1,f2,f3,f4,f5⟩:=hf it (by simp)
  refine wpAny_pyNext_list_item st p.isList (x:=u) (by simpa using hu) fun h' st' sb=>?_
  have I1:Inv X pins σ H { s with heap:=h' }:=I.turned (t':=s.toks) (fun b o hb e=>(sb.2 b hb).trans e) f0 f1 f3 f4 f5
  obtain ⟨o,e,c,d⟩:=id st'
  exact ⟨u,rfl,go_of (s:={ s with heap:=h' }) e c d (by decide) ⟨x,H,I1,ru,⟨rfl,fun ys hy=>by rw[I.list_inj hy hq];exact hx⟩,st',fun b hb=>(hf b hb).1⟩⟩
 done:=by
  intro X hP hw hK hc i pins s σ H E I hf st hg
  subst hP hw hK
  obtain ⟨xs,hq,hx⟩:=hg
  obtain ⟨its,rv,p,hz⟩:=I.list hq
  obtain ⟨f0,f1,f2,f3,f4,f5⟩:=hf it (by simp)
  have hl:=rv.length
  exact wpAny_pyNext_list_end (I.ok.hd hc) st p.isList (by simp;omega) fun h' eb=>⟨rfl,I.turned (t':=s.toks) (fun b o hb e=>eb b o hb e) f0 f1 f3 f4 f5⟩
 self:=fun _ _ _ _ _ st h=>wpAny_pyIter_listiter st h
theorem qe9 {P:Program}{w:World}{K:PySem.W.Frag}{tg:Expr} (it:Addr) (lo:Int) (n:Nat):Turn P w K tg (Itr lo n) [it] it (fun i h=>IsRangeIter h it (lo+(i:Nat)*1) ((n:Int)-(i:Nat)) 1) where
 mem:=by simp
 obj:=fun i h st b hb=>by
  have e:b=it:=by simpa using hb
  subst e
  exact ⟨_,st,fun v z=>by
   have z':Data.fields _=Data.cell v:=z
   cases z'⟩
 keep:=fun i h h' st k=>k it (by simp) _ st
 item:=by
  intro X hP hw hK hc i pins s σ H E I hf st hg
  subst hP hw hK
  obtain ⟨f0,f1,f2,f3,f4,f5⟩:=hf it (by simp)
  have W:=Walks.range (prog:=X.prog) (w:=X.w) (I.ok.hd hc) it lo 1 n
  refine W.item i s _ _ hg st fun v h' tk hv st' kk=>?_
  obtain ⟨t,rfl⟩:=hv
  have I1:Inv X pins σ H { s with heap:=h',toks:=tk }:=I.turned (fun b o hb e=>kk b o (by simpa using hb) e) f0 f1 f3 f4 f5
  refine ⟨_,rfl,go_of (s:={ s with heap:=h',toks:=tk }) (n:="range_iterator") st' rfl rfl (by decide) ⟨.int (lo+i),H,I1,⟨t,?_⟩,⟨rfl,rfl⟩,st',fun b hb=>(hf b hb).1⟩⟩
  rw[Int.mul_one]
 done:=by
  intro X hP hw hK hc i pins s σ H E I hf st hg
  subst hP hw hK
  obtain ⟨f0,f1,f2,f3,f4,f5⟩:=hf it (by simp)
  exact wpAny_pyNext_range_end (I.ok.hd hc) st (by have:n≤i:=hg;omega) fun h' eb=>⟨rfl,I.turned (t':=s.toks) (fun b o hb e=>eb b o hb e) f0 f1 f3 f4 f5⟩
 self:=fun _ _ _ _ _ st h=>wpAny_pyIter_rangeiter st h
section
variable {X:Cx}{tg:Expr}
def qd2 (K:PySem.W.Frag) (tl:TE):TI:=fun σ H R=>tl σ H fun x H1=>∃ a,x=.ref a∧(∃ xs,SqL K H1 a xs)∧R (Itl K a) H1
theorem qax {l:Expr}{tl:TE} (hl:PE X l tl):PI X tg l (qd2 X.K tl):=by
 intro pins s σ H R I h
 refine thn (hl pins s σ H _ I h) fun v s1 ⟨x,H1,I1,r1,q1⟩=>?_
 obtain ⟨a,e,⟨xs,hq⟩,q⟩:=q1
 subst e
 cases r1
 obtain ⟨its,rv,p,hz⟩:=I1.list hq
 refine wpAny_pyIter_list p.isList ?_
 refine ⟨s1.heap.objs.size,[s1.heap.objs.size],_,_,H1,rfl,I1.kept (t':=s1.toks) fun b o e=>Heap.get?_push_of_some _ e,yfq a _,⟨_,Heap.get?_push_size _ rfl,rfl,rfl⟩,fun b hb=>?_,q⟩
 have e:b=s1.heap.objs.size:=by simpa using hb
 subst e
 exact I1.fpOk (Nat.le_refl _) (I1.hok.fresh (Nat.le_refl _))
theorem range_it {pins:List (Addr×Obj)}{σ:St}{H:Hp}{s:Shared}{R:It→Hp→Prop}{E:Value→Shared→Prop}{lo hi:Int}{t u v:Tok}{tk:Nat} (I:Inv X pins σ H s) (h1:-(2 ^ 62)≤lo) (h2:lo<2 ^ 62) (h3:-(2 ^ 62)≤hi) (h4:hi<2 ^ 62)
  (q:R (Itr lo (hi-lo).toNat) H):wpAny (model X.prog X.w) X.A (pyIter (.ref s.heap.objs.size)) (PIE X pins σ tg R) E { s with heap:=s.heap.push { cls:=.type "range",data:=.fields #[.int lo t,.int hi u,.int 1 v] },toks:=tk }:=by
 refine wpAny_pyIter_range (IsRange.new ..) (small_one h1 h2 h3 h4) ?_
 have I1:Inv X pins σ H { s with heap:=s.heap.push { cls:=.type "range",data:=.fields #[.int lo t,.int hi u,.int 1 v] },toks:=tk }:=I.kept fun b o e=>Heap.get?_push_of_some _ e
 refine ⟨(s.heap.push { cls:=.type "range",data:=.fields #[.int lo t,.int hi u,.int 1 v] }).objs.size,[(s.heap.push { cls:=.type "range",data:=.fields #[.int lo t,.int hi u,.int 1 v] }).objs.size],_,_,H,rfl,
  I1.kept (t':=tk) fun b o e=>Heap.get?_push_of_some _ e,qe9 _ lo (hi-lo).toNat,?_,fun b hb=>?_,q⟩
 ·have e1:lo+((0:Nat):Int)*1=lo:=by simp
  have e2:(((hi-lo).toNat:Nat):Int)-((0:Nat):Int)=Builtin.Range.rangeSize lo hi 1:=by rw[rangeSize_one];split<;>omega
  show IsRangeIter _ _ (lo+((0:Nat):Int)*1) ((((hi-lo).toNat:Nat):Int)-((0:Nat):Int)) 1
  rw[e1,e2]
  exact Heap.get?_push_size _ rfl
 ·have e:b=(s.heap.push { cls:=.type "range",data:=.fields #[.int lo t,.int hi u,.int 1 v] }).objs.size:=by simpa using hb
  subst e
  exact I1.fpOk (Nat.le_refl _) (I1.hok.fresh (Nat.le_refl _))
def iRng1 (ta:TA):TI:=fun σ H R=>ta σ H fun vs H1=>∃ j:Int,vs=[.int j]∧-(2 ^ 62)≤j∧j<2 ^ 62∧R (Itr 0 j.toNat) H1
theorem qfl {a:Expr}{ta:TA}{p pos:Pos} (hg:Gl X "range") (hm:X.mg "range" = none) (ha:PA X [a] ta) (hs:starEach [a] X.env=[(false,eval a X.env)]:=by rfl):PI X tg (.Call (.Name "range" p) [a] [] pos) (iRng1 ta):=by
 intro pins s σ H R I h
 refine Call_ (yd0 I hg hm boot_range (PyProof.Rows.callWith_type1 (thn (ha pos pins s σ H _ I h) fun us s1 ⟨vs,H1,I1,r1,q1⟩=>?_) hs rfl))
 obtain ⟨j,e,q1,q2,q⟩:=q1
 subst e
 cases r1 with
 | cons r rr=>
  cases rr
  obtain ⟨t,rfl⟩:=r
  exact call_range_1 (range_it I1 (by omega) (by omega) q1 q2 (by simpa using q))
def tFor (wi:TI) (g:TG) (tb:TS):TS:=fun D σ H=>wi σ H fun J H1=>∃ W:Nat→Nat→St→Hp→Prop,(∃ m,W 0 m σ H1)∧∀ i m σ H,W i m σ H→
 (J.stop i H∧D.nx σ H)∨(J.go i H∧∃ N:St→Hp→Prop,(∀ σ' H',N σ' H'→∃ m',m' < m∧W (i+1) m' σ' H')∧∀ x H',J.yld i H x H'→g x σ H' fun σ2 H2=>tb { D with nx:=N,ct:=N,bk:=D.nx } σ2 H2)
def qeb (fp:List Addr) (h:Heap):List (Addr×Obj):=fp.filterMap fun b=>(h.get? b).map fun o=>(b,o)
theorem qca {fp:List Addr}{h:Heap}{b:Addr}{o:Obj} (hb:b∈fp) (e:h.get? b=some o):(b,o)∈qeb fp h:=List.mem_filterMap.mpr ⟨b,hb,by rw[e];rfl⟩
theorem qgl {fp:List Addr}{h:Heap}{p:Addr×Obj} (hp:p∈qeb fp h):p.1∈fp∧h.get? p.1=some p.2:=by
 obtain ⟨b,hb,e⟩:=List.mem_filterMap.mp hp
 cases q:h.get? b with
 | none=>rw[q] at e;cases e
 | some o=>
  rw[q] at e
  have e':(b,o)=p:=Option.some.inj e
  subst e'
  exact ⟨hb,q⟩
theorem Inv.pinned {pins:List (Addr×Obj)}{σ:St}{H:Hp}{s:Shared}{fp:List Addr} (I:Inv X pins σ H s) (hf:∀ b∈fp,FpOk X pins H b) (ho:∀ b∈fp,∃ o,s.heap.get? b=some o∧∀ v,o.data≠.cell v):Inv X (pins++qeb fp s.heap) σ H s:=
 I.pins_of fun p hp=>(List.mem_append.mp hp).elim (fun z=>I.pin p (List.mem_append_right _ z)) fun z=>by
  obtain ⟨hb,e⟩:=qgl z
  obtain ⟨f0,f1,f2,_⟩:=hf p.1 hb
  obtain ⟨o,e',d⟩:=ho p.1 hb
  rw[e] at e';cases e'
  exact ⟨e,f0,f1,f2,d⟩
theorem Inv.unpinned {pins pl:List (Addr×Obj)}{σ:St}{H:Hp}{s:Shared} (I:Inv X (pins++pl) σ H s):Inv X pins σ H s:=I.pins_of fun p hp=>I.pin p (List.mem_append_right _ (List.mem_append_left _ hp))
theorem ps_for {iter:Expr}{body:List Stmt}{wi:TI}{g:TG}{tb:TS}{pos:Pos} (hp:PassesOwn (model X.prog X.w) X.A X.env X.xe) (hc:X.calm=true) (hi:PI X tg iter wi) (hg:PG X tg g) (hb:PSs X body tb)
  (hs:∀ x,foldedSetIterable iter X.env x=pure x:=by intro _;rfl):PS X (.For tg iter body [] pos) (tFor wi g tb):=by
 intro pins s σ H D I h
 refine wpAny_For (thn (hi pins s σ H _ I h) fun v s1 h1=>thn h1 fun itv s2 h2=>?_) hs
 obtain ⟨it,fp,tn,J,H2,e,I2,T,st2,f2,W,⟨m0,w0⟩,turn⟩:=h2
 subst e
 -- what stays true of the iterator's objects through the loop
 have stat:∀ {H':Hp},(∀ b∈fp,H' b=none)→∀ b∈fp,FpOk X pins H' b:=fun hn b hb=>⟨hn b hb,(f2 b hb).2⟩
 refine codeAny_forLoop_any (fun n s'=>∃ i σ' H',Inv X pins σ' H' s'∧tn i s'.heap∧(∀ b∈fp,H' b=none)∧W i n σ' H') ?_ m0 ⟨0,σ,H2,I2,st2,fun b hb=>(f2 b hb).1,w0⟩
 rintro n s3 ⟨i,σ3,H3,I3,st3,fr3,w3⟩
 rcases turn i n σ3 H3 w3 with ⟨stop,qn⟩|⟨go,N,hN,step⟩
 ·refine wpAny_passesOwn hp (thn (T.done X rfl rfl rfl hc i pins s3 σ3 H3 X.xe I3 (stat fr3) st3 stop) fun r s4 ⟨hr,I4⟩=>?_)
  subst hr
  exact wpAny_execs_nil ⟨σ3,H3,I4,qn⟩
 ·refine wpAny_passesOwn hp (thn (T.item X rfl rfl rfl hc i pins s3 σ3 H3 X.xe I3 (stat fr3) st3 go) fun r s4 ⟨u,hr,h4⟩=>?_)
  subst hr
  refine wpAny_passesOwn hp (thn h4 fun _ s5 ⟨x,H5,I5,r5,y5,st5,fr5⟩=>?_)
  have I5':=I5.pinned (stat fr5) (T.obj _ _ st5)
  refine wpAny_passesOwn hp (thn (hg _ s5 σ3 H5 x u _ I5' r5 (step x H5 y5)) fun _ s6 ⟨σ6,H6,I6,q6⟩=>?_)
  refine wpAny_passesOwn hp (thn (hb _ s6 σ6 H6 _ I6 q6) fun f s7 q7=>?_)
  have again:∀ {σ7:St}{H7:Hp},Inv X (pins++qeb fp s5.heap) σ7 H7 s7→N σ7 H7→∃ m,m<n∧∃ i σ' H',Inv X pins σ' H' s7∧tn i s7.heap∧(∀ b∈fp,H' b=none)∧W i m σ' H':=fun {σ7 H7} I7 n7=>by
   obtain ⟨m',hm,w7⟩:=hN σ7 H7 n7
   refine ⟨m',hm,i+1,σ7,H7,I7.unpinned,T.keep _ _ _ st5 fun b hb o e=>(I7.pin (b,o) (List.mem_append_right _ (List.mem_append_right _ (qca hb e)))).1,fun b hb=>?_,w7⟩
   obtain ⟨o,e,d⟩:=T.obj _ _ st5 b hb
   exact (I7.pin (b,o) (List.mem_append_right _ (List.mem_append_right _ (qca hb e)))).2.1
  cases f with
  | next=>obtain ⟨σ7,H7,I7,n7⟩:=q7;exact again I7 n7
  | cont=>obtain ⟨σ7,H7,I7,n7⟩:=q7;exact again I7 n7
  | brk=>obtain ⟨σ7,H7,I7,q7⟩:=q7;exact ⟨σ7,H7,I7.unpinned,q7⟩
  | ret v=>obtain ⟨x7,σ7,H7,I7,r7,q7⟩:=q7;exact ⟨x7,σ7,H7,I7.unpinned,r7,q7⟩
end
theorem ydt {K:PySem.W.Frag}{a:Addr}{xs:List V}{g:TG}{tb:TS}{D:Ends}{σ:St}{H:Hp} (Pv:Nat→St→Hp→Prop) (h0:Pv 0 σ H) (hl:∀ i σ H,i≤xs.length→Pv i σ H→SqL K H a xs)
  (hs:∀ i x σ H,xs[i]?=some x→Pv i σ H→g x σ H fun σ2 H2=>tb { D with nx:=Pv (i+1),ct:=Pv (i+1),bk:=D.nx } σ2 H2) (hd:∀ σ H,Pv xs.length σ H→D.nx σ H) :
  ∃ W:Nat→Nat→St→Hp→Prop,(∃ m,W 0 m σ H)∧∀ i m σ H,W i m σ H→
   ((Itl K a).stop i H∧D.nx σ H)∨((Itl K a).go i H∧∃ N:St→Hp→Prop,(∀ σ' H',N σ' H'→∃ m',m' < m∧W (i+1) m' σ' H')∧∀ x H',(Itl K a).yld i H x H'→g x σ H' fun σ2 H2=>tb { D with nx:=N,ct:=N,bk:=D.nx } σ2 H2):=by
 refine ⟨fun i m σ H=>m=xs.length-i∧i≤xs.length∧Pv i σ H,⟨xs.length,by simp,Nat.zero_le _,h0⟩,?_⟩
 rintro i m σ H ⟨rfl,hi,p⟩
 have q:=hl i σ H hi p
 by_cases hlt:i<xs.length
 ·refine .inr ⟨⟨xs,xs[i],q,by simp[hlt]⟩,Pv (i+1),fun σ' H' p'=>⟨xs.length-(i+1),by omega,rfl,hlt,p'⟩,fun x H' y=>?_⟩
  obtain ⟨e,y⟩:=y
  subst e
  exact hs i x σ _ (y xs q) p
 ·have e:i=xs.length:=by omega
  subst e
  exact .inl ⟨⟨xs,q,Nat.le_refl _⟩,hd σ H p⟩
theorem yft {lo:Int}{n:Nat}{g:TG}{tb:TS}{D:Ends}{σ:St}{H:Hp} (Pv:Nat→St→Hp→Prop) (h0:Pv 0 σ H)
  (hs:∀ i σ H,i<n→Pv i σ H→g (.int (lo+i)) σ H fun σ2 H2=>tb { D with nx:=Pv (i+1),ct:=Pv (i+1),bk:=D.nx } σ2 H2) (hd:∀ σ H,Pv n σ H→D.nx σ H) :
  ∃ W:Nat→Nat→St→Hp→Prop,(∃ m,W 0 m σ H)∧∀ i m σ H,W i m σ H→
   ((Itr lo n).stop i H∧D.nx σ H)∨((Itr lo n).go i H∧∃ N:St→Hp→Prop,(∀ σ' H',N σ' H'→∃ m',m' < m∧W (i+1) m' σ' H')∧∀ x H',(Itr lo n).yld i H x H'→g x σ H' fun σ2 H2=>tb { D with nx:=N,ct:=N,bk:=D.nx } σ2 H2):=by
 refine ⟨fun i m σ H=>m=n-i∧i≤n∧Pv i σ H,⟨n,by simp,Nat.zero_le _,h0⟩,?_⟩
 rintro i m σ H ⟨rfl,hi,p⟩
 by_cases hlt:i<n
 ·refine .inr ⟨hlt,Pv (i+1),fun σ' H' p'=>⟨n-(i+1),by omega,rfl,hlt,p'⟩,fun x H' y=>?_⟩
  obtain ⟨e,y⟩:=y
  subst e y
  exact hs i σ _ hlt p
 ·have e:i=n:=by omega
  subst e
  exact .inl ⟨Nat.le_refl _,hd σ H p⟩
abbrev R2:=V→V→Hp→VK→Prop
def OpR (X:Cx) (f:Value→Value→Sem Value) (r:R2):Prop:=
 ∀ (pins:List (Addr×Obj)) (s:Shared) (σ:St) (H:Hp) (x y:V) (v u:Value) (Q:VK),Inv X pins σ H s→RelV x v→RelV y u→r x y H Q→
  wpAny (model X.prog X.w) X.A (f v u) (EP X pins σ Q) X.xe s
def UnR (X:Cx) (f:Value→Sem Value) (r:V→Hp→VK→Prop):Prop:=
 ∀ (pins:List (Addr×Obj)) (s:Shared) (σ:St) (H:Hp) (x:V) (v:Value) (Q:VK),Inv X pins σ H s→RelV x v→r x H Q→
  wpAny (model X.prog X.w) X.A (f v) (EP X pins σ Q) X.xe s
def yb5 (X:Cx) (f:Value) (r:List V→Hp→VK→Prop):Prop:=
 ∀ (pins:List (Addr×Obj)) (s:Shared) (σ:St) (H:Hp) (xs:List V) (us:List Value) (Q:VK),Inv X pins σ H s→Vals xs us→r xs H Q→
  wpAny (model X.prog X.w) X.A (call f us) (EP X pins σ Q) X.xe s
def tOp (r:R2) (ta tb:TE):TE:=fun σ H Q=>ta σ H fun x H1=>tb σ H1 fun y H2=>r x y H2 Q
def tUn (r:V→Hp→VK→Prop) (ta:TE):TE:=fun σ H Q=>ta σ H fun x H1=>r x H1 Q
def rI (C:Int→Int→Prop) (g:Int→Int→V):R2:=fun x y H Q=>∃ i j,x=.int i∧y=.int j∧C i j∧Q (g i j) H
def rI0 (g:Int→Int→V):R2:=fun x y H Q=>∃ i j,x=.int i∧y=.int j∧Q (g i j) H
def rU (g:Int→V):V→Hp→VK→Prop:=fun x H Q=>∃ i,x=.int i∧Q (g i) H
section
variable {X:Cx}{a b c:Expr}{ta tb tc:TE}{pos:Pos}
theorem binT (ha:PE X a ta) (hb:PE X b tb) {pins:List (Addr×Obj)}{s:Shared}{σ:St}{H:Hp}{R:V→V→Hp→Prop} (I:Inv X pins σ H s)
  (h:ta σ H fun x H1=>tb σ H1 fun y H2=>R x y H2) {Q:Value→Shared→Prop}{f:Value→Value→Sem Value}
  (hf:∀ v u s2 x y H2,Inv X pins σ H2 s2→RelV x v→RelV y u→R x y H2→wpAny (model X.prog X.w) X.A (f v u) Q X.xe s2) :
  wpAny (model X.prog X.w) X.A (eval a X.env) (fun v s₁=>wpAny (model X.prog X.w) X.A (eval b X.env) (fun u s₂=>wpAny (model X.prog X.w) X.A (f v u) Q X.xe s₂) X.xe s₁) X.xe s:=by
 refine thn (ha pins s σ H _ I h) fun v s1 ⟨x,H1,I1,r1,q1⟩=>?_
 refine thn (hb pins s1 σ H1 _ I1 q1) fun u s2 ⟨y,H2,I2,r2,q2⟩=>?_
 exact hf v u s2 x y H2 I2 r1 r2 q2
theorem qb3 {op:Operator}{r:R2} (ho:OpR X (binaryOp op) r) (ha:PE X a ta) (hb:PE X b tb):PE X (.BinOp a op b pos) (tOp r ta tb):=by
 intro pins s σ H Q I h
 exact wpAny_BinOp (binT ha hb I h fun v u s2 x y H2 I2 rx ry q=>ho pins s2 σ H2 x y v u Q I2 rx ry q)
theorem pe_un {op:UnaryOp}{r:V→Hp→VK→Prop} (ho:UnR X (unaryOp op) r) (ha:PE X a ta):PE X (.UnaryOp op a pos) (tUn r ta):=by
 intro pins s σ H Q I h
 exact UnaryOp_ (thn (ha pins s σ H _ I h) fun v s1 ⟨x,H1,I1,r1,q1⟩=>ho pins s1 σ H1 x v Q I1 r1 q1)
theorem opI {f:Value→Value→Sem Value}{C:Int→Int→Prop}{g:Int→Int→Int}
  (rule:∀ (i j:Int) (t u:Tok) (s:Shared) (Q:Value→Shared→Prop) (E:Value→Shared→Prop),C i j→Q (.int (g i j) s.toks) { s with toks:=s.toks+1 }→wpAny (model X.prog X.w) X.A (f (.int i t) (.int j u)) Q E s) :
  OpR X f (rI C fun i j=>.int (g i j)):=by
 intro pins s σ H x y v u Q I rx ry h
 obtain ⟨i,j,rfl,rfl,hc,q⟩:=h
 obtain ⟨t,rfl⟩:=rx
 obtain ⟨t',rfl⟩:=ry
 exact rule i j t t' s _ _ hc ⟨.int (g i j),H,I.tok _,⟨_,rfl⟩,q⟩
theorem opI0 {f:Value→Value→Sem Value}{g:Int→Int→Int}
  (rule:∀ (i j:Int) (t u:Tok) (s:Shared) (Q:Value→Shared→Prop) (E:Value→Shared→Prop),Q (.int (g i j) s.toks) { s with toks:=s.toks+1 }→wpAny (model X.prog X.w) X.A (f (.int i t) (.int j u)) Q E s) :
  OpR X f (rI0 fun i j=>.int (g i j)):=by
 intro pins s σ H x y v u Q I rx ry h
 obtain ⟨i,j,rfl,rfl,q⟩:=h
 obtain ⟨t,rfl⟩:=rx
 obtain ⟨t',rfl⟩:=ry
 exact rule i j t t' s _ _ ⟨.int (g i j),H,I.tok _,⟨_,rfl⟩,q⟩
theorem opB0 {f:Value→Value→Sem Value}{g:Int→Int→Bool}
  (rule:∀ (i j:Int) (t u:Tok) (s:Shared) (Q:Value→Shared→Prop) (E:Value→Shared→Prop),Q (.bool (g i j)) s→wpAny (model X.prog X.w) X.A (f (.int i t) (.int j u)) Q E s) :
  OpR X f (rI0 fun i j=>.bl (g i j)):=by
 intro pins s σ H x y v u Q I rx ry h
 obtain ⟨i,j,rfl,rfl,q⟩:=h
 obtain ⟨t,rfl⟩:=rx
 obtain ⟨t',rfl⟩:=ry
 exact rule i j t t' s _ _ ⟨.bl (g i j),H,I,rfl,q⟩
def CDiv (i j:Int):Prop:=0<j∧j<1073741824
def CPow (i j:Int):Prop:=0≤j∧j≤1000000∧i.natAbs<2 ^ 64
def CMul (i j:Int):Prop:=(-(2 ^ 64)<i∧i<2 ^ 64)∨(-(2 ^ 64)<j∧j<2 ^ 64)
theorem CMul.ok {i j:Int} (h:CMul i j):IntMulOk i j:=by
 rcases h with ⟨h1,h2⟩|⟨h1,h2⟩
 ·exact .of_left (intBits_le_64 h1 h2)
 ·exact .of_right (intBits_le_64 h1 h2)
theorem qbi:OpR X (binaryOp .Add) (rI0 fun i j=>.int (i+j)):=opI0 fun _ _ _ _ _ _ _ q=>add_int q
theorem ydn:OpR X (binaryOp .Sub) (rI0 fun i j=>.int (i-j)):=opI0 fun _ _ _ _ _ _ _ q=>sub_int q
theorem qdn:OpR X (binaryOp .Mult) (rI CMul fun i j=>.int (i*j)):=opI fun _ _ _ _ _ _ _ hc q=>mul_int q hc.ok
theorem ygh:OpR X (binaryOp .FloorDiv) (rI CDiv fun i j=>.int (i / j)):=opI fun i j _ _ _ _ _ hc q=>by
 have h1:(0:Int)<j:=hc.1
 have h2:j<1073741824:=hc.2
 exact floordiv_int (by omega) (by rw[Int.fdiv_eq_ediv_of_nonneg i (by omega)];exact q) (.inl (PyProof.noPylong_small (by omega)))
theorem qbg:OpR X (binaryOp .Mod) (rI (fun _ j=>0<j) fun i j=>.int (i % j)):=opI fun i j _ _ _ _ _ hc q=>by
 have h1:(0:Int)<j:=hc
 exact mod_int' (by omega) (by rw[Int.fmod_eq_emod_of_nonneg i (by omega)];exact q)
theorem op_pow:OpR X (binaryOp .Pow) (rI CPow fun i j=>.int (i ^ j.toNat)):=opI fun _ _ _ _ _ _ _ hc q=>pow_int_small hc.1 hc.2.1 hc.2.2 q
theorem unI {f:Value→Sem Value}{g:Int→Int}
  (rule:∀ (i:Int) (t:Tok) (s:Shared) (Q:Value→Shared→Prop) (E:Value→Shared→Prop),Q (.int (g i) s.toks) { s with toks:=s.toks+1 }→wpAny (model X.prog X.w) X.A (f (.int i t)) Q E s) :
  UnR X f (rU fun i=>.int (g i)):=by
 intro pins s σ H x v Q I rx h
 obtain ⟨i,rfl,q⟩:=h
 obtain ⟨t,rfl⟩:=rx
 exact rule i t s _ _ ⟨.int (g i),H,I.tok _,⟨_,rfl⟩,q⟩
theorem qgk:UnR X (unaryOp .USub) (rU fun i=>.int (-i)):=unI fun _ _ _ _ _ q=>neg_int q
end
def scal:V→V→Bool
 | .non,.non=>true | .non,.int _=>true | .int _,.non=>true | .non,.bl _=>true | .bl _,.non=>true | .non,.str _=>true | .str _,.non=>true
 | .int _,.int _=>true | .bl _,.bl _=>true | .str _,.str _=>true | .byt _,.byt _=>true
 | .int _,.str _=>true | .str _,.int _=>true | .bl _,.str _=>true | .str _,.bl _=>true
 | _,_=>false
def rEq:R2:=fun x y H Q=>scal x y=true∧Q (.bl (decide (x=y))) H
def rNe:R2:=fun x y H Q=>scal x y=true∧Q (.bl (!decide (x=y))) H
theorem yfo {i j:Int}:decide (V.int i=V.int j)=(i == j):=by
 rw[Bool.eq_iff_iff]
 simp
theorem dec_bl {i j:Bool}:decide (V.bl i=V.bl j)=(i == j):=by
 rw[Bool.eq_iff_iff]
 simp
theorem qfn {i j:Str}:decide (V.str i=V.str j)=(i == j):=by
 rw[Bool.eq_iff_iff]
 simp
theorem qfp {i j:Array UInt8}:decide (V.byt i=V.byt j)=(i.toList == j.toList):=by
 rw[Bool.eq_iff_iff]
 cases i
 cases j
 simp
section
variable {X:Cx}{a b c:Expr}{ta tb tc:TE}{pos:Pos}
theorem yar {pins:List (Addr×Obj)}{σ:St}{H:Hp}{s:Shared}{Q:VK}{k k':Bool} (I:Inv X pins σ H s) (q:Q (.bl k) H) (e:k=k'):EP X pins σ Q (.bool k') s:=by
 subst e
 exact ⟨.bl k,H,I,rfl,q⟩
theorem ycs:OpR X (compareOp .Eq) rEq:=by
 intro pins s σ H x y v u Q I rx ry h
 obtain ⟨hs,q⟩:=h
 cases x with
 | non=>
  cases rx
  cases y with
  | non=>cases ry;exact PySem.EqNone.eq_none_none (yar I q (by simp))
  | bl j=>cases ry;exact PySem.EqNone.eq_none_bool (yar I q (by simp))
  | int j=>obtain ⟨t',rfl⟩:=ry;exact PySem.EqNone.eq_none_int (yar I q (by simp))
  | str j=>obtain ⟨t',rfl⟩:=ry;exact PySem.EqNone.eq_none_str (yar I q (by simp))
  | _=>exact absurd (show false=true from hs) Bool.false_ne_true
 | bl i=>
  cases rx
  cases y with
  | non=>cases ry;exact PySem.EqNone.eq_bool_none (yar I q (by simp))
  | bl j=>cases ry;exact eq_bool (yar I q dec_bl)
  | str j=>obtain ⟨t',rfl⟩:=ry;exact PySem.EqMixed.eq_bool_str (yar I q (by simp))
  | _=>exact absurd (show false=true from hs) Bool.false_ne_true
 | int i=>
  obtain ⟨t,rfl⟩:=rx
  cases y with
  | non=>cases ry;exact PySem.EqNone.eq_int_none (yar I q (by simp))
  | int j=>obtain ⟨t',rfl⟩:=ry;exact eq_int (yar I q yfo)
  | str j=>obtain ⟨t',rfl⟩:=ry;exact PySem.EqMixed.eq_int_str (yar I q (by simp))
  | _=>exact absurd (show false=true from hs) Bool.false_ne_true
 | str i=>
  obtain ⟨t,rfl⟩:=rx
  cases y with
  | non=>cases ry;exact PySem.EqNone.eq_str_none (yar I q (by simp))
  | bl j=>cases ry;exact PySem.EqMixed.eq_str_bool (yar I q (by simp))
  | int j=>obtain ⟨t',rfl⟩:=ry;exact PySem.EqMixed.eq_str_int (yar I q (by simp))
  | str j=>obtain ⟨t',rfl⟩:=ry;exact eq_str (yar I q qfn)
  | _=>exact absurd (show false=true from hs) Bool.false_ne_true
 | byt i=>
  obtain ⟨t,rfl⟩:=rx
  cases y with
  | byt j=>obtain ⟨t',rfl⟩:=ry;exact PySem.W.eq_bytes (yar I q qfp)
  | _=>exact absurd (show false=true from hs) Bool.false_ne_true
 | _=>cases y<;>exact absurd (show false=true from hs) Bool.false_ne_true
theorem ydi:OpR X (compareOp .NotEq) rNe:=by
 intro pins s σ H x y v u Q I rx ry h
 obtain ⟨hs,q⟩:=h
 cases x with
 | non=>
  cases rx
  cases y with
  | non=>cases ry;exact PySem.EqNone.ne_none_none (yar I q (by simp))
  | bl j=>cases ry;exact PySem.EqNone.ne_none_bool (yar I q (by simp))
  | int j=>obtain ⟨t',rfl⟩:=ry;exact PySem.EqNone.ne_none_int (yar I q (by simp))
  | str j=>obtain ⟨t',rfl⟩:=ry;exact PySem.EqNone.ne_none_str (yar I q (by simp))
  | _=>exact absurd (show false=true from hs) Bool.false_ne_true
 | bl i=>
  cases rx
  cases y with
  | non=>cases ry;exact PySem.EqNone.ne_bool_none (yar I q (by simp))
  | bl j=>cases ry;exact ne_bool (yar I q (congrArg not dec_bl))
  | str j=>obtain ⟨t',rfl⟩:=ry;exact PySem.EqMixed.ne_bool_str (yar I q (by simp))
  | _=>exact absurd (show false=true from hs) Bool.false_ne_true
 | int i=>
  obtain ⟨t,rfl⟩:=rx
  cases y with
  | non=>cases ry;exact PySem.EqNone.ne_int_none (yar I q (by simp))
  | int j=>obtain ⟨t',rfl⟩:=ry;exact ne_int (yar I q (congrArg not yfo))
  | str j=>obtain ⟨t',rfl⟩:=ry;exact PySem.EqMixed.ne_int_str (yar I q (by simp))
  | _=>exact absurd (show false=true from hs) Bool.false_ne_true
 | str i=>
  obtain ⟨t,rfl⟩:=rx
  cases y with
  | non=>cases ry;exact PySem.EqNone.ne_str_none (yar I q (by simp))
  | bl j=>cases ry;exact PySem.EqMixed.ne_str_bool (yar I q (by simp))
  | int j=>obtain ⟨t',rfl⟩:=ry;exact PySem.EqMixed.ne_str_int (yar I q (by simp))
  | str j=>obtain ⟨t',rfl⟩:=ry;exact ne_str (yar I q (congrArg not qfn))
  | _=>exact absurd (show false=true from hs) Bool.false_ne_true
 | byt i=>
  obtain ⟨t,rfl⟩:=rx
  cases y with
  | byt j=>obtain ⟨t',rfl⟩:=ry;exact PySem.W.ne_bytes (yar I q (congrArg not qfp))
  | _=>exact absurd (show false=true from hs) Bool.false_ne_true
 | _=>cases y<;>exact absurd (show false=true from hs) Bool.false_ne_true
theorem op_lt:OpR X (compareOp .Lt) (rI0 fun i j=>.bl (decide (i<j))):=opB0 fun _ _ _ _ _ _ _ q=>lt_int q
theorem yb4:OpR X (compareOp .Gt) (rI0 fun i j=>.bl (decide (j<i))):=opB0 fun _ _ _ _ _ _ _ q=>gt_int q
theorem op_ge:OpR X (compareOp .GtE) (rI0 fun i j=>.bl (decide (j≤i))):=opB0 fun _ _ _ _ _ _ _ q=>ge_int q
theorem yah (b:Expr) {op:CmpOp} (h:op≠.In:=by decide) (h2:op≠.NotIn:=by decide):behindInMarks op b=false:=by
 have e1:(op == CmpOp.In)=false:=by cases op<;>first|rfl|exact absurd rfl h
 have e2:(op == CmpOp.NotIn)=false:=by cases op<;>first|rfl|exact absurd rfl h2
 cases b<;>simp[behindInMarks,e1,e2]
theorem ybr {op:CmpOp}{r:R2} (ho:OpR X (compareOp op) r) (ha:PE X a ta) (hb:PE X b tb) (hm:behindInMarks op b=false):PE X (.Compare a [op] [b] pos) (tOp r ta tb):=by
 intro pins s σ H Q I h
 exact wpAny_Compare1 (binT ha hb I h fun v u s2 x y H2 I2 rx ry q=>ho pins s2 σ H2 x y v u Q I2 rx ry q) hm
def tTest (t:TE):TT:=fun σ H Q=>t σ H fun x H'=>∃ k,x=.bl k∧Q k H'
theorem qbp {op:CmpOp}{r:R2} (ho:OpR X (compareOp op) r) (ha:PE X a ta) (hb:PE X b tb) (hm:behindInMarks op b=false):PT X (.Compare a [op] [b] pos) (tTest (tOp r ta tb)):=by
 intro pins s σ H Q I h
 refine wpAny_isTrue_Compare1 (thn (ha pins s σ H _ I h) fun v s1 ⟨x,H1,I1,r1,q1⟩=>thn (hb pins s1 σ H1 _ I1 q1) fun u s2 ⟨y,H2,I2,r2,q2⟩=>
  thn (ho pins s2 σ H2 x y v u _ I2 r1 r2 q2) fun c s3 ⟨z,H3,I3,r3,k,e,q3⟩=>?_) hm
 subst e
 cases r3
 exact wpAny_truthy_bool ⟨H3,I3,q3⟩
theorem yfk:(sizeLine:Nat)<2 ^ 63:=by rw[sizeLine_eq];decide
theorem qfg {x:V}{us:List Value} (r:Vals [x] us):∃ u,us=[u]∧RelV x u:=by
 cases r with
 | cons r1 r2=>cases r2;exact ⟨_,rfl,r1⟩
theorem call_abs:yb5 X (.builtin "abs") (fun xs H Q=>∃ i,xs=[.int i]∧Q (.int (if i<0 then -i else i)) H):=by
 intro pins s σ H xs us Q I r h
 obtain ⟨i,rfl,q⟩:=h
 obtain ⟨u,rfl,t,rfl⟩:=qfg r
 exact call_abs_int fun u tk=>⟨.int (if i<0 then -i else i),H,I.tok _,⟨_,rfl⟩,q⟩
theorem qfb:yb5 X (.type "bool") (fun xs H Q=>(∃ i,xs=[.int i]∧Q (.bl (i != 0)) H)∨∃ k,xs=[.bl k]∧Q (.bl k) H):=by
 intro pins s σ H xs us Q I r h
 rcases h with ⟨i,rfl,q⟩|⟨k,rfl,q⟩
 ·obtain ⟨u,rfl,t,rfl⟩:=qfg r
  exact call_bool_int ⟨.bl (i != 0),H,I,rfl,q⟩
 ·obtain ⟨u,rfl,r1⟩:=qfg r
  cases r1
  exact call_bool_bool ⟨.bl k,H,I,rfl,q⟩
end
structure ObjM (h:Heap) (x dx C:Addr) (mA:Str→Option Value):Prop where
 obj:h.get? x=some (PySem.W.instObj C dx)
 ns:h.Ns1 dx mA
 ne:dx≠x
theorem qge {h:Heap}{dx:Addr}{mA:Str→Option Value} (n:h.Ns1 dx mA):∃ od,h.get? dx=some od∧∀ name,PySem.W.lookIn name od=some (mA name):=by
 obtain ⟨o,es,ep,ho,hd,hk,_,hm⟩:=n
 refine ⟨o,ho,fun name=>?_⟩
 have e:=hm name
 unfold nsFind findBy at e
 rw[← Array.find?_toList] at e
 unfold PySem.W.lookIn
 rw[hd]
 dsimp only
 split
 ·rename_i y q
  rw[q] at e
  exact congrArg some e
 ·rename_i q
  rw[q] at e
  have a:es.toList.any (·.refKey)=false:=by
   rw[List.any_eq_false]
   intro y hy
   obtain ⟨z,t,hkey⟩:=hk y (Array.mem_toList_iff.mp hy)
   simp[DictEntry.refKey,hkey]
  have a':¬ es.toList.any (·.refKey)=true:=by rw[a];exact Bool.false_ne_true
  rw[if_neg a']
  exact congrArg some e
theorem ObjM.look {h:Heap}{x dx C:Addr}{mA:Str→Option Value} (I:ObjM h x dx C mA):∃ od,PySem.W.InstAt h x (PySem.W.instObj C dx) C (some od)∧∀ name,PySem.W.lookIn name od=some (mA name):=
 let ⟨od,ho,hl⟩:=qge I.ns
 ⟨od,⟨I.obj,rfl,rfl,ho⟩,hl⟩
section
variable {P:Program}{w:World}{H H':Hp}{h h':Heap}{a C dx:Addr}{fs fs':List (Str×V)}
theorem ins_get (hok:HOk P w H h) (e:H a=some (.ins C dx fs)):∃ mA,ObjM h a dx C mA∧(∀ f,RelO (fs.lookup f) (mA f))∧PySem.Within mA (fs.map (·.1))∧fs.length≤1000∧H dx=some (.own a):=by
 obtain ⟨d,z,ne,ob,mA,n,r,q⟩:=(show ya2 P w H h a (.ins C dx fs) from hok a _ e)
 exact ⟨mA,⟨ob,n,ne⟩,r,q,z,d⟩
end
structure Cls (K:PySem.W.Frag) (C:Addr):Prop where
 pg:PySem.W.plainGet K C Str.empty=true
 hd:PySem.W.hasDictIn K C=true
 po:PySem.W.plainOver K C=true
 sa:PySem.W.findIn K (.ref C) "__setattr__" = some (some (.builtin "object.__setattr__"))
theorem Cls.get {K:PySem.W.Frag}{C:Addr} (c:Cls K C) (f:Str):PySem.W.plainGet K C f=true:=c.pg
section
variable {X:Cx}{pins:List (Addr×Obj)}{σ:St}{H:Hp}{s:Shared}{A:Around}{E:Value→Shared→Prop}{Q:Value→Shared→Prop}{c:Value}{b:Bool}
inductive TyOf (K:PySem.W.Frag) (H:Hp):V→Value→Prop where
 | non:TyOf K H .non (.type "NoneType")
 | bl (x:Bool):TyOf K H (.bl x) (.type "bool")
 | int (i:Int):TyOf K H (.int i) (.type "int")
 | str (x:Str):TyOf K H (.str x) (.type "str")
 | flt (x:UInt64):TyOf K H (.flt x) (.type "float")
 | lst {a:Addr}{xs:List V} (e:H a=some (.lst xs)):TyOf K H (.ref a) (.type "list")
 | frz {a:Addr}{o:Obj}{xs:List V} (e:H a=some (.frz o (.lst xs))):TyOf K H (.ref a) (.type "list")
 | tup {a:Addr}{xs:List V} (e:H a=some (.tup xs)):TyOf K H (.ref a) (.type "tuple")
 | dK {a:Addr}{kvs:List (Key×V)} (e:H a=some (.dK kvs)):TyOf K H (.ref a) (.type "dict")
 | dT {a:Addr}{kvs:List (List Key×V)} (e:H a=some (.dT kvs)):TyOf K H (.ref a) (.type "dict")
 | ins {a C dx:Addr}{fs:List (Str×V)} (e:H a=some (.ins C dx fs)) (cl:Cls K C) (ha:PySem.W.findIn K (.ref C) "__class__" = some (some (.builtin "object.__class__")))
   (hn:PySem.W.specialIn K (.builtin "object.__class__") "__get__" = some (some (.builtin "getset_descriptor.__get__"))) (htk:PySem.W.takesIn K (.builtin "object.__class__")=some true)
   (hm:PySem.W.mroIn K C (.type "object")=some true):TyOf K H (.ref a) (.ref C)
theorem ygm {x:V}{u t:Value} (I:Inv X pins σ H s) (rx:RelV x u) (ty:TyOf X.K H x t) (e:PySem.W.kitOne X.K t c=some b) (h:∀ tk,Q (.bool b) { s with toks:=tk }) :
  wpAny (model X.prog X.w) A (call (.builtin "isinstance") [u,c]) Q E s:=by
 cases ty with
 | non=>cases (show u=Value.none from rx);exact PySem.W.kia_one PySem.W.kitx_none I.kIn True.intro e (fun z=>nomatch z) h
 | bl y=>cases (show u=Value.bool y from rx);exact PySem.W.kia_one PySem.W.kitx_bool I.kIn True.intro e (fun z=>nomatch z) h
 | int i=>obtain ⟨t,q⟩:=(show ∃ t,u=Value.int i t from rx);cases q;exact PySem.W.kia_one PySem.W.kitx_int I.kIn True.intro e (fun z=>nomatch z) h
 | str y=>obtain ⟨t,q⟩:=(show ∃ t,u=Value.str y t from rx);cases q;exact PySem.W.kia_one PySem.W.kitx_str I.kIn True.intro e (fun z=>nomatch z) h
 | flt y=>obtain ⟨t,q⟩:=(show ∃ t,u=Value.float y t from rx);cases q;exact PySem.W.kia_one PySem.W.kitx_float I.kIn True.intro e (fun z=>nomatch z) h
 | @lst a xs ea=>
  cases (show u=Value.ref a from rx)
  obtain ⟨_,_,n,_,h1⟩:=(show ya2 X.prog X.w H s.heap a (.lst xs) from I.hok a _ ea)
  exact PySem.W.kia_one PySem.W.kitx_list I.kIn ⟨_,h1,rfl⟩ e (fun z=>nomatch z) h
 | @frz a ob xs ea=>
  cases (show u=Value.ref a from rx)
  obtain ⟨_,_,_,n,_,h1⟩:=(show ya2 X.prog X.w H s.heap a (.frz ob (.lst xs)) from I.hok a _ ea)
  exact PySem.W.kia_one PySem.W.kitx_list I.kIn ⟨_,h1,rfl⟩ e (fun z=>nomatch z) h
 | @tup a xs ea=>
  cases (show u=Value.ref a from rx)
  obtain ⟨_,_,_,p⟩:=(show ya2 X.prog X.w H s.heap a (.tup xs) from I.hok a _ ea)
  obtain ⟨o,h1,h2,_⟩:=p
  exact PySem.W.kia_one PySem.W.kitx_tuple I.kIn ⟨o,h1,h2⟩ e (fun z=>nomatch z) h
 | @dK a kvs ea=>
  cases (show u=Value.ref a from rx)
  obtain ⟨_,_,vs,_,p⟩:=(show ya2 X.prog X.w H s.heap a (.dK kvs) from I.hok a _ ea)
  obtain ⟨o,es,ep,h1,h2,_⟩:=p
  exact PySem.W.kia_one PySem.W.kitx_dict I.kIn ⟨o,h1,h2.1⟩ e (fun z=>nomatch z) h
 | @dT a kvs ea=>
  cases (show u=Value.ref a from rx)
  obtain ⟨_,_,xs,_,o,es,ep,h1,h2,_⟩:=(show ya2 X.prog X.w H s.heap a (.dT kvs) from I.hok a _ ea)
  exact PySem.W.kia_one PySem.W.kitx_dict I.kIn ⟨o,h1,h2.1⟩ e (fun z=>nomatch z) h
 | @ins a C dx fs ea cl ha hn htk hm=>
  cases (show u=Value.ref a from rx)
  obtain ⟨mA,O,_⟩:=ins_get I.hok ea
  obtain ⟨od,J,_⟩:=O.look
  exact PySem.W.kia_one (PySem.W.kitx_own (cl.get _) cl.hd ha hn htk hm) I.kIn J e (fun z=>nomatch z) h
end
structure Room (k:Nat) (A:Around):Prop where
 hd:A.handled=none
 dp:A.depth+3*k+5<recursionLimit
 un:A.units+16*k+200<cLine
 gd:A.guards=some []
theorem Room.mono {j k:Nat}{A:Around} (r:Room k A) (h:j≤k):Room j A:=⟨r.hd,by have:=r.dp;omega,by have:=r.un;omega,r.gd⟩
theorem Room.deeper {k:Nat}{A:Around} (r:Room (k+1) A) (env:Env):Room k (A.deeper env):=
 ⟨r.hd,by have:=r.dp;show A.depth+1+3*k+5<_;omega,by have:=r.un;show A.units+3+16*k+200<_;omega,r.gd⟩
theorem Room.depth {k:Nat}{A:Around} (r:Room k A):A.depth<recursionLimit:=by have:=r.dp;omega
theorem Room.units {k:Nat}{A:Around} (r:Room k A):A.units+64<cLine:=by have:=r.un;omega
def tNil:TA:=fun _ H Q=>Q [] H
def qbj (ta:TE) (tr:TA):TA:=fun σ H Q=>ta σ H fun x H1=>tr σ H1 fun xs H2=>Q (x::xs) H2
section
variable {X:Cx}{e:Expr}{es:List Expr}{te:TE}{t:TA}{pos:Pos}
theorem qan:PA X [] tNil:=fun _ _ _ _ H Q I h=>Calls.spliced_nil ⟨[],H,I,.nil,h⟩
theorem yad (ha:PE X e te) (hr:PA X es t) (hs:starEach (e::es) X.env=(false,eval e X.env)::starEach es X.env:=by rfl):PA X (e::es) (qbj te t):=by
 intro pos pins s σ H Q I h
 rw[hs]
 show wpAny _ _ (spliced ((false,eval e X.env)::backTo pos (starEach es X.env))) _ _ s
 refine Calls.spliced_cons (thn (ha pins s σ H _ I h) fun u s1 ⟨x,H1,I1,r1,q1⟩=>?_)
 exact thn (hr pos pins s1 σ H1 _ I1 q1) fun us s2 ⟨xs,H2,I2,r2,q2⟩=>⟨x::xs,H2,I2,.cons r1 r2,q2⟩
def tTup (t:TA):TE:=fun σ H Q=>t σ H fun xs H1=>xs.length≤sizeLine∧∀ p,H1 p=none→Q (.ref p) (upd H1 p (.tup xs))
def tLst (t:TA):TE:=fun σ H Q=>t σ H fun xs H1=>xs.length≤sizeLine∧∀ p,H1 p=none→Q (.ref p) (upd H1 p (.lst xs))
theorem qd6 {x1} (h:PA X es t):PE X (.Tuple es x1 pos) (tTup t):=by
 intro pins s σ H Q I hq
 refine wpAny_Tuple_spliced (thn (h pos pins s σ H _ I hq) fun us s1 ⟨xs,H1,I1,r,z,q⟩=>⟨by rw[← r.length];exact z,?_⟩)
 have hf:H1 s1.heap.objs.size=none:=I1.hok.fresh (Nat.le_refl _)
 refine ⟨.ref s1.heap.objs.size,upd H1 s1.heap.objs.size (.tup xs),I1.laid (t':=s1.toks) (fun b u e=>Heap.get?_push_of_some _ e) (Nat.le_refl _) ?_,rfl,q _ hf⟩
 exact ⟨z,us,r,⟨_,Heap.get?_push_size _ rfl,rfl,_,rfl⟩⟩
theorem qe7 (h:PA X es t):PE X (.List es pos) (tLst t):=by
 intro pins s σ H Q I hq
 refine wpAny_List_spliced (thn (h pos pins s σ H _ I hq) fun us s1 ⟨xs,H1,I1,r,z,q⟩=>⟨by rw[← r.length];exact z,?_⟩)
 have hf:H1 s1.heap.objs.size=none:=I1.hok.fresh (Nat.le_refl _)
 refine ⟨.ref s1.heap.objs.size,upd H1 s1.heap.objs.size (.lst xs),I1.laid (t':=s1.toks) (fun b u e=>Heap.get?_push_of_some _ e) (Nat.le_refl _) ?_,rfl,q _ hf⟩
 exact ⟨z,us,0,r,Heap.get?_push_size _ rfl⟩
end
abbrev Sp:=List V→Hp→VK→XK→Prop
abbrev CXT:=List Env→Hp→Shared→XK→Value→Shared→Prop
structure Env0 (P:Program) (w:World) (K:PySem.W.Frag) (mg:Str→Option Value) (base:Heap) (A:Around) (outer:List Env) (s:Shared) (H:Hp):Prop where
 frames:A.frames=some outer
 mod:Mod K mg base
 bs:∀ b o,base.get? b=some o→s.heap.get? b=some o∧H b=none
 bsz:base.objs.size≤s.heap.objs.size
 funs:s.heap.FunFrames base outer
 frf:∀ b∈frs outer,H b=none
 hok:HOk P w H s.heap
 bare:AllBare s.gens
def CE (outer:List Env) (P:Program) (w:World) (H:Hp) (s:Shared) (Q:VK) (u:Value) (s':Shared):Prop:=
 ∃ v H',s'.os=s.os∧AllBare s'.gens∧Un (frs outer) [] H H' s.heap s'.heap∧HOk P w H' s'.heap∧RelV v u∧Q v H'
def CR (CX:CXT) (outer:List Env) (P:Program) (w:World) (H:Hp) (s:Shared) (Q:VK) (E:XK) (r:Result) (s':Shared):Prop:=
 match r with
 | .ok (.ret u)=>CE outer P w H s Q u s'
 | .ok _=>False
 | .error e=>CX outer H s E e s'
structure FnOk (P:Program) (w:World) (K:PySem.W.Frag) (mg:Str→Option Value) (base:Heap) (CX:CXT) (k:Nat) (f:Addr) (fd:FuncData) (ps:List Str) (sp:Sp):Prop where
 len:∀ vs H Q E,sp vs H Q E→vs.length=ps.length
 run:∀ (A:Around) (outer:List Env) (s:Shared) (H:Hp) (args:Args) (us:List Value) (vs:List V) (Q:VK) (E:XK),Room k A→Env0 P w K mg base A outer s H→BindsTo s fd args (ps.zip us)→Vals vs us→sp vs H Q E→
  codeAny (model P w) A (.call (.ref f) args) (CR CX outer P w H s Q E) s
theorem FnOk.imp {P:Program}{w:World}{K:PySem.W.Frag}{mg:Str→Option Value}{base:Heap}{CX:CXT}{k:Nat}{f:Addr}{fd:FuncData}{ps:List Str}{sp sp':Sp} (F:FnOk P w K mg base CX k f fd ps sp)
  (h:∀ vs H Q E,sp' vs H Q E→sp vs H Q E):FnOk P w K mg base CX k f fd ps sp':=
 ⟨fun vs H Q E q=>F.len vs H Q E (h _ _ _ _ q),fun A outer s H args us vs Q E hr he hb hv hs=>F.run A outer s H args us vs Q E hr he hb hv (h _ _ _ _ hs)⟩
section
variable {X:Cx}{pins:List (Addr×Obj)}{σ:St}{H:Hp}{s s':Shared}
theorem Inv.env0 (I:Inv X pins σ H s):Env0 X.prog X.w X.K X.mg X.base X.A X.stack s H:=
 ⟨I.ok.frames,I.ok.mod,I.bs,Nat.le_trans I.ok.bsz I.sz,I.stack,I.stkFree,I.hok,I.bare⟩
theorem Inv.after {Q:VK}{u:Value} (I:Inv X pins σ H s) (h:CE X.stack X.prog X.w H s Q u s'):EP X pins σ Q u s':=by
 obtain ⟨v,H',os,bare,un,hok,r,q⟩:=h
 obtain ⟨hh,g,d,t,os'⟩:=s'
 obtain rfl:os'=s.os:=os
 exact ⟨v,H',I.call (h':=hh) (g':=g) (d':=d) (t':=t) (ch:=[]) un hok bare (fun b z=>absurd z (by simp)),r,q⟩
end
def qel (sp:Sp) (dvs:List V) (E:XK) (t:TA):TE:=fun σ H Q=>t σ H fun vs H1=>sp (vs++dvs) H1 Q E
def qen (K:PySem.W.Frag) (fd:FuncData) (ps:List Str) (ds:List Value):Prop:=
 ∀ (s:Shared) (us:List Value),K.In s.heap→(us++ds).length=ps.length→BindsTo s fd ⟨us,[]⟩ (ps.zip (us++ds))
theorem qen.all {K:PySem.W.Frag}{fd:FuncData}{ps:List Str} (h:∀ us:List Value,us.length=ps.length→bindArgs fd ⟨us,[]⟩=pure (ps.zip us)):qen K fd ps []:=fun s us _ hl=>by
 rw[List.append_nil] at hl ⊢
 exact .of_eq (h us hl)
def qgd (CX:CXT) (X:Cx) (E:XK):Prop:=∀ (pins:List (Addr×Obj)) (σ:St) (H:Hp) (s:Shared) (e:Value) (s':Shared),Inv X pins σ H s→CX X.stack H s E e s'→X.xe e s'
section
variable {X:Cx}{CX:CXT}{k:Nat}{f C:Addr}{fd:FuncData}{ps:List Str}{sp:Sp}{dvs:List V}{ds:List Value}{E:XK}{x m:Str}{p pos apos:Pos}{e o:Expr}{es:List Expr}{ta:TE}{t:TA}
theorem run_fn {pins:List (Addr×Obj)}{σ:St}{H:Hp}{s:Shared}{Q:VK}{us:List Value}{vs:List V} (F:FnOk X.prog X.w X.K X.mg X.base CX k f fd ps sp) (hr:Room k X.A) (hb:qen X.K fd ps ds) (hd:Vals dvs ds) (hx:qgd CX X E)
  (I:Inv X pins σ H s) (r:Vals vs us) (h:sp (vs++dvs) H Q E):wpAny (model X.prog X.w) X.A (call (.ref f) us) (EP X pins σ Q) X.xe s:=by
 have r2:Vals (vs++dvs) (us++ds):=r.append hd
 have hl:(us++ds).length=ps.length:=by rw[← r2.length];exact F.len _ _ _ _ h
 refine wpAny_call (codeAny_mono (F.run X.A X.stack s H ⟨us,[]⟩ (us++ds) (vs++dvs) Q E hr I.env0 (hb s us I.kIn hl) r2 h) fun r s' hq=>?_)
 cases r with
 | error e=>exact hx pins σ H s e s' I hq
 | ok fl=>
  cases fl with
  | ret u=>exact I.after hq
  | next=>exact False.elim hq
  | brk=>exact False.elim hq
  | cont=>exact False.elim hq
theorem pe_call (F:FnOk X.prog X.w X.K X.mg X.base CX k f fd ps sp) (hr:Room k X.A) (hg:Gl X x) (hm:X.mg x=some (.ref f)) (hk:PySem.W.keepIn X.K (.ref f)=true) (hb:qen X.K fd ps ds) (hd:Vals dvs ds) (hx:qgd CX X E)
  (ha:PA X (e::es) t) (hdb:(x == ("__debug__" : Str))=false:=by decide) (he:starEach (e::es) X.env=(false,eval e X.env)::starEach es X.env:=by rfl) (hpl:(backTo pos (starEach es X.env)).any (·.1)=false:=by rfl) :
  PE X (.Call (.Name x p) (e::es) [] pos) (qel sp dvs E t):=by
 intro pins s σ H Q I h
 refine wpAny_Call_Name_kw (ld_glob I hg hm ?_ hdb)
 refine PySem.W.callWith_K (h₀:=X.base) I.ok.mod.kin hk (thn (ha pos pins s σ H _ I h) fun us s1 ⟨vs,H1,I1,r,q⟩=>⟨I1.kIn,?_⟩) he hpl
 exact run_fn F hr hb hd hx I1 r q
end
structure FnScope (N P:List Str) (sc:Scope):Prop where
 kind:sc.kind=.function
 co:sc.isCoroutine=false
 gen:sc.isGenerator=false
 nd:N.Nodup
 pre:N.take P.length=P
 par:∀ x∈P,sc.names.lookup x=some .local∨sc.names.lookup x=some .cell
 nofree:∀ y∈sc.names,y.2≠.free
theorem yeb {kindOf:Str→Option NameKind}{x:Str}:∀ {binds:List (Str×Value)}{m:Str→Option Value},(∀ v,(x,v)∉binds)→bindL kindOf binds m x=m x
 | [],_,_=>rfl
 | (n,v)::r,m,h=>by
  unfold bindL
  rw[yeb fun w hw=>h w (List.mem_cons_of_mem _ hw)]
  split
  ·have:x≠n:=by rintro rfl;exact h v List.mem_cons_self
   simp[this]
  ·rfl
theorem yed {kindOf:Str→Option NameKind}{x:Str}:∀ {binds:List (Str×Value)}{m:Str→Option Value},(∀ v,(x,v)∉binds)→bindC kindOf binds m x=m x
 | [],_,_=>rfl
 | (n,v)::r,m,h=>by
  unfold bindC
  rw[yed fun w hw=>h w (List.mem_cons_of_mem _ hw)]
  split
  ·rfl
  ·have:x≠n:=by rintro rfl;exact h v List.mem_cons_self
   simp[this]
theorem qeg {kindOf:Str→Option NameKind}{x:Str}{v:Value}:∀ {P:List Str}{vs:List Value}{i:Nat}{m:Str→Option Value},P.Nodup→P[i]?=some x→vs[i]?=some v→kindOf x=some .local→
  bindL kindOf (P.zip vs) m x=some v
 | [],_,_,_,_,h,_,_=>by simp at h
 | _::_,[],_,_,_,_,h,_=>by simp at h
 | p::P,w::vs,0,m,nd,h1,h2,hk=>by
  simp at h1 h2;subst h1;subst h2
  show bindL kindOf ((p,w)::P.zip vs) m p=_
  unfold bindL
  rw[yeb fun v hv=>(List.nodup_cons.mp nd).1 (List.of_mem_zip hv).1,if_pos hk]
  simp
 | p::P,w::vs,i+1,m,nd,h1,h2,hk=>by
  show bindL kindOf ((p,w)::P.zip vs) m x=_
  unfold bindL
  exact qeg (i:=i) (List.nodup_cons.mp nd).2 (by simpa using h1) (by simpa using h2) hk
theorem qd1 {kindOf:Str→Option NameKind}{x:Str}{v:Value}:∀ {P:List Str}{vs:List Value}{i:Nat}{m:Str→Option Value},P.Nodup→P[i]?=some x→vs[i]?=some v→kindOf x≠some .local→
  bindC kindOf (P.zip vs) m x=some v
 | [],_,_,_,_,h,_,_=>by simp at h
 | _::_,[],_,_,_,_,h,_=>by simp at h
 | p::P,w::vs,0,m,nd,h1,h2,hk=>by
  simp at h1 h2;subst h1;subst h2
  show bindC kindOf ((p,w)::P.zip vs) m p=_
  unfold bindC
  rw[yed fun v hv=>(List.nodup_cons.mp nd).1 (List.of_mem_zip hv).1,if_neg hk]
  simp
 | p::P,w::vs,i+1,m,nd,h1,h2,hk=>by
  show bindC kindOf ((p,w)::P.zip vs) m x=_
  unfold bindC
  exact qd1 (i:=i) (List.nodup_cons.mp nd).2 (by simpa using h1) (by simpa using h2) hk
def yc5 (N:List Str) (vs:List V):St:=vs.map some++List.replicate (N.length-vs.length) none
def cxOf (CX:CXT) (P:Program) (w:World) (K:PySem.W.Frag) (mg:Str→Option Value) (base:Heap) (N:List Str) (qual:Str) (scope:Scope) (f:Addr) (cd:Value) (A:Around) (outer:List Env) (s:Shared) (H:Hp) (E:XK):Cx where
 prog:=P
 w:=w
 K:=K
 mg:=mg
 base:=base
 A:=A.deeper (envOfC qual scope s.heap.objs.size f cd)
 N:=N
 s₀:=s
 H₀:=H
 env:=envOfC qual scope s.heap.objs.size f cd
 outer:=outer
 stack:=envOfC qual scope s.heap.objs.size f cd::outer
 ex:=[]
 calm:=true
 fn:=fun _=>true
 pn:=[]
 xe:=fun e s'=>wpAny (model P w) (A.deeper (envOfC qual scope s.heap.objs.size f cd)) (leaving (envOfC qual scope s.heap.objs.size f cd) e) (fun _ s''=>CX outer H s E e s'') (fun e' s''=>CX outer H s E e' s'') s'
theorem ye6 {sc:Scope}{n:Nat}{x:Str} (h:sc.names.lookup x=some .cell):∃ c,(cellsFrom n sc.names []).lookup x=some c:=by
 have q:=PySem.W.cellsFrom_some sc.names n [] (.inl h)
 exact Option.isSome_iff_exists.mp q
theorem ygi {CX:CXT}{P:Program}{w:World}{K:PySem.W.Frag}{mg:Str→Option Value}{base:Heap}{N ps:List Str}{qual:Str}{scope:Scope}{f:Addr}{cd:Value}{A:Around}{outer:List Env}{s s1:Shared}{H:Hp}{E:XK}{us:List Value}{vs:List V}
  (S:FnScope N ps scope) (hd:A.handled=none) (e0:Env0 P w K mg base A outer s H) (hl:vs.length=ps.length) (r:Vals vs us)
  (x:InCallC s s.heap.objs.size (bindL (envOfC qual scope s.heap.objs.size f cd).kindOf (ps.zip us) fun _=>none) (cellsFrom (s.heap.objs.size+1) scope.names []) (bindC (envOfC qual scope s.heap.objs.size f cd).kindOf (ps.zip us) fun _=>none) s1) :
  Inv (cxOf CX P w K mg base N qual scope f cd A outer s H E) [] (yc5 N vs) H s1:=by
 have hpl:ps.length≤N.length:=by have:=congrArg List.length S.pre;rw[List.length_take] at this;omega
 obtain ⟨h1,tk,rfl,hk⟩:=x.done
 have noA:∀ b:Addr,b∉(cxOf CX P w K mg base N qual scope f cd A outer s H E).ex:=fun b z=>absurd (show b∈([]:List Addr) from z) (by simp)
 refine ⟨⟨e0.mod,S.kind,rfl,rfl,Nat.le_refl _,fun y z c h1 h2=>?_,fun y hy=>?_,fun y c _ h=>?_,fun _=>hd,Around.frames_deeper e0.frames,.inr ⟨rfl,rfl⟩,fun b z=>absurd z (noA b),e0.bs,e0.bsz,fun b _ _=>noA b,fun b z=>absurd z (noA b),e0.funs,e0.frf⟩,
  rfl,e0.bare,Un.kept hk,⟨_,x.toInCall.ns,fun i y v h1 h2 h3=>?_⟩,fun y c h=>⟨_,x.cell y c h⟩,e0.hok.fresh (Nat.le_refl _),fun y c h=>?_,fun p hp=>absurd (show p∈([]:List (Addr×Obj)) from hp) (by simp),e0.hok.kept hk,?_⟩
 ·exact name_of_addr x.apart (PySem.mem_of_lookup h1) (PySem.mem_of_lookup h2)
 ·have hy:scope.names.lookup y=some .cell∨scope.names.lookup y=some .free:=hy
  rcases hy with hy|hy
  ·exact ye6 hy
  ·exact absurd rfl (S.nofree _ (PySem.mem_of_lookup hy))
 ·exact Nat.le_of_lt (x.above y c (PySem.mem_of_lookup h))
 ·have hi:i<vs.length:=by
   unfold yc5 at h2
   by_cases hi:i<vs.length
   ·exact hi
   ·rw[List.getElem?_append_right (by simpa using hi)] at h2
    rw[List.getElem?_replicate] at h2
    split at h2<;>cases h2
  have ha:vs[i]?=some v:=by
   unfold yc5 at h2
   rw[List.getElem?_append_left (by simpa using hi),List.getElem?_map] at h2
   cases e:vs[i]? with
   | none=>rw[e] at h2;cases h2
   | some a=>rw[e] at h2;cases h2;rfl
  obtain ⟨u,hu,rv⟩:=r.get ha
  have hp:ps[i]?=some y:=by
   rw[← S.pre,List.getElem?_take_of_lt (by omega)];exact h1
  have ndP:ps.Nodup:=by rw[← S.pre];exact S.nd.sublist (List.take_sublist _ _)
  refine ⟨u,rv,?_⟩
  rcases S.par y (List.mem_of_getElem? hp) with k|k
  ·exact .inl ⟨k,qeg ndP hp hu k⟩
  ·obtain ⟨c,e⟩:=ye6 (n:=s.heap.objs.size+1) k
   refine .inr ⟨.inl k,c,e,?_⟩
   have q:=x.cell y c e
   rw[qd1 ndP hp hu (by show scope.names.lookup y≠_;rw[k];decide)] at q
   exact q
 ·exact e0.hok.fresh (Nat.le_of_lt (x.above y c (PySem.mem_of_lookup h)))
 ·unfold yc5
  show _=N.length
  rw[List.length_append,List.length_map,List.length_replicate]
  omega
theorem fn_of {CX:CXT}{P:Program}{w:World}{K:PySem.W.Frag}{mg:Str→Option Value}{base:Heap}{k:Nat}{f:Addr}{name qual:Str}{params:Arguments}{body:List Stmt}{scope:Scope}{dV kV doc pm cdv ct oc:Value}{an od:Option Addr}
  {osl:Array (Option Value)}{N ps:List Str}{sp:Sp} (lk:K.lookup f=some ⟨oc,od,.func (PySem.W.fnOf name qual params body scope dV kV doc pm an cdv ct),osl⟩) (hcd:PySem.W.codeIn K cdv qual=true) (S:FnScope N ps scope)
  (len:∀ vs H Q E,sp vs H Q E→vs.length=ps.length)
  (hbody:∀ (A:Around) (outer:List Env) (s:Shared) (H:Hp) (vs:List V) (Q:VK) (E:XK),Room k (A.deeper (envOfC qual scope s.heap.objs.size f cdv))→sp vs H Q E→
   ∃ t,PSs (cxOf CX P w K mg base N qual scope f cdv A outer s H E) body t∧t { nx:=fun _ H'=>Q .non H',rt:=Q } (yc5 N vs) H) :
  FnOk P w K mg base CX (k+1) f (PySem.W.fnOf name qual params body scope dV kV doc pm an cdv ct) ps sp:=by
 refine ⟨len,fun A outer s H args us vs Q E hr e0 hb r hsp=>?_⟩
 have hl:=len _ _ _ _ hsp
 have KX:K.In s.heap:=e0.mod.kin.keeps fun b o e=>(e0.bs b o e).1
 have lim:s.heap.NoLimit:=e0.mod.nolimit.keeps fun b o e=>(e0.bs b o e).1
 have hkind:∀ y∈ps.zip us,scope.names.lookup y.1=some .local∨(scope.names.lookup y.1=some .cell∧((cellsFrom (s.heap.objs.size+1) scope.names []).lookup y.1).isSome=true):=fun ⟨n,v⟩ hy=>by
  rcases S.par n (List.of_mem_zip hy).1 with q|q
  ·exact .inl q
  ·exact .inr ⟨q,PySem.W.cellsFrom_some _ _ _ (.inl q)⟩
 refine codeAny_call_function hr.depth (KX _ _ lk) rfl S.co S.gen rfl (PySem.W.codeRec_of KX hcd) (hb _ _ _ _ ?_)
 refine wpAny_newFunctionEnv_cells S.kind hkind fun env he s1 x=>?_
 subst he
 refine ⟨lim.keeps x.toInCall.keep,codeAny_func ?_⟩
 obtain ⟨t,ht,hq⟩:=hbody A outer s H vs Q E (hr.deeper _) hsp
 have I:Inv (cxOf CX P w K mg base N qual scope f cdv A outer s H E) [] (yc5 N vs) H s1:=ygi S hr.hd e0 hl r x
 refine wpAny_mono (ht [] s1 (yc5 N vs) H _ I hq) (fun fl s' hs=>?_) fun e s' hs=>hs
 have fin:∀ {σ':St}{H':Hp}{v:V}{u:Value},Inv (cxOf CX P w K mg base N qual scope f cdv A outer s H E) [] σ' H' s'→RelV v u→Q v H'→CE outer P w H s Q u s':=
  fun {σ' H' v u} J rv q=>⟨v,H',J.os,J.bare,J.base,J.hok,rv,q⟩
 cases fl with
 | ret u=>
  obtain ⟨v,σ',H',J,rv,q⟩:=hs
  exact fin J rv q
 | next=>
  obtain ⟨σ',H',J,q⟩:=hs
  exact fin (v:=V.non) (u:=Value.none) J rfl q
 | brk=>
  obtain ⟨_,_,_,q⟩:=hs
  exact False.elim q
 | cont=>
  obtain ⟨_,_,_,q⟩:=hs
  exact False.elim q
section
variable {X:Cx}{x:Str}{p pos:Pos}{e:Expr}{es:List Expr}{t:TA}{id T:String}{r:List V→Hp→VK→Prop}
def tCB (r:List V→Hp→VK→Prop) (t:TA):TE:=fun σ H Q=>t σ H fun vs H1=>r vs H1 Q
theorem qa5 (hc:yb5 X (.builtin id) r) (hg:Gl X x) (hm:X.mg x=none) (hv:bootBuiltins x=some (.builtin id)) (ha:PA X (e::es) t) (hn:x≠"__name__":=by decide) (hdb:(x == ("__debug__" : Str))=false:=by decide)
  (he:starEach (e::es) X.env=(false,eval e X.env)::starEach es X.env:=by rfl) (hpl:(backTo pos (starEach es X.env)).any (·.1)=false:=by rfl):PE X (.Call (.Name x p) (e::es) [] pos) (tCB r t):=by
 intro pins s σ H Q I h
 refine wpAny_Call_Name_kw (yd0 I hg hm hv ?_ hn hdb)
 exact PyProof.Rows.callWith_builtin1 (thn (ha pos pins s σ H _ I h) fun us s1 ⟨vs,H1,I1,r1,q1⟩=>hc pins s1 σ H1 vs us Q I1 r1 q1) he hpl
theorem yc4 (hc:yb5 X (.type T) r) (hg:Gl X x) (hm:X.mg x=none) (hv:bootBuiltins x=some (.type T)) (ha:PA X (e::es) t) (hn:x≠"__name__":=by decide) (hdb:(x == ("__debug__" : Str))=false:=by decide)
  (he:starEach (e::es) X.env=(false,eval e X.env)::starEach es X.env:=by rfl) (hpl:(backTo pos (starEach es X.env)).any (·.1)=false:=by rfl):PE X (.Call (.Name x p) (e::es) [] pos) (tCB r t):=by
 intro pins s σ H Q I h
 refine wpAny_Call_Name_kw (yd0 I hg hm hv ?_ hn hdb)
 exact PyProof.Rows.callWith_type1 (thn (ha pos pins s σ H _ I h) fun us s1 ⟨vs,H1,I1,r1,q1⟩=>hc pins s1 σ H1 vs us Q I1 r1 q1) he hpl
end
end L2
namespace HT
open PySem PyProof.Rows
section
variable {prog:Program}{w:World}{A:Around}{E:Value→Shared→Prop}{s:Shared}
theorem cat_tup {t b:Addr}{vs ws:List Value}{Q:Value→Shared→Prop} (ht:IsTup s.heap t vs.toArray) (hb:IsTup s.heap b ws.toArray) (hv:vs≠[])
  (h1:ws=[]→Q (.ref t) s) (h2:ws≠[]→Q (.ref s.heap.objs.size) { s with heap:=s.heap.push { cls:=.type "tuple",data:=.seq (vs++ws).toArray } })
  (hsz:vs.length+ws.length≤sizeLine):wpAny (model prog w) A (binaryOp .Add (.ref t) (.ref b)) Q E s:=by
 obtain ⟨⟨cls,dd,data,sl⟩,ho,hc,n,hd⟩:=id ht
 obtain ⟨⟨cls2,dd2,data2,sl2⟩,ho2,hc2,n2,hd2⟩:=id hb
 simp only at hc hd hc2 hd2
 subst hc hd hc2 hd2
 have e:vs.toArray++ws.toArray=(vs++ws).toArray:=by simp
 by_cases hw:ws=[]
 ·exact concat_meets ⟨_,ho,rfl⟩ ⟨_,ho2,rfl⟩ noFill_tuple_add seq_tuple_add PySem.F.slot_tuple_add PySem.F.entry_tuple_add (PySem.F.args_tuple_add_2 _ _)
   (tuple_addW1 t b vs.toArray ws.toArray n n2 dd dd2 sl sl2 (by simpa using hv) (by simp[hw])) ⟨ho,ho2,h1 hw⟩
 ·refine concat_meets ⟨_,ho,rfl⟩ ⟨_,ho2,rfl⟩ noFill_tuple_add seq_tuple_add PySem.F.slot_tuple_add PySem.F.entry_tuple_add (PySem.F.args_tuple_add_2 _ _)
   (tuple_addW2 t b vs.toArray ws.toArray n n2 dd dd2 sl sl2 (by simpa using hv) (by simpa using hw) (by rw[List.size_toArray,List.size_toArray];exact hsz)) ⟨ho,ho2,?_⟩
  rw[e]
  exact h2 hw
def sIx (n d:Nat):Option Int→Nat
 | none=>d
 | some v=>if v<0 then (v+(n:Int)).toNat else min v.toNat n
theorem sIx_none (n d:Nat):sIx n d none=d:=rfl
theorem sIx_nat (n d k:Nat):sIx n d (some (k:Int))=min k n:=by
 show (if (k:Int)<0 then ((k:Int)+(n:Int)).toNat else min (k:Int).toNat n)=min k n
 rw[if_neg (by omega),Int.toNat_natCast]
theorem sIx_le (n d:Nat) (hd:d≤n) (o:Option Int):sIx n d o≤n:=by
 cases o with
 | none=>exact hd
 | some v=>
  show (if v<0 then (v+(n:Int)).toNat else min v.toNat n)≤n
  by_cases hv:v<0
  ·rw[if_pos hv];omega
  ·rw[if_neg hv];exact Nat.min_le_right _ _
theorem qf9 (v:Int) (n d:Nat):(if v<0 then max (v+(n:Int)) 0 else min v (n:Int))=((sIx n d (some v):Nat):Int):=by
 show (if v<0 then max (v+(n:Int)) 0 else min v (n:Int))=(((if v<0 then (v+(n:Int)).toNat else min v.toNat n):Nat):Int)
 by_cases hv:v<0
 ·simp only[if_pos hv];omega
 ·simp only[if_neg hv];omega
theorem yfe (lo hi:Option Int) (n:Nat):Builtin.Slice.sliceAdjust lo hi 1 (n:Int)=(((sIx n 0 lo:Nat):Int),((sIx n n hi:Nat):Int)):=by
 have h1:¬ ((1:Int)<0):=by omega
 unfold Builtin.Slice.sliceAdjust
 simp only[h1,if_false]
 refine Prod.ext ?_ ?_
 ·cases lo with
  | none=>rfl
  | some v=>exact qf9 v n 0
 ·cases hi with
  | none=>rfl
  | some v=>exact qf9 v n n
theorem ye9 (i j:Nat):Builtin.Slice.slicePlaces (i:Int) (j:Int) 1=j-i:=by
 unfold Builtin.Slice.slicePlaces
 have h1:(1:Int)>0:=by omega
 simp only[h1,if_true,Int.ediv_one]
 split<;>omega
theorem ydk {v:Value}{o:Option Int}{Q:Option Int→Shared→Prop} (p:IsPart v o) (h:Q o s):wpAny (model prog w) A (Builtin.Slice.slicePartIndex v) Q E s:=by
 cases p with
 | none=>exact slicePart_none h
 | int i t=>exact slicePart_int h
theorem yc0 {sl:Addr}{vl vu:Value}{lo hi:Option Int}{n:Nat}{Q:Int×Int×Nat→Shared→Prop} (hs:s.heap.IsSliceOf sl vl vu .none) (pl:IsPart vl lo) (pu:IsPart vu hi)
  (h:Q (((sIx n 0 lo:Nat):Int),1,sIx n n hi-sIx n 0 lo) s):wpAny (model prog w) A (Builtin.Slice.sliceApplied (.ref sl) (pure (n:Int))) Q E s:=by
 obtain ⟨os,hos,hcs,hds⟩:=id hs
 unfold Builtin.Slice.sliceApplied Builtin.Slice.sliceFields
 refine wpAny_bind (wpAny_bind (wpAny_field hos hds (x:=vl) rfl (wpAny_bind (wpAny_field hos hds (x:=vu) rfl (wpAny_bind (wpAny_field hos hds (x:=.none) rfl (wpAny_pure ?_)))))))
 refine wpAny_bind (slicePart_none ?_)
 show wpAny _ _ (if ((1:Int) == 0)=true then _ else _) _ _ s
 rw[if_neg (by decide)]
 refine wpAny_bind (ydk pl (wpAny_bind (ydk pu (wpAny_bind (wpAny_pure ?_)))))
 show wpAny _ _ (match Builtin.Slice.sliceAdjust lo hi 1 (n:Int) with|(lo,hi)=>pure (lo,(1:Int),Builtin.Slice.slicePlaces lo hi 1)) _ _ s
 rw[yfe lo hi n]
 show wpAny _ _ (pure (((sIx n 0 lo:Nat):Int),(1:Int),Builtin.Slice.slicePlaces ((sIx n 0 lo:Nat):Int) ((sIx n n hi:Nat):Int) 1)) _ _ s
 rw[ye9]
 exact wpAny_pure h
theorem pick_gen (xs:Array Value) (i k:Nat):((List.range k).filterMap fun (m:Nat)=>xs[((i:Int)+(m:Int)*1).toNat]?).toArray=((xs.toList.drop i).take k).toArray:=by
 have e:(fun (m:Nat)=>xs[((i:Int)+(m:Int)*1).toNat]?)=fun m=>xs[i+m]?:=by
  funext m
  have:((i:Int)+(m:Int)*1).toNat=i+m:=by omega
  rw[this]
 rw[e]
 have:=pick_run xs i k
 rw[List.filterMap_map] at this
 have e2:((fun x=>xs[x]?) ∘ fun x=>i+x)=fun m=>xs[i+m]?:=rfl
 rw[e2] at this
 rw[this]
theorem getItem_tuple_cut {t sl:Addr}{items:Array Value}{vl vu:Value}{lo hi:Option Int}{Q:Value→Shared→Prop} (ht:IsTup s.heap t items) (hs:s.heap.IsSliceOf sl vl vu .none) (pl:IsPart vl lo) (pu:IsPart vu hi)
  (hw:¬ (sIx items.size 0 lo=0∧sIx items.size items.size hi=items.size))
  (h:Q (.ref s.heap.objs.size) { s with heap:=s.heap.push { cls:=.type "tuple",data:=.seq ((items.toList.drop (sIx items.size 0 lo)).take (sIx items.size items.size hi-sIx items.size 0 lo)).toArray } })
  (hsz:items.size≤sizeLine):wpAny (model prog w) A (getItem (.ref t) (.ref sl)) Q E s:=by
 have htake:sizeOk (.seq ((items.toList.drop (sIx items.size 0 lo)).take (sIx items.size items.size hi-sIx items.size 0 lo)).toArray):=by
  show ((items.toList.drop (sIx items.size 0 lo)).take (sIx items.size items.size hi-sIx items.size 0 lo)).toArray.size≤sizeLine
  rw[List.size_toArray,List.length_take,List.length_drop,Array.length_toList]
  omega
 have hj:sIx items.size items.size hi≤items.size:=sIx_le _ _ (Nat.le_refl _) hi
 obtain ⟨os,hos,hcs,hds⟩:=id hs
 have hTs:s.TypeIs (.ref sl) "slice":=⟨os,hos,hcs⟩
 unfold getItem
 try with_reducible refine wpAny_holding ?_
 first|refine wpAny_bind (wpAny_pure ?_)|skip
 refine wpAny_bind (wpAny_sequenceKey ht.typeIs (by decide) ?_)
 refine wpAny_bind (wpAny_callSpecial?_slot (name:=Str.ofString "__getitem__") ht.typeIs PyProof.Rows.slot_tuple_getitem
  (wpAny_call_entry PyProof.Rows.slot_tuple_getitem ht.typeIs entry_tuple_getitem ?_ (args_tuple_getitem _ _)))
 show wpAny _ _ (Builtin.Tuple.tupleItemsOf (.ref t) >>= _) _ _ s
 refine wpAny_bind (tupleItemsOf_ ht ?_)
 refine wpAny_bind (wpAny_typeOf hTs ?_)
 rw[if_pos (by decide)]
 refine wpAny_bind (yc0 hs pl pu ?_)
 have hno:¬ ((((sIx items.size 0 lo:Nat):Int) == 0&&(1:Int) == 1&&(sIx items.size items.size hi-sIx items.size 0 lo) == items.size)=true):=by
  intro q
  rw[Bool.and_eq_true,Bool.and_eq_true] at q
  have q1:((sIx items.size 0 lo:Nat):Int)=0:=eq_of_beq q.1.1
  have q2:sIx items.size items.size hi-sIx items.size 0 lo=items.size:=eq_of_beq q.2
  exact hw ⟨by omega,by omega⟩
 show wpAny _ _ (if (((sIx items.size 0 lo:Nat):Int) == 0&&(1:Int) == 1&&(sIx items.size items.size hi-sIx items.size 0 lo) == items.size)=true then _ else _) _ _ s
 rw[if_neg hno,pick_gen]
 first
  | exact wpAny_bind (m:=Builtin.Tuple.tupleExact _) (wpAny_newObj_type (wpAny_pure ⟨_,rfl,wpAny_pure h⟩) htake)
  | exact wpAny_bind (m:=Builtin.Tuple.tupleExact _) (wpAny_newObj_type (wpAny_bind (wpAny_pure (wpAny_pure ⟨_,rfl,wpAny_pure h⟩))) htake)
  | exact wpAny_bind (wpAny_bind (m:=Builtin.Tuple.tupleExact _) (wpAny_newObj_type (wpAny_pure (wpAny_pure ⟨_,rfl,wpAny_pure h⟩)) htake))
  | exact wpAny_bind (wpAny_bind (m:=Builtin.Tuple.tupleExact _) (wpAny_newObj_type (wpAny_pure ⟨_,rfl,wpAny_pure h⟩) htake))
end
end HT
namespace L2
open PySem PySem.Spec PyProof.Rows
abbrev TO:=St→Hp→(Option Int→Hp→Prop)→Prop
def PO (X:Cx) (e:Option Expr) (t:TO):Prop:=
 ∀ (pins:List (Addr×Obj)) (s:Shared) (σ:St) (H:Hp) (Q:Option Int→Hp→Prop),Inv X pins σ H s→t σ H Q→
  wpAny (model X.prog X.w) X.A (evalPart e X.env) (fun u s'=>∃ o H',Inv X pins σ H' s'∧IsPart u o∧Q o H') X.xe s
def ybt:TO:=fun _ H Q=>Q none H
def ydq (t:TE):TO:=fun σ H Q=>t σ H fun x H1=>∃ i,x=.int i∧Q (some i) H1
theorem qdp {ns:List Int}:∀ {us:List Value},Vals (ns.map V.int) us→IntsAre us ns:=by
 induction ns with
 | nil=>intro us r;rw[List.map_nil] at r;cases r;exact .nil
 | cons n ns ih=>
  intro us r
  rw[List.map_cons] at r
  cases r with
  | cons r1 r2=>
   obtain ⟨t,e⟩:=r1
   subst e
   exact .cons n t (ih r2)
section
variable {X:Cx}{e:Expr}{te:TE}{lo hi:Option Expr}{tl th:TO}{pos p2:Pos}
theorem yav:PO X none ybt:=by
 intro pins s σ H Q I h
 rw[evalPart_none]
 exact wpAny_pure ⟨none,H,I,.none,h⟩
theorem yas (h:PE X e te):PO X (some e) (ydq te):=by
 intro pins s σ H Q I hw
 rw[evalPart_some]
 refine thn (h pins s σ H _ I hw) fun u s1 ⟨x,H1,I1,r1,q1⟩=>?_
 obtain ⟨i,rfl,q⟩:=q1
 obtain ⟨t,rfl⟩:=r1
 exact ⟨some i,H1,I1,.int i t,q⟩
def SlR (X:Cx) (r:V→Option Int→Option Int→Hp→VK→Prop):Prop:=
 ∀ (pins:List (Addr×Obj)) (s:Shared) (σ:St) (H:Hp) (x:V) (v vl vu:Value) (lo hi:Option Int) (sl:Addr) (Q:VK),Inv X pins σ H s→RelV x v→s.heap.IsSliceOf sl vl vu .none→IsPart vl lo→IsPart vu hi→r x lo hi H Q→
  ∃ T id,typeLookup (.type T) "__getitem__" = pure (some (.builtin id))∧s.TypeIs v T∧wpAny (model X.prog X.w) X.A (getItem v (.ref sl)) (EP X pins σ Q) X.xe s
def tSl (r:V→Option Int→Option Int→Hp→VK→Prop) (te:TE) (tl th:TO):TE:=fun σ H Q=>te σ H fun x H1=>tl σ H1 fun l H2=>th σ H2 fun u H3=>r x l u H3 Q
theorem ye7 {r:V→Option Int→Option Int→Hp→VK→Prop} (hr:SlR X r) (he:PE X e te) (hl:PO X lo tl) (hu:PO X hi th):PE X (.Subscript e (.Slice lo hi none p2) pos) (tSl r te tl th):=by
 intro pins s σ H Q I h
 refine Subscript_ (thn (he pins s σ H _ I h) fun v s1 ⟨x,H1,I1,r1,q1⟩=>?_)
 refine wpAny_Slice (thn (hl pins s1 σ H1 _ I1 q1) fun vl s2 ⟨l,H2,I2,pl,q2⟩=>thn (hu pins s2 σ H2 _ I2 q2) fun vu s3 ⟨u,H3,I3,pu,q3⟩=>?_)
 rw[evalPart_none]
 refine wpAny_pure ?_
 have I4:Inv X pins σ H3 { s3 with heap:=s3.heap.push { cls:=.type "slice",data:=.fields #[vl,vu,.none] } }:=I3.kept (t':=s3.toks) fun b ob q=>Heap.get?_push_of_some _ q
 obtain ⟨T,id,hT,ht,hg⟩:=hr pins { s3 with heap:=s3.heap.push { cls:=.type "slice",data:=.fields #[vl,vu,.none] } } σ H3 x v vl vu l u s3.heap.objs.size Q I4 r1 (Heap.IsSliceOf.new ..) pl pu q3
 show wpAny (model X.prog X.w) X.A (subscriptTail e (.Slice lo hi none p2) v (.ref s3.heap.objs.size)) (EP X pins σ Q) X.xe { s3 with heap:=s3.heap.push { cls:=.type "slice",data:=.fields #[vl,vu,.none] } }
 exact tail_any (ops:=[.ref s3.heap.objs.size,v]) ht hT hg (by with_unfolding_all rfl)
def cutV (xs:List V) (lo hi:Option Int):List V:=(xs.drop (HT.sIx xs.length 0 lo)).take (HT.sIx xs.length xs.length hi-HT.sIx xs.length 0 lo)
theorem qc7 (xs:List V) (lo hi:Option Int):(cutV xs lo hi).length≤xs.length:=by
 unfold cutV
 rw[List.length_take,List.length_drop]
 omega
def rSlT (K:PySem.W.Frag):V→Option Int→Option Int→Hp→VK→Prop:=fun x lo hi H Q=>∃ a xs,x=.ref a∧SqT K H a xs∧
 ¬ (HT.sIx xs.length 0 lo=0∧HT.sIx xs.length xs.length hi=xs.length)∧∀ p,H p=none→Q (.ref p) (upd H p (.tup (cutV xs lo hi)))
theorem ybz:SlR X (rSlT X.K):=by
 intro pins s σ H x v vl vu lo hi sl Q I rx hs pl pu h
 obtain ⟨a,xs,rfl,hx,hw,q⟩:=h
 cases rx
 obtain ⟨its,r,ht,hz⟩:=I.tuple hx
 have hlen:its.toArray.size=xs.length:=by rw[List.size_toArray];exact r.length.symm
 refine ⟨"tuple",_,PyProof.Rows.slot_tuple_getitem.lookup,ht.typeIs,?_⟩
 refine HT.getItem_tuple_cut ht hs pl pu (by rw[hlen];exact hw) ?_ (by rw[hlen];exact hz)
 rw[hlen]
 refine ⟨.ref s.heap.objs.size,_,I.laid (t':=s.toks) (o:=.tup (cutV xs lo hi)) (fun b ob q=>Heap.get?_push_of_some _ q) (Nat.le_refl _) ?_,rfl,q _ (I.hok.fresh (Nat.le_refl _))⟩
 exact ⟨Nat.le_trans (qc7 xs lo hi) hz,_,(r.drop (HT.sIx xs.length 0 lo)).take (HT.sIx xs.length xs.length hi-HT.sIx xs.length 0 lo),IsTup.new _ _⟩
def rCatT (K:PySem.W.Frag):R2:=fun x y H Q=>∃ a b xs ys,x=.ref a∧y=.ref b∧SqT K H a xs∧SqT K H b ys∧xs≠[]∧xs.length+ys.length≤sizeLine∧
 (ys=[]→Q (.ref a) H)∧(ys≠[]→∀ p,H p=none→Q (.ref p) (upd H p (.tup (xs++ys))))
theorem Vals.nil_iff {xs:List V}{us:List Value} (r:Vals xs us):us=[]↔xs=[]:=by
 cases r with
 | nil=>simp
 | cons _ _=>simp
theorem ybb:OpR X (binaryOp .Add) (rCatT X.K):=by
 intro pins s σ H x y v u Q I rx ry h
 obtain ⟨a,b,xs,ys,rfl,rfl,ha,hb,hx,hz,q1,q2⟩:=h
 cases rx
 cases ry
 obtain ⟨its,r1,p1,_⟩:=I.tuple ha
 obtain ⟨its2,r2,p2,_⟩:=I.tuple hb
 refine HT.cat_tup p1 p2 (fun z=>hx (r1.nil_iff.mp z)) (fun z=>⟨.ref a,H,I,rfl,q1 (r2.nil_iff.mp z)⟩) (fun z=>?_) (by rw[← r1.length,← r2.length];exact hz)
 refine ⟨.ref s.heap.objs.size,_,I.laid (t':=s.toks) (o:=.tup (xs++ys)) (fun b ob q=>Heap.get?_push_of_some _ q) (Nat.le_refl _) ?_,rfl,q2 (fun w=>z (r2.nil_iff.mpr w)) _ (I.hok.fresh (Nat.le_refl _))⟩
 exact ⟨by rw[List.length_append];exact hz,_,r1.append r2,IsTup.new _ _⟩
end
def ixN (n:Nat) (i:Int):Option Nat:=if 0≤i then (if i<n then some i.toNat else none) else if -(n:Int)≤i then some (i+n).toNat else none
def atI {α:Type} (xs:List α) (i:Int):Option α:=(ixN xs.length i).bind fun j=>xs[j]?
theorem ixN_seq {n:Nat}{i:Int}{j:Nat} (h:ixN n i=some j):seqIndex? i n=some j∧j<n∧-(n:Int)≤i∧i<n:=by
 unfold ixN at h
 by_cases h0:0≤i
 ·rw[if_pos h0] at h
  by_cases h1:i<n
  ·rw[if_pos h1] at h
   have e:i.toNat=j:=Option.some.inj h
   exact ⟨by rw[seqIndex_of h0 h1,e],by omega,by omega,h1⟩
  ·rw[if_neg h1] at h;cases h
 ·rw[if_neg h0] at h
  by_cases h1:-(n:Int)≤i
  ·rw[if_pos h1] at h
   have e:(i+n).toNat=j:=Option.some.inj h
   exact ⟨by rw[seqIndex_neg (by omega) h1,e],by omega,h1,by omega⟩
  ·rw[if_neg h1] at h;cases h
theorem ygf {α:Type}{xs:List α}{i:Int}{v:α} (h:atI xs i=some v):∃ j,seqIndex? i xs.length=some j∧xs[j]?=some v∧j<xs.length∧-(xs.length:Int)≤i∧i<xs.length:=by
 unfold atI at h
 cases e:ixN xs.length i with
 | none=>rw[e] at h;cases h
 | some j=>
  rw[e] at h
  obtain ⟨h1,h2,h3,h4⟩:=ixN_seq e
  exact ⟨j,h1,h,h2,h3,h4⟩
theorem qbv {α:Type}{xs:List α}{j:Nat}{v:α} (h:xs[j]?=some v):atI xs (j:Int)=some v:=by
 have hj:j<xs.length:=(List.getElem?_eq_some_iff.mp h).1
 have e:ixN xs.length (j:Int)=some j:=by
  unfold ixN
  rw[if_pos (by omega),if_pos (by omega)];simp
 unfold atI;rw[e];exact h
def qgj (b:Expr):Prop:=∀ o i,subscripted b false o i=operate [o,i] (getItem o i)
def IxR (X:Cx) (r:R2):Prop:=
 ∀ (value slice:Expr) (pins:List (Addr×Obj)) (s:Shared) (σ:St) (H:Hp) (x y:V) (v u:Value) (Q:VK),Inv X pins σ H s→RelV x v→RelV y u→r x y H Q→
  subscripted slice false v u=operate [v,u] (getItem v u)→wpAny (model X.prog X.w) X.A (subscriptTail value slice v u) (EP X pins σ Q) X.xe s
def MtR (X:Cx) (id:String) (r:V→List V→Hp→VK→Prop):Prop:=
 ∀ (pins:List (Addr×Obj)) (s:Shared) (σ:St) (H:Hp) (x:V) (xs:List V) (v:Value) (us:List Value) (Q:VK),Inv X pins σ H s→RelV x v→Vals xs us→r x xs H Q→
  wpAny (model X.prog X.w) X.A (call (.builtin id) (v::us)) (EP X pins σ Q) X.xe s
section
variable {X:Cx}{a b:Expr}{ta tb:TE}{pos:Pos}
theorem qa0 {r:R2} (hr:IxR X r) (ha:PE X a ta) (hb:PE X b tb) (hs:qgj b):PE X (.Subscript a b pos) (tOp r ta tb):=by
 intro pins s σ H Q I h
 exact Subscript_ (binT ha hb I h fun v u s2 x y H2 I2 rx ry q=>hr a b pins s2 σ H2 x y v u Q I2 rx ry q (hs _ _))
def rIxL (K:PySem.W.Frag):R2:=fun x y H Q=>∃ p xs i v,x=.ref p∧y=.int i∧SqL K H p xs∧atI xs i=some v∧Q v H
def rIxT (K:PySem.W.Frag):R2:=fun x y H Q=>∃ p xs i v,x=.ref p∧y=.int i∧SqT K H p xs∧atI xs i=some v∧Q v H
theorem qar:IxR X (rIxL X.K):=by
 intro value slice pins s σ H x y v u Q I rx ry h hs
 obtain ⟨p,xs,i,z,rfl,rfl,hq,he,q⟩:=h
 cases rx
 obtain ⟨t,rfl⟩:=ry
 obtain ⟨its,r,pl,hz⟩:=I.list hq
 obtain ⟨j,h1,h2,h3,h4,h5⟩:=ygf he
 obtain ⟨w,ew,rw'⟩:=r.get h2
 have hl:=r.length
 have hn:=yfk
 have fin:EP X pins σ Q w s:=⟨z,H,I,rw',q⟩
 by_cases h0:0≤i
 ·have hj:i.toNat=j:=by
   rw[seqIndex_of h0 h5] at h1
   exact Option.some.inj h1
  exact item_listR pl.isList h0 (by omega) (by rw[hj];simpa using ew) fin hs
 ·have hj:(i+(its.toArray.size:Int)).toNat=j:=by
   rw[seqIndex_neg (by omega) h4] at h1
   rw[List.size_toArray,← hl]
   exact Option.some.inj h1
  exact subscriptTail_builtinR (x:=w) pl.isList.typeIs slot_list_getitem.lookup
   (wpAny_getItem_list_neg (Q:=fun r s'=>r=w∧EP X pins σ Q r s') pl.isList (by omega) (by rw[List.size_toArray]<;>omega) (by omega) (by rw[hj];simpa using ew) ⟨rfl,fin⟩) hs
theorem qak:IxR X (rIxT X.K):=by
 intro value slice pins s σ H x y v u Q I rx ry h hs
 obtain ⟨p,xs,i,z,rfl,rfl,hq,he,q⟩:=h
 cases rx
 obtain ⟨t,rfl⟩:=ry
 obtain ⟨its,r,pl,hz⟩:=I.tuple hq
 obtain ⟨j,h1,h2,h3,h4,h5⟩:=ygf he
 obtain ⟨w,ew,rw'⟩:=r.get h2
 have hl:=r.length
 have hn:=yfk
 have fin:EP X pins σ Q w s:=⟨z,H,I,rw',q⟩
 exact subscriptTail_builtinR (x:=w) pl.typeIs slot_tuple_getitem.lookup
  (getItem_tuple (j:=j) (Q:=fun r s'=>r=w∧EP X pins σ Q r s') pl (by omega) (by omega) (by rw[List.size_toArray,← hl];exact h1) (by simpa using ew) ⟨rfl,fin⟩) hs
theorem yd5 (lo hi:Option Int) (n:Nat):(sliceBounds lo hi none n).1=((HT.sIx n 0 lo:Nat):Int)∧(sliceBounds lo hi none n).2.1=((HT.sIx n n hi:Nat):Int)∧(sliceBounds lo hi none n).2.2=1:=by
 refine ⟨?_,?_,rfl⟩
 ·cases lo with
  | none=>simp[sliceBounds,HT.sIx]
  | some i=>
   simp only[sliceBounds,HT.sIx,Option.getD_none,show (1:Int)>0 by decide,if_true]
   by_cases h:i<0
   ·simp only[h,if_true]<;>omega
   ·simp only[h,if_false]<;>omega
 ·cases hi with
  | none=>simp[sliceBounds,HT.sIx]
  | some i=>
   simp only[sliceBounds,HT.sIx,Option.getD_none,show (1:Int)>0 by decide,if_true]
   by_cases h:i<0
   ·simp only[h,if_true]<;>omega
   ·simp only[h,if_false]<;>omega
theorem ydr (its:List Value) (lo hi:Option Int):slicePick its.toArray lo hi none=((its.drop (HT.sIx its.length 0 lo)).take (HT.sIx its.length its.length hi-HT.sIx its.length 0 lo)).toArray:=by
 obtain ⟨h1,h2,h3⟩:=yd5 lo hi its.toArray.size
 unfold slicePick
 rw[h1,h2,h3]
 simp only[sliceRange_one,pick_run,List.size_toArray]<;>rfl
def rSlL (K:PySem.W.Frag):V→Option Int→Option Int→Hp→VK→Prop:=fun x lo hi H Q=>∃ a xs,x=.ref a∧SqL K H a xs∧∀ p,H p=none→Q (.ref p) (upd H p (.lst (cutV xs lo hi)))
theorem qb5:SlR X (rSlL X.K):=by
 intro pins s σ H x v vl vu lo hi sl Q I rx hs pl pu h
 obtain ⟨a,xs,rfl,hx,q⟩:=h
 cases rx
 obtain ⟨its,r,ht,hz⟩:=I.list hx
 have hlen:=r.length
 refine ⟨"list",_,slot_list_getitem.lookup,ht.isList.typeIs,?_⟩
 refine wpAny_getItem_list_slice ht.isList hs pl pu .none (by simp) ?_ (by rw[List.size_toArray]<;>omega)
 rw[ydr,← hlen]
 refine ⟨.ref s.heap.objs.size,_,I.laid (t':=s.toks) (o:=.lst (cutV xs lo hi)) (fun b ob q=>Heap.get?_push_of_some _ q) (Nat.le_refl _) ?_,rfl,q _ (I.hok.fresh (Nat.le_refl _))⟩
 exact ⟨Nat.le_trans (qc7 xs lo hi) hz,_,0,(r.drop (HT.sIx xs.length 0 lo)).take (HT.sIx xs.length xs.length hi-HT.sIx xs.length 0 lo),Heap.get?_push_size _ rfl⟩
def qdt:V→Bool
 | .non=>true
 | .bl _=>true
 | .int _=>true
 | .str _=>true
 | _=>false
def eqV:V→V→Bool
 | .non,.non=>true
 | .bl a,.bl b=>a == b
 | .bl a,.int b=>(if a then 1 else 0) == b
 | .int a,.bl b=>a == (if b then 1 else 0)
 | .int a,.int b=>a == b
 | .str a,.str b=>a == b
 | _,_=>false
theorem eqAt_V {A:Around}{s:Shared}{y x:V}{u v:Value} (ry:RelV y u) (rx:RelV x v) (fy:qdt y=true) (fx:qdt x=true):SeqAt.EqAt A s u v (eqV y x):=by
 cases y with
 | non=>
  cases ry
  cases x with
  | non=>cases rx;exact SeqAt.EqAt.same _
  | bl b=>cases rx;exact SeqAt.EqAt.none_bool b
  | int b=>obtain ⟨t,rfl⟩:=rx;exact SeqAt.EqAt.none_int b t
  | str b=>obtain ⟨t,rfl⟩:=rx;exact SeqAt.EqAt.none_str b t
  | _=>exact absurd (show false=true from fx) Bool.false_ne_true
 | bl a=>
  cases ry
  cases x with
  | non=>cases rx;exact SeqAt.EqAt.bool_none a
  | bl b=>cases rx;exact SeqAt.EqAt.bool_bool a b
  | int b=>obtain ⟨t,rfl⟩:=rx;exact SeqAt.EqAt.bool_int a b t
  | str b=>obtain ⟨t,rfl⟩:=rx;exact SeqAt.EqAt.bool_str a b t
  | _=>exact absurd (show false=true from fx) Bool.false_ne_true
 | int a=>
  obtain ⟨t',rfl⟩:=ry
  cases x with
  | non=>cases rx;exact SeqAt.EqAt.int_none a t'
  | bl b=>cases rx;exact SeqAt.EqAt.int_bool a t' b
  | int b=>obtain ⟨t,rfl⟩:=rx;exact SeqAt.EqAt.int_int a t' b t
  | str b=>obtain ⟨t,rfl⟩:=rx;exact SeqAt.EqAt.int_str a t' b t
  | _=>exact absurd (show false=true from fx) Bool.false_ne_true
 | str a=>
  obtain ⟨t',rfl⟩:=ry
  cases x with
  | non=>cases rx;exact SeqAt.EqAt.str_none a t'
  | bl b=>cases rx;exact SeqAt.EqAt.str_bool a t' b
  | int b=>obtain ⟨t,rfl⟩:=rx;exact SeqAt.EqAt.str_int a t' b t
  | str b=>obtain ⟨t,rfl⟩:=rx;exact SeqAt.EqAt.str_str a t' b t
  | _=>exact absurd (show false=true from fx) Bool.false_ne_true
 | _=>exact absurd (show false=true from fy) Bool.false_ne_true
def eqU (x:V) (u:Value):Bool:=match u with
 | .none=>eqV .non x
 | .bool b=>eqV (.bl b) x
 | .int i _=>eqV (.int i) x
 | .str z _=>eqV (.str z) x
 | _=>false
theorem eqU_of {x y:V}{u:Value} (r:RelV y u) (f:qdt y=true):eqU x u=eqV y x:=by
 cases y with
 | non=>cases r;rfl
 | bl b=>cases r;rfl
 | int i=>obtain ⟨t,rfl⟩:=r;rfl
 | str z=>obtain ⟨t,rfl⟩:=r;rfl
 | _=>exact absurd (show false=true from f) Bool.false_ne_true
theorem ydh {x:V}:∀ {xs:List V}{us:List Value},Vals xs us→xs.all qdt=true→us.any (eqU x)=xs.any fun y=>eqV y x
 | _,_,.nil,_=>rfl
 | y::xs,u::us,.cons r t,f=>by
  rw[List.all_cons,Bool.and_eq_true] at f
  rw[List.any_cons,List.any_cons,eqU_of r f.1,ydh t f.2]
theorem yck {A:Around}{s:Shared}{x:V}{v:Value} (rx:RelV x v) (fx:qdt x=true):∀ {xs:List V}{us:List Value},Vals xs us→xs.all qdt=true→∀ u∈us,SeqAt.EqAt A s u v (eqU x u)
 | _,_,.nil,_=>fun u hu=>by cases hu
 | y::xs,u::us,.cons r t,f=>fun u' hu=>by
  rw[List.all_cons,Bool.and_eq_true] at f
  rcases List.mem_cons.mp hu with rfl|hu
  ·rw[eqU_of r f.1];exact eqAt_V r rx f.1 fx
  ·exact yck rx fx t f.2 u' hu
def inV (x:V) (xs:List V):Bool:=xs.any fun y=>eqV y x
def rIn (K:PySem.W.Frag) (neg:Bool):R2:=fun x y H Q=>∃ p xs,y=.ref p∧(SqL K H p xs∨SqT K H p xs)∧qdt x=true∧xs.all qdt=true∧Q (.bl (if neg then !inV x xs else inV x xs)) H
theorem yf1:OpR X (compareOp .In) (rIn X.K false):=by
 intro pins s σ H x y v u Q I rx ry h
 obtain ⟨p,xs,rfl,hq,fx,fs,q⟩:=h
 cases ry
 rcases hq with hq|hq
 ·obtain ⟨its,r,pl,hz⟩:=I.list hq
  refine SeqAt.in_listAt (eqU x) pl.isList (fun w hw=>yck rx fx r fs w (by simpa using hw)) ⟨.bl _,H,I,rfl,?_⟩
  rw[show its.toArray.any (eqU x)=its.any (eqU x) by simp,ydh r fs]
  exact q
 ·obtain ⟨its,r,pl,hz⟩:=I.tuple hq
  refine SeqAt.in_tupleAt (eqU x) pl (fun w hw=>yck rx fx r fs w (by simpa using hw)) ⟨.bl _,H,I,rfl,?_⟩
  rw[show its.toArray.any (eqU x)=its.any (eqU x) by simp,ydh r fs]
  exact q
theorem qb7:OpR X (compareOp .NotIn) (rIn X.K true):=by
 intro pins s σ H x y v u Q I rx ry h
 obtain ⟨p,xs,rfl,hq,fx,fs,q⟩:=h
 cases ry
 rcases hq with hq|hq
 ·obtain ⟨its,r,pl,hz⟩:=I.list hq
  refine SeqAt.notIn_listAt (eqU x) pl.isList (fun w hw=>yck rx fx r fs w (by simpa using hw)) ⟨.bl _,H,I,rfl,?_⟩
  rw[show its.toArray.any (eqU x)=its.any (eqU x) by simp,ydh r fs]
  exact q
 ·obtain ⟨its,r,pl,hz⟩:=I.tuple hq
  refine SeqAt.notIn_tupleAt (eqU x) pl (fun w hw=>yck rx fx r fs w (by simpa using hw)) ⟨.bl _,H,I,rfl,?_⟩
  rw[show its.toArray.any (eqU x)=its.any (eqU x) by simp,ydh r fs]
  exact q
theorem yaj:yb5 X (.builtin "len") (fun xs H Q=>∃ p ys,xs=[.ref p]∧(SqL X.K H p ys∨SqT X.K H p ys)∧Q (.int ys.length) H):=by
 intro pins s σ H xs us Q I r h
 obtain ⟨p,ys,rfl,hq,q⟩:=h
 obtain ⟨u,rfl,rx⟩:=qfg r
 cases rx
 have hn:=yfk
 rcases hq with hq|hq
 ·obtain ⟨its,r',pl,hz⟩:=I.list hq
  have hlen:=r'.length
  exact Calls.call_len_list pl.isList (by simp only[List.size_toArray]<;>omega) ⟨.int ys.length,H,I.tok _,⟨s.toks+1,by rw[List.size_toArray,hlen]⟩,q⟩
 ·obtain ⟨its,r',pl,hz⟩:=I.tuple hq
  have hlen:=r'.length
  exact len_tuple pl (by simp only[List.size_toArray]<;>omega) ⟨.int ys.length,H,I.tok _,⟨s.toks+1,by rw[List.size_toArray,hlen]⟩,q⟩
theorem qa4:yb5 X (.type "list") (fun xs H Q=>∃ p ys,xs=[.ref p]∧(SqL X.K H p ys∨SqT X.K H p ys)∧∀ l,H l=none→Q (.ref l) (upd H l (.lst ys))):=by
 intro pins s σ H xs us Q I r h
 obtain ⟨p,ys,rfl,hq,q⟩:=h
 obtain ⟨u,rfl,rx⟩:=qfg r
 cases rx
 have fin:∀ (its:List Value),Vals ys its→ys.length≤sizeLine→∀ (h':Heap) (c':Nat),(∀ b o',s.heap.get? b=some o'→h'.get? b=some o')→
   h'.get? s.heap.objs.size=some { cls:=.type "list",dict:=none,data:=.seq its.toArray c',slots:=#[] }→EP X pins σ Q (.ref s.heap.objs.size) { s with heap:=h' }:=fun its r' hz h' c' kp e=>
  ⟨.ref s.heap.objs.size,_,I.laid (t':=s.toks) kp (Nat.le_refl _) (show ya2 X.prog X.w _ h' _ (.lst ys) from ⟨hz,its,c',r',e⟩),rfl,q _ (I.hok.fresh (Nat.le_refl _))⟩
 rcases hq with hq|hq
 ·obtain ⟨its,r',pl,hz⟩:=I.list hq
  have hlen:=r'.length
  obtain ⟨o,ho,hc,n,hd⟩:=pl.isList
  exact call_list_seq p (.inl rfl) ho hc hd (fun h' c' kp e=>fin its r' hz h' c' kp e) (by simp only[List.size_toArray]<;>omega)
 ·obtain ⟨its,r',pl,hz⟩:=I.tuple hq
  have hlen:=r'.length
  obtain ⟨o,ho,hc,n,hd⟩:=pl
  exact call_list_seq p (.inr rfl) ho hc hd (fun h' c' kp e=>fin its r' hz h' c' kp e) (by simp only[List.size_toArray]<;>omega)
theorem ydy:yb5 X (.type "tuple") (fun xs H Q=>∃ p ys,xs=[.ref p]∧((SqL X.K H p ys∧∀ l,H l=none→Q (.ref l) (upd H l (.tup ys)))∨(SqT X.K H p ys∧Q (.ref p) H))):=by
 intro pins s σ H xs us Q I r h
 obtain ⟨p,ys,rfl,h⟩:=h
 obtain ⟨u,rfl,rx⟩:=qfg r
 cases rx
 rcases h with ⟨hq,q⟩|⟨hq,q⟩
 ·obtain ⟨its,r',pl,hz⟩:=I.list hq
  have hlen:=r'.length
  refine call_tuple_list pl.isList (fun h' kp=>?_) (by simp only[List.size_toArray]<;>omega)
  have I1:Inv X pins σ H { s with heap:=h' }:=I.kept (t':=s.toks) kp
  have I2:Inv X pins σ (upd H h'.objs.size (.tup ys)) { s with heap:=h'.push { cls:=.type "tuple",data:=.seq its.toArray } }:=
   I1.laid (t':=s.toks) (fun b o e=>Heap.get?_push_of_some _ e) (Nat.le_refl _) (show ya2 X.prog X.w _ _ _ (.tup ys) from ⟨hz,its,r',IsTup.new _ _⟩)
  exact ⟨.ref h'.objs.size,_,I2,rfl,q _ (I1.hok.fresh (Nat.le_refl _))⟩
 ·obtain ⟨its,r',pl,hz⟩:=I.tuple hq
  exact call_tuple_same pl ⟨.ref p,H,I,rfl,q⟩
def tyV (K:PySem.W.Frag) (T:String) (x:V) (H:Hp):Prop:=match x with
 | .str _=>T="str"
 | .int _=>T="int"
 | .ref p=>(T="list"∧∃ xs,SqL K H p xs)∨(T="tuple"∧∃ o,K.lookup p=some o∧o.cls=.type "tuple"∧o.dict=none)∨
   (T="dict"∧((∃ kvs,H p=some (.dK kvs))∨∃ kvs,H p=some (.dT kvs)))∨(T="set"∧∃ S n,H p=some (.set S n))
 | _=>False
theorem tyV_is {pins:List (Addr×Obj)}{σ:St}{H:Hp}{s:Shared}{T:String}{x:V}{v:Value} (I:Inv X pins σ H s) (r:RelV x v) (ty:tyV X.K T x H) :
  s.TypeIs v T∧∀ a,v=.ref a→∃ ob,s.heap.get? a=some ob∧ob.dict=none:=by
 cases x with
 | str z=>
  obtain ⟨t,rfl⟩:=r
  cases (show T="str" from ty)
  exact ⟨typeIs_str s z t,fun _ e=>nomatch e⟩
 | int i=>
  obtain ⟨t,rfl⟩:=r
  cases (show T="int" from ty)
  exact ⟨typeIs_int s i t,fun _ e=>nomatch e⟩
 | ref p=>
  cases r
  rcases ty with ⟨rfl,xs,hq⟩|⟨rfl,o,hk,hc,hd⟩|⟨rfl,hk⟩|⟨rfl,S,n,hk⟩
  ·obtain ⟨its,_,pl,_⟩:=I.list hq
   refine ⟨pl.isList.typeIs,fun a e=>?_⟩
   cases e
   obtain ⟨o,n,e,c,hd,_⟩:=pl
   exact ⟨o,e,hd⟩
  ·refine ⟨⟨o,I.kIn p o hk,hc⟩,fun a e=>?_⟩
   cases e
   exact ⟨o,I.kIn _ o hk,hd⟩
  ·have z:∃ o,s.heap.get? p=some o∧o.ExactDict:=by
    rcases hk with ⟨kvs,hk⟩|⟨kvs,hk⟩
    ·obtain ⟨_,_,_,_,o,_,_,e,ex,_⟩:=I.hok p _ hk
     exact ⟨o,e,ex⟩
    ·obtain ⟨_,_,_,_,o,_,_,e,ex,_⟩:=I.hok p _ hk
     exact ⟨o,e,ex⟩
   obtain ⟨o,e,ex⟩:=z
   refine ⟨⟨o,e,ex.1⟩,fun a e2=>?_⟩
   cases e2
   exact ⟨o,e,ex.2.1⟩
  ·obtain ⟨o,_,_,_,e,ex,_⟩:=I.hok p _ hk
   refine ⟨⟨o,e,ex.1⟩,fun a e2=>?_⟩
   cases e2
   exact ⟨o,e,ex.2.1⟩
 | _=>exact False.elim ty
def tBM (K:PySem.W.Frag) (T:String) (r:V→List V→Hp→VK→Prop) (to:TE) (t:TA):TE:=fun σ H Q=>to σ H fun x H1=>tyV K T x H1∧t σ H1 fun xs H2=>r x xs H2 Q
variable {o e:Expr}{es:List Expr}{to:TE}{t:TA}{name:Str}{apos cpos:Pos}{T id:String}{r:V→List V→Hp→VK→Prop}
theorem pe_bm (pa:PlainAttrs T) (slot:Slot T name id) (hty:typeOf (.builtin id)=pure (.type "method_descriptor")) (hm:MtR X id r) (ho:PE X o to) (ha:PA X (e::es) t)
  (hbase:attributeBase o name X.env (eval o X.env)=eval o X.env:=by rfl)
  (hfew:((backTo cpos (starEach (e::es) X.env)).all (fun x=>!x.1)&&(backToKw cpos (keywordEach [] X.env)).all (fun x=>x.1.isSome)
   && decide ((e::es).length+([]:List Keyword).length+(if ([]:List Keyword).isEmpty then 0 else 1)<30))=true:=by rfl)
  (hline:(apos.endLine == cpos.line)=true:=by rfl) (hs:starEach (e::es) X.env=(false,eval e X.env)::starEach es X.env:=by rfl) (hplain:(backTo cpos (starEach es X.env)).any (·.1)=false:=by rfl) :
  PE X (.Call (.Attribute o name apos) (e::es) [] cpos) (tBM X.K T r to t):=by
 intro pins s σ H Q I h
 refine wpAny_Call_method_late hbase hfew hline rfl (thn (ho pins s σ H _ I h) fun v s1 ⟨x,H1,I1,r1,ty,q1⟩=>?_)
 obtain ⟨h1,h2⟩:=tyV_is I1 r1 ty
 refine ⟨T,id,pa,slot,hty,h1,h2,?_⟩
 have hA:=ha cpos pins s1 σ H1 _ I1 q1
 rw[hs] at hA ⊢
 refine Calls.callWith_builtin (by show (false||(backTo cpos (starEach es X.env)).any (·.1))=false;rw[hplain]<;>rfl) (Calls.evalArgs_plain ?_)
 exact thn hA fun us s2 ⟨vs,H2,I2,r2,q2⟩=>hm pins s2 σ H2 x vs v us Q I2 r1 r2 q2
/- xs.append(e),list.index on a module's tuple .. are MtR facts of 06m -/
end
def MtM (X:Cx) (id:String) (r:V→List V→Hp→VK→Prop):Prop:=
 ∀ (pins:List (Addr×Obj)) (s:Shared) (σ:St) (H:Hp) (x:V) (xs:List V) (v:Value) (us:List Value) (Q:VK),Inv X pins σ H s→RelV x v→Vals xs us→r x xs H Q→
  wpAny (model X.prog X.w) X.A (call (.builtin id) (v::us)) (EP X pins σ Q) X.xe s
theorem Vals.one:∀ {x:V}{us:List Value},Vals [x] us→∃ u,us=[u]∧RelV x u
 | _,_,.cons r .nil=>⟨_,rfl,r⟩
theorem Vals.rep {xs:List V}{us:List Value} (h:Vals xs us):∀ k:Nat,Vals (List.replicate k xs).flatten (List.replicate k us).flatten
 | 0=>.nil
 | k+1=>by
  rw[List.replicate_succ,List.replicate_succ,List.flatten_cons,List.flatten_cons]
  exact Vals.append h (Vals.rep h k)
theorem yd8 (its:List Value):∀ (k:Nat) (acc:List Value),
  List.foldl (fun x1 x2=>x1++x2) acc.toArray (List.replicate k its.toArray)=(acc++(List.replicate k its).flatten).toArray
 | 0,acc=>by simp
 | k+1,acc=>by
  have e:acc.toArray++its.toArray=(acc++its).toArray:=by simp
  have e2:(acc++its)++(List.replicate k its).flatten=acc++(List.replicate (k+1) its).flatten:=by
   rw[List.replicate_succ,List.flatten_cons,List.append_assoc]
  rw[← e2,← yd8 its k (acc++its),← e,List.replicate_succ,List.foldl_cons]
section
variable {X:Cx}{pins:List (Addr×Obj)}{σ:St}{H:Hp}{s:Shared}{l b:Addr}{xs ys zs:List V}
theorem Inv.lset {its its':List Value}{n:Nat}{f:Array Value→Array Value}{t':Nat} (I:Inv X pins σ H s) (hH:H l=some (.lst xs))
  (e:s.heap.get? l=some { cls:=.type "list",data:=.seq its.toArray n }) (hf:f its.toArray=its'.toArray) (hv:Vals ys its') (hz:ys.length≤sizeLine) :
  Inv X pins σ (upd H l (.lst ys)) { s with heap:=s.heap.update l (Obj.mapSeq f),toks:=t' }:=by
 have q:=PySem.IsL.update e f
 rw[hf] at q
 refine I.write (x:=l) (e:=l) (by rw[hH];exact trivial) (.inl rfl) (fun b' u hb hu=>(Heap.get?_update_other s.heap (Obj.mapSeq f) (Ne.symm hb)).trans hu) ⟨_,q⟩ ?_
 exact ⟨hz,its',_,hv,q⟩
theorem Inv.lnew {its:List Value}{t':Nat} (I:Inv X pins σ H s) (hv:Vals ys its) (hz:ys.length≤sizeLine) :
  Inv X pins σ (upd H s.heap.objs.size (.lst ys)) { s with heap:=s.heap.push { cls:=.type "list",data:=.seq its.toArray },toks:=t' }:=
 I.laid (fun _ _ q=>Heap.get?_push_of_some _ q) (Nat.le_refl _) ⟨hz,its,0,hv,Heap.get?_push_size _ rfl⟩
theorem Inv.fresh (I:Inv X pins σ H s):H s.heap.objs.size=none:=I.hok.fresh (Nat.le_refl _)
theorem Inv.lstM (I:Inv X pins σ H s) (hH:H l=some (.lst xs)):xs.length≤sizeLine∧∃ (its:List Value) (n:Nat),Vals xs its∧xs.length=its.length∧s.heap.get? l=some { cls:=.type "list",data:=.seq its.toArray n }:=by
 obtain ⟨z,its,n,r,e⟩:=I.hok l _ hH
 exact ⟨z,its,n,r,r.length,e⟩
theorem notLongL {n:Nat} (h:n≤sizeLine):Builtin.List.listTooLong n=false:=by
 unfold Builtin.List.listTooLong
 exact decide_eq_false (by omega)
end
section
variable {X:Cx}
def rAppend:V→List V→Hp→VK→Prop:=fun x vs H Q=>∃ l xs y,x=.ref l∧vs=[y]∧H l=some (.lst xs)∧xs.length<sizeLine∧Q .non (upd H l (.lst (xs++[y])))
theorem ybq:MtM X "list.append" rAppend:=by
 intro pins s σ H x vs v us Q I rx rv h
 obtain ⟨l,xs,y,rfl,rfl,hH,hz,q⟩:=h
 cases rx
 obtain ⟨u,rfl,ru⟩:=rv.one
 obtain ⟨z,its,n,r,hl,e⟩:=I.lstM hH
 refine call_meets F.slot_list_append ⟨_,e,rfl⟩ F.entry_list_append (F.args_list_append_2 _ _) (PySem.list_append l its.toArray n u (by rw[List.size_toArray];omega)) ⟨e,?_⟩
 refine ⟨.non,_,I.lset (its':=its++[u]) hH e (by simp) (r.append (.cons ru .nil)) ?_,rfl,q⟩
 rw[List.length_append,List.length_singleton]
 omega
def rCat:R2:=fun x y H Q=>∃ l b xs zs,x=.ref l∧y=.ref b∧H l=some (.lst xs)∧H b=some (.lst zs)∧xs.length+zs.length≤sizeLine∧∀ p,H p=none→Q (.ref p) (upd H p (.lst (xs++zs)))
theorem qb0:OpR X (binaryOp .Add) rCat:=by
 intro pins s σ H x y v u Q I rx ry h
 obtain ⟨l,b,xs,zs,rfl,rfl,hH,hB,hz,q⟩:=h
 cases rx
 cases ry
 obtain ⟨z,its,n,r,hl,e⟩:=I.lstM hH
 obtain ⟨z2,its2,n2,r2,hl2,e2⟩:=I.lstM hB
 refine PySem.P.add_list e e2 ?_ (by rw[List.size_toArray,List.size_toArray];omega)
 have ea:its.toArray++its2.toArray=(its++its2).toArray:=by simp
 rw[ea]
 exact ⟨.ref _,_,I.lnew (t':=s.toks) (r.append r2) (by rw[List.length_append];omega),rfl,q _ I.fresh⟩
def rRep:R2:=fun x y H Q=>∃ l k xs,x=.ref l∧y=.int k∧H l=some (.lst xs)∧-(2 ^ 63)≤k∧k<2 ^ 63∧xs.length*k.toNat≤sizeLine∧
 ∀ p,H p=none→Q (.ref p) (upd H p (.lst (List.replicate k.toNat xs).flatten))
theorem len_rep {α:Type} (xs:List α) (k:Nat):(List.replicate k xs).flatten.length=k*xs.length:=by
 induction k with
 | zero=>simp
 | succ k ih=>rw[List.replicate_succ,List.flatten_cons,List.length_append,ih,Nat.succ_mul,Nat.add_comm]
theorem qf0:OpR X (binaryOp .Mult) rRep:=by
 intro pins s σ H x y v u Q I rx ry h
 obtain ⟨l,k,xs,rfl,rfl,hH,h1,h2,hz,q⟩:=h
 cases rx
 obtain ⟨t,rfl⟩:=ry
 obtain ⟨z,its,n,r,hl,e⟩:=I.lstM hH
 have hlen:its.toArray.size*k.toNat≤sizeLine:=by rw[List.size_toArray,← hl];exact hz
 have hcap:¬ its.toArray.size*k.toNat>(2 ^ 63-1) / 8:=by
  have:(sizeLine:Nat)≤(2 ^ 63-1) / 8:=by decide
  omega
 have hfit:¬ (!Builtin.List.listFitsIndex k)=true:=by
  rw[fitsIndex_both h1 h2]
  exact Bool.false_ne_true
 have hlong:¬ Builtin.List.listTooLong (its.toArray.size*k.toNat)=true:=by
  rw[notLongL hlen]
  exact Bool.false_ne_true
 have hnew:List.foldl (fun x1 x2=>x1++x2) #[] (List.replicate (if its.toArray.isEmpty=true then 0 else k.toNat) its.toArray)=(List.replicate k.toNat its).flatten.toArray:=by
  have f0:∀ m:Nat,List.foldl (fun x1 x2=>x1++x2) #[] (List.replicate m its.toArray)=(List.replicate m its).flatten.toArray:=fun m=>by
   have:=yd8 its m []
   rw[List.nil_append] at this
   exact this
  rw[f0]
  cases its with
  | nil=>simp
  | cons a r'=>rw[if_neg (by simp)]
 refine wpAny_binaryOp_repeat_ref (T:="list") (U:="int") (by decide) ⟨_,e,rfl⟩ (fun s'=>typeIs_int s' k t) noFill_list_mul F.fills_int_mul F.slot_int_rmul repeat_list F.slot_int_index.lookup
  (call_meets F.slot_int_rmul (typeIs_int s k t) F.entry_int_rmul (F.args_int_rmul_2 _ _) (int___rmul___int_list k t l its.toArray n)
   ⟨e,rfl,⟨_,e,rfl⟩,call_meets F.slot_list_mul ⟨_,e,rfl⟩ F.entry_list_mul (F.args_list_mul_2 _ _) (AutoListH.list___mul___list_int_3 l its.toArray n k t hfit hcap hlong) ⟨e,?_⟩⟩)
 rw[hnew]
 exact ⟨.ref _,_,I.lnew (t':=s.toks) (r.rep k.toNat) (by rw[len_rep,Nat.mul_comm];exact hz),rfl,q _ I.fresh⟩
end
end L2
namespace Att
open PySem PySem.W PySem.Calls PyProof.Rows
theorem qda {P:Params}{h:Heap}:∀ (ns:List Int) (vs:List Value),WellAll P h vs (ns.map WData.int)→IntsAre vs ns:=by
 intro ns
 induction ns with
 | nil=>
  intro vs w
  rw[List.map_nil] at w
  cases w
  exact .nil
 | cons n ns ih=>
  intro vs w
  rw[List.map_cons] at w
  cases w with
  | cons a b=>
   cases a
   exact .cons _ _ (ih _ b)
theorem qfr {l:OpenLaw}{n:Nat} (hn:l.most=some n) {P:Params}{h:Heap}{args:List WData}{vals:List Value}
  (hpre:l.row.toRowW.claim.pre args=true) (hwl:WellAll P h vals args) :
  ∃ a vs ns,vals=[Value.ref a]∧args=[WData.list (ns.map WData.int)]∧h.get? a=some { cls:=.type "list",data:=.seq vs.toArray }∧IntsAre vs ns∧ns.length≤n:=by
 have hsh:WShape.hasAll [] args [.list .int]=true:=(pre_splitW hpre).1
 have hc:l.pre.holds [] { args:=args }=true:=(pre_splitW hpre).2
 obtain ⟨d,r,rfl,h1,h2⟩:=hasAllW_cons hsh
 obtain rfl:=hasAllW_nil h2
 obtain ⟨xs,rfl,h3⟩:=hasW_list h1
 obtain ⟨ns,rfl⟩:=items_int h3
 have hlen:ns.length≤n:=by
  unfold OpenLaw.pre at hc
  have h4:(WTm.not (.lt (.lit (.int (n:Int))) (.len (.arg 0)))).holds [] { args:=[.list (ns.map .int)] }=true:=by
   have h4:=(holds_andW hc).1
   rw[hn] at h4
   exact h4
  have h5:=condW_of h4 (w_not (w_lt w_lit (w_len_list (w_arg rfl))))
  rw[List.length_map] at h5
  refine Nat.le_of_not_lt fun q=>?_
  have q':(n:Int)<((ns.length:Nat):Int):=by omega
  first
   | (rw[decide_eq_true q'] at h5;exact absurd h5 (by decide))
   | (simp at h5;omega)
 cases hwl with
 | cons w1 w2=>
  cases w2
  cases w1 with
  | list ho hall=>exact ⟨_,_,ns,rfl,rfl,ho,qda ns _ hall,hlen⟩
theorem yfx (l:OpenLaw) (args:List WData):l.row.toRowW.claim.post args (.bool true) args=true:=
 postW_of (r:=l.row.toRowW) (X:=(true == true))
  (show WShape.has [] (.bool true) .bool=true by first|rfl|decide|simp[WShape.has,WShape.arms,WShape.armsAll])
  (show (WTm.eq .res (.lit (.bool true))).value [] { args:=args,res:=some (.bool true),after:=args }=some (.bool (true == true)) from w_eq_bool (w_res rfl) w_lit) rfl
theorem attach_call {l:OpenLaw}{n:Nat}{q:Program}{loose:List Str}{XP:(Str→Option Value)→Heap→Prop}{YP:World→Heap→Prop}{d:DefRec}
  (hn:l.most=some n) (hdf:d.params.defaults=[])
  (call:∀ (w:World) (s₀ s₁:Shared) (mg mb:Str→Option Value) (fa:Addr) (o:Obj) (pm cd doc:Value) (a:Addr) (vs:List Value) (ns:List Int),
   Ground q loose [] XP w s₀ mg mb s₁.heap→YP w s₁.heap→
   s₁.heap.get? fa=some o→o.data=.func (docDef d.name d.params d.body d.scope pm cd doc)→s₁.heap.CodeRec cd d.name→mg d.name=some (.ref fa)→
   s₁.heap.get? a=some { cls:=.type "list",data:=.seq vs.toArray }→IntsAre vs ns→ns.length≤n→s₁.gens=#[]→
   codeAny (model l.prog w) callerA (.call (.ref fa) ⟨[.ref a],[]⟩) (fun r s'=>r=.ok (.ret (.bool true))∧OldK s₁.heap s'.heap∧s'.os=s₁.os∧AllBare s'.gens) s₁) :
  WalkO q loose XP YP l.row.toRowW d [] (fun f vs=>PySem.call f vs):=by
 intro w s₀ s₁ mg mb G Y fa o pm cd doc dV kV ho hd hcd hD hmg hg args vals as hpre hlay hrd hwl hlo
 obtain rfl:dV=.none:=Dflts.none hD hdf
 obtain rfl:kV=.none:=Dflts.noKw hD
 obtain ⟨a,vs,ns,rfl,rfl,hobj,hints,hlen⟩:=qfr hn hpre hwl
 refine enter_call (codeAny_mono (call w s₀ s₁ mg mb fa o pm cd doc a vs ns G Y ho (fd_plain hd) hcd hmg hobj hints hlen hg) fun r s' hq=>?_)
 obtain ⟨rfl,h2,h3,h4⟩:=hq
 exact ⟨.inl ⟨.bool true,.bool true,[],rfl,fun _=>rfl,.bool true,yfx l _,fun _=>⟨List.Pairwise.nil,fun _ hm=>(nomatch hm)⟩⟩,h2,h3,h4⟩
end Att
namespace L2
open PySem PySem.Spec PyProof.Rows
theorem qee:∀ {vs:List Value}{ns:List Int},IntsAre vs ns→Vals (ns.map V.int) vs
 | _,_,.nil=>.nil
 | _,_,.cons n t h=>.cons ⟨t,rfl⟩ (qee h)
def Only (H:Hp):Prop:=∀ b,H b=none∨∃ o xs,H b=some (.frz o (.lst xs))
theorem law_call {P:Program}{w:World}{K:PySem.W.Frag}{mg mb:Str→Option Value}{CX:CXT}{k:Nat}{fa a:Addr}{fd:FuncData}{x:Str}{sp:Sp}{s₁:Shared}{vs:List Value}{ns:List Int}
  (KX:K.In s₁.heap) (hns:s₁.heap.Ns mainGlobals mg) (hb:s₁.heap.Ns builtinsNs mb) (hbb:∀ x:Str,x≠"__name__"→mb x=bootBuiltins x) (hlim:s₁.heap.NoLimit) (hg:s₁.gens=#[])
  (ha:s₁.heap.get? a=some { cls:=.type "list",data:=.seq vs.toArray }) (hi:IntsAre vs ns) (hl:ns.length≤sizeLine) (hr:Room k callerA)
  (F:∀ base:Heap,K.In base→base.Ns mainGlobals mg→FnOk P w K mg base CX k fa fd [x] sp) (hbind:∀ (s:Shared) (u:Value),BindsTo s fd ⟨[u],[]⟩ [(x,u)])
  (hsp:∀ H:Hp,Only H→SqL K H a (ns.map V.int)→sp [.ref a] H (fun v _=>v=.bl true) fun _ _ _=>False)
  (hCX:∀ H e s',CX [] H s₁ (fun _ _ _=>False) e s'→False) :
  codeAny (model P w) callerA (.call (.ref fa) ⟨[.ref a],[]⟩) (fun r s'=>r=.ok (.ret (.bool true))∧OldK s₁.heap s'.heap∧s'.os=s₁.os∧AllBare s'.gens) s₁:=by
 have rv:=qee hi
 have lenV:=hi.length
 -- from an abstract heap in which nothing but the script may be tracked
 have core:∀ H:Hp,Only H→SqL K H a (ns.map V.int)→HOk P w H s₁.heap→(∀ b,H b≠none→b=a)→(H a≠none→K.lookup a=none)→
   codeAny (model P w) callerA (.call (.ref fa) ⟨[.ref a],[]⟩) (fun r s'=>r=.ok (.ret (.bool true))∧OldK s₁.heap s'.heap∧s'.os=s₁.os∧AllBare s'.gens) s₁:=by
  intro H hO hS hok hA hK
  have base_of:∀ {b:Addr}{o:Obj},s₁.heap.get? b=some o→H b=none→(hidT s₁.heap H).get? b=some o:=fun e n=>hidT_get e n
  have noA:∀ {b:Addr}{o:Obj}{es:Array DictEntry}{ep:Nat},s₁.heap.get? b=some o→o.data=.dict es ep→H b=none:=fun {b o es ep} e d=>by
   cases q:H b with
   | none=>rfl
   | some u=>
    have e':b=a:=hA b (by rw[q];simp)
    subst e'
    rw[ha] at e;cases e
    have d':Data.seq vs.toArray _=Data.dict es ep:=d
    cases d'
  have nsK:∀ {b:Addr}{m:Str→Option Value},s₁.heap.Ns b m→(hidT s₁.heap H).Ns b m:=fun {b m} ⟨o,es,ep,e,d,r⟩=>⟨o,es,ep,base_of e (noA e d),d,r⟩
  have hKb:K.In (hidT s₁.heap H):=fun b o e=>base_of (KX b o e) (by
   cases q:H b with
   | none=>rfl
   | some u=>
    have e':b=a:=hA b (by rw[q];simp)
    subst e'
    rw[hK (by rw[q];simp)] at e;cases e)
  have hM:Mod K mg (hidT s₁.heap H):=⟨hKb,nsK hns,⟨mb,nsK hb,hbb⟩,let ⟨mc,h1,h2⟩:=hlim;⟨mc,nsK h1,h2⟩⟩
  have e0:Env0 P w K mg (hidT s₁.heap H) callerA [] s₁ H:=⟨rfl,hM,fun b o e=>of_hidT e,Nat.le_of_eq (qgh _ _),trivial,fun b hb=>absurd (show b∈([]:List Addr) from hb) (by simp),hok,.of_eq hg⟩
  refine codeAny_mono ((F _ hKb (nsK hns)).run callerA [] s₁ H ⟨[.ref a],[]⟩ [.ref a] [.ref a] _ _ hr e0 (hbind s₁ (.ref a)) (.cons rfl .nil) (hsp H hO hS)) fun r s' h=>?_
  cases r with
  | error e=>exact (hCX H e s' h).elim
  | ok fl=>
   cases fl with
   | next=>exact False.elim h
   | brk=>exact False.elim h
   | cont=>exact False.elim h
   | ret u=>
    obtain ⟨v,H',os,bare,un,hok',r',q⟩:=h
    have q':v=.bl true:=q
    subst q'
    obtain rfl:u=Value.bool true:=r'
    refine ⟨rfl,OldK.of_keep fun b o e=>?_,os,bare⟩
    cases q:H b with
    | none=>exact un.keep b o e q (by intro z;exact absurd (show b∈([]:List Addr) from z) (by simp)) (by simp)
    | some u=>
     rcases hO b with z|⟨ob,xs,z⟩
     ·rw[q] at z;cases z
     ·have z2:=un.frzs b ob _ z
      obtain ⟨e1,_⟩:=hok b _ z
      obtain ⟨e2,_⟩:=hok' b _ z2
      rw[e] at e1;cases e1
      exact e2
 cases hk:K.lookup a with
 | some o=>
  -- the script is one of the module's own objects
  have e:=KX a o hk
  rw[ha] at e
  cases e
  refine core (fun _=>none) (fun _=>.inl rfl) (.inr ⟨_,vs.toArray,_,hk,rfl,rfl,rfl,by rw[List.size_toArray,lenV];exact hl,by simpa using rv⟩) (fun b u z=>by have z':(none:Option HO)=some u:=z;cases z') (fun b z=>absurd rfl z) fun z=>absurd rfl z
 | none=>
  refine core (fun b=>if b=a then some (.frz { cls:=.type "list",data:=.seq vs.toArray } (.lst (ns.map V.int))) else none) (fun b=>?_) (.inl (.inr ⟨{ cls:=.type "list",data:=.seq vs.toArray },if_pos rfl⟩)) (fun b u z=>?_) (fun b z=>?_) fun _=>hk
  ·by_cases hb:b=a
   ·exact .inr ⟨_,_,if_pos hb⟩
   ·exact .inl (if_neg hb)
  ·by_cases hb:b=a
   ·have z':=(if_pos hb).symm.trans z
    cases z'
    subst hb
    exact ⟨ha,by rw[List.length_map];exact hl,vs,_,rv,ha⟩
   ·have z':=(if_neg hb).symm.trans z
    cases z'
  ·by_cases hb:b=a
   ·exact hb
   ·exact absurd (if_neg hb) z
theorem walk_of {l:PySem.W.OpenLaw}{n k:Nat}{q:Program}{loose:List Str}{XP:(Str→Option Value)→Heap→Prop}{YP:World→Heap→Prop}{d:DefRec}{K:Params→PySem.W.Frag}{CX:World→CXT}{sp:World→Sp}{x:Str}
  (hn:l.most=some n) (hn2:n≤sizeLine) (hdf:d.params.defaults=[]) (hr:Room k callerA)
  (hY:∀ (w:World) (h:Heap),YP w h→(K w.params).In h)
  (F:∀ (w:World) (mg:Str→Option Value) (fa:Addr) (h:Heap),(K w.params).In h→h.Ns mainGlobals mg→mg d.name=some (.ref fa)→
   ∃ fd:FuncData,(∀ (s:Shared) (u:Value),BindsTo s fd ⟨[u],[]⟩ [(x,u)])∧
    ∀ base:Heap,(K w.params).In base→base.Ns mainGlobals mg→FnOk l.prog w (K w.params) mg base (CX w) k fa fd [x] (sp w))
  (hsp:∀ (w:World) (H:Hp) (a:Addr) (ns:List Int),ns.length≤n→Only H→SqL (K w.params) H a (ns.map V.int)→sp w [.ref a] H (fun v _=>v=.bl true) fun _ _ _=>False)
  (hCX:∀ (w:World) (H:Hp) (s:Shared) (e:Value) (s':Shared),CX w [] H s (fun _ _ _=>False) e s'→False) :
  PySem.W.WalkO q loose XP YP l.row.toRowW d [] (fun f vs=>PySem.call f vs):=by
 refine Att.attach_call hn hdf fun w s₀ s₁ mg mb fa o pm cd doc a vs ns G Y ho hd hcd hmg hobj hints hlen hg=>?_
 have KX:=hY w _ Y
 obtain ⟨fd,hb,hF⟩:=F w mg fa _ KX G.T.g hmg
 exact law_call KX G.T.g G.T.b G.T.builtins G.T.nolimit hg hobj hints (Nat.le_trans hlen hn2) hr hF hb (fun H hO hS=>hsp w H a ns hlen hO hS) fun H e s'=>hCX w H s₁ e s'
def ybn (s:Stmt):Arguments:=match s with
 | .FunctionDef _ a _ _ _ _ _ _ _ _=>a
 | _=>{ posonlyargs:=[],args:=[],vararg:=none,kwonlyargs:=[],kw_defaults:=[],kwarg:=none,defaults:=[] }
def ya5 (s:Stmt):List Stmt:=match s with
 | .FunctionDef _ _ b _ _ _ _ _ _ _=>b
 | _=>[]
def yae (s:Stmt):Scope:=match s with
 | .FunctionDef _ _ _ _ _ _ sc _ _ _=>sc
 | _=>{ kind:=.function,names:=[],isGenerator:=false,isCoroutine:=false }
abbrev CX0:CXT:=fun _ _ _ _ _ _=>False
abbrev E0:XK:=fun _ _ _=>False
theorem pass0 {X:Cx}:qgd CX0 X E0:=fun _ _ _ _ _ _ _ h=>h.elim
structure Fun (K:PySem.W.Frag) (x qual:Str) (st:Stmt) (f:Addr) (fd:FuncData):Prop where
 ex:∃ (oc:Value) (od:Option Addr) (kV doc pm:Value) (an:Option Addr) (cdv ct:Value) (osl:Array (Option Value)),
  fd=PySem.W.fnOf x qual (ybn st) (ya5 st) (yae st) .none kV doc pm an cdv ct∧K.lookup f=some ⟨oc,od,.func fd,osl⟩∧PySem.W.codeIn K cdv qual=true
 kp:PySem.W.keepIn K (.ref f)=true
section
variable {P:Program}{w:World}{K:PySem.W.Frag}{mg:Str→Option Value}{base:Heap}
theorem Fun.ok {x qual:Str}{st:Stmt}{f:Addr}{fd:FuncData}{N ps:List Str}{k:Nat}{sp:Sp} (F:Fun K x qual st f fd) (S:FnScope N ps (yae st)) (len:∀ vs H Q E,sp vs H Q E→vs.length=ps.length)
  (hbody:∀ (cdv:Value) (A:Around) (outer:List Env) (s:Shared) (H:Hp) (vs:List V) (Q:VK) (E:XK),Room k (A.deeper (envOfC qual (yae st) s.heap.objs.size f cdv))→sp vs H Q E→
   ∃ t,PSs (cxOf CX0 P w K mg base N qual (yae st) f cdv A outer s H E).nox (ya5 st) t∧t { nx:=fun _ H'=>Q .non H',rt:=Q } (yc5 N vs) H):FnOk P w K mg base CX0 (k+1) f fd ps sp:=by
 obtain ⟨oc,od,kV,doc,pm,an,cdv,ct,osl,rfl,lk,hcd⟩:=F.ex
 refine fn_of lk hcd S len fun A outer s H vs Q E hr hsp=>?_
 obtain ⟨t,h,q⟩:=hbody cdv A outer s H vs Q E hr hsp
 exact ⟨t,h.nox,q⟩
theorem Fun.binds {x qual:Str}{st:Stmt}{f:Addr}{fd:FuncData}{ps:List Str} (F:Fun K x qual st f fd)
  (h:∀ (kV doc pm:Value) (an:Option Addr) (cdv ct:Value) (us:List Value),us.length=ps.length→bindArgs (PySem.W.fnOf x qual (ybn st) (ya5 st) (yae st) .none kV doc pm an cdv ct) ⟨us,[]⟩=pure (ps.zip us)):qen K fd ps []:=by
 obtain ⟨oc,od,kV,doc,pm,an,cdv,ct,osl,rfl,lk,hcd⟩:=F.ex
 exact .all (h kV doc pm an cdv ct)
theorem fun_mk {x qual:Str}{st:Stmt}{f:Addr}{oc:Value}{od an:Option Addr}{osl:Array (Option Value)}{kV doc pm cdv ct:Value} (l:K.lookup f=some ⟨oc,od,.func (PySem.W.fnOf x qual (ybn st) (ya5 st) (yae st) .none kV doc pm an cdv ct),osl⟩)
  (c:PySem.W.codeIn K cdv qual=true) (k:PySem.W.keepIn K (.ref f)=true):Fun K x qual st f (PySem.W.fnOf x qual (ybn st) (ya5 st) (yae st) .none kV doc pm an cdv ct):=⟨⟨oc,od,kV,doc,pm,an,cdv,ct,osl,rfl,l,c⟩,k⟩
end
theorem hu_of {A:Around}{k:Nat} (hr:Room k A):A.units+1<cLine:=Nat.lt_of_le_of_lt (Nat.add_le_add_left (by decide:1≤64) _) hr.units
section
variable {X:Cx}
theorem pv (i:Nat) {x:Str}{pos:Pos} (hN:X.N[i]?=some x:=by rfl) (hv:Vis X.env.scope x:=by first|exact Or.inl rfl|exact Or.inr (Or.inl rfl)|exact Or.inr (Or.inr rfl)) (hd:(x == ("__debug__" : Str))=false:=by decide)
  (hcd:(x == ("__classdict__" : Str))=false:=by decide):PE X (.Name x pos) (tVar i):=pe_var hN hv hd hcd
end
theorem iteF {A B:Prop} (h:B):if false=true then A else B:=by
 rw[if_neg Bool.false_ne_true]
 exact h
theorem iteT {A B:Prop} (h:A):if true=true then A else B:=by
 rw[if_pos rfl]
 exact h
def Same (H H':Hp):Prop:=∀ b o,H b=some o→H' b=some o
theorem Same.refl (H:Hp):Same H H:=fun _ _ h=>h
theorem Same.trans {H H1 H2:Hp} (a:Same H H1) (b:Same H1 H2):Same H H2:=fun c o h=>b c o (a c o h)
theorem Same.free {H H':Hp} (e:Same H H') {l:Addr} (h:H' l=Option.none):H l=Option.none:=by
 cases q:H l with
 | none=>rfl
 | some o=>
  rw[e l o q] at h
  cases h
theorem Same.seq {K:PySem.W.Frag}{H H':Hp}{a:Addr}{xs:List V} (e:Same H H') (h:SqL K H a xs):SqL K H' a xs:=by
 rcases h with (h|⟨o,h⟩)|h
 ·exact .inl (.inl (e _ _ h))
 ·exact .inl (.inr ⟨o,e _ _ h⟩)
 ·exact .inr h
mutual
inductive At (H:Hp):V→PyData→Prop
 | non:At H .non .none
 | bl (b:Bool):At H (.bl b) (.bool b)
 | int (i:Int):At H (.int i) (.int i)
 | str (x:Str):At H (.str x) (.str x)
 | lst {a:Addr}{vs:List V}{ds:List PyData}:H a=some (.lst vs)→AtAll H vs ds→At H (.ref a) (.list ds)
 | tup {a:Addr}{vs:List V}{ds:List PyData}:H a=some (.tup vs)→AtAll H vs ds→At H (.ref a) (.tuple ds)
inductive AtAll (H:Hp):List V→List PyData→Prop
 | nil:AtAll H [] []
 | cons {v:V}{d:PyData}{vs:List V}{ds:List PyData}:At H v d→AtAll H vs ds→AtAll H (v::vs) (d::ds)
end
mutual
theorem At.same {H H':Hp} (s:Same H H'):∀ {v:V}{d:PyData},At H v d→At H' v d
 | _,_,.non=>.non
 | _,_,.bl b=>.bl b
 | _,_,.int i=>.int i
 | _,_,.str x=>.str x
 | _,_,.lst e t=>.lst (s _ _ e) (AtAll.same s t)
 | _,_,.tup e t=>.tup (s _ _ e) (AtAll.same s t)
theorem AtAll.same {H H':Hp} (s:Same H H'):∀ {vs:List V}{ds:List PyData},AtAll H vs ds→AtAll H' vs ds
 | _,_,.nil=>.nil
 | _,_,.cons a b=>.cons (At.same s a) (AtAll.same s b)
end
theorem AtAll.length {H:Hp}:∀ {vs:List V}{ds:List PyData},AtAll H vs ds→vs.length=ds.length
 | _,_,.nil=>rfl
 | _,_,.cons _ b=>congrArg (· + 1) b.length
theorem AtAll.get {H:Hp}:∀ {vs:List V}{ds:List PyData}{i:Nat}{v:V},AtAll H vs ds→vs[i]?=some v→∃ d,ds[i]?=some d∧At H v d
 | _,_,i,_,.nil,h=>by simp at h
 | _,_,0,_,.cons a _,h=>by simp at h;subst h;exact ⟨_,rfl,a⟩
 | _,_,i+1,v,.cons _ b,h=>by
  obtain ⟨d,h1,h2⟩:=AtAll.get (i:=i) (v:=v) b (by simpa using h)
  exact ⟨d,by simpa using h1,h2⟩
theorem AtAll.getD {H:Hp}:∀ {vs:List V}{ds:List PyData}{i:Nat}{d:PyData},AtAll H vs ds→ds[i]?=some d→∃ v,vs[i]?=some v∧At H v d
 | _,_,i,_,.nil,h=>by simp at h
 | _,_,0,_,.cons a _,h=>by simp at h;subst h;exact ⟨_,rfl,a⟩
 | _,_,i+1,v,.cons _ b,h=>by
  obtain ⟨d,h1,h2⟩:=AtAll.getD (i:=i) (d:=v) b (by simpa using h)
  exact ⟨d,by simpa using h1,h2⟩
theorem AtAll.append {H:Hp}:∀ {vs ws:List V}{ds es:List PyData},AtAll H vs ds→AtAll H ws es→AtAll H (vs++ws) (ds++es)
 | _,_,_,_,.nil,h=>h
 | _,_,_,_,.cons a b,h=>.cons a (b.append h)
theorem AtAll.take {H:Hp}:∀ {vs:List V}{ds:List PyData} (n:Nat),AtAll H vs ds→AtAll H (vs.take n) (ds.take n)
 | _,_,0,_=>.nil
 | _,_,_+1,.nil=>.nil
 | _,_,n+1,.cons a b=>.cons a (b.take n)
theorem AtAll.drop {H:Hp}:∀ {vs:List V}{ds:List PyData} (n:Nat),AtAll H vs ds→AtAll H (vs.drop n) (ds.drop n)
 | _,_,0,h=>h
 | _,_,_+1,.nil=>.nil
 | _,_,n+1,.cons _ b=>b.drop n
theorem AtAll.snoc {H:Hp}{vs:List V}{ds:List PyData}{v:V}{d:PyData} (h:AtAll H vs ds) (a:At H v d):AtAll H (vs++[v]) (ds++[d]):=h.append (.cons a .nil)
mutual
theorem At.reads {P:Program}{w:World}{H:Hp}{h:Heap} (ok:HOk P w H h):∀ {v:V}{d:PyData}{u:Value},At H v d→RelV v u→∃ as,Reads h u d as
 | _,_,_,.non,r=>by cases r;exact ⟨_,.none⟩
 | _,_,_,.bl b,r=>by cases r;exact ⟨_,.bool b⟩
 | _,_,_,.int i,r=>by obtain ⟨t,rfl⟩:=r;exact ⟨_,.int i t⟩
 | _,_,_,.str x,r=>by obtain ⟨t,rfl⟩:=r;exact ⟨_,.str x t⟩
 | _,_,_,.lst e t,r=>by
  cases r
  obtain ⟨z,its,n,rv,ho⟩:=ok _ _ e
  obtain ⟨as,q⟩:=AtAll.reads ok t rv
  exact ⟨_,.list ho rfl rfl (by simpa using q)⟩
 | _,_,_,.tup e t,r=>by
  cases r
  obtain ⟨z,its,rv,o,ho,hc,n,hd⟩:=ok _ _ e
  obtain ⟨as,q⟩:=AtAll.reads ok t rv
  exact ⟨_,.tuple ho hc hd (by simpa using q)⟩
theorem AtAll.reads {P:Program}{w:World}{H:Hp}{h:Heap} (ok:HOk P w H h):∀ {vs:List V}{ds:List PyData}{us:List Value},AtAll H vs ds→Vals vs us→∃ as,ReadsAll h us ds as
 | _,_,_,.nil,.nil=>⟨_,.nil⟩
 | _,_,_,.cons a b,.cons r s=>by
  obtain ⟨as,q⟩:=At.reads ok a r
  obtain ⟨bs,q2⟩:=AtAll.reads ok b s
  exact ⟨_,.cons q q2⟩
end
mutual
theorem At.noDict {H:Hp}:∀ {v:V}{d:PyData},At H v d→d.hasDict=false
 | _,_,.non=>by simp[PyData.hasDict]
 | _,_,.bl b=>by simp[PyData.hasDict]
 | _,_,.int i=>by simp[PyData.hasDict]
 | _,_,.str x=>by simp[PyData.hasDict]
 | _,_,.lst e t=>by simp only[PyData.hasDict];exact AtAll.noDict t
 | _,_,.tup e t=>by simp only[PyData.hasDict];exact AtAll.noDict t
theorem AtAll.noDict {H:Hp}:∀ {vs:List V}{ds:List PyData},AtAll H vs ds→PyData.hasDictAll ds=false
 | _,_,.nil=>by simp[PyData.hasDictAll]
 | _,_,.cons a b=>by simp only[PyData.hasDictAll,At.noDict a,AtAll.noDict b,Bool.or_self]
end
section
variable {X:Cx}
def rRepr:List V→Hp→VK→Prop:=fun xs H Q=>∃ x d,xs=[x]∧At H x d∧d.showable=true∧d.depth≤60∧d.shown.length≤sizeLine∧Q (.str d.shown) H
theorem qfh {k:Nat} (hr:Room k X.A):yb5 X (.builtin "repr") rRepr:=by
 intro pins s σ H xs us Q I r h
 obtain ⟨x,d,rfl,ha,hs,hd,hz,q⟩:=h
 cases r with
 | cons r rr=>
  cases rr
  cases ha with
  | non=>cases r;rw[PyData.shown_none] at q;exact PySem.P.repr_of_none ⟨.str _,H,I.tok _,⟨_,rfl⟩,q⟩
  | bl b=>cases r;rw[PyData.shown_bool] at q;exact PySem.P.repr_of_bool ⟨.str _,H,I.tok _,⟨_,rfl⟩,q⟩
  | int i=>
   obtain ⟨t,rfl⟩:=r
   rw[PyData.shown_int] at q
   simp only[PyData.showable,decide_eq_true_eq] at hs
   exact PySem.P.repr_of_int hs ⟨.str _,H,I.tok _,⟨_,rfl⟩,q⟩
  | str x=>
   obtain ⟨t,rfl⟩:=r
   rw[PyData.shown_str] at q hz
   exact PySem.P.repr_of_str ⟨.str _,H,I.tok _,⟨_,rfl⟩,q⟩ hz
  | lst e t=>
   cases r
   have hA:=At.lst e t
   obtain ⟨as,rd⟩:=hA.reads I.hok (u:=.ref _) rfl
   have hu:=hr.units
   refine repr_of_reads' rd hs (PyData.noDict_hsm hA.noDict) hr.gd (by omega) (fun _ _ z=>z) (fun h' u tk hk=>?_) hz
   exact ⟨.str _,H,I.kept hk,⟨_,rfl⟩,q⟩
  | tup e t=>
   cases r
   have hA:=At.tup e t
   obtain ⟨as,rd⟩:=hA.reads I.hok (u:=.ref _) rfl
   have hu:=hr.units
   refine repr_of_reads' rd hs (PyData.noDict_hsm hA.noDict) hr.gd (by omega) (fun _ _ z=>z) (fun h' u tk hk=>?_) hz
   exact ⟨.str _,H,I.kept hk,⟨_,rfl⟩,q⟩
end
section
variable {X:Cx}{pins:List (Addr×Obj)}{σ:St}{H:Hp}{s:Shared}{h':Heap}
theorem Inv.turnedL {ch:List Addr}{a:Addr}{o:HO}{t':Nat} (I:Inv X pins σ H s) (k:∀ b u,b∉ch→s.heap.get? b=some u→h'.get? b=some u) (hf:∀ b∈ch,FpOk X pins H b)
  (hp:s.heap.objs.size≤a) (new:ya2 X.prog X.w (upd H a o) h' a o):Inv X pins σ (upd H a o) { s with heap:=h',toks:=t' }:=by
 have hn:H a=none:=I.hok.fresh hp
 have nit:∀ b u,H b=some u→b∉ch:=fun b u e z=>by rw[(hf b z).1] at e;cases e
 refine I.step (g':=s.gens) (d':=s.drawn) (ch:=ch) (fun b hb=>?_) (fun b u _ _ hc e _=>k b u hc e) (fun b u _ _ hc e _=>⟨u.slots,k b u hc e⟩) (fun b u _ e n=>?_)
  (fun b u hc e=>⟨u,k b u hc e⟩) (fun b xs e=>?_) (fun b u xs e=>?_) (fun b ps e=>⟨#[],?_⟩) (fun m hm=>?_) (fun b u e=>?_) I.bare
 ·obtain ⟨_,f1,_,f3,f4,f5⟩:=hf b hb
  exact ⟨f3,f1,f4,f5⟩
 ·rw[yao (Nat.ne_of_lt (Nat.lt_of_lt_of_le (Heap.lt_size e) hp))];exact n
 ·rw[yao (qai e hn)];exact e
 ·rw[yao (qai e hn)];exact e
 ·rw[yao (qai e hn),e];simp
 ·obtain ⟨ob,es,ep,ho,r⟩:=hm
  exact ⟨ob,es,ep,k _ ob (fun z=>(hf _ z).2.1 rfl) ho,r⟩
 ·by_cases hb:b=a
  ·subst hb;rw[qac] at e;cases e;exact new
  ·rw[yao hb] at e
   refine (I.hok b u e).stay (fun c v hc q=>k c v ?_ q) (fun c q=>by rw[yao (qai q hn)];exact q) fun c xs q=>by rw[yao (qai q hn)];exact q
   rcases hc with rfl|hc
   ·exact nit _ u e
   ·exact nit c _ hc
end
def Ite (K:PySem.W.Frag) (a:Addr):It:=
 ⟨fun i H=>∃ xs x,SqL K H a xs∧xs[i]?=some x,fun i H x H'=>∃ p y,H p=none∧x=.ref p∧H'=upd H p (.tup [.int i,y])∧∀ xs,SqL K H a xs→xs[i]?=some y,fun i H=>∃ xs,SqL K H a xs∧xs.length≤i⟩
theorem qfj {P:Program}{w:World}{K:PySem.W.Frag}{es:List Expr}{k:Nat}{tp:Pos} (a e it:Addr) (hne:e≠it) :
  Turn P w K (.Tuple es k tp) (Ite K a) [e,it] e (fun i h=>(∃ old,IsEnum h e it i old)∧h.IsListIter it a i) where
 mem:=by simp
 obj:=fun i h st b hb=>by
  obtain ⟨⟨old,he⟩,o,ho,hc,hd⟩:=st
  have hb':b=e∨b=it:=by simpa using hb
  rcases hb' with rfl|rfl
  ·exact ⟨_,he,fun v z=>by
    have z':Data.fields _=Data.cell v:=z
    cases z'⟩
  ·exact ⟨o,ho,fun v z=>by rw[hd] at z;cases z⟩
 keep:=fun i h h' st kk=>⟨st.1.imp fun _ z=>kk e (by simp) _ z,st.2.at fun o z=>kk it (by simp) o z⟩
 item:=by
  intro X hP hw hK hc i pins s σ H E I hf st hg
  subst hP hw hK
  obtain ⟨xs,x,hq,hx⟩:=hg
  obtain ⟨its,rv,p,hz⟩:=I.list hq
  obtain ⟨u,hu,ru⟩:=rv.get hx
  obtain ⟨⟨old,he⟩,hit⟩:=st
  refine wpAny_pyNext_enum_item he hit p.isList (x:=u) (by simpa using hu) hne fun h' ho hit' hT hsz hk=>?_
  have hel:e<s.heap.objs.size:=Heap.lt_size he
  have hil:it<s.heap.objs.size:=by obtain ⟨_,z,_⟩:=hit;exact Heap.lt_size z
  refine ⟨_,rfl,wpAny_letOwnedTupleGo_enum ho fun h2 he2 hs2=>?_⟩
  have keep2:∀ b ob,b∉[e,it]→s.heap.get? b=some ob→h2.get? b=some ob:=fun b ob hb z=>by
   have h1:b≠e:=fun q=>hb (by simp[q])
   have h3:b≠it:=fun q=>hb (by simp[q])
   exact (hs2.2 b h1).trans (hk b ob h1 h3 z)
  have hT2:h2.get? s.heap.objs.size=some { cls:=.type "tuple",data:=.seq #[.int i s.toks,u] }:=(hs2.2 _ (Nat.ne_of_gt hel)).trans hT
  have fresh:H s.heap.objs.size=none:=I.hok.fresh (Nat.le_refl _)
  have new:ya2 X.prog X.w (upd H s.heap.objs.size (.tup [.int i,x])) h2 s.heap.objs.size (.tup [.int i,x]):=
   ⟨by show 2≤sizeLine;decide,[.int i s.toks,u],.cons ⟨_,rfl⟩ (.cons ru .nil),⟨_,hT2,rfl,_,rfl⟩⟩
  refine ⟨.ref s.heap.objs.size,upd H s.heap.objs.size (.tup [.int i,x]),I.turnedL keep2 hf (Nat.le_refl _) new,rfl,⟨_,x,fresh,rfl,rfl,fun ys hy=>by rw[I.list_inj hy hq];exact hx⟩,⟨⟨_,by simpa using he2⟩,hit'.at fun o z=>(hs2.2 it hne.symm).trans z⟩,fun b hb=>?_⟩
  rw[yao]
  ·exact (hf b hb).1
  ·have hb':b=e∨b=it:=by simpa using hb
   rcases hb' with rfl|rfl
   ·exact Nat.ne_of_lt hel
   ·exact Nat.ne_of_lt hil
 done:=by
  intro X hP hw hK hc i pins s σ H E I hf st hg
  subst hP hw hK
  obtain ⟨xs,hq,hx⟩:=hg
  obtain ⟨its,rv,p,hz⟩:=I.list hq
  obtain ⟨⟨old,he⟩,hit⟩:=st
  have hl:=rv.length
  obtain ⟨f0,f1,f2,f3,f4,f5⟩:=hf it (by simp)
  exact wpAny_pyNext_enum_end (I.ok.hd hc) he hit p.isList (by simp;omega) fun h' eb=>⟨rfl,I.turned (t':=s.toks) (fun b o hb z=>eb b o hb z) f0 f1 f3 f4 f5⟩
 self:=fun _ _ _ _ _ st h=>wpAny_pyIter_enum st.1.choose_spec h
def iEnum (K:PySem.W.Frag) (ta:TA):TI:=fun σ H R=>ta σ H fun vs H1=>∃ a xs,vs=[.ref a]∧SqL K H1 a xs∧R (Ite K a) H1
section
variable {X:Cx}
theorem yf0 {a:Expr}{ta:TA}{p pos tp:Pos}{es:List Expr}{k:Nat} (hg:Gl X "enumerate") (hm:X.mg "enumerate" = none) (ha:PA X [a] ta) (hs:starEach [a] X.env=[(false,eval a X.env)]:=by rfl) :
  PI X (.Tuple es k tp) (.Call (.Name "enumerate" p) [a] [] pos) (iEnum X.K ta):=by
 intro pins s σ H R I h
 refine Call_ (yd0 I hg hm boot_enumerate (PyProof.Rows.callWith_type1 (thn (ha pos pins s σ H _ I h) fun us s1 ⟨vs,H1,I1,r1,q1⟩=>?_) hs rfl))
 obtain ⟨l,xs,e,hq,q⟩:=q1
 subst e
 cases r1 with
 | cons r rr=>
  cases rr
  cases r
  obtain ⟨its,rv,pl,hz⟩:=I1.list hq
  refine call_enumerate_list pl.isList fun h' he hit hsz hk=>?_
  refine wpAny_pyIter_enum he ⟨_,[s1.heap.objs.size+1,s1.heap.objs.size],_,Ite X.K l,H1,rfl,I1.kept (t':=s1.toks) hk,qfj l (s1.heap.objs.size+1) s1.heap.objs.size (Nat.succ_ne_self _),⟨⟨_,he⟩,hit⟩,fun b hb=>?_,q⟩
  have hb':b=s1.heap.objs.size+1∨b=s1.heap.objs.size:=by simpa using hb
  rcases hb' with rfl|rfl
  ·exact I1.fpOk (Nat.le_succ _) (I1.hok.fresh (Nat.le_succ _))
  ·exact I1.fpOk (Nat.le_refl _) (I1.hok.fresh (Nat.le_refl _))
end
theorem yey {K:PySem.W.Frag}{a:Addr}{xs:List V}{g:TG}{tb:TS}{D:Ends}{σ:St}{H:Hp} (Pv:Nat→St→Hp→Prop) (h0:Pv 0 σ H) (hl:∀ i σ H,i≤xs.length→Pv i σ H→SqL K H a xs)
  (hs:∀ i x p σ H,xs[i]?=some x→Pv i σ H→H p=none→g (.ref p) σ (upd H p (.tup [.int i,x])) fun σ2 H2=>tb { D with nx:=Pv (i+1),ct:=Pv (i+1),bk:=D.nx } σ2 H2) (hd:∀ σ H,Pv xs.length σ H→D.nx σ H) :
  ∃ W:Nat→Nat→St→Hp→Prop,(∃ m,W 0 m σ H)∧∀ i m σ H,W i m σ H→
   ((Ite K a).stop i H∧D.nx σ H)∨((Ite K a).go i H∧∃ N:St→Hp→Prop,(∀ σ' H',N σ' H'→∃ m',m' < m∧W (i+1) m' σ' H')∧∀ x H',(Ite K a).yld i H x H'→g x σ H' fun σ2 H2=>tb { D with nx:=N,ct:=N,bk:=D.nx } σ2 H2):=by
 refine ⟨fun i m σ H=>m=xs.length-i∧i≤xs.length∧Pv i σ H,⟨xs.length,by simp,Nat.zero_le _,h0⟩,?_⟩
 rintro i m σ H ⟨rfl,hi,p⟩
 have q:=hl i σ H hi p
 by_cases hlt:i<xs.length
 ·refine .inr ⟨⟨xs,xs[i],q,by simp[hlt]⟩,Pv (i+1),fun σ' H' p'=>⟨xs.length-(i+1),by omega,rfl,hlt,p'⟩,fun x H' y=>?_⟩
  obtain ⟨pp,z,hn,e1,e2,y⟩:=y
  subst e1 e2
  exact hs i z pp σ _ (y xs q) p hn
 ·have e:i=xs.length:=by omega
  subst e
  exact .inl ⟨⟨xs,q,Nat.le_refl _⟩,hd σ H p⟩
def clOf (cells:List (Str×Addr)):List (Str×NameKind)→List (Str×Addr)→List (Str×Addr)
 | [],cs=>cs
 | (n,k)::r,cs=>if k=.free then clOf cells r ((n,(cells.lookup n).getD 0)::cs) else clOf cells r cs
theorem ydd {scope:Scope}{env:Env} (h:∀ x∈scope.names,x.2=.free→∃ c,env.cells.lookup x.1=some c):closureFor scope env=pure (clOf env.cells scope.names []):=by
 unfold closureFor
 generalize hn:scope.names=names at h
 suffices hh:∀ (l:List (Str×NameKind)) (cs:List (Str×Addr)),(∀ x∈l,x.2=.free→∃ c,env.cells.lookup x.1=some c)→
   (forIn l cs (fun (x:Str×NameKind) r=>if (x.2 == NameKind.free)=true then (do let a ← cellOf env x.1;pure (ForInStep.yield ((x.1,a)::r))) else pure (ForInStep.yield r)):Sem (List (Str×Addr)))=pure (clOf env.cells l cs) by
  have:=hh names [] h
  simp only[bind_pure]
  exact this
 intro l
 induction l with
 | nil=>intro cs _;rfl
 | cons x l ih=>
  intro cs hl
  obtain ⟨n,k⟩:=x
  rw[List.forIn_cons]
  by_cases hk:k=.free
  ·subst hk
   obtain ⟨c,hc⟩:=hl (n,.free) List.mem_cons_self rfl
   have e1:cellOf env n=pure c:=by unfold cellOf;rw[hc]
   have ec:clOf env.cells ((n,NameKind.free)::l) cs=clOf env.cells l ((n,c)::cs):=by
    show (if NameKind.free=NameKind.free then _ else _)=_
    rw[if_pos rfl,hc];rfl
   rw[ec]
   simp only[e1,pure_bind,beq_self_eq_true,if_true]
   exact ih _ fun y hy=>hl y (List.mem_cons_of_mem _ hy)
  ·have hb:(k == NameKind.free)=false:=by cases k<;>first|rfl|exact absurd rfl hk
   have ec:clOf env.cells ((n,k)::l) cs=clOf env.cells l cs:=by
    show (if k=NameKind.free then _ else _)=_
    rw[if_neg hk]
   rw[ec]
   simp only[hb,pure_bind,Bool.false_eq_true,if_false]
   exact ih _ fun y hy=>hl y (List.mem_cons_of_mem _ hy)
theorem qb9 {cells:List (Str×Addr)}:∀ {l:List (Str×NameKind)}{cs:List (Str×Addr)},(∀ x∈l,x.2=.free→∃ c,cells.lookup x.1=some c)→(∀ p∈cs,cells.lookup p.1=some p.2)→∀ p∈clOf cells l cs,cells.lookup p.1=some p.2
 | [],_,_,h=>h
 | (n,k)::r,cs,hl,h=>by
  unfold clOf
  split
  ·rename_i hk
   refine qb9 (fun x hx=>hl x (List.mem_cons_of_mem _ hx)) fun p hp=>?_
   rcases List.mem_cons.mp hp with rfl|hp
   ·obtain ⟨c,hc⟩:=hl (n,k) List.mem_cons_self hk
    show cells.lookup n=some ((cells.lookup n).getD 0)
    have hc':cells.lookup n=some c:=hc
    rw[hc'];rfl
   ·exact h p hp
  ·exact qb9 (fun x hx=>hl x (List.mem_cons_of_mem _ hx)) h
theorem ych {l:List (Str×Addr)}{x:Str} (h:∃ c,(x,c)∈l):∃ c,l.lookup x=some c:=by
 obtain ⟨c,h⟩:=h
 induction l with
 | nil=>cases h
 | cons p r ih=>
  obtain ⟨y,d⟩:=p
  by_cases e:(x == y)=true
  ·exact ⟨d,by rw[List.lookup_cons,e]⟩
  ·have e':(x == y)=false:=by simpa using e
   rcases List.mem_cons.mp h with q|q
   ·cases q;exact absurd (beq_self_eq_true _) e
   ·obtain ⟨c',z⟩:=ih q
    exact ⟨c',by rw[List.lookup_cons,e'];exact z⟩
theorem yc2 {cells:List (Str×Addr)}{x:Str}:∀ {l:List (Str×NameKind)}{cs:List (Str×Addr)},((x,NameKind.free)∈l∨∃ c,(x,c)∈cs)→∃ c,(x,c)∈clOf cells l cs
 | [],_,h=>by
  rcases h with h|h
  ·cases h
  ·exact h
 | (n,k)::r,cs,h=>by
  unfold clOf
  split
  ·rename_i hk
   refine yc2 ?_
   rcases h with h|⟨c,h⟩
   ·rcases List.mem_cons.mp h with q|q
    ·cases q;exact .inr ⟨_,List.mem_cons_self⟩
    ·exact .inl q
   ·exact .inr ⟨c,List.mem_cons_of_mem _ h⟩
  ·rename_i hk
   refine yc2 ?_
   rcases h with h|h
   ·rcases List.mem_cons.mp h with q|q
    ·cases q;exact absurd rfl hk
    ·exact .inl q
   ·exact .inr h
theorem qcx {env:Env}{x:Str}:∀ {l:List (Str×NameKind)},l.lookup x=some .free→
  (l.map fun (n,k)=>if (k == NameKind.free&&env.scope.kind == .function&&env.kindOf n == some .cell) then (n,NameKind.cell) else (n,k)).lookup x=some .cell∨
  (l.map fun (n,k)=>if (k == NameKind.free&&env.scope.kind == .function&&env.kindOf n == some .cell) then (n,NameKind.cell) else (n,k)).lookup x=some .free
 | [],h=>by simp at h
 | (n,k)::r,h=>by
  rw[List.map_cons]
  cases hx:x == n with
  | true=>
   rw[List.lookup_cons,hx] at h
   cases h
   by_cases hc:(NameKind.free == NameKind.free&&env.scope.kind == .function&&env.kindOf n == some .cell)=true
   ·left;simp only[hc,if_true,List.lookup_cons,hx]
   ·right;simp only[hc,Bool.false_eq_true,if_false,List.lookup_cons,hx]
  | false=>
   rw[List.lookup_cons,hx] at h
   have ih:=qcx (env:=env) (l:=r) h
   by_cases hc:(k == NameKind.free&&env.scope.kind == .function&&env.kindOf n == some .cell)=true
   ·simp only[hc,if_true,List.lookup_cons,hx];exact ih
   ·simp only[hc,Bool.false_eq_true,if_false,List.lookup_cons,hx];exact ih
theorem qdf {env:Env}{x:Str}:∀ {l:List (Str×NameKind)},(∀ y∈l,y.2≠.cell)→
  ((l.map fun (n,k)=>if (k == NameKind.free&&env.scope.kind == .function&&env.kindOf n == some .cell) then (n,NameKind.cell) else (n,k)).lookup x=some .cell∨
  (l.map fun (n,k)=>if (k == NameKind.free&&env.scope.kind == .function&&env.kindOf n == some .cell) then (n,NameKind.cell) else (n,k)).lookup x=some .free)→(x,NameKind.free)∈l
 | [],_,h=>by simp at h
 | (n,k)::r,hn,h=>by
  rw[List.map_cons] at h
  cases hx:x == n with
  | true=>
   have e:x=n:=by simpa using hx
   subst e
   by_cases hc:(k == NameKind.free&&env.scope.kind == .function&&env.kindOf x == some .cell)=true
   ·have:k=.free:=by
     simp only[Bool.and_eq_true,beq_iff_eq] at hc
     exact hc.1.1
    subst this
    exact List.mem_cons_self
   ·simp only[hc,Bool.false_eq_true,if_false,List.lookup_cons,hx,Option.some.injEq] at h
    rcases h with h|h
    ·exact absurd h (hn (x,k) List.mem_cons_self)
    ·subst h;exact List.mem_cons_self
  | false=>
   have h':(r.map fun (n,k)=>if (k == NameKind.free&&env.scope.kind == .function&&env.kindOf n == some .cell) then (n,NameKind.cell) else (n,k)).lookup x=some .cell∨
     (r.map fun (n,k)=>if (k == NameKind.free&&env.scope.kind == .function&&env.kindOf n == some .cell) then (n,NameKind.cell) else (n,k)).lookup x=some .free:=by
    by_cases hc:(k == NameKind.free&&env.scope.kind == .function&&env.kindOf n == some .cell)=true
    ·simp only[hc,if_true,List.lookup_cons,hx] at h;exact h
    ·simp only[hc,Bool.false_eq_true,if_false,List.lookup_cons,hx] at h;exact h
   exact List.mem_cons_of_mem _ (qdf (fun y hy=>hn y (List.mem_cons_of_mem _ hy)) h')
def qa3 (X:Cx) (M:List Str) (scope:Scope) (C:Addr) (fp:List Addr) (s2:Shared) (H2:Hp):Cx:=
 {prog:=X.prog,w:=X.w,K:=X.K,mg:=X.mg,base:=X.base,A:=X.A,N:=M,s₀:=s2,H₀:=H2,env:=compEnvC scope (clOf X.env.cells scope.names []) C X.env,
  outer:=X.stack,stack:=X.stack,ex:=fp,fn:=fun _=>false,calm:=X.calm,pn:=[],xe:=fun _ _=>False }
def capS (ix:List (Option Nat)) (σ:St):St:=ix.map fun o=>match o with
 | none=>none
 | some j=>(σ[j]?).getD none
structure CompOk (N M:List Str) (ix:List (Option Nat)) (sc xs:Scope):Prop where
 kind:sc.kind=.function
 len:M.length=ix.length
 nocell:∀ y∈sc.names,y.2≠.cell
 loc:∀ y∈sc.names,y.2=.local→sc.names.lookup y.1=some .local
 fr:∀ y∈sc.names,y.2=.free→xs.names.lookup y.1=some .cell∨xs.names.lookup y.1=some .free
 cap:∀ (i:Nat) (j:Nat),ix[i]?=some (some j)→∃ x,M[i]?=some x∧N[j]?=some x∧sc.names.lookup x=some .free
def qfy (N M:List Str) (ix:List (Option Nat)) (sc xs:Scope):Bool:=
 decide (sc.kind=.function)&&decide (M.length=ix.length)&&sc.names.all (fun y=>decide (y.2≠.cell))&&sc.names.all (fun y=>decide (y.2≠.local)||decide (sc.names.lookup y.1=some .local)) &&
 sc.names.all (fun y=>decide (y.2≠.free)||decide (xs.names.lookup y.1=some .cell)||decide (xs.names.lookup y.1=some .free)) &&
 (List.range ix.length).all (fun i=>match ix[i]? with
  | some (some j)=>match M[i]? with
   | some x=>decide (N[j]?=some x)&&decide (sc.names.lookup x=some .free)
   | none=>false
  | _=>true)
theorem qap {N M:List Str}{ix:List (Option Nat)}{sc xs:Scope} (h:qfy N M ix sc xs=true):CompOk N M ix sc xs:=by
 unfold qfy at h
 simp only[Bool.and_eq_true,List.all_eq_true,decide_eq_true_eq,Bool.or_eq_true] at h
 obtain ⟨⟨⟨⟨⟨h1,h2⟩,h3⟩,h4⟩,h5⟩,h6⟩:=h
 refine ⟨h1,h2,h3,fun y hy e=>?_,fun y hy e=>?_,fun i j e=>?_⟩
 ·rcases h4 y hy with q|q
  ·exact absurd e q
  ·exact q
 ·rcases h5 y hy with (q|q)|q
  ·exact absurd e q
  ·exact .inl q
  ·exact .inr q
 ·have hi:i<ix.length:=(List.getElem?_eq_some_iff.mp e).1
  have q:=h6 i (List.mem_range.mpr hi)
  rw[e] at q
  cases hm:M[i]? with
  | none=>rw[hm] at q;cases q
  | some x=>
   rw[hm] at q
   simp only[Bool.and_eq_true,decide_eq_true_eq] at q
   exact ⟨x,rfl,q.1,q.2⟩
section
variable {X:Cx}
def PTs (X:Cx) (ifs:List Expr) (t:TT):Prop:=
 ∀ (pins:List (Addr×Obj)) (s:Shared) (σ:St) (H:Hp) (Q:Bool→Hp→Prop),Inv X pins σ H s→t σ H Q→
  wpAny (model X.prog X.w) X.A (forIn ifs true fun c r=>if r=true then do let ok ← isTrue c X.env (eval c X.env);pure (ForInStep.yield ok) else pure (ForInStep.yield r)) (TP X pins σ Q) X.xe s
def tYes:TT:=fun _ H Q=>Q true H
theorem ybf:PTs X [] tYes:=fun _ _ _ H _ I h=>wpAny_tests_nil ⟨H,I,h⟩
theorem yce {c:Expr}{t:TT} (h:PT X c t):PTs X [c] t:=fun pins s σ H Q I hq=>wpAny_tests_one (h pins s σ H Q I hq)
end
theorem Un.butNew {fs ex:List Addr}{H H':Hp}{h h1 h2:Heap}{C:Addr} (u:Un fs ex H H' h h1) (hC:h.objs.size≤C) (sb:Heap.SameBut C h1 h2):Un fs ex H H' h h2:=by
 have ne:∀ b o,h.get? b=some o→b≠C:=fun b o e=>Nat.ne_of_lt (Nat.lt_of_lt_of_le (Heap.lt_size e) hC)
 refine ⟨fun b o e n h3 h4=>(sb.2 b (ne b o e)).trans (u.keep b o e n h3 h4),fun b o e n h3 h4=>?_,u.free,fun b o e h4=>?_,u.tups,u.frzs,u.tbls⟩
 ·obtain ⟨sl,q⟩:=u.slot b o e n h3 h4
  exact ⟨sl,(sb.2 b (ne b o e)).trans q⟩
 ·obtain ⟨o',q⟩:=u.there b o e h4
  exact ⟨o',(sb.2 b (ne b o e)).trans q⟩
section
variable {X:Cx}{pins:List (Addr×Obj)}{σ:St}{H2:Hp}{s2:Shared}{M:List Str}{ix:List (Option Nat)}{scope:Scope}{fp:List Addr}
theorem comp_ok {C:Addr} (I:Inv X pins σ H2 s2) (ck:CompOk X.N M ix scope X.env.scope) (hC:s2.heap.objs.size≤C) (f2:∀ b∈fp,FpOk X pins H2 b) (hfp:∀ b∈fp,b<s2.heap.objs.size):(qa3 X M scope C fp s2 H2).Ok:=by
 have hfree:∀ x∈scope.names,x.2=.free→∃ c,X.env.cells.lookup x.1=some c:=fun x hx e=>I.ok.has x.1 (ck.fr x hx e)
 have snd:∀ x c,(clOf X.env.cells scope.names []).lookup x=some c→X.env.cells.lookup x=some c:=fun x c e=>qb9 (cs:=[]) hfree (by intro p hp;cases hp) (x,c) (PySem.mem_of_lookup e)
 refine ⟨I.ok.mod,ck.kind,I.ok.glob,I.ok.blt,hC,fun x y c h1 h2=>I.ok.inj x y c (snd x c h1) (snd y c h2),fun x hx=>?_,(by intro x c h;cases h),I.ok.hd,I.ok.frames,.inl rfl,fun b hb=>⟨?_,fun x c e=>?_⟩,fun b o e=>I.bs b o e,
  Nat.le_trans I.ok.bsz I.sz,fun b o e hb=>?_,fun b hb hb2=>?_,I.stack,I.stkFree⟩
 ·exact ych (yc2 (.inl (qdf ck.nocell hx)))
 ·exact Nat.ne_of_lt (Nat.lt_of_lt_of_le (hfp b hb) hC)
 ·exact (f2 b hb).2.2.2.2.1 x c (snd x c e)
 ·rcases (f2 b hb).2.2.2.1 with z|z
  ·exact I.ok.noex b o e z
  ·exact absurd (Nat.lt_of_lt_of_le (Heap.lt_size e) (Nat.le_trans I.ok.bsz z)) (Nat.lt_irrefl _)
 ·obtain ⟨_,n1,n2,_⟩:=f2 b hb
  rcases List.mem_cons.mp (I.stkSub b hb2) with z|z
  ·exact n1 z
  ·exact n2 z
theorem comp_inv {C D:Addr}{h1:Heap}{tk:Nat} (I:Inv X pins σ H2 s2) (ck:CompOk X.N M ix scope X.env.scope) (hC:s2.heap.objs.size≤C) (hD:s2.heap.objs.size≤D) (hDC:C≠D) (f2:∀ b∈fp,FpOk X pins H2 b) (hfp:∀ b∈fp,b<s2.heap.objs.size)
  (old:∀ b o,s2.heap.get? b=some o→h1.get? b=some o) (hn:h1.Ns C fun _=>none) (hnew:h1.get? D=some { cls:=.type "list",data:=.seq #[] }) :
  Inv (qa3 X M scope C fp s2 H2) [] (capS ix σ) (upd H2 D (.lst [])) { s2 with heap:=h1,toks:=tk }:=by
 have hfree:∀ x∈scope.names,x.2=.free→∃ c,X.env.cells.lookup x.1=some c:=fun x hx e=>I.ok.has x.1 (ck.fr x hx e)
 have snd:∀ x c,(clOf X.env.cells scope.names []).lookup x=some c→X.env.cells.lookup x=some c:=fun x c e=>qb9 (cs:=[]) hfree (by intro p hp;cases hp) (x,c) (PySem.mem_of_lookup e)
 have fD:H2 D=none:=I.hok.fresh hD
 refine ⟨comp_ok I ck hC f2 hfp,rfl,I.bare,Un.laid old hD fD,⟨_,hn,fun i x v e1 e2 e3=>?_⟩,fun x c e=>?_,?_,fun x c e=>?_,(by intro p hp;cases hp),I.hok.laid (o:=.lst []) old hD ⟨Nat.zero_le _,[],0,.nil,hnew⟩,?_⟩
 ·obtain ⟨j,hj,hv⟩:∃ j,ix[i]?=some (some j)∧σ[j]?=some (some v):=by
   unfold capS at e2
   rw[List.getElem?_map] at e2
   cases q:ix[i]? with
   | none=>rw[q] at e2;cases e2
   | some o=>
    rw[q] at e2
    cases o with
    | none=>cases e2
    | some j=>
     refine ⟨j,rfl,?_⟩
     have e2':(σ[j]?).getD none=some v:=Option.some.inj e2
     cases z:σ[j]? with
     | none=>rw[z] at e2';cases e2'
     | some y=>rw[z] at e2';rw[show y=some v from e2']
  obtain ⟨y,hm,hN,hf⟩:=ck.cap i j hj
  have e1':M[i]?=some x:=e1
  rw[hm] at e1';cases e1'
  obtain ⟨m,hnl,hl⟩:=I.loc
  have hmem:(x,NameKind.free)∈scope.names:=PySem.mem_of_lookup hf
  have hk:=ck.fr _ hmem rfl
  obtain ⟨u,ru,lk⟩:=hl j x v hN hv (hk.elim (fun z=>.inr (.inl z)) fun z=>.inr (.inr z))
  refine ⟨u,ru,.inr ⟨qcx hf,?_⟩⟩
  rcases lk with ⟨kl,_⟩|⟨_,c,hc,hcell⟩
  ·have kl':X.env.scope.names.lookup x=some .local:=kl
   rcases hk with z|z
   ·rw[z] at kl';cases kl'
   ·rw[z] at kl';cases kl'
  ·obtain ⟨c2,h2⟩:=ych (yc2 (cells:=X.env.cells) (cs:=[]) (.inl hmem))
   have h3:=snd x c2 h2
   rw[hc] at h3;cases h3
   obtain ⟨o,ho,hd⟩:=hcell
   exact ⟨c,h2,o,old c o ho,hd⟩
 ·obtain ⟨v,o,ho,hd⟩:=I.cell x c (snd x c e)
  exact ⟨v,o,old c o ho,hd⟩
 ·show upd H2 D (.lst []) C=none
  rw[yao hDC]
  exact I.hok.fresh hC
 ·show upd H2 D (.lst []) c=none
  obtain ⟨v,z⟩:=I.cell x c (snd x c e)
  rw[yao (Nat.ne_of_lt (Nat.lt_of_lt_of_le z.lt hD))]
  exact I.freeC x c (snd x c e)
 ·show (capS ix σ).length=M.length
  unfold capS
  rw[List.length_map,ck.len]
theorem qgo {C:Addr}{σ':St}{H':Hp}{s':Shared}{h2:Heap}{pl:List (Addr×Obj)} (I:Inv X pins σ H2 s2) (J:Inv (qa3 X M scope C fp s2 H2) pl σ' H' s') (f2:∀ b∈fp,FpOk X pins H2 b) (sb:Heap.SameBut C s'.heap h2):Inv X pins σ H' { s' with heap:=h2 }:=by
 have hC:s2.heap.objs.size≤C:=J.ok.above
 refine I.call' (s':={ s' with heap:=h2 }) (ch:=fp) J.os (Un.butNew J.base hC sb) (fun a o e=>?_) J.bare fun b hb=>?_
 ·have fr:H' C=none:=J.free
  refine (J.hok a o e).stay (fun c v hc q=>(sb.2 c ?_).trans q) (fun _ q=>q) fun _ _ q=>q
  rintro rfl
  rcases hc with z|z
  ·rw[← z,fr] at e;cases e
  ·rw[fr] at z;cases z
 ·obtain ⟨_,n1,_,n3,n4,n5⟩:=f2 b hb
  exact ⟨n3,n1,n4,n5⟩
end
def ya4 (l l':St):Prop:=l'.length=l.length∧∀ (i:Nat) (v:V),l[i]?=some (some v)→l'[i]?=some (some v)
theorem ya4.refl (l:St):ya4 l l:=⟨rfl,fun _ _ h=>h⟩
theorem ya4.set {l l':St}{i:Nat}{x:Option V} (h:ya4 l l') (hi:l[i]?=some none):ya4 l (l'.set i x):=by
 refine ⟨by rw[List.length_set];exact h.1,fun j v e=>?_⟩
 by_cases hj:j=i
 ·subst hj;rw[hi] at e;cases e
 ·rw[List.getElem?_set_ne (Ne.symm hj)];exact h.2 j v e
def qfz (wi:TI) (ix:List (Option Nat)) (g:TG) (tt:TT) (te:TE):TE:=fun σ H Q=>wi σ H fun J H1=>∀ D,H1 D=none→∃ W:Nat→Nat→Hp→Prop,(∃ m,W 0 m (upd H1 D (.lst [])))∧∀ i m H,W i m H→
 (J.stop i H∧Q (.ref D) H)∨(J.go i H∧∃ N:Hp→Prop,(∀ H',N H'→∃ m',m' < m∧W (i+1) m' H')∧∀ x H',J.yld i H x H'→g x (capS ix σ) H' fun σ2 H2=>ya4 (capS ix σ) σ2∧tt σ2 H2 fun b H3=>
  if b=true then te σ2 H3 fun v H4=>∃ ys,H4 D=some (.lst ys)∧ys.length<sizeLine∧N (upd H4 D (.lst (ys++[v]))) else N H3)
section
variable {X:Cx}{elt tg iter:Expr}{ifs:List Expr}{scope:Scope}{pos:Pos}{wi:TI}{g:TG}{tt:TT}{te:TE}{M:List Str}{ix:List (Option Nat)}
theorem ygk {pins:List (Addr×Obj)}{σ:St}{H2 H4:Hp}{s2 s4:Shared}{fp:List Addr}{it C D:Addr}{tn:Nat→Heap→Prop}{J:It}{R:Result→Shared→Prop}{QD:Hp→Prop} (I2:Inv X pins σ H2 s2) (hc:X.calm=true)
  (f2:∀ b∈fp,FpOk X pins H2 b) (T:Turn X.prog X.w X.K tg J fp it tn)
  (hg:PG (qa3 X M scope C fp s2 H2) tg g) (ht:PTs (qa3 X M scope C fp s2 H2) ifs tt) (he:PE (qa3 X M scope C fp s2 H2) elt te)
  (I4:Inv (qa3 X M scope C fp s2 H2) [] (capS ix σ) H4 s4) (st4:tn 0 s4.heap) (fr4:∀ b∈fp,H4 b=none) (W:Nat→Nat→Hp→Prop) (m0:Nat) (w0:W 0 m0 H4)
  (turn:∀ i m H,W i m H→(J.stop i H∧QD H)∨(J.go i H∧∃ N:Hp→Prop,(∀ H',N H'→∃ m',m' < m∧W (i+1) m' H')∧∀ x H',J.yld i H x H'→g x (capS ix σ) H' fun σ2 H2=>ya4 (capS ix σ) σ2∧tt σ2 H2 fun b H3=>
   if b=true then te σ2 H3 fun v H4=>∃ ys,H4 D=some (.lst ys)∧ys.length<sizeLine∧N (upd H4 D (.lst (ys++[v]))) else N H3))
  (fin:∀ H' s',Inv (qa3 X M scope C fp s2 H2) [] (capS ix σ) H' s'→QD H'→R (.ok .next) s') :
  codeAny (model X.prog X.w) X.A (.compLoop (.ListComp elt [⟨tg,iter,ifs,0⟩] scope pos) 0 (.ref it) (.ref D) (compEnvC scope (clOf X.env.cells scope.names []) C X.env)) R s4:=by
 have stat:∀ {H':Hp},(∀ b∈fp,H' b=none)→∀ b∈fp,FpOk (qa3 X M scope C fp s2 H2) [] H' b:=fun {H'} hn b hb=>
  ⟨hn b hb,(I4.ok.exf b hb).1,I4.ok.exfs b hb,.inl hb,(I4.ok.exf b hb).2,by intro p hp;cases hp⟩
 refine codeAny_loop rfl (fun n s'=>∃ i H',Inv (qa3 X M scope C fp s2 H2) [] (capS ix σ) H' s'∧tn i s'.heap∧(∀ b∈fp,H' b=none)∧W i n H') ?_ m0 ⟨0,H4,I4,st4,fr4,w0⟩
 rintro n s5 ⟨i,H5,I5,st5,fr5,w5⟩
 show wpAny (model X.prog X.w) X.A ((compTurn (.ListComp elt [⟨tg,iter,ifs,0⟩] scope pos) 0 (.ref it) (.ref D) (compEnvC scope (clOf X.env.cells scope.names []) C X.env)).onRaise (fun x=>do noteFrame x (compEnvC scope (clOf X.env.cells scope.names []) C X.env);theTreesLotGoes x)) _ _ s5
 refine wpAny_noted ?_
 rw[compTurn_list]
 refine wpAny_bind (wpAny_standAt (wpAny_bind ?_))
 rcases turn i n H5 w5 with ⟨stop,qn⟩|⟨go,N,hN,step⟩
 ·refine thn (T.done (qa3 X M scope C fp s2 H2) rfl rfl rfl hc i [] s5 (capS ix σ) H5 _ I5 (stat fr5) st5 stop) fun r s6 ⟨hr,I6⟩=>?_
  subst hr
  exact wpAny_pure (fin H5 s6 I6 qn)
 ·refine thn (T.item (qa3 X M scope C fp s2 H2) rfl rfl rfl hc i [] s5 (capS ix σ) H5 _ I5 (stat fr5) st5 go) fun r s6 ⟨u,hr,h6⟩=>?_
  subst hr
  refine wpAny_bind (thn h6 fun _ s7 ⟨x,H7,I7,r7,y7,st7,fr7⟩=>?_)
  have I7':=I7.pinned (stat fr7) (T.obj _ _ st7)
  refine wpAny_bind (wpAny_mono (hg _ s7 (capS ix σ) H7 x u _ I7' r7 (step x H7 y7)) (fun _ s8 ⟨σ8,H8,I8,k8,q8⟩=>?_) fun _ _ z=>False.elim z)
  refine wpAny_bind (wpAny_mono (ht _ s8 σ8 H8 _ I8 q8) (fun ok s9 ⟨H9,I9,q9⟩=>?_) fun _ _ z=>False.elim z)
  have again:∀ {Ha:Hp}{sa:Shared},Inv (qa3 X M scope C fp s2 H2) ([]++qeb fp s7.heap) σ8 Ha sa→N Ha→∃ m,m<n∧∃ i H',Inv (qa3 X M scope C fp s2 H2) [] (capS ix σ) H' sa∧tn i sa.heap∧(∀ b∈fp,H' b=none)∧W i m H':=fun {Ha sa} Ia na=>by
   obtain ⟨m',hm,wa⟩:=hN Ha na
   refine ⟨m',hm,i+1,Ha,Ia.unpinned.weak k8.1.symm k8.2,T.keep _ _ _ st7 fun b hb o e=>(Ia.pin (b,o) (List.mem_append_right _ (List.mem_append_right _ (qca hb e)))).1,fun b hb=>?_,wa⟩
   obtain ⟨o,e,d⟩:=T.obj _ _ st7 b hb
   exact (Ia.pin (b,o) (List.mem_append_right _ (List.mem_append_right _ (qca hb e)))).2.1
  cases ok with
  | false=>exact wpAny_pure ⟨rfl,again I9 q9⟩
  | true=>
   refine wpAny_bind (wpAny_bind (wpAny_mono (he _ s9 σ8 H9 _ I9 q9) (fun xv s10 ⟨v,H10,I10,r10,ys,hD,hl,q10⟩=>?_) fun _ _ z=>False.elim z))
   refine wpAny_bind (wpAny_mono (ybq (X:=qa3 X M scope C fp s2 H2) _ s10 σ8 H10 (.ref D) [v] (.ref D) [xv] (fun _ H'=>N H') I10 rfl (.cons r10 .nil) ⟨D,ys,v,rfl,rfl,hD,hl,q10⟩) (fun _ s11 ⟨_,H11,I11,_,q11⟩=>?_) fun _ _ z=>False.elim z)
   exact wpAny_pure (wpAny_pure ⟨rfl,again I11 q11⟩)
theorem yfc {pins:List (Addr×Obj)}{σ:St}{H2:Hp}{s2:Shared}{fp:List Addr}{it:Addr}{tn:Nat→Heap→Prop}{J:It}{E:Value→Shared→Prop}{QD:Addr→Hp→Prop}{RR:Value→Addr→Result→Shared→Prop} (I2:Inv X pins σ H2 s2) (hc:X.calm=true)
  (ck:CompOk X.N M ix scope X.env.scope) (f2:∀ b∈fp,FpOk X pins H2 b) (T:Turn X.prog X.w X.K tg J fp it tn) (st2:tn 0 s2.heap)
  (hg:∀ C fp s2 H2,PG (qa3 X M scope C fp s2 H2) tg g) (ht:∀ C fp s2 H2,PTs (qa3 X M scope C fp s2 H2) ifs tt) (he:∀ C fp s2 H2,PE (qa3 X M scope C fp s2 H2) elt te)
  (rd:∀ D,H2 D=none→∃ W:Nat→Nat→Hp→Prop,(∃ m,W 0 m (upd H2 D (.lst [])))∧∀ i m H,W i m H→
   (J.stop i H∧QD D H)∨(J.go i H∧∃ N:Hp→Prop,(∀ H',N H'→∃ m',m' < m∧W (i+1) m' H')∧∀ x H',J.yld i H x H'→g x (capS ix σ) H' fun σ2 H2=>ya4 (capS ix σ) σ2∧tt σ2 H2 fun b H3=>
    if b=true then te σ2 H3 fun v H4=>∃ ys,H4 D=some (.lst ys)∧ys.length<sizeLine∧N (upd H4 D (.lst (ys++[v]))) else N H3))
  (fin:∀ D C H' s',QD D H'→(∃ m,s'.heap.Ns C m)→(∀ h2,Heap.SameBut C s'.heap h2→Inv X pins σ H' { s' with heap:=h2 })→FpOk X pins H' C→RR (.ref D) C (.ok .next) s') :
  wpAny (model X.prog X.w) X.A (newList []) (fun acc s3=>wpAny (model X.prog X.w) X.A (newFunctionEnv scope X.env.globals (clOf X.env.cells scope.names []) [] X.env.qual none .none (some X.env)) (fun cenv s4=>
   codeAny (model X.prog X.w) X.A (.compStart (.ListComp elt [⟨tg,iter,ifs,0⟩] scope pos) 0 (.ref it) acc { cenv with scope:=relabel scope X.env }) (RR acc cenv.locals) s4) E s3) E s2:=by
 have hfp:∀ b∈fp,b<s2.heap.objs.size:=fun b hb=>by obtain ⟨o,e,_⟩:=T.obj 0 _ st2 b hb;exact Heap.lt_size e
 refine wpAny_newObj_type (wpAny_newFunctionEnv ck.nocell (by intro y hy;simp at hy) (fun h1 hn1 hsb1=>?_) ck.kind)
 dsimp only at hn1 hsb1 ⊢
 generalize hP:s2.heap.push { cls:=.type "list",dict:=none,data:=.seq ([]:List Value).toArray }=hh at hn1 hsb1 ⊢
 have hCz:hh.objs.size=s2.heap.objs.size+1:=by rw[← hP,Heap.size_push]
 have hCD:hh.objs.size≠s2.heap.objs.size:=by omega
 have old:∀ b o,s2.heap.get? b=some o→h1.get? b=some o:=fun b o e=>by
  have hb:b<s2.heap.objs.size:=Heap.lt_size e
  exact hsb1.extBut b o (Nat.ne_of_lt (by rw[hCz];exact Nat.lt_succ_of_lt hb)) (Heap.get?_push_of_some _ (hP ▸ Heap.get?_push_of_some _ e))
 have hnew:h1.get? s2.heap.objs.size=some { cls:=.type "list",data:=.seq #[] }:=hsb1.extBut _ _ hCD.symm (Heap.get?_push_of_some _ (hP ▸ Heap.get?_push_size _ rfl))
 obtain ⟨W,⟨m0,w0⟩,turn⟩:=rd s2.heap.objs.size (I2.hok.fresh (Nat.le_refl _))
 have I4:=comp_inv (M:=M) (ix:=ix) (scope:=scope) (fp:=fp) (tk:=s2.toks+([]:List (Str×Value)).length) I2 ck (C:=hh.objs.size) (D:=s2.heap.objs.size) (by omega) (Nat.le_refl _) hCD f2 hfp old hn1 hnew
 have st4:tn 0 h1:=T.keep _ _ _ st2 fun b _ o e=>old b o e
 have fr4:∀ b∈fp,upd H2 s2.heap.objs.size (.lst []) b=none:=fun b hb=>by rw[yao (Nat.ne_of_lt (hfp b hb))];exact (f2 b hb).1
 have lp:codeAny (model X.prog X.w) X.A (.compLoop (.ListComp elt [⟨tg,iter,ifs,0⟩] scope pos) 0 (.ref it) (.ref s2.heap.objs.size) (compEnvC scope (clOf X.env.cells scope.names []) hh.objs.size X.env)) (RR (.ref s2.heap.objs.size) hh.objs.size) { s2 with heap:=h1,toks:=s2.toks+([]:List (Str×Value)).length }:=by
  refine ygk (QD:=QD s2.heap.objs.size) I2 hc f2 T (hg _ _ _ _) (ht _ _ _ _) (he _ _ _ _) I4 st4 fr4 W m0 w0 turn fun H' s' J' q'=>?_
  obtain ⟨m,hm,_⟩:=J'.loc
  exact fin _ _ H' s' q' ⟨m,hm⟩ (fun h2 sb=>qgo I2 J' f2 sb) (I2.fpOk (by omega) J'.free)
 exact codeAny_compStart_list lp (T.self _ 0 _ _ _ st4 lp)
theorem yax (hc:X.calm=true) (ck:CompOk X.N M ix scope X.env.scope) (hi:PI X tg iter wi) (hg:∀ C fp s2 H2,PG (qa3 X M scope C fp s2 H2) tg g) (ht:∀ C fp s2 H2,PTs (qa3 X M scope C fp s2 H2) ifs tt) (he:∀ C fp s2 H2,PE (qa3 X M scope C fp s2 H2) elt te)
  (hs:∀ x,foldedSetIterable iter X.env x=pure x:=by intro _;rfl):PE X (.ListComp elt [⟨tg,iter,ifs,0⟩] scope pos) (qfz wi ix g tt te):=by
 intro pins s σ H Q I h
 have hfree:∀ x∈scope.names,x.2=.free→∃ c,X.env.cells.lookup x.1=some c:=fun x hx e=>I.ok.has x.1 (ck.fr x hx e)
 rw[eval_ListComp]
 refine wpAny_comprehension_free (use:=none) (cl:=clOf X.env.cells scope.names []) rfl hs (ydd hfree) ck.kind ck.loc (thn (hi pins s σ H _ I h) fun v s1 h1=>thn h1 fun itv s2 h2=>?_)
 obtain ⟨it,fp,tn,J,H2,e,I2,T,st2,f2,rd⟩:=h2
 subst e
 refine yfc (QD:=fun D H'=>Q (.ref D) H') I2 hc ck f2 T st2 hg ht he rd fun D C H' s' q hm hb _=>?_
 obtain ⟨m,hm⟩:=hm
 exact ⟨m,hm,fun h2 sb=>⟨.ref D,H',hb h2 sb,rfl,q⟩⟩
end
def FnAt (K:PySem.W.Frag) (mg:Str→Option Value) (x:Str) (st:Stmt) (ps:List Str):Prop:=∃ f fd,mg x=some (.ref f)∧Fun K x x st f fd∧qen K fd ps []
def Has (P:Program) (w:World) (K:PySem.W.Frag) (mg:Str→Option Value) (base:Heap) (k:Nat) (x:Str) (ps:List Str) (sp:Sp):Prop:=
 ∃ f fd,mg x=some (.ref f)∧PySem.W.keepIn K (.ref f)=true∧qen K fd ps []∧FnOk P w K mg base CX0 k f fd ps sp
section
variable {P:Program}{w:World}{K:PySem.W.Frag}{mg:Str→Option Value}{base:Heap}
theorem Has.of {x:Str}{st:Stmt}{ps N:List Str}{k:Nat}{sp:Sp} (F:FnAt K mg x st ps) (S:FnScope N ps (yae st)) (len:∀ vs H Q E,sp vs H Q E→vs.length=ps.length)
  (hbody:∀ (f:Addr) (cdv:Value) (A:Around) (outer:List Env) (s:Shared) (H:Hp) (vs:List V) (Q:VK) (E:XK),Room k (A.deeper (envOfC x (yae st) s.heap.objs.size f cdv))→sp vs H Q E→
   ∃ t,PSs (cxOf CX0 P w K mg base N x (yae st) f cdv A outer s H E).nox (ya5 st) t∧t { nx:=fun _ H'=>Q .non H',rt:=Q } (yc5 N vs) H):Has P w K mg base (k+1) x ps sp:=by
 obtain ⟨f,fd,h1,h2,h3⟩:=F
 exact ⟨f,fd,h1,h2.kp,h3,h2.ok S len fun cdv A outer s H vs Q E hr h=>hbody f cdv A outer s H vs Q E hr h⟩
theorem Has.imp {x:Str}{ps:List Str}{k:Nat}{sp sp':Sp} (h:Has P w K mg base k x ps sp) (i:∀ vs H Q E,sp' vs H Q E→sp vs H Q E):Has P w K mg base k x ps sp':=by
 obtain ⟨f,fd,h1,h2,h3,h4⟩:=h
 exact ⟨f,fd,h1,h2,h3,h4.imp i⟩
end
section
variable {X:Cx}
theorem qay {k m:Nat}{x:Str}{ps:List Str}{sp:Sp}{e:Expr}{es:List Expr}{t:TA}{p pos:Pos} (h:Has X.prog X.w X.K X.mg X.base k x ps sp) (hr:Room m X.A) (ha:PA X (e::es) t) (hk:k≤m:=by decide) (hg:Gl X x:=by rfl)
  (hdb:(x == ("__debug__" : Str))=false:=by decide) (he:starEach (e::es) X.env=(false,eval e X.env)::starEach es X.env:=by rfl) (hpl:(backTo pos (starEach es X.env)).any (·.1)=false:=by rfl) :
  PE X (.Call (.Name x p) (e::es) [] pos) (qel sp [] E0 t):=by
 obtain ⟨f,fd,h1,h2,h3,h4⟩:=h
 exact pe_call h4 (hr.mono hk) hg h1 h2 h3 .nil pass0 ha hdb he hpl
end
def yem:List Str:=["len","abs","max","min","repr","isinstance","int","bool","str","tuple","list","dict","range","enumerate","sorted","sum"]
structure Bl (mg:Str→Option Value):Prop where
 all:∀ x∈yem,mg x=none
theorem Bl.of {mg:Str→Option Value} (B:Bl mg) {x:Str} (h:yem.contains x=true):mg x=none:=B.all x (by simpa using h)
section
variable {X:Cx}
def rIsi (K:PySem.W.Frag):List V→Hp→VK→Prop:=fun xs H Q=>∃ x T t b,xs=[x,.ty T]∧TyOf K H x t∧PySem.W.kitOne K t (.type T)=some b∧Q (.bl b) H
theorem ya0:yb5 X (.builtin "isinstance") (rIsi X.K):=by
 intro pins s σ H xs us Q I r h
 obtain ⟨x,T,t,b,rfl,ht,hk,q⟩:=h
 cases r with
 | cons r rr=>
  cases rr with
  | cons r' rr=>
   cases rr
   cases r'
   exact ygm I r ht hk fun tk=>⟨.bl b,H,I.tok _,rfl,q⟩
end
def tCut (t u:TS):TS:=fun D σ H=>∃ R:St→Hp→Prop,t { D with nx:=R } σ H∧∀ σ' H',R σ' H'→u D σ' H'
theorem pss_cut {X:Cx}{st:Stmt}{rest:List Stmt}{t u:TS} (h1:PS X st t) (h2:PSs X rest u):PSs X (st::rest) (tCut t u):=by
 intro pins s σ H D I h
 obtain ⟨R,h,hR⟩:=h
 refine wpAny_execs_cons (thn (h1 pins s σ H { D with nx:=R } I h) fun f s1 q=>?_)
 cases f with
 | next=>
  obtain ⟨σ',H',I',q⟩:=q
  exact h2 pins s1 σ' H' D I' (hR σ' H' q)
 | ret v=>exact q
 | brk=>exact q
 | cont=>exact q
def tMid (t:TE):TE:=fun σ H Q=>∃ R:VK,t σ H R∧∀ v H',R v H'→Q v H'
theorem pe_mid {X:Cx}{e:Expr}{t:TE} (h:PE X e t):PE X e (tMid t):=by
 intro pins s σ H Q I hw
 obtain ⟨R,h1,h2⟩:=hw
 exact thn (h pins s σ H R I h1) fun u s1 ⟨v,H1,I1,r,q⟩=>⟨v,H1,I1,r,h2 v H1 q⟩
theorem Same.upd {H H1:Hp}{p:Addr}{o:HO} (s:Same H H1) (h:H1 p=none):Same H (upd H1 p o):=fun b u e=>by
 have e1:=s b u e
 rw[yao (qai e1 h)];exact e1
theorem Same.at {H H1:Hp}{p:Addr}{o:HO} (s:Same H H1) (h:H p=none):Same H (L2.upd H1 p o):=fun b u e=>by
 rw[yao (qai e h)];exact s b u e
theorem At.tupEq {H:Hp}{v:V}{ds:List PyData} (h:At H v (.tuple ds)):∃ a vs,v=.ref a∧H a=some (.tup vs)∧AtAll H vs ds:=by
 cases h with
 | tup e t=>exact ⟨_,_,rfl,e,t⟩
theorem At.lstEq {H:Hp}{v:V}{ds:List PyData} (h:At H v (.list ds)):∃ a vs,v=.ref a∧H a=some (.lst vs)∧AtAll H vs ds:=by
 cases h with
 | lst e t=>exact ⟨_,_,rfl,e,t⟩
theorem At.strEq {H:Hp}{v:V}{x:Str} (h:At H v (.str x)):v=.str x:=by cases h;rfl
theorem At.intEq {H:Hp}{v:V}{x:Int} (h:At H v (.int x)):v=.int x:=by cases h;rfl
def yau (H:Hp) (L:List Addr):Hp:=fun b=>if b∈L then none else H b
theorem qae (H:Hp) (L:List Addr):Same (yau H L) H:=fun b o e=>by
 unfold yau at e
 split at e
 ·cases e
 ·exact e
theorem qa2 {H:Hp}{L:List Addr}{b:Addr} (h:b∉L):yau H L b=H b:=by unfold yau;rw[if_neg h]
theorem yaz {H H':Hp} (s:Same H H') (L:List Addr):Same (yau H L) (yau H' L):=fun b o e=>by
 unfold yau at e ⊢
 split at e
 ·cases e
 ·rename_i h;rw[if_neg h];exact s b o e
theorem yfr {H:Hp}{L L':List Addr} (h:∀ b∈L,b∈L'):Same (yau H L') (yau H L):=fun b o e=>by
 unfold yau at e ⊢
 split at e
 ·cases e
 ·rename_i hn;rw[if_neg fun z=>hn (h b z)];exact e
theorem ygl {H:Hp}{L:List Addr}{p:Addr}{o:HO} (h:p∈L):yau (upd H p o) L=yau H L:=by
 funext b
 unfold yau
 by_cases hb:b∈L
 ·rw[if_pos hb,if_pos hb]
 ·rw[if_neg hb,if_neg hb,yao]
  rintro rfl
  exact hb h
def Bld (L:List Addr) (H:Hp) (l:Addr) (ds:List PyData):Prop:=∃ us,H l=some (.lst us)∧AtAll (yau H (l::L)) us ds
theorem Bld.new {L:List Addr}{H:Hp}{l:Addr}:Bld L (upd H l (.lst [])) l []:=⟨[],qac,.nil⟩
theorem Bld.grow {L:List Addr}{H H':Hp}{l:Addr}{ds:List PyData} (b:Bld L H l ds) (s:Same H H'):Bld L H' l ds:=by
 obtain ⟨us,h1,h2⟩:=b
 exact ⟨us,s _ _ h1,h2.same (yaz s _)⟩
theorem Bld.push {L:List Addr}{H:Hp}{l:Addr}{ds:List PyData}{us:List V}{v:V}{d:PyData} (b:Bld L H l ds) (hu:H l=some (.lst us)) (h:At (yau H (l::L)) v d):Bld L (upd H l (.lst (us++[v]))) l (ds++[d]):=by
 obtain ⟨us',h1,h2⟩:=b
 rw[hu] at h1;cases h1
 refine ⟨_,qac,?_⟩
 rw[ygl List.mem_cons_self]
 exact h2.snoc h
theorem Bld.len {L:List Addr}{H:Hp}{l:Addr}{ds:List PyData}{us:List V} (b:Bld L H l ds) (hu:H l=some (.lst us)):us.length=ds.length:=by
 obtain ⟨us',h1,h2⟩:=b
 rw[hu] at h1;cases h1
 exact h2.length
theorem Bld.at {L:List Addr}{H:Hp}{l:Addr}{ds:List PyData} (b:Bld L H l ds) (h:l∉L):At (yau H L) (.ref l) (.list ds):=by
 obtain ⟨us,h1,h2⟩:=b
 exact .lst (by rw[qa2 h];exact h1) (h2.same (yfr fun b hb=>List.mem_cons_of_mem _ hb))
theorem Bld.out {H:Hp}{l:Addr}{ds:List PyData} (b:Bld [] H l ds):At H (.ref l) (.list ds):=(b.at (by simp)).same (qae _ _)
theorem qgc {n:Nat} (h:n≤100000):n≤sizeLine:=Nat.le_trans h (by decide)
theorem qcb {n:Nat} (h:n≤100000):n<sizeLine:=Nat.lt_of_le_of_lt h (by decide)
theorem qad {α:Type}{xs:List α}{i:Int}{v:α} (j:Nat) (h:xs[j]?=some v) (e:i=(j:Int):=by rfl):atI xs i=some v:=by
 rw[e];exact qbv h
theorem atI_int {α:Type}{xs:List α}{i:Int}{v:α} (h0:0≤i) (h:xs[i.toNat]?=some v):atI xs i=some v:=by
 have e:((i.toNat:Nat):Int)=i:=Int.toNat_of_nonneg h0
 rw[← e];exact qbv h
theorem ybs {J:It}{n:Nat}{g:TG}{tt:TT}{te:TE}{ix:List (Option Nat)}{σ:St}{H:Hp}{QD:Hp→Prop}{D:Addr} (Pv:Nat→Hp→Prop) (h0:Pv 0 (upd H D (.lst []))) (stop:∀ H',Pv n H'→J.stop n H'∧QD H')
  (step:∀ i H',i<n→Pv i H'→J.go i H'∧∀ x H2,J.yld i H' x H2→g x (capS ix σ) H2 fun σ2 H3=>ya4 (capS ix σ) σ2∧tt σ2 H3 fun b H4=>
   if b=true then te σ2 H4 fun v H5=>∃ ys,H5 D=some (.lst ys)∧ys.length<sizeLine∧Pv (i+1) (upd H5 D (.lst (ys++[v]))) else Pv (i+1) H4) :
  ∃ W:Nat→Nat→Hp→Prop,(∃ m,W 0 m (upd H D (.lst [])))∧∀ i m H,W i m H→
   (J.stop i H∧QD H)∨(J.go i H∧∃ N:Hp→Prop,(∀ H',N H'→∃ m',m' < m∧W (i+1) m' H')∧∀ x H',J.yld i H x H'→g x (capS ix σ) H' fun σ2 H2=>ya4 (capS ix σ) σ2∧tt σ2 H2 fun b H3=>
    if b=true then te σ2 H3 fun v H4=>∃ ys,H4 D=some (.lst ys)∧ys.length<sizeLine∧N (upd H4 D (.lst (ys++[v]))) else N H3):=by
 refine ⟨fun i m H=>m=n-i∧i≤n∧Pv i H,⟨n,by simp,Nat.zero_le _,h0⟩,?_⟩
 rintro i m H ⟨rfl,hi,p⟩
 by_cases hlt:i<n
 ·obtain ⟨g1,g2⟩:=step i H hlt p
  exact .inr ⟨g1,Pv (i+1),fun H' p'=>⟨n-(i+1),by omega,rfl,hlt,p'⟩,g2⟩
 ·have e:i=n:=by omega
  subst e
  exact .inl (stop H p)
theorem qds {xs:List V} (k:Nat):cutV xs none (some (k:Int))=xs.take k:=by
 unfold cutV
 rw[HT.sIx_none,HT.sIx_nat,List.drop_zero,Nat.sub_zero]
 by_cases h:k≤xs.length
 ·rw[Nat.min_eq_left h]
 ·rw[Nat.min_eq_right (by omega),List.take_length,List.take_of_length_le (by omega)]
theorem yew {xs:List V} (k:Nat):cutV xs (some (k:Int)) none=xs.drop k:=by
 unfold cutV
 rw[HT.sIx_none,HT.sIx_nat]
 by_cases h:k≤xs.length
 ·rw[Nat.min_eq_left h]
  exact List.take_of_length_le (by rw[List.length_drop];exact Nat.le_refl _)
 ·rw[Nat.min_eq_right (by omega),List.drop_eq_nil_of_le (show xs.length≤k by omega),List.drop_length];simp
theorem yes {σ:St}{H:Hp}{A B:Hp→Prop} (h:A H):tYes σ H fun b H'=>if b=true then A H' else B H':=iteT (B:=B H) h
section
variable {X:Cx}{K:PySem.W.Frag}
theorem yat (h:X.K=K):IxR X (rIxT K):=h ▸ qak
end
def rEqD:R2:=fun x y H Q=>∃ dx dy,At H x dx∧At H y dy∧dx.canLay0=true∧dy.canLay0=true∧dx.depth≤60∧Q (.bl (PyData.eqv dx dy)) H
def rNeD:R2:=fun x y H Q=>∃ dx dy,At H x dx∧At H y dy∧dx.canLay0=true∧dy.canLay0=true∧dx.depth≤60∧Q (.bl (!PyData.eqv dx dy)) H
section
variable {X:Cx}
theorem op_eqD {k:Nat} (hr:Room k X.A):OpR X (compareOp .Eq) rEqD:=by
 intro pins s σ H x y v u Q I rx ry h
 obtain ⟨dx,dy,h1,h2,c1,c2,hd,q⟩:=h
 obtain ⟨as,r1⟩:=h1.reads I.hok rx
 obtain ⟨bs,r2⟩:=h2.reads I.hok ry
 have hu:=hr.units
 exact PySem.SeqAt.rcAt_reads r1 r2 c1 c2 (by have:=Nat.min_le_left dx.depth dy.depth;omega) _ _ _ _ ⟨.bl _,H,I,rfl,q⟩
theorem op_neD {k:Nat} (hr:Room k X.A):OpR X (compareOp .NotEq) rNeD:=by
 intro pins s σ H x y v u Q I rx ry h
 obtain ⟨dx,dy,h1,h2,c1,c2,hd,q⟩:=h
 obtain ⟨as,r1⟩:=h1.reads I.hok rx
 obtain ⟨bs,r2⟩:=h2.reads I.hok ry
 have hu:=hr.units
 exact PySem.SeqAt.rcNeAt_reads r1 r2 c1 c2 (by have:=Nat.min_le_left dx.depth dy.depth;omega) _ _ _ _ ⟨.bl _,H,I,rfl,q⟩
end
theorem qcg {n:Nat}:∀ {xs:List PyData},(∀ x∈xs,x.depth≤n)→PyData.depthAll xs≤n
 | [],_=>by simp[PyData.depthAll]
 | x::xs,h=>by
  have h1:=h x List.mem_cons_self
  have h2:=qcg (xs:=xs) fun y hy=>h y (List.mem_cons_of_mem _ hy)
  simp only[PyData.depthAll]
  omega
theorem yco {n:Nat}:∀ {xs:List PyData},(∀ x∈xs,x.bulk≤n)→PyData.bulkAll xs≤(n+1)*xs.length
 | [],_=>by simp[PyData.bulkAll]
 | x::xs,h=>by
  have h1:=h x List.mem_cons_self
  have h2:=yco (xs:=xs) fun y hy=>h y (List.mem_cons_of_mem _ hy)
  simp only[PyData.bulkAll,List.length_cons,Nat.mul_add]
  omega
theorem qcd {B:Nat}:∀ {xs:List PyData},(∀ x∈xs,x.leavesShort B=true)→PyData.leavesShortAll B xs=true
 | [],_=>by simp[PyData.leavesShortAll]
 | x::xs,h=>by
  simp only[PyData.leavesShortAll,h x List.mem_cons_self,qcd (xs:=xs) fun y hy=>h y (List.mem_cons_of_mem _ hy),Bool.and_self]
theorem Vals.bls:∀ {bs:List Bool}{us:List Value},Vals (bs.map V.bl) us→us=bs.map Value.bool
 | [],_,.nil=>rfl
 | b::bs,_,.cons r t=>by
  have e:=Vals.bls t
  cases r
  rw[e]
  rfl
end L2
namespace Mx
open PySem L2 PyProof.Rows
section
variable {X:Cx}{es:List Expr}{te:TE}{t:TA}{pos:Pos}
theorem qf4 {k:Const}{j} (ha:PE X (.Constant k j pos) te) (hr:PA X es t):PA X (.Constant k j pos::es) (qbj te t):=yad ha hr rfl
theorem yc8 {x:Str} (ha:PE X (.Name x pos) te) (hr:PA X es t):PA X (.Name x pos::es) (qbj te t):=yad ha hr rfl
theorem pa_cl {f xs ks} (ha:PE X (.Call f xs ks pos) te) (hr:PA X es t):PA X (.Call f xs ks pos::es) (qbj te t):=yad ha hr rfl
end
structure QS (X:Cx) (st:Stmt) (t:TS):Prop where
 of:PS X st t
structure QSs (X:Cx) (ss:List Stmt) (t:TS):Prop where
 of:PSs X ss t
section
variable {X:Cx}{st:Stmt}{rest a b:List Stmt}{t u:TS}{pos:Pos}{e:Expr}{te:TE}
theorem yan:QSs X [] tNext:=⟨pss_nil⟩
theorem qaf (h:QS X st t):QSs X [st] t:=⟨ydb h.of⟩
theorem yac (h:QS X st t) (r:QSs X rest u):QSs X (st::rest) (tSeq t u):=⟨qbl h.of r.of⟩
theorem qcr (h:QS X st t) (r:QSs X rest u):QSs X (st::rest) (tCut t u):=⟨pss_cut h.of r.of⟩
theorem qs_of (h:PS X st t):QS X st t:=⟨h⟩
end
end Mx
namespace L2
open PySem PySem.Spec PyProof.Rows
theorem qd3:bootBuiltins "sorted" = some (.builtin "sorted"):=by decide +kernel
theorem qfo:bootBuiltins "all" = some (.builtin "all"):=by decide +kernel
section
variable {X:Cx}
def rAllB:List V→Hp→VK→Prop:=fun xs H Q=>∃ (l:Addr) (bs:List Bool),xs=[.ref l]∧H l=some (.lst (bs.map V.bl))∧Q (.bl (bs.all id)) H
theorem yfj (bs:List Bool):(List.range bs.length).all (fun i=>bs.getD i false)=bs.all id:=by
 rw[Bool.eq_iff_iff,List.all_eq_true,List.all_eq_true]
 constructor
 ·intro h b hb
  obtain ⟨i,hi,e⟩:=List.getElem_of_mem hb
  have:=h i (List.mem_range.mpr hi)
  rw[List.getD_eq_getElem?_getD,List.getElem?_eq_getElem hi] at this
  rw[← e];exact this
 ·intro h i hi
  have hi':=List.mem_range.mp hi
  rw[List.getD_eq_getElem?_getD,List.getElem?_eq_getElem hi']
  exact h _ (List.getElem_mem hi')
theorem truth_bs {P:Program}{w:World}{A:Around} (bs:List Bool):TruthOf P w A (fun i v=>(bs.map Value.bool).toArray[i]?=some v) (fun i=>bs.getD i false):=by
 intro i v s Q E hP hQ
 have hP':(bs.map Value.bool)[i]?=some v:=by simpa using hP
 rw[List.getElem?_map] at hP'
 cases e:bs[i]? with
 | none=>rw[e] at hP';cases hP'
 | some b=>
  rw[e] at hP'
  cases hP'
  have hQ':Q (bs.getD i false) s:=hQ
  rw[List.getD_eq_getElem?_getD,e] at hQ'
  exact wpAny_truthy_bool hQ'
theorem yfp (hc:X.calm=true):yb5 X (.builtin "all") rAllB:=by
 intro pins s σ H xs us Q I r h
 obtain ⟨l,bs,rfl,hH,q⟩:=h
 cases r with
 | cons r rr=>
  cases rr
  cases r
  obtain ⟨z,its,n,rv,hl,e⟩:=I.lstM hH
  have hi:=rv.bls
  subst hi
  have hlt:l<s.heap.objs.size:=Heap.lt_size e
  refine call_all_walk (wpAny_pyIter_list (items:=(bs.map Value.bool).toArray) ⟨_,e,rfl,n,rfl⟩ ⟨_,_,_,_,_,_,_,rfl,Walks.list (by simpa using I.ok.hd hc) s.heap.objs.size l (Nat.ne_of_lt hlt) (bs.map Value.bool).toArray,⟨⟨_,Heap.get?_push_size _ rfl,rfl,rfl⟩,⟨_,Heap.get?_push_of_some _ e,rfl,n,rfl⟩⟩,truth_bs bs,fun h' tk hk=>?_⟩)
  rw[List.size_toArray,List.length_map,yfj]
  refine ⟨.bl (bs.all id),H,I.kept fun b o g=>hk b o ?_ (Heap.get?_push_of_some _ g),rfl,q⟩
  intro hb
  rw[List.mem_singleton] at hb
  exact absurd (Heap.lt_size g) (by rw[hb];exact Nat.lt_irrefl _)
end
section
variable {X:Cx}{a b:Expr}{ta tb:TE}{pos:Pos}
def rCatS (K:PySem.W.Frag):R2:=fun x y H Q=>∃ l b xs zs,x=.ref l∧y=.ref b∧SqL K H l xs∧SqL K H b zs∧xs.length+zs.length≤sizeLine∧∀ p,H p=none→Q (.ref p) (upd H p (.lst (xs++zs)))
theorem yge:OpR X (binaryOp .Add) (rCatS X.K):=by
 intro pins s σ H x y v u Q I rx ry h
 obtain ⟨l,b,xs,zs,rfl,rfl,hH,hB,hz,q⟩:=h
 cases rx
 cases ry
 obtain ⟨vs,r,pl,_⟩:=I.list hH
 obtain ⟨ws,r2,pl2,_⟩:=I.list hB
 obtain ⟨⟨cls,dd,data,sl⟩,ho,hc,n,hd⟩:=pl.isList
 obtain ⟨⟨cls2,dd2,data2,sl2⟩,ho2,hc2,n2,hd2⟩:=pl2.isList
 simp only at hc hd hc2 hd2
 subst hc hd hc2 hd2
 have l1:=r.length
 have l2:=r2.length
 refine concat_meets ⟨_,ho,rfl⟩ ⟨_,ho2,rfl⟩ noFill_list_add seq_list_add PySem.F.slot_list_add PySem.F.entry_list_add (PySem.F.args_list_add_2 _ _) (list_addW l b vs.toArray ws.toArray n n2 dd dd2 sl sl2 (by simp;omega)) ⟨ho,ho2,?_⟩
 have ea:vs.toArray++ws.toArray=(vs++ws).toArray:=by simp
 rw[ea]
 exact ⟨.ref _,_,I.lnew (t':=s.toks) (r.append r2) (by rw[List.length_append];omega),rfl,q _ I.fresh⟩
end
section
variable {κ:Type} [DecidableEq κ]
def valV (kvs:List (κ×V)) (k:κ):Option V:=(kvs.find? fun kv=>decide (kv.1=k)).map (·.2)
def putK (kvs:List (κ×V)) (k:κ) (v:V):List (κ×V):=
 if (kvs.any fun kv=>decide (kv.1=k))=true then kvs.map (fun kv=>if kv.1=k then (kv.1,v) else kv) else kvs++[(k,v)]
theorem yer {p:κ×V}{r:List (κ×V)}{k:κ} (e:p.1=k):valV (p::r) k=some p.2:=by simp[valV,List.find?_cons,e]
theorem qe5 {p:κ×V}{r:List (κ×V)}{k:κ} (e:¬ p.1=k):valV (p::r) k=valV r k:=by simp[valV,List.find?_cons,e]
theorem yex (k:κ):∀ kvs:List (κ×V),(kvs.any fun kv=>decide (kv.1=k))=(valV kvs k).isSome
 | []=>rfl
 | p::r=>by
  rw[List.any_cons]
  by_cases e:p.1=k
  ·simp only[yer e,decide_eq_true e,Bool.true_or,Option.isSome_some]
  ·rw[qe5 e,decide_eq_false e,Bool.false_or];exact yex k r
theorem yc3 (kvs:List (κ×V)) (k:κ) (v:V):(putK kvs k v).length≤kvs.length+1:=by
 unfold putK
 split
 ·rw[List.length_map];omega
 ·rw[List.length_append,List.length_cons,List.length_nil];omega
theorem RelO.isSome_eq {o:Option V}{u:Option Value} (r:RelO o u):o.isSome=u.isSome:=by
 cases o with
 | none=>cases u with
  | none=>rfl
  | some _=>exact (show False from r).elim
 | some _=>cases u with
  | none=>exact (show False from r).elim
  | some _=>rfl
theorem KV.any {kvs:List (κ×V)}{vs:List (κ×Value)} (r:KV kvs vs) (k:κ):(kvs.any fun kv=>decide (kv.1=k))=vs.any fun kv=>decide (kv.1=k):=by
 unfold KV at r
 induction r with
 | nil=>rfl
 | cons h t ih=>rw[List.any_cons,List.any_cons,ih,h.1]
theorem KV.repl {kvs:List (κ×V)}{vs:List (κ×Value)} (r:KV kvs vs) (k:κ) {y:V}{u:Value} (ry:RelV y u) :
  KV (kvs.map fun kv=>if kv.1=k then (kv.1,y) else kv) (vs.map fun kv=>if kv.1=k then (kv.1,u) else kv):=by
 unfold KV at r ⊢
 induction r with
 | nil=>exact .nil
 | @cons p q ps qs h t ih=>
  rw[List.map_cons,List.map_cons]
  refine .cons ?_ ih
  obtain ⟨h1,h2⟩:=h
  by_cases e:p.1=k
  ·rw[if_pos e,if_pos (h1.symm.trans e)];exact ⟨h1,ry⟩
  ·rw[if_neg e,if_neg (fun z=>e (h1.trans z))];exact ⟨h1,h2⟩
theorem KV.put {kvs:List (κ×V)}{vs:List (κ×Value)} (r:KV kvs vs) (k:κ) {y:V}{u:Value} (ry:RelV y u):KV (putK kvs k y) (stored vs k u):=by
 unfold putK stored
 rw[r.any k]
 by_cases e:(vs.any fun kv=>decide (kv.1=k))=true
 ·rw[if_pos e,if_pos e];exact r.repl k ry
 ·rw[if_neg e,if_neg e];exact Paired.snoc r ⟨rfl,ry⟩
theorem KV.length {kvs:List (κ×V)}{vs:List (κ×Value)} (r:KV kvs vs):kvs.length=vs.length:=Paired.length r
end
theorem kV_is {P:Program}{w:World}{k:Key}{u:Value} (r:RelV (kV k) u):(ya7 P w).is k u=true:=by
 cases k with
 | inl i=>obtain ⟨t,e⟩:=(show ∃ t,u=Value.int i t from r);subst e;exact yen P w i t
 | inr x=>obtain ⟨t,e⟩:=(show ∃ t,u=Value.str x t from r);subst e;exact yej P w x t
theorem yd4 {P:Program}{w:World}:∀ {ks:List Key}{us:List Value},Vals (ks.map kV) us→ItemsAre (ya7 P w) ks us
 | [],_,r=>by rw[List.map_nil] at r;cases r;exact .nil
 | k::ks,_,r=>by
  rw[List.map_cons] at r
  cases r with
  | cons h t=>exact .cons (kV_is h) (yd4 t)
abbrev KT (H:Hp):List (List Key×V)→List (List Key×Addr×Value)→Prop:=Paired fun p q=>p.1=q.1∧H q.2.1=some (.tup (p.1.map kV))∧RelV p.2 q.2.2
theorem KT.val {H:Hp}{kvs:List (List Key×V)}{xs:List (List Key×Addr×Value)} (r:KT H kvs xs) (k:List Key):RelO (valV kvs k) ((atKey xs k).map (·.2)):=by
 induction r with
 | nil=>exact True.intro
 | @cons p q ps qs h t ih=>
  obtain ⟨h1,_,h2⟩:=h
  by_cases e:p.1=k
  ·have e':q.1=k:=h1.symm.trans e
   have b:atKey (q::qs) k=some q.2:=by simp[atKey,List.find?_cons,e']
   rw[yer e,b];exact h2
  ·have e':¬ q.1=k:=fun z=>e (h1.trans z)
   have b:atKey (q::qs) k=atKey qs k:=by simp[atKey,List.find?_cons,e']
   rw[qe5 e,b];exact ih
theorem KT.repl {H:Hp}{kvs:List (List Key×V)}{xs:List (List Key×Addr×Value)} (r:KT H kvs xs) (k:List Key) {y:V}{u:Value} (ry:RelV y u) :
  KT H (kvs.map fun kv=>if kv.1=k then (kv.1,y) else kv) (xs.map (putAt k u)):=by
 induction r with
 | nil=>exact .nil
 | @cons p q ps qs h t ih=>
  rw[List.map_cons,List.map_cons]
  refine .cons ?_ ih
  obtain ⟨h1,h2,h3⟩:=h
  unfold putAt
  by_cases e:p.1=k
  ·rw[if_pos e,if_pos (h1.symm.trans e)];exact ⟨h1,h2,ry⟩
  ·rw[if_neg e,if_neg (fun z=>e (h1.trans z))];exact ⟨h1,h2,h3⟩
theorem KT.put {H:Hp}{kvs:List (List Key×V)}{xs:List (List Key×Addr×Value)} (r:KT H kvs xs) (k:List Key) {b:Addr}{y:V}{u:Value} (hb:H b=some (.tup (k.map kV))) (ry:RelV y u) :
  KT H (putK kvs k y) (storedH xs k b u):=by
 have e:(kvs.any fun kv=>decide (kv.1=k))=(atKey xs k).isSome:=by
  rw[yex,(r.val k).isSome_eq,Option.isSome_map]
 unfold putK storedH
 rw[e]
 by_cases q:(atKey xs k).isSome=true
 ·rw[if_pos q,if_pos q];exact r.repl k ry
 ·rw[if_neg q,if_neg q];exact Paired.snoc r ⟨rfl,hb,ry⟩
theorem KT.keeps {H H':Hp}{kvs:List (List Key×V)}{xs:List (List Key×Addr×Value)} (r:KT H kvs xs) (ht:∀ b ys,H b=some (.tup ys)→H' b=some (.tup ys)):KT H' kvs xs:=
 Paired.mapP r fun _ _ z=>⟨z.1,ht _ _ z.2.1,z.2.2⟩
section
variable {P:Program}{w:World}{H:Hp}{h:Heap}{a:Addr}
theorem rd_of {u:HO} (ok:HOk P w H h) (e:Rd H a u):ya2 P w H h a u:=e.ok ok
theorem dk_rd {kvs:List (Key×V)} (ok:HOk P w H h) (e:Rd H a (.dK kvs)):kvs.length≤sizeLine∧(a == sysModules)=false∧∃ vs,KV kvs vs∧h.DictOf (ya7 P w) a vs:=
 show ya2 P w H h a (.dK kvs) from rd_of ok e
theorem dk_of {kvs:List (Key×V)} (ok:HOk P w H h) (e:H a=some (.dK kvs)):kvs.length≤sizeLine∧(a == sysModules)=false∧∃ vs,KV kvs vs∧h.DictOf (ya7 P w) a vs:=dk_rd ok (.inl e)
theorem key_of {ks:List Key} (ok:HOk P w H h) (e:H a=some (.tup (ks.map kV))):(tupleKind (ya7 P w)).is h ks a:=by
 obtain ⟨_,its,r,o,h1,h2,n,h3⟩:=(show ya2 P w H h a (.tup (ks.map kV)) from ok a _ e)
 exact ⟨o,its.toArray,n,h1,h2,h3,by simpa using yd4 r⟩
theorem dt_rd {kvs:List (List Key×V)} (ok:HOk P w H h) (e:Rd H a (.dT kvs)):kvs.length≤sizeLine∧(a == sysModules)=false∧
  ∃ xs,KT H kvs xs∧h.DictOfH (tupleKind (ya7 P w)) a xs:=by
 obtain ⟨z,y,xs,r,o,es,ep,h1,h2,h3,h4,h5⟩:=(show ya2 P w H h a (.dT kvs) from rd_of ok e)
 refine ⟨z,y,xs,r,o,es,ep,h1,h2,h3,h4,fun x hx=>?_,h5⟩
 have all:∀ {l:List (List Key×V)}{m:List (List Key×Addr×Value)},KT H l m→∀ x∈m,(tupleKind (ya7 P w)).is h x.1 x.2.1:=by
  intro l m q
  induction q with
  | nil=>intro x hx;exact nomatch hx
  | @cons p q ps qs hq t ih=>
   intro x hx
   rcases List.mem_cons.mp hx with e|hx
   ·subst e
    exact key_of ok (by rw[← hq.1];exact hq.2.1)
   ·exact ih x hx
 exact all r x hx
theorem dt_of {kvs:List (List Key×V)} (ok:HOk P w H h) (e:H a=some (.dT kvs)):kvs.length≤sizeLine∧(a == sysModules)=false∧
  ∃ xs,KT H kvs xs∧h.DictOfH (tupleKind (ya7 P w)) a xs:=dt_rd ok (.inl e)
end
def DPut (H:Hp) (a:Addr) (y v:V) (H':Hp):Prop:=
 (∃ kvs k,H a=some (.dK kvs)∧y=kV k∧kvs.length<sizeLine∧H'=upd H a (.dK (putK kvs k v)))∨
 ∃ kvs k b,H a=some (.dT kvs)∧y=.ref b∧H b=some (.tup (k.map kV))∧kvs.length<sizeLine∧H'=upd H a (.dT (putK kvs k v))
theorem DPut.t {H:Hp}{a b:Addr}{kvs:List (List Key×V)}{k:List Key}{v:V} (e:H a=some (.dT kvs)) (eb:H b=some (.tup (k.map kV))) (hl:kvs.length<sizeLine) :
  DPut H a (.ref b) v (upd H a (.dT (putK kvs k v))):=.inr ⟨kvs,k,b,e,rfl,eb,hl,rfl⟩
section
variable {X:Cx}{pins:List (Addr×Obj)}{σ:St}{H:Hp}{s:Shared}{a:Addr}{y v:V}{u r:Value}{o:Option V}{A:Around}{E:Value→Shared→Prop}
theorem Inv.big (I:Inv X pins σ H s):sysModules<s.heap.objs.size:=by
 have h:mainGlobals<s.heap.objs.size:=(I.mod.glob.keeps I.bk).lt
 exact Nat.lt_trans (by decide) h
theorem yga {h':Heap}{t':Nat}{ob:HO} (I:Inv X pins σ H s) (mu:Mut (H a)) (hs:Heap.SameBut a s.heap h') (he:∃ q,h'.get? a=some q) (new:ya2 X.prog X.w (upd H a ob) h' a ob) :
  Inv X pins σ (upd H a ob) { s with heap:=h',toks:=t' }:=
 I.write (x:=a) (e:=a) mu (.inl rfl) (fun b q hb z=>(hs.2 b hb).trans z) he new
theorem dk_new {P:Program}{w:World}{H':Hp}{h':Heap}{kvs:List (Key×V)}{vs:List (Key×Value)} (z:kvs.length≤sizeLine) (hd:(a == sysModules)=false) (rel:KV kvs vs) (dd:h'.DictOf (ya7 P w) a vs) :
  ya2 P w H' h' a (.dK kvs):=⟨z,hd,vs,rel,dd⟩
theorem ygb {H':Hp}{Q:Unit→Shared→Prop} (hu:A.units+1<cLine) (I:Inv X pins σ H s) (g:DPut H a y v H') (ry:RelV y u) (rv:RelV v r) (h:∀ s',Inv X pins σ H' s'→Q () s') :
  wpAny (model X.prog X.w) A (setItem (.ref a) u r) Q E s:=by
 rcases g with ⟨kvs,k,e,ey,l,eH⟩|⟨kvs,k,b,e,ey,eb,l,eH⟩
 ·subst ey eH
  obtain ⟨z,hd,vs,rel,dd⟩:=dk_of I.hok e
  have hz:vs.length≤sizeLine:=by rw[← rel.length];exact z
  have hl:(putK kvs k v).length≤sizeLine:=by have:=yc3 kvs k v;omega
  refine wpAny_setItem_pairs (hsz:=hz) (kV_is ry) dd fun h' dd' hs=>h _ ?_
  have he:∃ q,h'.get? a=some q:=let ⟨q,_,_,hq,_⟩:=dd';⟨q,hq⟩
  exact yga I (by rw[e];exact True.intro) hs he (dk_new hl hd (rel.put k rv) dd')
 ·subst ey eH
  cases (show u=Value.ref b from ry)
  obtain ⟨z,hd,xs,rel,dd⟩:=dt_of I.hok e
  have hz:xs.length≤sizeLine:=by rw[← Paired.length rel];exact z
  have hl:(putK kvs k v).length≤sizeLine:=by have:=yc3 kvs k v;omega
  refine wpAny_setItem_heap (hsz:=hz) (tupleKind_room_in1 hu) (key_of I.hok eb) dd fun h' dd' hs=>h _ ?_
  obtain ⟨q,es,ep,hq,h2,h3,h4,_,h5⟩:=dd'
  refine yga I (by rw[e];exact True.intro) hs ⟨q,hq⟩ ⟨hl,hd,_,(rel.put k eb rv).keeps fun c ys ec=>?_,q,es,ep,hq,h2,h3,h4,h5⟩
  rw[yao (ne_of ec e (fun z=>nomatch z))]
  exact ec
end
def sDPut (td ty tv:TE):TS:=fun D σ H=>tv σ H fun v H1=>td σ H1 fun x H2=>ty σ H2 fun y H3=>∃ a H4,x=.ref a∧DPut H3 a y v H4∧D.nx σ H4
section
variable {X:Cx}{o i e value:Expr}{pos pos' tpos:Pos}{td ty tv:TE}
theorem ps_dput (hu:X.A.units+1<cLine) (ho:PE X o td) (hi:PE X i ty) (hv:PE X value tv) (hs:swapsWith value (some (.Subscript o i pos')) pos.line X.env=pure false) :
  PS X (.Assign [.Subscript o i pos'] value pos) (sDPut td ty tv):=by
 intro pins s σ H D I h
 refine wpAny_Assign_Subscript (thn (hv pins s σ H _ I h) fun r s1 ⟨v,H1,I1,rv,q1⟩=>thn (ho pins s1 σ H1 _ I1 q1) fun u s2 ⟨x,H2,I2,rx,q2⟩=>thn (hi pins s2 σ H2 _ I2 q2) fun iv s3 ⟨y,H3,I3,ry,a,H4,ex,g,q3⟩=>?_) hs
 subst ex
 obtain rfl:u=Value.ref a:=rx
 exact ygb hu I3 g ry rv fun s4 I4=>⟨σ,H4,I4,q3⟩
end
theorem dk_empty {P:Program}{w:World}{H:Hp} (h:Heap) (hb:sysModules<h.objs.size):ya2 P w H (h.push { cls:=.type "dict",data:=.dict #[] }) h.objs.size (.dK []):=
 ⟨Nat.zero_le _,beq_eq_false_iff_ne.mpr (Ne.symm (Nat.ne_of_lt hb)),[],.nil,Heap.DictOf.new h⟩
theorem dt_empty {P:Program}{w:World}{H:Hp} (h:Heap) (hb:sysModules<h.objs.size):ya2 P w H (h.push { cls:=.type "dict",data:=.dict #[] }) h.objs.size (.dT []):=
 ⟨Nat.zero_le _,beq_eq_false_iff_ne.mpr (Ne.symm (Nat.ne_of_lt hb)),[],.nil,_,#[],0,Heap.get?_push_size _ rfl,⟨rfl,rfl,rfl⟩,rfl,rfl,List.nodup_nil⟩
def tDNewK:TE:=fun _ H Q=>∀ p,H p=none→Q (.ref p) (upd H p (.dK []))
def tDNewT:TE:=fun _ H Q=>∀ p,H p=none→Q (.ref p) (upd H p (.dT []))
section
variable {X:Cx}{pos:Pos}
theorem pe_dnewK:PE X (.Dict [] [] pos) tDNewK:=fun pins s σ H Q I h=>
 wpAny_Dict_empty ⟨.ref s.heap.objs.size,_,I.laid (a:=s.heap.objs.size) (o:=.dK []) (t':=s.toks) (fun _ _ q=>Heap.get?_push_of_some _ q) (Nat.le_refl _) (dk_empty s.heap I.big),rfl,h _ (I.hok.fresh (Nat.le_refl _))⟩
theorem pe_dnewT:PE X (.Dict [] [] pos) tDNewT:=fun pins s σ H Q I h=>
 wpAny_Dict_empty ⟨.ref s.heap.objs.size,_,I.laid (a:=s.heap.objs.size) (o:=.dT []) (t':=s.toks) (fun _ _ q=>Heap.get?_push_of_some _ q) (Nat.le_refl _) (dt_empty s.heap I.big),rfl,h _ (I.hok.fresh (Nat.le_refl _))⟩
end
end L2
namespace Mx
open PySem L2 PyProof.Rows
structure QE (X:Cx) (e:Expr) (t:TE):Prop where
 of:PE X e t
section
variable {X:Cx}{e o i:Expr}{te td ty:TE}{pos:Pos}
theorem qaa (h:PE X e te):QE X e te:=⟨h⟩
theorem yal {i:Nat}{x:Str}{pos':Pos} (hN:X.N.Nodup) (hi:X.N[i]?=some x) (hx:Loc X.env.scope x) (he:QE X e te) (hs:swapsWith e (some (.Name x pos')) pos.line X.env=pure false:=by rfl) (hf:X.fn x=true∨X.env.scope.names.lookup x=some .local:=by first|exact .inl rfl|exact .inr rfl|assumption) :
  QS X (.Assign [.Name x pos'] e pos) (tAsg te (qco i)):=⟨yda hN hi hx he.of hs hf⟩
theorem yag (he:QE X e te):QS X (.Return (some e) pos) (tRet te):=⟨ps_ret he.of⟩
structure QT (X:Cx) (e:Expr) (t:TT):Prop where
 of:PT X e t
theorem qt_of {t:TT} (h:PT X e t):QT X e t:=⟨h⟩
theorem qau {a b:List Stmt}{t u:TS}{c:Expr}{tc:TT} (hc:QT X c tc) (ha:QSs X a t) (hb:QSs X b u):QS X (.If c a b pos) (tIfS tc t u):=⟨ps_if hc.of ha.of hb.of⟩
theorem yai {a b:Expr}{ta tb:TE}{op:CmpOp}{r:R2} (ho:OpR X (compareOp op) r) (ha:QE X a ta) (hb:QE X b tb) (hm:behindInMarks op b=false):QT X (.Compare a [op] [b] pos) (tTest (tOp r ta tb)):=⟨qbp ho ha.of hb.of hm⟩
theorem yap {a b:Expr}{ta tb:TE}{r:R2} (hr:IxR X r) (ha:QE X a ta) (hb:QE X b tb) (hs:qgj b):QE X (.Subscript a b pos) (tOp r ta tb):=⟨qa0 hr ha.of hb.of hs⟩
structure QA (X:Cx) (es:List Expr) (t:TA):Prop where
 of:PA X es t
theorem yab:QA X [] tNil:=⟨qan⟩
theorem qa_cons {es:List Expr}{t:TA} (ha:QE X e te) (hr:QA X es t) (hs:starEach (e::es) X.env=(false,eval e X.env)::starEach es X.env:=by rfl):QA X (e::es) (qbj te t):=⟨yad ha.of hr.of hs⟩
theorem qas {es:List Expr}{t:TA} (h:QA X es t):QE X (.List es pos) (tLst t):=⟨qe7 h.of⟩
theorem qao {es:List Expr}{k}{t:TA} (h:QA X es t):QE X (.Tuple es k pos) (tTup t):=⟨qd6 h.of⟩
end
section
variable {X:Cx}{e a b c:Expr}{es:List Expr}{te ta tb:TE}{t:TA}{tA tB':TT}{pos p:Pos}{x:Str}{rest:List Expr}
theorem qam {k:Const}{j} (ha:QE X (.Constant k j pos) te) (hr:QA X es t):QA X (.Constant k j pos::es) (qbj te t):=⟨qf4 ha.of hr.of⟩
theorem qah {x:Str} (ha:QE X (.Name x pos) te) (hr:QA X es t):QA X (.Name x pos::es) (qbj te t):=⟨yc8 ha.of hr.of⟩
theorem ycd {f xs ks} (ha:QE X (.Call f xs ks pos) te) (hr:QA X es t):QA X (.Call f xs ks pos::es) (qbj te t):=⟨pa_cl ha.of hr.of⟩
theorem ya1 {o i:Expr} (ha:QE X (.Subscript o i pos) te) (hr:QA X es t):QA X (.Subscript o i pos::es) (qbj te t):=⟨yad ha.of hr.of rfl⟩
theorem qbb {o i:Expr}{op} (ha:QE X (.BinOp o op i pos) te) (hr:QA X es t):QA X (.BinOp o op i pos::es) (qbj te t):=⟨yad ha.of hr.of rfl⟩
theorem qbq {xs k} (ha:QE X (.Tuple xs k pos) te) (hr:QA X es t):QA X (.Tuple xs k pos::es) (qbj te t):=⟨yad ha.of hr.of rfl⟩
theorem yd2 {xs} (ha:QE X (.List xs pos) te) (hr:QA X es t):QA X (.List xs pos::es) (qbj te t):=⟨yad ha.of hr.of rfl⟩
theorem ycq {l o r} (ha:QE X (.ListComp l o r pos) te) (hr:QA X es t):QA X (.ListComp l o r pos::es) (qbj te t):=⟨yad ha.of hr.of rfl⟩
theorem yam {op:Operator}{r:R2} (ho:OpR X (binaryOp op) r) (ha:QE X a ta) (hb:QE X b tb):QE X (.BinOp a op b pos) (tOp r ta tb):=⟨qb3 ho ha.of hb.of⟩
theorem qek {op:CmpOp}{r:R2} (ho:OpR X (compareOp op) r) (ha:QE X a ta) (hb:QE X b tb) (hm:behindInMarks op b=false):QE X (.Compare a [op] [b] pos) (tOp r ta tb):=⟨ybr ho ha.of hb.of hm⟩
theorem qex (hc:QT X c tA) (ha:QE X a ta) (hb:QE X b tb):QE X (.IfExp c a b pos) (tIf tA ta tb):=⟨pe_ifExp hc.of ha.of hb.of⟩
theorem qe_mid (h:QE X e te):QE X e (tMid te):=⟨pe_mid h.of⟩
structure QW (X:Cx) (e:Expr) (t:TT):Prop where
 of:PW X e t
theorem ycg (ha:QT X a tA):QW X (.BoolOp .And [a] pos) tA:=⟨yf5 ha.of⟩
theorem yb6 (ha:QT X a tA):QW X (.BoolOp .Or [a] pos) tA:=⟨pw_or1 ha.of⟩
theorem qdg (ha:QT X a tA) (hb:QW X (.BoolOp .And (b::rest) pos) tB'):QW X (.BoolOp .And (a::b::rest) pos) (tAnd tA tB'):=⟨pw_and ha.of hb.of⟩
theorem ycr (ha:QT X a tA) (hb:QW X (.BoolOp .Or (b::rest) pos) tB'):QW X (.BoolOp .Or (a::b::rest) pos) (tOr tA tB'):=⟨pw_or ha.of hb.of⟩
theorem QW.pt (h:QW X e tA):QT X e tA:=⟨h.of.pt⟩
theorem qb6 (ha:QT X a tA):QT X (.UnaryOp .Not a pos) (tNot tA):=⟨pt_not ha.of⟩
theorem qbc {f xs ks} (h:QE X (.Call f xs ks pos) te):QT X (.Call f xs ks pos) (tB te):=⟨ye5 h.of⟩
theorem qt_valN {y:Str} (h:QE X (.Name y pos) te):QT X (.Name y pos) (tB te):=⟨ye5 h.of⟩
variable {id T:String}{r:List V→Hp→VK→Prop}
theorem yak (hc:yb5 X (.builtin id) r) (hg:Gl X x) (hm:X.mg x=none) (hv:bootBuiltins x=some (.builtin id)) (ha:QA X (e::es) t) (hn:x≠"__name__":=by decide) (hdb:(x == ("__debug__" : Str))=false:=by decide)
  (he:starEach (e::es) X.env=(false,eval e X.env)::starEach es X.env:=by rfl) (hpl:(backTo pos (starEach es X.env)).any (·.1)=false:=by rfl):QE X (.Call (.Name x p) (e::es) [] pos) (tCB r t):=⟨qa5 hc hg hm hv ha.of hn hdb he hpl⟩
theorem qa7 (hc:yb5 X (.type T) r) (hg:Gl X x) (hm:X.mg x=none) (hv:bootBuiltins x=some (.type T)) (ha:QA X (e::es) t) (hn:x≠"__name__":=by decide) (hdb:(x == ("__debug__" : Str))=false:=by decide)
  (he:starEach (e::es) X.env=(false,eval e X.env)::starEach es X.env:=by rfl) (hpl:(backTo pos (starEach es X.env)).any (·.1)=false:=by rfl):QE X (.Call (.Name x p) (e::es) [] pos) (tCB r t):=⟨yc4 hc hg hm hv ha.of hn hdb he hpl⟩
theorem qaj {k m:Nat}{ps:List Str}{sp:Sp} (h:Has X.prog X.w X.K X.mg X.base k x ps sp) (hr:Room m X.A) (ha:QA X (e::es) t) (hk:k≤m:=by decide) (hg:Gl X x:=by rfl)
  (hdb:(x == ("__debug__" : Str))=false:=by decide) (he:starEach (e::es) X.env=(false,eval e X.env)::starEach es X.env:=by rfl) (hpl:(backTo pos (starEach es X.env)).any (·.1)=false:=by rfl):QE X (.Call (.Name x p) (e::es) [] pos) (qel sp [] E0 t):=⟨qay h hr ha.of hk hg hdb he hpl⟩
structure QI (X:Cx) (tg iter:Expr) (wi:TI):Prop where
 of:PI X tg iter wi
theorem qi_of {tg iter:Expr}{wi:TI} (h:PI X tg iter wi):QI X tg iter wi:=⟨h⟩
theorem qei {tg l:Expr}{tl:TE} (h:QE X l tl):QI X tg l (qd2 X.K tl):=⟨qax h.of⟩
theorem yee {tg iter:Expr}{body:List Stmt}{wi:TI}{g:TG}{tb:TS} (hp:PassesOwn (model X.prog X.w) X.A X.env X.xe) (hc:X.calm=true) (hi:QI X tg iter wi) (hg:PG X tg g) (hb:QSs X body tb) (hs:∀ x,foldedSetIterable iter X.env x=pure x:=by intro _;rfl):QS X (.For tg iter body [] pos) (tFor wi g tb):=⟨ps_for hp hc hi.of hg hb.of hs⟩
theorem qeo (he:QE X e te) (hs:swapsWith e none pos.line X.env=pure false:=by rfl):QS X (.Expr e pos) (tDrop te):=⟨yel he.of hs⟩
theorem qs_asg {tg:Expr}{g:TG} (he:QE X e te) (hg:PG X tg g) (hs:swapsWithSole [tg] e pos.line X.env=pure false:=by rfl) (hw:swappedStores [tg] e X.env=pure none:=by rfl) (h1:(assignEach [tg] X.env).map (·.2)=[assign tg X.env]:=by rfl):QS X (.Assign [tg] e pos) (tAsg te g):=⟨ps_asg he.of hg hs hw h1⟩
end
theorem yaq {X:Cx}{st:Stmt}{rest ss:List Stmt}{t:TS} (h:ss=st::rest) (p:QSs X (st::rest) t):QSs X ss t:=h ▸ p
section
variable {P:Program}{w:World}{K:PySem.W.Frag}{mg:Str→Option Value}{base:Heap}
theorem Has.ofQ {x:Str}{st:Stmt}{ps N:List Str}{k:Nat}{sp:Sp} (F:FnAt K mg x st ps) (S:FnScope N ps (yae st)) (len:∀ vs H Q E,sp vs H Q E→vs.length=ps.length)
  (hbody:∀ (f:Addr) (cdv:Value) (A:Around) (outer:List Env) (s:Shared) (H:Hp) (vs:List V) (Q:VK) (E:XK),Room k (A.deeper (envOfC x (yae st) s.heap.objs.size f cdv))→sp vs H Q E→
   ∃ t,QSs (cxOf CX0 P w K mg base N x (yae st) f cdv A outer s H E).nox (ya5 st) t∧t { nx:=fun _ H'=>Q .non H',rt:=Q } (yc5 N vs) H):Has P w K mg base (k+1) x ps sp:=
 Has.of F S len fun f cdv A outer s H vs Q E hr h=>by
  obtain ⟨t,h1,h2⟩:=hbody f cdv A outer s H vs Q E hr h
  exact ⟨t,h1.of,h2⟩
theorem Fun.okQ {x qual:Str}{st:Stmt}{f:Addr}{fd:FuncData}{N ps:List Str}{k:Nat}{sp:Sp} (F:Fun K x qual st f fd) (S:FnScope N ps (yae st)) (len:∀ vs H Q E,sp vs H Q E→vs.length=ps.length)
  (hbody:∀ (cdv:Value) (A:Around) (outer:List Env) (s:Shared) (H:Hp) (vs:List V) (Q:VK) (E:XK),Room k (A.deeper (envOfC qual (yae st) s.heap.objs.size f cdv))→sp vs H Q E→
   ∃ t,QSs (cxOf CX0 P w K mg base N qual (yae st) f cdv A outer s H E).nox (ya5 st) t∧t { nx:=fun _ H'=>Q .non H',rt:=Q } (yc5 N vs) H):FnOk P w K mg base CX0 (k+1) f fd ps sp:=
 F.ok S len fun cdv A outer s H vs Q E hr h=>by
  obtain ⟨t,h1,h2⟩:=hbody cdv A outer s H vs Q E hr h
  exact ⟨t,h1.of,h2⟩
end
end Mx
namespace L2
open PySem PySem.Spec PyProof.Rows
section
variable {X:Cx}
def tSl3 (K:PySem.W.Frag) (te ts:TE):TE:=fun σ H Q=>te σ H fun x H1=>ts σ H1 fun y H2=>∃ (a:Addr) (xs:List V) (up:Bool),x=.ref a∧SqL K H2 a xs∧y=.int (if up=true then 1 else -1)∧∀ p,H2 p=none→Q (.ref p) (upd H2 p (.lst (if up=true then xs else xs.reverse)))
theorem pick_rev (items:Array Value):slicePick items none none (some (-1))=items.toList.reverse.toArray:=PySem.W.krv_pick items
theorem Vals.rev:∀ {xs:List V}{us:List Value},Vals xs us→Vals xs.reverse us.reverse
 | [],[],_=>.nil
 | x::xs,u::us,.cons a r=>by
  rw[List.reverse_cons,List.reverse_cons]
  exact Vals.append (Vals.rev r) (.cons a .nil)
theorem ygn {e st:Expr}{te ts:TE}{p2 pos:Pos} (he:PE X e te) (hst:PE X st ts):PE X (.Subscript e (.Slice none none (some st) p2) pos) (tSl3 X.K te ts):=by
 intro pins s σ H Q I h
 refine Subscript_ (thn (he pins s σ H _ I h) fun v s1 ⟨x,H1,I1,r1,q1⟩=>?_)
 refine wpAny_Slice ?_
 rw[evalPart_none]
 refine wpAny_pure (wpAny_pure ?_)
 rw[evalPart_some]
 refine thn (hst pins s1 σ H1 _ I1 q1) fun vs s3 ⟨y,H3,I3,r3,q3⟩=>?_
 obtain ⟨a,xs,up,rfl,hx,hy,q⟩:=q3
 cases r1
 have I4:Inv X pins σ H3 { s3 with heap:=s3.heap.push { cls:=.type "slice",data:=.fields #[.none,.none,vs] } }:=I3.kept (t':=s3.toks) fun b ob q=>Heap.get?_push_of_some _ q
 obtain ⟨its,r,ht,hz⟩:=I4.list hx
 have hlen:=r.length
 have fin:∀ (k:Int) (zs:List V) (us:List Value),y=.int k→k≠0→slicePick its.toArray none none (some k)=us.toArray→Vals zs us→zs.length≤sizeLine→(∀ p,H3 p=none→Q (.ref p) (upd H3 p (.lst zs)))→
   wpAny (model X.prog X.w) X.A (subscriptTail e (.Slice none none (some st) p2) (.ref a) (.ref s3.heap.objs.size)) (EP X pins σ Q) X.xe { s3 with heap:=s3.heap.push { cls:=.type "slice",data:=.fields #[.none,.none,vs] } }:=by
  intro k zs us hy hk hp hv hzl q
  subst hy
  obtain ⟨t,rfl⟩:=r3
  refine tail_any (ops:=[.ref a,.ref s3.heap.objs.size]) ht.isList.typeIs slot_list_getitem.lookup ?_ (by with_unfolding_all rfl)
  refine wpAny_getItem_list_slice ht.isList (Heap.IsSliceOf.new ..) .none .none (.int k t) (by simpa using hk) ?_ (by rw[List.size_toArray]<;>omega)
  rw[hp]
  refine ⟨.ref _,_,I4.laid (t':=s3.toks) (o:=.lst zs) (fun b ob q=>Heap.get?_push_of_some _ q) (Nat.le_refl _) ?_,rfl,q _ (I4.hok.fresh (Nat.le_refl _))⟩
  exact ⟨hzl,us,0,hv,Heap.get?_push_size _ rfl⟩
 cases up with
 | true=>exact fin 1 xs its hy (by decide) (by show slicePick its.toArray none none none=_;rw[slicePick_all]) r hz q
 | false=>exact fin (-1) xs.reverse its.reverse hy (by decide) (by rw[pick_rev]) (Vals.rev r) (by rw[List.length_reverse];exact hz) q
end
end L2
namespace L2
open PySem PySem.Spec PyProof.Rows PySem.W
section
variable {X:Cx}
def rNotB:R2:=fun x y H Q=>∃ b c:Bool,x=.bl b∧y=.bl c∧Q (.bl (!decide (b=c))) H
theorem qd5:OpR X (compareOp .IsNot) rNotB:=by
 intro pins s σ H x y v u Q I rx ry h
 obtain ⟨b,c,rfl,rfl,q⟩:=h
 cases rx
 cases ry
 unfold compareOp isSame
 refine wpAny_bind (wpAny_pure (wpAny_pure ⟨.bl _,H,I,?_,q⟩))
 cases b<;>cases c<;>rfl
end
theorem qet {xs:List V}:cutV xs none (some (-1))=xs.dropLast:=by
 unfold cutV
 rw[HT.sIx_none,List.drop_zero,Nat.sub_zero,List.dropLast_eq_take]
 congr 1
 unfold HT.sIx
 simp
 omega
section
variable {X:Cx}
def rNeNil (K:PySem.W.Frag):R2:=fun x y H Q=>∃ p q xs,x=.ref p∧y=.ref q∧SqL K H p xs∧SqL K H q []∧Q (.bl (!xs.isEmpty)) H
theorem op_neNil {k:Nat} (hr:Room k X.A):OpR X (compareOp .NotEq) (rNeNil X.K):=by
 intro pins s σ H x y v u Q I rx ry h
 obtain ⟨p,q,xs,rfl,rfl,hp,hq,qq⟩:=h
 cases rx
 cases ry
 obtain ⟨its,r,pl,hz⟩:=I.list hp
 obtain ⟨its2,r2,pl2,hz2⟩:=I.list hq
 cases r2
 have hu:X.A.units<cLine:=by have:=hu_of hr;omega
 have hl:=r.length
 cases xs with
 | nil=>
  cases r
  exact SeqAt.RcNeAt.lists (e:=fun _=>true) pl.isList pl2.isList rfl hu (fun j h1=>by simp at h1) _ _ _ _ ⟨.bl _,H,I,rfl,qq⟩
 | cons a b=>exact SeqAt.RcNeAt.lists_lengths pl.isList pl2.isList (by rw[List.size_toArray,← hl];rfl) hu _ _ _ _ ⟨.bl _,H,I,rfl,qq⟩
end
end L2
namespace Mx
open PySem L2 PyProof.Rows
section
variable {X:Cx}{o e:Expr}{es:List Expr}{te to:TE}{t:TA}{pos p2:Pos}
theorem qbx {lo hi:Option Expr}{tl th:TO}{r:V→Option Int→Option Int→Hp→VK→Prop} (hr:SlR X r) (he:QE X e te) (hl:PO X lo tl) (hu:PO X hi th):QE X (.Subscript e (.Slice lo hi none p2) pos) (tSl r te tl th):=⟨ye7 hr he.of hl hu⟩
theorem qe_bm {name:Str}{apos cpos:Pos}{T id:String}{r:V→List V→Hp→VK→Prop} (pa:PlainAttrs T) (slot:Slot T name id) (hty:typeOf (.builtin id)=pure (.type "method_descriptor")) (hm:MtR X id r) (ho:QE X o to) (ha:QA X (e::es) t)
  (hbase:attributeBase o name X.env (eval o X.env)=eval o X.env:=by rfl)
  (hfew:((backTo cpos (starEach (e::es) X.env)).all (fun x=>!x.1)&&(backToKw cpos (keywordEach [] X.env)).all (fun x=>x.1.isSome)
   && decide ((e::es).length+([]:List Keyword).length+(if ([]:List Keyword).isEmpty then 0 else 1)<30))=true:=by rfl)
  (hline:(apos.endLine == cpos.line)=true:=by rfl) (hs:starEach (e::es) X.env=(false,eval e X.env)::starEach es X.env:=by rfl) (hplain:(backTo cpos (starEach es X.env)).any (·.1)=false:=by rfl) :
  QE X (.Call (.Attribute o name apos) (e::es) [] cpos) (tBM X.K T r to t):=⟨pe_bm pa slot hty hm ho.of ha.of hbase hfew hline hs hplain⟩
end
end Mx
namespace L2
open PySem PySem.Spec PyProof.Rows PySem.W
def AtX (H:Hp) (v:V) (d:PyData):Prop:=At H v d∨(d=.dict []∧∃ a,v=.ref a∧H a=some (.dK []))
theorem AtX.same {H H':Hp}{v:V}{d:PyData} (h:AtX H v d) (s:Same H H'):AtX H' v d:=by
 rcases h with h|⟨e,a,ea,h⟩
 ·exact .inl (h.same s)
 ·exact .inr ⟨e,a,ea,s _ _ h⟩
def tyD:PyData→Value
 | .none=>.type "NoneType"
 | .bool _=>.type "bool"
 | .int _=>.type "int"
 | .str _=>.type "str"
 | .list _=>.type "list"
 | .tuple _=>.type "tuple"
 | .dict _=>.type "dict"
theorem AtX.ty {K:PySem.W.Frag}{H:Hp}{v:V}{d:PyData} (h:AtX H v d):TyOf K H v (tyD d):=by
 rcases h with h|⟨e,a,ea,h⟩
 ·cases h with
  | non=>exact .non
  | bl b=>exact .bl b
  | int i=>exact .int i
  | str x=>exact .str x
  | lst e _=>exact .lst e
  | tup e _=>exact .tup e
 ·subst e ea
  exact .dK h
def yc9:PyData→Bool | .tuple _=>true|_=>false
def qd8:PyData→Bool | .list _=>true|_=>false
def isStr:PyData→Bool | .str _=>true|_=>false
def isInt:PyData→Bool | .int _=>true | .bool _=>true|_=>false
def isBl:PyData→Bool | .bool _=>true|_=>false
theorem ydv {K:PySem.W.Frag} (d:PyData):PySem.W.kitOne K (tyD d) (.type "tuple")=some (yc9 d):=by cases d<;>rfl
theorem ygg {K:PySem.W.Frag} (d:PyData):PySem.W.kitOne K (tyD d) (.type "list")=some (qd8 d):=by cases d<;>rfl
theorem yfy {K:PySem.W.Frag} (d:PyData):PySem.W.kitOne K (tyD d) (.type "str")=some (isStr d):=by cases d<;>rfl
theorem qfs {K:PySem.W.Frag} (d:PyData):PySem.W.kitOne K (tyD d) (.type "int")=some (isInt d):=by cases d<;>rfl
theorem kit_bl {K:PySem.W.Frag} (d:PyData):PySem.W.kitOne K (tyD d) (.type "bool")=some (isBl d):=by cases d<;>rfl
section
variable {X:Cx}
def rReprX:List V→Hp→VK→Prop:=fun xs H Q=>∃ x d,xs=[x]∧AtX H x d∧d.showable=true∧d.depth≤60∧d.shown.length≤sizeLine∧Q (.str d.shown) H
theorem ydm {k:Nat} (hr:Room k X.A):yb5 X (.builtin "repr") rReprX:=by
 intro pins s σ H xs us Q I r h
 obtain ⟨x,d,rfl,ha,hs,hd,hz,q⟩:=h
 rcases ha with ha|⟨e,a,ea,ha⟩
 ·exact qfh hr pins s σ H [x] us Q I r ⟨x,d,rfl,ha,hs,hd,hz,q⟩
 ·subst e ea
  cases r with
  | cons r rr=>
   cases rr
   cases r
   obtain ⟨_,hm,vs,kv,o,es,ep,e1,e2,e3,e4,e5,_⟩:=I.hok a _ ha
   cases kv
   have hes:es.toList=[]:=by
    revert e5
    generalize es.toList=l
    intro e5
    cases e5
    rfl
   have rd:Reads s.heap (.ref a) (.dict []) (a::[]++[]):=.dict e1 e2.1 e3 (by rw[hes];exact .nil) (by rw[hes];exact .nil)
   have hu:=hr.units
   refine repr_of_reads' rd hs (fun _ hmem=>?_) hr.gd (by omega) (fun _ _ z=>z) (fun h' u tk hk=>?_) hz
   ·have:sysModules=a:=by simpa using hmem
    rw[this] at hm
    simp at hm
   ·exact ⟨.str _,H,I.kept hk,⟨_,rfl⟩,q⟩
end
end L2
namespace L2
open PySem PyProof.Rows
def Lay (L:List Addr) (te:TE) (σ:L2.St) (d:PyData) (H:Hp):Prop:=(∀ b∈L,H b≠none)→∀ H1,Same H H1→∀ Q:VK,(∀ v H',Same H1 H'→At (yau H' L) v d→Q v H')→te σ H1 Q
def LayA (L:List Addr) (ta:TA) (σ:L2.St) (ds:List PyData) (H:Hp):Prop:=(∀ b∈L,H b≠none)→∀ H1,Same H H1→∀ Q:List V→Hp→Prop,(∀ vs H',Same H1 H'→AtAll (yau H' L) vs ds→Q vs H')→ta σ H1 Q
theorem qc9 {L:List Addr}{H H1:Hp}{p:Addr} (hL:∀ b∈L,H b≠none) (s:Same H H1) (hp:H1 p=none):p∉L:=fun z=>by
 cases e:H p with
 | none=>exact hL p z e
 | some o=>rw[s _ _ e] at hp;cases hp
section
variable {K:PySem.W.Frag}{σ:L2.St}{H:Hp}{te tf:TE}{ta:TA}{d:PyData}{ds es:List PyData}{L:List Addr}
theorem qag:LayA L tNil σ [] H:=fun hL H1 s Q k=>k [] H1 (Same.refl H1) .nil
theorem qab (h:Lay L te σ d H) (r:LayA L ta σ ds H):LayA L (qbj te ta) σ (d::ds) H:=fun hL H1 s Q k=>
 h hL H1 s _ fun v H2 s2 a2=>r hL H2 (s.trans s2) _ fun vs H3 s3 a3=>k (v::vs) H3 (s2.trans s3) (.cons (a2.same (yaz s3 L)) a3)
theorem ycp {H0 H2:Hp}{p:Addr}{vs:List V} (hL:∀ b∈L,H0 b≠none) (s:Same H0 H2) (hp:H2 p=none) (a:AtAll (yau H2 L) vs ds):At (yau (upd H2 p (.tup vs)) L) (.ref p) (.tuple ds):=
 .tup (by rw[qa2 (qc9 hL s hp)];exact qac) (a.same (yaz ((Same.refl H2).upd hp) L))
theorem ybv {H0 H2:Hp}{p:Addr}{vs:List V} (hL:∀ b∈L,H0 b≠none) (s:Same H0 H2) (hp:H2 p=none) (a:AtAll (yau H2 L) vs ds):At (yau (upd H2 p (.lst vs)) L) (.ref p) (.list ds):=
 .lst (by rw[qa2 (qc9 hL s hp)];exact qac) (a.same (yaz ((Same.refl H2).upd hp) L))
theorem qaq (h:LayA L ta σ ds H) (z:ds.length≤1000:=by exact Nat.le_of_ble_eq_true rfl):Lay L (tTup ta) σ (.tuple ds) H:=fun hL H1 s Q k=>
 h hL H1 s _ fun vs H2 s2 a2=>⟨by rw[a2.length];exact Nat.le_trans z (by decide),fun p hp=>k _ _ (s2.upd hp) (ycp hL (s.trans s2) hp a2)⟩
theorem qat (h:LayA L ta σ ds H) (z:ds.length≤1000:=by exact Nat.le_of_ble_eq_true rfl):Lay L (tLst ta) σ (.list ds) H:=fun hL H1 s Q k=>
 h hL H1 s _ fun vs H2 s2 a2=>⟨by rw[a2.length];exact Nat.le_trans z (by decide),fun p hp=>k _ _ (s2.upd hp) (ybv hL (s.trans s2) hp a2)⟩
theorem qbo:Lay L (tC .non) σ .none H:=fun hL H1 s Q k=>k _ H1 (Same.refl H1) .non
theorem lay_bl {b:Bool}:Lay L (tC (.bl b)) σ (.bool b) H:=fun hL H1 s Q k=>k _ H1 (Same.refl H1) (.bl b)
theorem qbn {i:Int}:Lay L (tC (.int i)) σ (.int i) H:=fun hL H1 s Q k=>k _ H1 (Same.refl H1) (.int i)
theorem ybo {x:Str}:Lay L (tC (.str x)) σ (.str x) H:=fun hL H1 s Q k=>k _ H1 (Same.refl H1) (.str x)
theorem qav {i:Nat}{v:V} (hσ:σ[i]?=some (some v)) (h:At (yau H L) v d):Lay L (tVar i) σ d H:=fun hL H1 s Q k=>⟨v,hσ,k v H1 (Same.refl H1) (h.same (yaz s L))⟩
theorem qbs (h1:Lay L te σ (.list ds) H) (h2:Lay L tf σ (.list es) H) (z:ds.length+es.length≤1000):Lay L (tOp rCat te tf) σ (.list (ds++es)) H:=fun hL H1 s Q k=>
 h1 hL H1 s _ fun v H2 s2 a2=>h2 hL H2 (s.trans s2) _ fun u H3 s3 a3=>by
  obtain ⟨a,vs,rfl,ha,hw⟩:=(a2.same (yaz s3 L)).lstEq
  obtain ⟨b,us,rfl,hb,hu⟩:=a3.lstEq
  exact ⟨a,b,vs,us,rfl,rfl,qae _ _ _ _ ha,qae _ _ _ _ hb,by rw[hw.length,hu.length];exact Nat.le_trans z (by decide),fun p hp=>k _ _ ((s2.trans s3).upd hp) (ybv hL ((s.trans s2).trans s3) hp (hw.append hu))⟩
theorem qd7 {H:Hp}{vs:List V}{ds:List PyData} (h:AtAll H vs ds):∀ n,AtAll H (List.replicate n vs).flatten (List.replicate n ds).flatten
 | 0=>.nil
 | n+1=>by
  rw[List.replicate_succ,List.replicate_succ,List.flatten_cons,List.flatten_cons]
  exact h.append (qd7 h n)
theorem yeh {n:Nat} (h1:Lay L te σ (.list ds) H) (hn:n≤1000) (z:ds.length*n≤1000):Lay L (tOp rRep te (tC (.int n))) σ (.list (List.replicate n ds).flatten) H:=fun hL H1 s Q k=>
 h1 hL H1 s _ fun v H2 s2 a2=>by
  obtain ⟨a,vs,rfl,ha,hw⟩:=a2.lstEq
  refine ⟨a,n,vs,rfl,rfl,qae _ _ _ _ ha,by omega,by omega,by rw[hw.length,Int.toNat_natCast];exact Nat.le_trans z (by decide),fun p hp=>k _ _ (s2.upd hp) ?_⟩
  rw[Int.toNat_natCast]
  exact ybv hL (s.trans s2) hp (qd7 hw n)
def LayN (t:TE) (σ:L2.St) (n:Nat):Prop:=∀ H1 (Q:VK),Q (.int n) H1→t σ H1 Q
theorem qc0 {n:Nat}:LayN (tC (.int n)) σ n:=fun H1 Q k=>k
theorem qe4 {t:TE}{n:Nat} (h1:Lay L te σ (.list ds) H) (hn:LayN t σ n):Lay L (tSl (rSlL K) te ybt (ydq t)) σ (.list (ds.take n)) H:=fun hL H1 s Q k=>
 h1 hL H1 s _ fun v H2 s2 a2=>hn H2 _ ⟨n,rfl,by
  obtain ⟨a,vs,rfl,ha,hw⟩:=a2.lstEq
  refine ⟨a,vs,rfl,SqL.of (qae _ _ _ _ ha),fun p hp=>k _ _ (s2.upd hp) ?_⟩
  rw[qds]
  exact ybv hL (s.trans s2) hp (hw.take n)⟩
theorem lay_drop {t:TE}{n:Nat} (h1:Lay L te σ (.list ds) H) (hn:LayN t σ n):Lay L (tSl (rSlL K) te (ydq t) ybt) σ (.list (ds.drop n)) H:=fun hL H1 s Q k=>
 h1 hL H1 s _ fun v H2 s2 a2=>hn H2 _ ⟨n,rfl,by
  obtain ⟨a,vs,rfl,ha,hw⟩:=a2.lstEq
  refine ⟨a,vs,rfl,SqL.of (qae _ _ _ _ ha),fun p hp=>k _ _ (s2.upd hp) ?_⟩
  rw[yew]
  exact ybv hL (s.trans s2) hp (hw.drop n)⟩
def rTupOf (K:PySem.W.Frag):List V→Hp→VK→Prop:=fun xs H Q=>∃ p ys,xs=[.ref p]∧((SqL K H p ys∧∀ l,H l=none→Q (.ref l) (upd H l (.tup ys)))∨(SqT K H p ys∧Q (.ref p) H))
theorem yf9 (h1:Lay L te σ (.list ds) H):Lay L (tCB (rTupOf K) (qbj te tNil)) σ (.tuple ds) H:=fun hL H1 s Q k=>
 h1 hL H1 s _ fun v H2 s2 a2=>by
  obtain ⟨a,vs,rfl,ha,hw⟩:=a2.lstEq
  exact ⟨a,vs,rfl,.inl ⟨SqL.of (qae _ _ _ _ ha),fun p hp=>k _ _ (s2.upd hp) (ycp hL (s.trans s2) hp hw)⟩⟩
theorem gn {i:Nat}{v:V}{σ:L2.St}{H:Hp}{Q:L2.St→Hp→Prop} (h:Q (σ.set i (some v)) H):qco i v σ H Q:=h
theorem hid0 {H:Hp}{v:V}{d:PyData} (h:At H v d):At (yau H []) v d:=h.same fun b o e=>by rw[qa2 (by simp)];exact e
theorem qcu {Q:VK} (h:Lay L te σ d H) (hL:∀ b∈L,H b≠none) (k:∀ v H',Same H H'→At (yau H' L) v d→Q v H'):te σ H Q:=h hL H (Same.refl H) Q k
theorem qdz {i:Nat}{rest:TS}{KK:Ends} (h:Lay [] te σ d H) (k:∀ v H',Same H H'→At H' v d→rest KK (σ.set i (some v)) H'):tSeq (tAsg te (qco i)) rest KK σ H:=
 h (fun b hb=>by cases hb) H (Same.refl H) _ fun v H' s a=>k v H' s (a.same (qae _ _))
theorem lay_ret {KK:Ends} (h:Lay [] te σ d H) (k:∀ v H',Same H H'→At H' v d→KK.rt v H'):tRet te KK σ H:=
 h (fun b hb=>by cases hb) H (Same.refl H) _ fun v H' s a=>k v H' s (a.same (qae _ _))
theorem AtAll.mem {H:Hp}{vs:List V}{ds:List PyData}{i:Int} (h:AtAll H vs ds) (h0:0≤i) (h1:i<ds.length):∃ v d,atI vs i=some v∧ds[i.toNat]?=some d∧At H v d:=by
 obtain ⟨v,hv,ha⟩:=h.getD (List.getElem?_eq_getElem (l:=ds) (i:=i.toNat) (by omega))
 exact ⟨v,_,atI_int h0 hv,List.getElem?_eq_getElem (by omega),ha⟩
def Sm (D B:Nat) (d:PyData):Prop:=d.showable=true∧d.depth≤D∧d.leavesShort 40=true∧d.bulk≤B
theorem Sm.mono {D B D' B':Nat}{d:PyData} (h:Sm D B d) (h1:D≤D':=by decide) (h2:B≤B':=by decide):Sm D' B' d:=⟨h.1,Nat.le_trans h.2.1 h1,h.2.2.1,Nat.le_trans h.2.2.2 h2⟩
theorem Sm.list {D B n:Nat}{xs:List PyData} (h:∀ x∈xs,Sm D B x) (hl:xs.length≤n):Sm (D+1) ((B+1)*n) (.list xs):=by
 refine ⟨?_,?_,?_,?_⟩
 ·simp only[PyData.showable]
  exact Spec.showableAll_of fun x hx=>(h x hx).1
 ·have:=qcg (n:=D) (xs:=xs) fun x hx=>(h x hx).2.1
  simp only[PyData.depth]
  omega
 ·unfold PyData.leavesShort
  exact qcd fun x hx=>(h x hx).2.2.1
 ·have:=yco (n:=B) (xs:=xs) fun x hx=>(h x hx).2.2.2
  simp only[PyData.bulk]
  exact Nat.le_trans this (Nat.mul_le_mul_left _ hl)
theorem Sm.tuple {D B n:Nat}{xs:List PyData} (h:∀ x∈xs,Sm D B x) (hl:xs.length≤n):Sm (D+1) ((B+1)*n) (.tuple xs):=by
 refine ⟨?_,?_,?_,?_⟩
 ·simp only[PyData.showable]
  exact Spec.showableAll_of fun x hx=>(h x hx).1
 ·have:=qcg (n:=D) (xs:=xs) fun x hx=>(h x hx).2.1
  simp only[PyData.depth]
  omega
 ·unfold PyData.leavesShort
  exact qcd fun x hx=>(h x hx).2.2.1
 ·have:=yco (n:=B) (xs:=xs) fun x hx=>(h x hx).2.2.2
  simp only[PyData.bulk]
  exact Nat.le_trans this (Nat.mul_le_mul_left _ hl)
end
end L2
namespace L2
open PySem PySem.Spec PyProof.Rows PySem.W
inductive AllX (H:Hp):List V→List PyData→Prop
 | nil:AllX H [] []
 | cons {v:V}{d:PyData}{vs:List V}{ds:List PyData}:AtX H v d→AllX H vs ds→AllX H (v::vs) (d::ds)
theorem AllX.same {H H':Hp} (s:Same H H'):∀ {vs:List V}{ds:List PyData},AllX H vs ds→AllX H' vs ds
 | _,_,.nil=>.nil
 | _,_,.cons a r=>.cons (a.same s) (r.same s)
end L2
namespace L2
open PySem PyProof.Rows
theorem AllX.length {H:Hp}:∀ {vs:List V}{ds:List PyData},AllX H vs ds→vs.length=ds.length
 | _,_,.nil=>rfl
 | _,_,.cons _ r=>by rw[List.length_cons,List.length_cons,r.length]
def LayX (L:List Addr) (te:TE) (σ:L2.St) (d:PyData) (H:Hp):Prop:=(∀ b∈L,H b≠none)→∀ H1,Same H H1→∀ Q:VK,(∀ v H',Same H1 H'→AtX (yau H' L) v d→Q v H')→te σ H1 Q
def LayXA (L:List Addr) (ta:TA) (σ:L2.St) (ds:List PyData) (H:Hp):Prop:=(∀ b∈L,H b≠none)→∀ H1,Same H H1→∀ Q:List V→Hp→Prop,(∀ vs H',Same H1 H'→AllX (yau H' L) vs ds→Q vs H')→ta σ H1 Q
def LayL (L:List Addr) (te:TE) (σ:L2.St) (ds:List PyData) (H:Hp):Prop:=(∀ b∈L,H b≠none)→∀ H1,Same H H1→∀ Q:VK,(∀ a vs H',Same H1 H'→yau H' L a=some (.lst vs)→AllX (yau H' L) vs ds→Q (.ref a) H')→te σ H1 Q
section
variable {K:PySem.W.Frag}{σ:L2.St}{H:Hp}{te tf:TE}{ta:TA}{d:PyData}{ds es:List PyData}{L:List Addr}
theorem layx_of (h:Lay L te σ d H):LayX L te σ d H:=fun hL H1 s Q k=>h hL H1 s Q fun v H' s' a=>k v H' s' (.inl a)
theorem qfw:LayX L tDNewK σ (.dict []) H:=fun hL H1 s Q k=>fun p hp=>k (.ref p) _ ((Same.refl H1).upd hp) (.inr ⟨rfl,p,rfl,by rw[qa2 (qc9 hL s hp)];exact qac⟩)
theorem yfz:LayXA L tNil σ [] H:=fun hL H1 s Q k=>k [] H1 (Same.refl H1) .nil
theorem qfc (h:LayX L te σ d H) (r:LayXA L ta σ ds H):LayXA L (qbj te ta) σ (d::ds) H:=fun hL H1 s Q k=>
 h hL H1 s _ fun v H2 s2 a2=>r hL H2 (s.trans s2) _ fun vs H3 s3 a3=>k (v::vs) H3 (s2.trans s3) (.cons (a2.same (yaz s3 L)) a3)
theorem layl_lst (h:LayXA L ta σ ds H) (z:ds.length≤1000:=by exact Nat.le_of_ble_eq_true rfl):LayL L (tLst ta) σ ds H:=fun hL H1 s Q k=>
 h hL H1 s _ fun vs H2 s2 a2=>⟨by rw[a2.length];exact Nat.le_trans z (by decide),fun p hp=>k p vs _ (s2.upd hp) (by rw[qa2 (qc9 hL (s.trans s2) hp)];exact qac) (a2.same (yaz ((Same.refl H2).upd hp) L))⟩
end
end L2
namespace L2
open PySem PySem.Spec PyProof.Rows
section
variable {X:Cx}{pins:List (Addr×Obj)}{σ:St}{H:Hp}{s:Shared}{a:Addr}{kvs:List (Key×V)}
theorem KV.at_ {kvs:List (Key×V)}{vs:List (Key×Value)} (r:KV kvs vs):∀ {i:Nat},i<kvs.length→∃ k v u,kvs[i]?=some (k,v)∧vs[i]?=some (k,u)∧RelV v u:=by
 induction r with
 | nil=>intro i h;exact absurd h (Nat.not_lt_zero _)
 | @cons p q l1 l2 h _ ih=>
  intro i hi
  cases i with
  | zero=>exact ⟨p.1,p.2,q.2,rfl,by rw[h.1];rfl,h.2⟩
  | succ i=>exact ih (i:=i) (by simpa using hi)
end
end L2
namespace L2
open PySem PySem.Spec PyProof.Rows PySem.W
section
variable {cmp:Nat→Nat→(Bool→Shared→Prop)→Shared→Prop}{Ok:Shared→Prop}{g:Nat→Int}{n:Nat}
def Ans (cmp:Nat→Nat→(Bool→Shared→Prop)→Shared→Prop) (Ok:Shared→Prop) (g:Nat→Int) (n:Nat):Prop:=
 ∀ i j C s,i<n→j<n→Ok s→(∀ s',Ok s'→C (decide (g i<g j)) s')→cmp i j C s
def Gk (g:Nat→Int) (p:Array Nat) (k:Nat):Int:=g (p.getD k 0)
def UpTo (g:Nat→Int) (p:Array Nat) (k:Nat):Prop:=∀ i j,i≤j→j<k→Gk g p i≤Gk g p j
def DnTo (g:Nat→Int) (p:Array Nat) (k:Nat):Prop:=∀ i j,i≤j→j<k→Gk g p j≤Gk g p i
def PmN (p:Array Nat) (n:Nat):Prop:=p.Perm (List.toArray (List.range n))
theorem PmN.size {p:Array Nat} (h:PmN p n):p.size=n:=by rw[h.size_eq];simp
theorem PmN.lt {p:Array Nat} (h:PmN p n) {k:Nat} (hk:k<n):p.getD k 0<n:=by
 have hs:k<p.size:=by rw[h.size];exact hk
 have e:p.getD k 0=p[k]:=by simp[Array.getD,hs]
 rw[e]
 have:p[k]∈List.toArray (List.range n):=h.mem_iff.mp (Array.getElem_mem hs)
 simpa using this
theorem qcj {p q:Array Nat}{i j:Nat} (h:p[i]?=q[j]?):Gk g p i=Gk g q j:=by
 unfold Gk;rw[← Array.getD_eq_getD_getElem?.symm,← Array.getD_eq_getD_getElem?.symm];simp[Array.getD_eq_getD_getElem?,h]
theorem yd3 {p:Array Nat}{src d:Nat} (hs:src<p.size) (hd:d≤src) (k:Nat):Gk g (bubble p src d) k=if k=src-d then Gk g p src else if src-d<k∧k≤src then Gk g p (k-1) else Gk g p k:=by
 have e:=getElem?_bubble hs d hd k
 by_cases h1:k=src-d
 ·rw[if_pos h1] at e ⊢;exact qcj e
 ·rw[if_neg h1] at e ⊢
  by_cases h2:src-d<k∧k≤src
  ·rw[if_pos h2] at e ⊢;exact qcj e
  ·rw[if_neg h2] at e ⊢;exact qcj e
theorem yfn {p:Array Nat}{i j:Nat} (hj:j≤p.size) (k:Nat):Gk g (kas_rev p i j) k=if i≤k∧k<j then Gk g p (i+j-1-k) else Gk g p k:=by
 have e:=getElem?_mirror_all (xs:=p) (i:=i) hj k
 unfold kas_rev
 by_cases h1:i≤k∧k<j
 ·rw[if_pos h1] at e ⊢;exact qcj e
 ·rw[if_neg h1] at e ⊢;exact qcj e
theorem qch {p:Array Nat}{i j:Nat} (hj:j≤p.size) (heq:∀ k,i≤k→k<j→Gk g p k=Gk g p (j-1)) (k:Nat):Gk g (kas_rev p i j) k=Gk g p k:=by
 rw[yfn hj]
 split
 ·rw[heq _ (by omega) (by omega),heq k (by omega) (by omega)]
 ·rfl
theorem PmN.rev {p:Array Nat} (h:PmN p n) (i j:Nat):PmN (kas_rev p i j) n:=(mirror_perm p i j _).trans h
theorem PmN.bub {p:Array Nat} (h:PmN p n) (i j:Nat):PmN (bubble p i j) n:=(bubble_perm p i j).trans h
theorem t_asc (hc:Ans cmp Ok g n) {p:Array Nat} (hp:PmN p n) {Q:Nat→Shared→Prop}:∀ (f m:Nat) (s:Shared),1≤m→m+f=n→UpTo g p m→Ok s→
  (∀ m' s',Ok s'→m≤m'→m'≤n→UpTo g p m'→(m' < n→Gk g p m' < Gk g p (m' - 1))→Q m' s')→(kas_asc p f m).kasWp cmp Q s
 | 0,m,s,h1,hf,hu,ok,q=>q m s ok (Nat.le_refl _) (by omega) hu (by omega)
 | f+1,m,s,h1,hf,hu,ok,q=>by
  refine hc _ _ _ s (hp.lt (by omega)) (hp.lt (by omega)) ok fun s' ok'=>?_
  by_cases hl:Gk g p m<Gk g p (m-1)
  ·rw[show decide (g (p.getD m 0)<g (p.getD (m-1) 0))=true from decide_eq_true hl]
   exact q m s' ok' (Nat.le_refl _) (by omega) hu fun _=>hl
  ·rw[show decide (g (p.getD m 0)<g (p.getD (m-1) 0))=false from decide_eq_false hl]
   refine t_asc hc hp f (m+1) s' (by omega) (by omega) (fun i j hij hj=>?_) ok' fun m' s'' o1 o2 o3 o4 o5=>q m' s'' o1 (by omega) o3 o4 o5
   by_cases hjm:j<m
   ·exact hu i j hij hjm
   ·have e:j=m:=by omega
    subst e
    by_cases hi:i=j
    ·subst hi;exact Int.le_refl _
    ·exact Int.le_trans (hu i (j-1) (by omega) (by omega)) (Int.not_lt.mp hl)
theorem yf7 (hc:Ans cmp Ok g n) {Q:Array Nat×Nat×Nat→Shared→Prop}:∀ (f:Nat) (p:Array Nat) (m q:Nat) (s:Shared),PmN p n→1≤m→m+f=n→DnTo g p m→q+1≤m→(∀ i,m-(q+1)≤i→i<m→Gk g p i=Gk g p (m-1))→Ok s→
  (∀ p' m' q' s',Ok s'→PmN p' n→m≤m'→m'≤n→DnTo g p' m'→q' + 1≤m'→(∀ i,m' - (q' + 1)≤i→i<m'→Gk g p' i=Gk g p' (m' - 1))→Q (p',m',q') s')→(kas_desc f p m q).kasWp cmp Q s
 | 0,p,m,q,s,hp,h1,hf,hd,hq,he,ok,k=>k p m q s ok hp (Nat.le_refl _) (by omega) hd hq he
 | f+1,p,m,q,s,hp,h1,hf,hd,hq,he,ok,k=>by
  refine hc _ _ _ s (hp.lt (by omega)) (hp.lt (by omega)) ok fun s' ok'=>?_
  have hsz:m≤p.size:=by rw[hp.size];omega
  by_cases hl:Gk g p m<Gk g p (m-1)
  ·rw[show decide (g (p.getD m 0)<g (p.getD (m-1) 0))=true from decide_eq_true hl]
   have step1:∀ xs:Array Nat,(∀ k,Gk g xs k=Gk g p k)→DnTo g xs (m+1):=by
    intro xs hk i j hij hj
    rw[hk,hk]
    by_cases hjx:j<m
    ·exact hd i j hij hjx
    ·have hj':j=m:=by omega
     subst hj'
     by_cases hi':i=j
     ·subst hi';exact Int.le_refl _
     ·exact Int.le_trans (Int.le_of_lt hl) (hd i (j-1) (by omega) (by omega))
   have fin:∀ xs:Array Nat,PmN xs n→(∀ k,Gk g xs k=Gk g p k)→(kas_desc f xs (m+1) 0).kasWp cmp Q s':=fun xs hx hk=>
    yf7 hc f xs (m+1) 0 s' hx (by omega) (by omega) (step1 xs hk) (by omega) (fun i h1 h2=>by congr 1;omega) ok' fun p' m' q' s'' o1 o2 o3=>k p' m' q' s'' o1 o2 (by omega)
   show (if q>0 then _ else _:KasT _).kasWp cmp Q s'
   by_cases hneq:q>0
   ·rw[if_pos hneq]
    exact fin _ (hp.rev _ _) (qch hsz he)
   ·rw[if_neg hneq]
    exact fin _ hp fun _=>rfl
  ·rw[show decide (g (p.getD m 0)<g (p.getD (m-1) 0))=false from decide_eq_false hl]
   refine hc _ _ _ s' (hp.lt (by omega)) (hp.lt (by omega)) ok' fun s2 ok2=>?_
   by_cases hl2:Gk g p (m-1)<Gk g p m
   ·rw[show decide (g (p.getD (m-1) 0)<g (p.getD m 0))=true from decide_eq_true hl2]
    exact k p m q s2 ok2 hp (Nat.le_refl _) (by omega) hd hq he
   ·rw[show decide (g (p.getD (m-1) 0)<g (p.getD m 0))=false from decide_eq_false hl2]
    have heqx:Gk g p m=Gk g p (m-1):=by omega
    refine yf7 hc f p (m+1) (q+1) s2 hp (by omega) (by omega) (fun i j hij hj=>?_) (by omega) (fun i h1 h2=>?_) ok2 fun p' m' q' s'' o1 o2 o3=>k p' m' q' s'' o1 o2 (by omega)
    ·by_cases hjx:j<m
     ·exact hd i j hij hjx
     ·have hj':j=m:=by omega
      subst hj'
      by_cases hi':i=j
      ·subst hi';exact Int.le_refl _
      ·rw[heqx];exact hd i (j-1) (by omega) (by omega)
    ·rw[show m+1-1=m by omega]
     by_cases hix:i=m
     ·subst hix;rfl
     ·rw[heqx];exact he i (by omega) (by omega)
end
section
variable {cmp:Nat→Nat→(Bool→Shared→Prop)→Shared→Prop}{Ok:Shared→Prop}{g:Nat→Int}{n:Nat}
theorem yf6 (hc:Ans cmp Ok g n) {p:Array Nat} (hp:PmN p n) {Q:Nat×Array Nat→Shared→Prop}{m:Nat}{s:Shared} (h1:1≤m) (hm:m≤n) (hd:DnTo g p m) (ok:Ok s)
  (q:∀ m' p' s',Ok s'→PmN p' n→1≤m'→m'≤n→UpTo g p' m'→Q (m',p') s'):(kas_tail3 m n p).kasWp cmp Q s:=by
 unfold kas_tail3
 rw[KasT.kasWp_bind]
 have hsz:m≤p.size:=by rw[hp.size];exact hm
 refine t_asc hc (hp.rev 0 m) (n-m) m s h1 (by omega) (fun i j hij hj=>?_) ok fun m' s' o1 o2 o3 o4 _=>q m' _ s' o1 (hp.rev 0 m) (by omega) o3 o4
 rw[yfn hsz,yfn hsz,if_pos ⟨Nat.zero_le _,by omega⟩,if_pos ⟨Nat.zero_le _,hj⟩]
 exact hd _ _ (by omega) (by omega)
theorem ydp (hc:Ans cmp Ok g n) {p:Array Nat} (hp:PmN p n) {Q:Nat×Array Nat→Shared→Prop}{m:Nat}{s:Shared} (hm:m+1≤n) (hd:DnTo g p (m+1)) (ok:Ok s)
  (q:∀ m' p' s',Ok s'→PmN p' n→1≤m'→m'≤n→UpTo g p' m'→Q (m',p') s'):(kas_descPart m n p).kasWp cmp Q s:=by
 unfold kas_descPart
 rw[KasT.kasWp_bind]
 refine yf7 hc (n-(m+1)) p (m+1) 0 s hp (by omega) (by omega) hd (by omega) (fun i h1 h2=>by congr 1;omega) ok fun p' m' q' s' o1 o2 o3 o4 o5 o6 o7=>?_
 have hsz:m'≤p'.size:=by rw[o2.size];exact o4
 show (if q' > 0 then _ else _:KasT _).kasWp cmp Q s'
 by_cases hq:q' > 0
 ·rw[if_pos hq]
  refine yf6 (m:=m') hc (o2.rev _ _) (by omega) o4 (fun i j hij hj=>?_) o1 q
  show Gk g (kas_rev p' (m' - (q' + 1)) m') j≤Gk g (kas_rev p' (m' - (q' + 1)) m') i
  rw[qch hsz o7,qch hsz o7]
  exact o5 i j hij hj
 ·rw[if_neg hq]
  exact yf6 (m:=m') hc o2 (by omega) o4 o5 o1 q
theorem t_count (hc:Ans cmp Ok g n) {p:Array Nat} (hp:PmN p n) {Q:Nat×Array Nat→Shared→Prop}{s:Shared} (h1:1≤n) (ok:Ok s)
  (q:∀ m' p' s',Ok s'→PmN p' n→1≤m'→m'≤n→UpTo g p' m'→Q (m',p') s'):(kas_count n p).kasWp cmp Q s:=by
 unfold kas_count
 rw[KasT.kasWp_bind]
 refine t_asc hc hp (n-1) 1 s (Nat.le_refl _) (by omega) (fun i j hij hj=>by rw[show i=j by omega];exact Int.le_refl _) ok fun m s' o1 o2 o3 o4 o5=>?_
 by_cases hm:m=n
 ·rw[if_pos (by simp[hm])]
  exact q m p s' o1 hp o2 o3 o4
 ·rw[if_neg (by simp[hm])]
  have hlt:=o5 (by omega)
  by_cases h2:m>1
  ·rw[if_pos h2]
   refine hc _ _ _ s' (hp.lt (by omega)) (hp.lt (by omega)) o1 fun s2 ok2=>?_
   by_cases hl:Gk g p 0<Gk g p (m-1)
   ·rw[show decide (g (p.getD 0 0)<g (p.getD (m-1) 0))=true from decide_eq_true hl]
    exact q m p s2 ok2 hp o2 o3 o4
   ·rw[show decide (g (p.getD 0 0)<g (p.getD (m-1) 0))=false from decide_eq_false hl]
    have hsz:m≤p.size:=by rw[hp.size];exact o3
    have all:∀ k,0≤k→k<m→Gk g p k=Gk g p (m-1):=fun k _ hk=>by
     have a:=o4 0 k (Nat.zero_le _) hk
     have b:=o4 k (m-1) (by omega) (by omega)
     omega
    refine ydp hc (hp.rev 0 m) (by omega) (fun i j hij hj=>?_) ok2 q
    rw[qch hsz all,qch hsz all]
    by_cases hj':j<m
    ·rw[all i (Nat.zero_le _) (by omega),all j (Nat.zero_le _) hj'];exact Int.le_refl _
    ·have e:j=m:=by omega
     subst e
     by_cases hi:i=j
     ·subst hi;exact Int.le_refl _
     ·rw[all i (Nat.zero_le _) (by omega)];omega
  ·rw[if_neg h2]
   have e:m=1:=by omega
   subst e
   refine ydp hc hp (by omega) (fun i j hij hj=>?_) o1 q
   by_cases hi:i=j
   ·subst hi;exact Int.le_refl _
   ·rw[show i=0 by omega,show j=1 by omega];exact Int.le_of_lt hlt
theorem qeh (hc:Ans cmp Ok g n) {p:Array Nat} (hp:PmN p n) {k:Nat} (hk:k<n) (hu:UpTo g p k) {Q:Nat→Shared→Prop}:∀ (f l r:Nat) (s:Shared),l≤r→r≤k→r-l≤f→(∀ i,i<l→Gk g p i≤Gk g p k)→(∀ i,r≤i→i<k→Gk g p k<Gk g p i)→Ok s→
  (∀ l s',Ok s'→l≤k→(∀ i,i<l→Gk g p i≤Gk g p k)→(∀ i,l≤i→i<k→Gk g p k<Gk g p i)→Q l s')→(kas_place p k f l r).kasWp cmp Q s
 | 0,l,r,s,h1,h2,h3,hlo,hhi,ok,q=>q l s ok (by omega) hlo fun i a b=>hhi i (by omega) b
 | f+1,l,r,s,h1,h2,h3,hlo,hhi,ok,q=>by
  show (if l≥r then _ else _:KasT _).kasWp cmp Q s
  by_cases hge:l≥r
  ·rw[if_pos hge]
   exact q l s ok (by omega) hlo fun i a b=>hhi i (by omega) b
  ·rw[if_neg hge]
   refine hc _ _ _ s (hp.lt hk) (hp.lt (by omega)) ok fun s' ok'=>?_
   by_cases hl:Gk g p k<Gk g p ((l+r) / 2)
   ·rw[show decide (g (p.getD k 0)<g (p.getD ((l+r) / 2) 0))=true from decide_eq_true hl]
    exact qeh hc hp hk hu f l ((l+r) / 2) s' (by omega) (by omega) (by omega) hlo (fun i a b=>Int.lt_of_lt_of_le hl (hu _ _ a b)) ok' q
   ·rw[show decide (g (p.getD k 0)<g (p.getD ((l+r) / 2) 0))=false from decide_eq_false hl]
    exact qeh hc hp hk hu f ((l+r) / 2+1) r s' (by omega) (by omega) (by omega) (fun i a=>Int.le_trans (hu i ((l+r) / 2) (by omega) (by omega)) (Int.not_lt.mp hl)) hhi ok' q
theorem t_bin (hc:Ans cmp Ok g n) {Q:Array Nat→Shared→Prop}:∀ (f:Nat) (p:Array Nat) (k:Nat) (s:Shared),PmN p n→k+f=n→UpTo g p k→Ok s→(∀ p' s',Ok s'→PmN p' n→UpTo g p' n→Q p' s')→(kas_bin f p k).kasWp cmp Q s
 | 0,p,k,s,hp,hf,hu,ok,q=>q p s ok hp (by rw[← hf];exact hu)
 | f+1,p,k,s,hp,hf,hu,ok,q=>by
  unfold kas_bin
  rw[KasT.kasWp_bind]
  refine qeh hc hp (by omega) hu k 0 k s (Nat.zero_le _) (Nat.le_refl _) (by omega) (fun i h=>by omega) (fun i a b=>by omega) ok fun l s' ok' hl hlo hhi=>?_
  have hs:k<p.size:=by rw[hp.size];omega
  refine t_bin hc f _ (k+1) s' (hp.bub k (k-l)) (by omega) (fun i j hij hj=>?_) ok' q
  rw[yd3 hs (by omega),yd3 hs (by omega),show k-(k-l)=l by omega]
  by_cases ei:i=l
  ·rw[if_pos ei]
   by_cases ej:j=l
   ·rw[if_pos ej];exact Int.le_refl _
   ·rw[if_neg ej,if_pos (by omega)];exact Int.le_of_lt (hhi _ (by omega) (by omega))
  ·rw[if_neg ei]
   by_cases i2:l<i∧i≤k
   ·rw[if_pos i2,if_neg (by omega),if_pos (by omega)];exact hu _ _ (by omega) (by omega)
   ·rw[if_neg i2]
    by_cases ej:j=l
    ·rw[if_pos ej];exact hlo i (by omega)
    ·rw[if_neg ej]
     by_cases j2:l<j∧j≤k
     ·rw[if_pos j2];exact hu _ _ (by omega) (by omega)
     ·rw[if_neg j2];exact hu _ _ hij (by omega)
theorem t_sort (hc:Ans cmp Ok g n) (h1:1≤n) {Q:Array Nat→Shared→Prop}{s:Shared} (ok:Ok s) (q:∀ p s',Ok s'→PmN p n→UpTo g p n→Q p s'):(kas_sort n).kasWp cmp Q s:=by
 unfold kas_sort
 rw[KasT.kasWp_bind]
 refine t_count hc (p:=List.toArray (List.range n)) (Array.Perm.refl _) h1 ok fun m p s' o1 o2 o3 o4 o5=>?_
 show (if m<n then _ else _:KasT _).kasWp cmp Q s'
 by_cases hm:m<n
 ·rw[if_pos hm]
  exact t_bin hc _ p (max m 1) s' o2 (by omega) (by rw[show max m 1=m by omega];exact o5) o1 q
 ·rw[if_neg hm]
  exact q p s' o1 o2 (by rw[show n=m by omega];exact o5)
end
def numL:List Int→Int
 | []=>0
 | x::xs=>x*4096 ^ xs.length+numL xs
def Sml (xs:List Int):Prop:=∀ x∈xs,0≤x∧x<4096
theorem yeo:∀ {xs:List Int},Sml xs→0≤numL xs∧numL xs<4096 ^ xs.length
 | [],_=>⟨Int.le_refl _,by show (0:Int)<4096 ^ 0;decide⟩
 | x::xs,h=>by
  obtain ⟨a,b⟩:=yeo (xs:=xs) fun y hy=>h y (List.mem_cons_of_mem _ hy)
  obtain ⟨c,d⟩:=h x (List.mem_cons_self ..)
  have hp:(0:Int)<4096 ^ xs.length:=Int.pow_pos (by decide)
  have e:(4096:Int) ^ (x::xs).length=4096*4096 ^ xs.length:=by rw[List.length_cons,Int.pow_succ,Int.mul_comm]
  have m1:0≤x*4096 ^ xs.length:=Int.mul_nonneg c (Int.le_of_lt hp)
  have m2:x*4096 ^ xs.length≤4095*4096 ^ xs.length:=Int.mul_le_mul_of_nonneg_right (by omega) (Int.le_of_lt hp)
  unfold numL
  rw[e]
  generalize x*4096 ^ xs.length=z at *
  generalize (4096:Int) ^ xs.length=u at *
  constructor<;>omega
theorem ygc {x y:Int}{xs ys:List Int} (hl:xs.length=ys.length) (hx:Sml (x::xs)) (hy:Sml (y::ys)) (h:x<y):numL (x::xs)<numL (y::ys):=by
 obtain ⟨a,b⟩:=yeo (xs:=xs) fun z hz=>hx z (List.mem_cons_of_mem _ hz)
 obtain ⟨c,d⟩:=yeo (xs:=ys) fun z hz=>hy z (List.mem_cons_of_mem _ hz)
 have hp:(0:Int)<4096 ^ ys.length:=Int.pow_pos (by decide)
 rw[hl] at b
 unfold numL
 rw[hl]
 have m:(x+1)*4096 ^ ys.length≤y*4096 ^ ys.length:=Int.mul_le_mul_of_nonneg_right (by omega) (Int.le_of_lt hp)
 rw[Int.add_mul] at m
 generalize x*4096 ^ ys.length=u at *
 generalize y*4096 ^ ys.length=v at *
 generalize (4096:Int) ^ ys.length=q at *
 omega
section
variable {prog:Program}{w:World}{A:Around}{E:Value→Shared→Prop}{s:Shared}{Q:Bool→Shared→Prop}
theorem qev:∀ {us vs:List Value}{ns ms:List Int} (i:Nat),IntsAre us ns→IntsAre vs ms→ns.length=ms.length→Sml ns→Sml ms→Q (decide (numL ns<numL ms)) s→KatLex prog w A true false Q (us.zip vs) i s
 | _,_,_,_,i,.nil,.nil,_,_,_,h=>kat_nil h
 | _,_,_,_,i,.nil,.cons _ _ _,hl,_,_,_=>by simp at hl
 | _,_,_,_,i,.cons _ _ _,.nil,hl,_,_,_=>by simp at hl
 | _,_,_,_,i,.cons (ns:=ns) n t r,.cons (ns:=ms) m u q,hl,h1,h2,h=>by
  have hl':ns.length=ms.length:=by simpa using hl
  refine kat_cons (wpAny_eqBool_int ?_)
  refine kat_go (fun e=>kat_yes ?_) (fun e=>kat_no ?_)
  ·have e':n=m:=by simpa using e
   subst e'
   refine qev (i+1) r q hl' (fun y hy=>h1 y (List.mem_cons_of_mem _ hy)) (fun y hy=>h2 y (List.mem_cons_of_mem _ hy)) ?_
   rw[show decide (numL ns<numL ms)=decide (numL (n::ns)<numL (n::ms)) from decide_eq_decide.mpr (by show _↔n*4096 ^ ns.length+numL ns<n*4096 ^ ms.length+numL ms;rw[hl'];omega)]
   exact h
  ·have e':¬ n=m:=by simpa using e
   have hd:decide (numL (n::ns)<numL (m::ms))=decide (n<m):=by
    refine decide_eq_decide.mpr ⟨fun z=>?_,fun z=>ygc hl' h1 h2 z⟩
    rcases Int.lt_trichotomy n m with a|a|a
    ·exact a
    ·exact absurd a e'
    ·have:=ygc hl'.symm h2 h1 a
     omega
   rw[hd] at h
   cases i with
   | zero=>exact kat_lt_int h
   | succ i=>exact kat_one _ _ (PyProof.Rows.lt_int h)
theorem lt_ints {x y:Addr}{ox oy:Obj}{n k:Nat}{us vs:List Value}{ns ms:List Int} (hx:s.heap.get? x=some ox) (dx:ox.data=.seq us.toArray n) (hy:s.heap.get? y=some oy) (dy:oy.data=.seq vs.toArray k)
  (r:IntsAre us ns) (q:IntsAre vs ms) (hl:ns.length=ms.length) (h1:Sml ns) (h2:Sml ms) (h:Q (decide (numL ns<numL ms)) s):wpAny (model prog w) A (keyLt' (tuples' true) (.ref x) (.ref y)) Q E s:=by
 refine kat_lt hx dx hy dy ?_
 have e1:=r.length
 have e2:=q.length
 have ef:decide (us.toArray.size<vs.toArray.size)=false:=decide_eq_false (by rw[List.size_toArray,List.size_toArray];omega)
 rw[ef]
 exact qev 0 r q hl h1 h2 h
end
section
variable {prog:Program}{w:World}{A:Around}{E:Value→Shared→Prop}{s:Shared}
theorem sort_by {a:Addr}{vs:List Value}{n:Nat}{κ:SortKind}{g:Nat→Int}{P:PySem.Fin→Shared→Prop} (ho:s.heap.get? a=some (seqObj "list" vs.toArray n)) (h64:vs.length<64)
  (hk:2≤vs.length→∀ s1:Shared,(∀ b o,b≠a→s.heap.get? b=some o→s1.heap.get? b=some o)→∀ (Q:SortKind→Shared→Prop),Q κ s1→wpAny (model prog w) A (keyKind' vs.toArray) Q (fun _ _=>False) s1)
  (hq:∀ s1:Shared,(∀ b o,b≠a→s.heap.get? b=some o→s1.heap.get? b=some o)→∀ i j,i<vs.length→j<vs.length→∀ (C:Bool→Shared→Prop),C (decide (g i<g j)) s1→wpAny (model prog w) A (keyLt' κ (vs.getD i Value.none) (vs.getD j Value.none)) C (fun _ _=>False) s1)
  (h:∀ p:Array Nat,PmN p vs.length→UpTo g p vs.length→P (.done (.ret .none)) { s with heap:=sortedHeap s.heap a vs (List.toArray (p.toList.map fun i=>vs.getD i Value.none)) }) :
  wpAny (model prog w) A (Builtin.«list.sort» ⟨[.ref a],[]⟩) P E s:=by
 rw[list_sort_plain]
 have ha:a<s.heap.objs.size:=Heap.lt_size ho
 refine wpAny_bind (listItems_at ho rfl ?_)
 refine wpAny_bind (listUpdate_at ho rfl ?_)
 obtain ⟨e1,ho1⟩:∃ e1,(s.heap.update a (Obj.mapSeq fun _=>#[])).get? a=some (seqObj "list" #[] e1):=⟨_,get?_update_seq ho (fun _=>#[])⟩
 refine wpAny_bind (seqEpoch_at ho1 rfl ?_)
 refine wpAny_bind (wpAny_newTuple ?_)
 refine wpAny_bind (wpAny_newList ?_)
 refine wpAny_holding ?_
 have ho6:(((s.heap.update a (Obj.mapSeq fun _=>#[])).push (seqObj "tuple" vs.toArray 0)).push (seqObj "list" #[] 0)).get? a=some (seqObj "list" #[] e1):=by
  rw[Heap.get?_push_ne _ _ _ (by rw[size_push',Heap.size_update];exact Nat.ne_of_lt (Nat.lt_succ_of_lt ha)),Heap.get?_push_ne _ _ _ (by rw[Heap.size_update];exact Nat.ne_of_lt ha)]
  exact ho1
 have kp:∀ b o,b≠a→s.heap.get? b=some o→(((s.heap.update a (Obj.mapSeq fun _=>#[])).push (seqObj "tuple" vs.toArray 0)).push (seqObj "list" #[] 0)).get? b=some o:=fun b o hb e=>
  Heap.get?_push_of_some _ (Heap.get?_push_of_some _ ((Heap.get?_update_other _ _ (Ne.symm hb)).trans e))
 show wpAny (model prog w) A _ P E { s with heap:=((s.heap.update a (Obj.mapSeq fun _=>#[])).push (seqObj "tuple" vs.toArray 0)).push (seqObj "list" #[] 0) }
 dsimp only
 have hsz:vs.toArray.size=vs.length:=by simp
 by_cases h2:vs.toArray.size<2
 ·rw[if_pos h2,if_pos h2]
  refine wpAny_bind (wpAny_pure ?_)
  rw[StateT.run_pure]
  refine wpAny_bind (wpAny_pure ?_)
  dsimp only
  refine wpAny_bind (seqEpoch_at ho6 rfl ?_)
  have eo:(arrOf (SortSt.mk' general' (vs.toArray.zip vs.toArray) #[] 7 none)).map (·.2)=List.toArray ((List.toArray (List.range vs.length)).toList.map fun i=>vs.getD i Value.none):=by
   refine kat_snds (ks:=vs) (vs:=vs) rfl (p:=List.toArray (List.range vs.length)) ?_
   have e:=kas_range (vs.toArray.zip vs.toArray)
   rw[show (vs.toArray.zip vs.toArray).size=vs.length by simp] at e
   exact e.symm
  rw[eo]
  refine wpAny_bind (listUpdate_at ho6 rfl ?_ (hsz2:=by rw[List.size_toArray,List.length_map,Array.length_toList,List.size_toArray,List.length_range,sizeLine_eq];omega))
  simp only[bne_self_eq_false,Bool.false_eq_true,if_false]
  refine wpAny_pure (h _ (Array.Perm.refl _) fun i j hij hj=>?_)
  have:i=j:=by omega
  subst this;exact Int.le_refl _
 ·rw[if_neg h2,if_neg h2]
  have h2':2≤vs.length:=by omega
  generalize hs1:({ s with heap:=((s.heap.update a (Obj.mapSeq fun _=>#[])).push (seqObj "tuple" vs.toArray 0)).push (seqObj "list" #[] 0) }:Shared)=s1
  have kp1:∀ b o,b≠a→s.heap.get? b=some o→s1.heap.get? b=some o:=by rw[← hs1];exact kp
  have ho7:s1.heap.get? a=some (seqObj "list" #[] e1):=by rw[← hs1];exact ho6
  refine wpAny_bind (wpAny_mono (hk h2' s1 kp1 (fun κ' s'=>κ'=κ∧s'=s1) ⟨rfl,rfl⟩) ?_ fun _ _ x=>x.elim)
  rintro _ _ ⟨rfl,rfl⟩
  rename_i κ s1
  have ans:Ans (kas_ask prog w A κ vs) (fun s'=>s'=s1) g vs.length:=fun i j C s2 hi hj e k=>by
   have e':s2=s1:=e
   subst e'
   exact hq s2 kp1 i j hi hj C (k s2 rfl)
  refine wpAny_bind (wpAny_mono (kat_run (Q:=fun st' s'=>∃ p:Array Nat,p.size=vs.length∧arrOf st'=p.map (kas_item (vs.toArray.zip vs.toArray))∧failedOf st'=none∧PmN p vs.length∧UpTo g p vs.length∧s'=s1)
   rfl h2' h64 (fun p' st' s' a1 a2 a3 a4=>⟨p',a1,a2,a3,a4⟩) (t_sort ans (by omega) rfl fun p s' ok pm up=>⟨pm,up,ok⟩)) ?_ fun _ _ e=>e)
  rintro ⟨⟨⟩,st'⟩ s' ⟨p,hp,har,hf,pm,up,rfl⟩
  dsimp only
  refine wpAny_bind (seqEpoch_at ho7 rfl ?_)
  rw[kat_snds rfl har]
  refine wpAny_bind (listUpdate_at ho7 rfl ?_ (hsz2:=by rw[List.size_toArray,List.length_map,Array.length_toList,hp,sizeLine_eq];omega))
  rw[hf]
  simp only[bne_self_eq_false,Bool.false_eq_true,if_false]
  refine wpAny_pure ?_
  rw[← hs1]
  exact h p pm up
end
abbrev TL:=Addr×List Int
def TIs (h:Heap) (ts:List TL):Prop:=∀ t∈ts,∃ (o:Obj) (us:List Value) (n:Nat),h.get? t.1=some o∧o.cls=.type "tuple"∧o.data=.seq us.toArray n∧IntsAre us t.2
def qa8 (ts:List TL):List Value:=ts.map fun t=>Value.ref t.1
def yaf (ts:List TL):List V:=ts.map fun t=>V.ref t.1
def OkT (m:Nat) (ts:List TL):Prop:=∀ t∈ts,t.2.length=m+1∧Sml t.2
def RiseT (ts:List TL):Prop:=ts.Pairwise fun t u=>numL t.2≤numL u.2
theorem qgb:∀ {h:Heap}{ts:List TL}{m:Nat},TIs h ts→OkT m ts→∃ fs:List Value,KatTups h (qa8 ts) fs∧fs.length=ts.length∧∀ v∈fs,∃ i t,v=Value.int i t
 | h,[],m,_,_=>⟨[],.nil,rfl,fun v hv=>by simp at hv⟩
 | h,t::ts,m,x,y=>by
  obtain ⟨fs,k1,k2,k3⟩:=qgb (ts:=ts) (fun u hu=>x u (List.mem_cons_of_mem _ hu)) (fun u hu=>y u (List.mem_cons_of_mem _ hu))
  obtain ⟨o,us,n,e1,e2,e3,e4⟩:=x t (List.mem_cons_self ..)
  obtain ⟨y1,_⟩:=y t (List.mem_cons_self ..)
  generalize ht:t.2=ns at *
  cases e4 with
  | nil=>simp at y1
  | cons i tk r=>exact ⟨.int i tk::fs,.cons e1 e2 e3 rfl k1,by simp[k2],fun v hv=>by
    rcases List.mem_cons.mp hv with rfl|hv
    ·exact ⟨i,tk,rfl⟩
    ·exact k3 v hv⟩
theorem yf4:∀ {ts:List TL}{us:List Value},Vals (yaf ts) us→us=qa8 ts
 | [],_,.nil=>rfl
 | t::ts,_,.cons r q=>by
  rw[yf4 q]
  cases r
  rfl
theorem qec:∀ (ts:List TL),Vals (yaf ts) (qa8 ts)
 | []=>.nil
 | t::ts=>.cons rfl (qec ts)
theorem qff {α:Type} (d:α) (l:List α):(List.range l.length).map (fun i=>l.getD i d)=l:=by
 refine List.ext_getElem? fun i=>?_
 rw[List.getElem?_map]
 by_cases h:i<l.length
 ·rw[List.getElem?_range h,List.getElem?_eq_getElem h]
  simp[List.getD_eq_getElem?_getD,h]
 ·rw[List.getElem?_eq_none (by omega:l.length≤i),List.getElem?_eq_none (by simpa using h)]
  rfl
theorem perm_out {α:Type} (d:α) (l:List α) {p:Array Nat} (h:PmN p l.length):(p.toList.map fun i=>l.getD i d).Perm l:=by
 have:=(Array.perm_iff_toList_perm.mp h).map (fun i=>l.getD i d)
 rw[List.toList_toArray,qff] at this
 exact this
theorem rise_out {g:Nat→Int}{p:Array Nat}{n:Nat}{α:Type} (f:Nat→α) (key:α→Int) (hs:p.size=n) (hk:∀ i,key (f i)=g i) (h:UpTo g p n):(p.toList.map f).Pairwise fun a b=>key a≤key b:=by
 rw[List.pairwise_iff_getElem]
 intro i j hi hj hij
 rw[List.length_map,Array.length_toList] at hi hj
 have:=h i j (Nat.le_of_lt hij) (by omega)
 rw[List.getElem_map,List.getElem_map,hk,hk]
 unfold Gk at this
 simpa [Array.getD,hi,hj] using this
section
variable {prog:Program}{w:World}{A:Around}{E:Value→Shared→Prop}{s:Shared}
theorem yfw {a:Addr}{ts:List TL}{n m:Nat}{P:PySem.Fin→Shared→Prop} (ho:s.heap.get? a=some (seqObj "list" (qa8 ts).toArray n)) (h64:ts.length<64) (hT:TIs s.heap ts) (hO:OkT m ts)
  (h:∀ ts':List TL,ts'.Perm ts→RiseT ts'→P (.done (.ret .none)) { s with heap:=sortedHeap s.heap a (qa8 ts) (qa8 ts').toArray }) :
  wpAny (model prog w) A (Builtin.«list.sort» ⟨[.ref a],[]⟩) P E s:=by
 have hl:(qa8 ts).length=ts.length:=List.length_map _
 have kT:∀ s1:Shared,(∀ b o,b≠a→s.heap.get? b=some o→s1.heap.get? b=some o)→TIs s1.heap ts:=fun s1 k t ht=>by
  obtain ⟨o,us,k2,e1,e2,e3,r⟩:=hT t ht
  refine ⟨o,us,k2,k _ _ (fun z=>?_) e1,e2,e3,r⟩
  rw[z,ho] at e1
  cases e1
  exact absurd (Value.type.inj (show Value.type "list" = Value.type "tuple" from e2)) (by decide)
 have hv:∀ i,(qa8 ts).getD i Value.none=if h:i<ts.length then Value.ref (ts[i]).1 else Value.none:=fun i=>by
  unfold qa8
  rw[List.getD_eq_getElem?_getD,List.getElem?_map]
  by_cases h:i<ts.length
  ·rw[dif_pos h,List.getElem?_eq_getElem h];rfl
  ·rw[dif_neg h,List.getElem?_eq_none (by omega)];rfl
 refine sort_by (κ:=tuples' true) (g:=fun i=>numL (ts.getD i (0,[])).2) ho (by omega) (fun h2 s1 k Q q=>?_) (fun s1 k i j hi hj C c=>?_) fun p pm up=>?_
 ·obtain ⟨fs,k1,k2,k3⟩:=qgb (kT s1 k) hO
  refine kat_kind (T:=.type "int") k1 (by omega) (fun v hv=>?_) (by decide) ?_
  ·obtain ⟨i,t,rfl⟩:=k3 v hv
   exact Looks.of_pure rfl
  ·exact q
 ·rw[hl] at hi hj
  rw[hv,hv,dif_pos hi,dif_pos hj]
  obtain ⟨o1,u1,n1,a1,a2,a3,a4⟩:=kT s1 k ts[i] (List.getElem_mem hi)
  obtain ⟨o2,u2,n2,b1,b2,b3,b4⟩:=kT s1 k ts[j] (List.getElem_mem hj)
  obtain ⟨l1,m1⟩:=hO ts[i] (List.getElem_mem hi)
  obtain ⟨l2,m2⟩:=hO ts[j] (List.getElem_mem hj)
  have e1:ts.getD i (0,[])=ts[i]:=by simp[List.getD_eq_getElem?_getD,hi]
  have e2:ts.getD j (0,[])=ts[j]:=by simp[List.getD_eq_getElem?_getD,hj]
  rw[e1,e2] at c
  exact lt_ints a1 a3 b1 b3 a4 b4 (by omega) m1 m2 c
 ·rw[hl] at pm up
  have:=h (p.toList.map fun i=>ts.getD i (0,[])) (perm_out _ _ pm) (rise_out _ (fun t:TL=>numL t.2) pm.size (fun i=>rfl) up)
  have e:(qa8 (p.toList.map fun i=>ts.getD i (0,[])))=p.toList.map fun i=>(qa8 ts).getD i Value.none:=by
   unfold qa8
   rw[List.map_map]
   refine List.map_congr_left fun i hi=>?_
   have hi':i<ts.length:=by
    have:=(Array.perm_iff_toList_perm.mp pm).mem_iff.mp hi
    simpa using this
   show Value.ref (ts.getD i (0,[])).1=_
   rw[List.getD_eq_getElem?_getD,List.getD_eq_getElem?_getD,List.getElem?_map,List.getElem?_eq_getElem hi']
   rfl
  rw[e] at this
  exact this
theorem yf3 {v:Value}{Q:Value→Shared→Prop}
  (h:wpAny (model prog w) A.in1 (collect v) (fun vs s1=>vs.length<64∧(∀ (s2:Shared),s2={ s1 with heap:=s1.heap.push (seqObj "list" vs.toArray 0) }→
   wpAny (model prog w) A.in1.in1 (Builtin.«list.sort» ⟨[.ref s1.heap.objs.size],[]⟩) (fun f s3=>f=.done (.ret .none)∧Q (.ref s1.heap.objs.size) s3) (fun _ _=>False) s2)) E s) :
  wpAny (model prog w) A (call (.builtin "sorted") [v]) Q E s:=by
 refine Calls.call_function_entry kind_sorted plain_sorted entry_sorted (args_sorted1 v) ?_
 unfold Builtin.«sorted»
 refine wpAny_bind (m:=checkCount "sorted" 1 1 _) ?_
 refine wpAny_pure ?_
 refine wpAny_bind (wpAny_mono h (fun vs s1 hq=>?_) fun _ _ x=>x)
 obtain ⟨h64,k⟩:=hq
 refine wpAny_bind (wpAny_newList ?_ (qgc (by omega)))
 have gL:(s1.heap.push (seqObj "list" vs.toArray 0)).get? s1.heap.objs.size=some (seqObj "list" vs.toArray 0):=Heap.get?_push_size _ rfl
 refine wpAny_bind (wpAny_holding (wpAny_call_entry slot_list_sort ⟨_,gL,rfl⟩ entry_list_sort (wpAny_mono (k _ rfl) (fun f s3 hf=>?_) fun _ _ x=>x.elim) (args_list_sort _)))
 obtain ⟨rfl,q⟩:=hf
 exact ⟨_,rfl,wpAny_pure ⟨_,rfl,q⟩⟩
theorem qgm {R:Result→Shared→Prop}{T:String}{r d:Addr}{n:Nat}{P:Nat→Value→Prop}{OK:Heap→Prop} (K:KdlSrc prog w T r d n P OK) (hh:A.handled=none) (hok:OK s.heap) (hn:n≤sizeLine)
  (k:∀ h' tk acc c,h'.get? s.heap.objs.size=some { cls:=.type "list",dict:=none,data:=.seq acc c,slots:=#[] }→ItemsOf P acc n→(∀ b o,s.heap.get? b=some o→h'.get? b=some o)→R (.ok (.ret (.ref s.heap.objs.size))) { s with heap:=h',toks:=tk }) :
  codeAny (model prog w) A (.builtin "proto.collect" ⟨[.ref r],[]⟩) R s:=by
 have hlt:=K.there _ hok
 refine codeAny_builtin F.entry_proto_collect ?_
 rw[Around.under_plainId F.plain_proto_collect _]
 show wpAny _ A.in1 (newList [] >>= fun l=>again (.builtin "list.__iadd__" ⟨[l,.ref r],[]⟩)) _ _ s
 refine wpAny_bind (wpAny_newObj_type ?_)
 refine wpAny_pure ⟨plainId_quiet F.plain_list_iadd _,?_⟩
 refine codeAny_builtin F.entry_list_iadd ?_
 rw[Around.under_plainId F.plain_list_iadd _]
 show wpAny _ A.in1 (Builtin.List.listExtendWith (.ref s.heap.objs.size) (.ref r) (.ref s.heap.objs.size)) _ _ _
 have g0:(s.heap.push { cls:=.type "list",data:=.seq ([]:List Value).toArray }).get? s.heap.objs.size=some { cls:=.type "list",data:=.seq #[] }:=Heap.get?_push_size _ rfl
 refine kdl_extend (R:=R) (s:={ s with heap:=s.heap.push { cls:=.type "list",data:=.seq ([]:List Value).toArray } }) K hh (K.keep _ _ hok fun b _ o e=>Heap.get?_push_of_some _ e) _ (Nat.ne_of_gt hlt.1) (Nat.ne_of_gt hlt.2) _ 0 g0 (fun h' tk acc c kp g it=>?_) hn
 exact k h' tk acc c g it fun b o e=>kp b o (Nat.ne_of_lt (Heap.lt_size e)) (Heap.get?_push_of_some _ e)
theorem collectK {Q:List Value→Shared→Prop}{T:String}{r d:Addr}{n:Nat}{P:Nat→Value→Prop}{OK:Heap→Prop} (K:KdlSrc prog w T r d n P OK) (hh:A.handled=none) (hok:OK s.heap) (hn:n≤sizeLine)
  (k:∀ vs h' tk,vs.length=n→(∀ (j:Nat) v,vs[j]?=some v→P j v)→s.heap.objs.size<h'.objs.size→(∀ b o,s.heap.get? b=some o→h'.get? b=some o)→Q vs { s with heap:=h',toks:=tk }) :
  wpAny (model prog w) A (collect (.ref r)) Q E s:=by
 unfold collect
 refine wpAny_bind (wpAny_runValue (qgm K hh hok hn fun h' tk acc c g it kp=>?_))
 refine wpAny_bind (wpAny_load g ?_)
 exact wpAny_pure (k acc.toList h' tk (by rw[Array.length_toList];exact it.1) (fun j v e=>it.2 j v (by rw[← Array.getElem?_toList];exact e)) (Heap.lt_size g) kp)
end
section
variable {prog:Program}{w:World}{A:Around}{E:Value→Shared→Prop}{s:Shared}{it d:Addr}{es:Array DictEntry}{ep i:Nat}
def qdi (h:Heap) (d:Addr) (es:Array DictEntry) (ep:Nat):Prop:=∃ o,h.get? d=some o∧o.ExactDict∧o.data=.dict es ep
theorem qdi.ty (x:qdi s.heap d es ep):s.TypeIs (.ref d) "dict":=let ⟨o,ho,hc,_⟩:=x;⟨o,ho,hc.1⟩
theorem qdi.at_ {h h':Heap} (x:qdi h d es ep) (k:∀ o,h.get? d=some o→h'.get? d=some o):qdi h' d es ep:=let ⟨o,ho,r⟩:=x;⟨o,k _ ho,r⟩
theorem iterE {Q:Value→Shared→Prop} (hd:(d == sysModules)=false) (hm:qdi s.heap d es ep)
  (hQ:Q (.ref s.heap.objs.size) { s with heap:=s.heap.push { cls:=.type "dict_keyiterator",data:=.fields #[.ref d,.int 0 0,.int es.size 0,.int ep 0] } }):wpAny (model prog w) A (pyIter (.ref d)) Q E s:=by
 obtain ⟨o,ho,hc,hdat⟩:=id hm
 refine wpAny_pyIter_slot hm.ty F.slot_dict_iter (wpAny_call_entry F.slot_dict_iter hm.ty F.entry_dict_iter ?_ (F.args_dict_iter_1 _))
 unfold Builtin.«dict.__iter__»
 refine wpAny_bind ?_
 unfold Builtin.Dict.dictSlotNone
 refine wpAny_bind (wpAny_notOrdered_dict hm.ty ?_)
 show wpAny _ _ (pure (Value.ref d)) _ _ s
 refine wpAny_pure ?_
 show wpAny _ _ (Builtin.Dict.showsAll d >>= _) _ _ s
 unfold Builtin.Dict.showsAll
 rw[if_neg (by rw[hd];exact Bool.false_ne_true)]
 refine wpAny_bind (wpAny_pure (wpAny_bind (wpAny_dictEntries ho hdat (wpAny_bind (wpAny_dictEpoch ho hdat ?_)))))
 exact wpAny_bind (wpAny_newObj_type (wpAny_pure ⟨_,rfl,"dict_keyiterator",_,⟨_,Heap.get?_push_size _ rfl,rfl⟩,F.slot_dict_keyiterator_next.lookup,hQ⟩))
theorem nextE {Q:Option Value→Shared→Prop} (hit:s.heap.IsKeyIter it d i es.size ep) (hm:qdi s.heap d es ep) (hi:i<es.size)
  (hQ:∀ h',h'.IsKeyIter it d (i+1) es.size ep→Heap.SameBut it s.heap h'→Q (some es[i].key) { s with heap:=h' }):wpAny (model prog w) A (pyNext (.ref it)) Q E s:=by
 obtain ⟨o,ho,hc,hd⟩:=id hit
 obtain ⟨od,hod,hcd,hdd⟩:=id hm
 unfold pyNext
 refine wpAny_bind (wpAny_attempt (wpAny_callSpecial?_slot (name:=Str.ofString "__next__") hit.typeIs F.slot_dict_keyiterator_next
  (wpAny_call_entry F.slot_dict_keyiterator_next hit.typeIs F.entry_dict_keyiterator_next ?_ (F.args_dict_keyiterator_next_1 _))))
 refine wpAny_bind (wpAny_pure (wpAny_bind (wpAny_bind ?_)))
 first|refine wpAny_bind (wpAny_typeNameOfWhole_keyiter hit.typeIs (wpAny_pure ?_))|refine wpAny_bind (wpAny_typeNameOf_keyiter hit.typeIs (wpAny_pure ?_))
 refine wpAny_bind (wpAny_fieldsOf ho hd ?_)
 simp only[show Builtin.Dict_items.ownsTuple "dict_keyiterator" = false by decide,Bool.false_eq_true,if_false]
 show wpAny _ _ (if (Value.ref d == Value.none)=true then _ else _) _ _ s
 rw[if_neg (show ¬ ((Value.ref d == Value.none)=true) from Bool.false_ne_true)]
 refine wpAny_bind (wpAny_pure (wpAny_bind (wpAny_dictEntries hod hdd ?_)))
 rw[if_neg (by simp)]
 refine wpAny_bind (wpAny_pure (wpAny_bind (wpAny_dictEpoch hod hdd ?_)))
 rw[if_neg (by simp)]
 refine wpAny_pure ?_
 simp only[show ¬ ((i:Int)<0) from by omega,if_false,Int.toNat_natCast,Array.getElem?_eq_getElem hi]
 refine wpAny_bind ?_
 first|refine wpAny_bind (wpAny_typeNameOfWhole_keyiter hit.typeIs (wpAny_pure ?_))|refine wpAny_bind (wpAny_typeNameOf_keyiter hit.typeIs (wpAny_pure ?_))
 refine wpAny_bind (wpAny_isOneOf_keyiter hit.typeIs ?_)
 show wpAny _ _ (setField (.ref it) 1 (rawInt ((i:Int)+1)) >>= _) _ _ s
 refine wpAny_bind (wpAny_setField ho hd (by simp) ?_)
 have hit':(s.heap.update it (Obj.mapFields (·.setIfInBounds 1 (rawInt ((i:Int)+1))))).IsKeyIter it d (i+1) es.size ep:=
  ⟨_,Heap.get?_update_self _ ho (Obj.isFreed_of_fields (Obj.data_mapFields hd _)),(Obj.cls_mapFields ..).trans hc,by rw[Obj.data_mapFields hd];simp[rawInt]⟩
 refine wpAny_bind (wpAny_holding ?_)
 refine wpAny_bind (wpAny_isOneOf_keyiter (s:={ s with heap:=s.heap.update it (Obj.mapFields (·.setIfInBounds 1 (rawInt ((i:Int)+1)))) }) hit'.typeIs ?_)
 show wpAny _ _ (pure es[i].key) _ _ _
 exact wpAny_pure (wpAny_pure ⟨_,rfl,wpAny_pure (hQ _ hit' (Heap.SameBut.update ..))⟩)
theorem endE {Q:Option Value→Shared→Prop} (hh:A.handled=none) (hit:s.heap.IsKeyIter it d i es.size ep) (hm:qdi s.heap d es ep) (hi:es.size≤i)
  (hQ:∀ h',Heap.ExtBut it s.heap h'→Q none { s with heap:=h' }):wpAny (model prog w) A (pyNext (.ref it)) Q E s:=by
 obtain ⟨o,ho,hc,hd⟩:=id hit
 obtain ⟨od,hod,hcd,hdd⟩:=id hm
 unfold pyNext
 refine wpAny_bind (wpAny_attempt (wpAny_callSpecial?_slot (name:=Str.ofString "__next__") hit.typeIs F.slot_dict_keyiterator_next
  (wpAny_call_entry F.slot_dict_keyiterator_next hit.typeIs F.entry_dict_keyiterator_next ?_ (F.args_dict_keyiterator_next_1 _))))
 refine wpAny_bind (wpAny_pure (wpAny_bind (wpAny_bind ?_)))
 first|refine wpAny_bind (wpAny_typeNameOfWhole_keyiter hit.typeIs (wpAny_pure ?_))|refine wpAny_bind (wpAny_typeNameOf_keyiter hit.typeIs (wpAny_pure ?_))
 refine wpAny_bind (wpAny_fieldsOf ho hd ?_)
 simp only[show Builtin.Dict_items.ownsTuple "dict_keyiterator" = false by decide,Bool.false_eq_true,if_false]
 show wpAny _ _ (if (Value.ref d == Value.none)=true then _ else _) _ _ s
 rw[if_neg (show ¬ ((Value.ref d == Value.none)=true) from Bool.false_ne_true)]
 refine wpAny_bind (wpAny_pure (wpAny_bind (wpAny_dictEntries hod hdd ?_)))
 rw[if_neg (by simp)]
 refine wpAny_bind (wpAny_pure (wpAny_bind (wpAny_dictEpoch hod hdd ?_)))
 rw[if_neg (by simp)]
 refine wpAny_pure ?_
 simp only[show ¬ ((i:Int)<0) from by omega,if_false,Int.toNat_natCast,Array.getElem?_eq_none hi]
 refine wpAny_bind ?_
 first|refine wpAny_bind (wpAny_typeNameOfWhole_keyiter hit.typeIs (wpAny_pure ?_))|refine wpAny_bind (wpAny_typeNameOf_keyiter hit.typeIs (wpAny_pure ?_))
 show wpAny _ _ (setField (.ref it) 0 .none >>= _) _ _ s
 refine wpAny_bind (wpAny_setField ho hd (by simp) ?_)
 show wpAny _ _ (newExc (.type "StopIteration") [] >>= _) _ _ _
 refine wpAny_bind ?_
 simp only[newExc,newTuple]
 refine wpAny_bind (wpAny_newObj_type ?_ (by size_fits))
 refine wpAny_bind (m:=firstArgMember _ _) (wpAny_of_eq (a:=Value.none) (by first|rfl|(simp only[firstArgMember];rfl)) ?_)
 refine wpAny_newObj_type ?_ (by size_fits)
 simp only[raiseNew]
 refine wpAny_bind (wpAny_handled ?_)
 rw[show A.in1.handled=none from hh]
 refine wpAny_bind (wpAny_pure (wpAny_throw ?_))
 refine wpAny_bind (wpAny_isInstance (T:="StopIteration") (b:=true) ⟨_,Heap.get?_push_size _ rfl,rfl⟩ isSubtype_stop ?_)
 exact wpAny_pure (hQ _ (((Heap.SameBut.update ..).extBut.push _).push _))
theorem walksE (hh:A.handled=none) (I d:Addr) (hne:d≠I) (es:Array DictEntry) (ep:Nat) :
  Walks prog w A I [I,d] [I] es.size (fun i v=>∃ e,es[i]?=some e∧v=e.key) (fun i h=>h.IsKeyIter I d i es.size ep∧qdi h d es ep) where
 sub:=fun b hb=>by simp at hb;simp[hb]
 frame:=fun _ _ _ st hk=>⟨st.1.at fun o e=>hk I (by simp) o e,st.2.at_ fun o e=>hk d (by simp) o e⟩
 item:=fun i s Q E hi st hQ=>by
  refine nextE st.1 st.2 hi fun h' hit' hs'=>?_
  exact hQ _ h' s.toks ⟨es[i],by simp[hi],rfl⟩ ⟨hit',st.2.at_ fun o e=>hs'.extBut d o hne e⟩ fun b o hb e=>hs'.extBut b o (fun h=>hb (by simp[h])) e
 done:=fun s Q E st hQ=>endE hh st.1 st.2 (Nat.le_refl _) fun h' he'=>hQ h' s.toks fun b o hb e=>he' b o (fun h=>hb (by simp[h])) e
 self:=fun _ _ _ _ st hQ=>wpAny_pyIter_keyiter st.1 hQ
theorem srcE (lo:(d == sysModules)=false):KdlSrc prog w "dict" d d es.size (fun i v=>∃ e,es[i]?=some e∧v=e.key) (fun h=>qdi h d es ep) where
 type:=fun _ hm=>hm.ty
 there:=fun _ ⟨o,ho,_⟩=>⟨Heap.lt_size ho,Heap.lt_size ho⟩
 keep:=fun _ _ hm hk=>hm.at_ fun o e=>hk d (.inl rfl) o e
 notList:=by decide
 notTuple:=by decide
 hint:=fun _ _ _ _ hm hq=>kdl_hint_dict hm.ty hq
 iter:=fun _ _ hh hm=>⟨_,_,(fun _ _ hq=>iterE lo hm hq),walksE hh _ d (let ⟨_,ho,_⟩:=hm;Nat.ne_of_lt (Heap.lt_size ho)) es ep,⟨⟨_,Heap.get?_push_size _ rfl,rfl,rfl⟩,hm.at_ fun o e=>Heap.get?_push_of_some _ e⟩⟩
end
section
variable {X:Cx}
theorem tis_of {P:Program}{w:World}{H:Hp}{h:Heap} (ok:HOk P w H h) {ts:List TL} (hT:∀ t∈ts,H t.1=some (.tup (t.2.map V.int))):TIs h ts:=fun t ht=>by
 obtain ⟨_,its,r,o,h1,h2,n,h3⟩:=(show ya2 P w H h t.1 (.tup (t.2.map V.int)) from ok t.1 _ (hT t ht))
 exact ⟨o,its,n,h1,h2,h3,qdp r⟩
theorem TIs.keep {h h':Heap}{ts:List TL} (x:TIs h ts) (k:∀ b o,h.get? b=some o→h'.get? b=some o):TIs h' ts:=fun t ht=>by
 obtain ⟨o,us,n,e1,r⟩:=x t ht
 exact ⟨o,us,n,k _ _ e1,r⟩
theorem qf5 {pins:List (Addr×Obj)}{σ:St}{H:Hp}{s s1:Shared}{ts:List TL}{m:Nat}{Q:VK}{A:Around}{E:Value→Shared→Prop} (I:Inv X pins σ H s) (hh:∃ h' tk,s1={ s with heap:=h',toks:=tk }∧∀ b o,s.heap.get? b=some o→h'.get? b=some o) (hz:s.heap.objs.size≤s1.heap.objs.size)
  (hT:∀ t∈ts,H t.1=some (.tup (t.2.map V.int))) (hO:OkT m ts) (h64:ts.length<64) (q:∀ (p:Addr) (ts':List TL),H p=none→ts'.Perm ts→RiseT ts'→Q (.ref p) (upd H p (.lst (yaf ts')))) :
  wpAny (model X.prog X.w) A (Builtin.«list.sort» ⟨[.ref s1.heap.objs.size],[]⟩) (fun f s3=>f=.done (.ret .none)∧EP X pins σ Q (.ref s1.heap.objs.size) s3) E { s1 with heap:=s1.heap.push (seqObj "list" (qa8 ts).toArray 0) }:=by
 obtain ⟨h',tk,rfl,kp⟩:=hh
 have gL:(h'.push (seqObj "list" (qa8 ts).toArray 0)).get? h'.objs.size=some (seqObj "list" (qa8 ts).toArray 0):=Heap.get?_push_size _ rfl
 refine yfw (s:={ s with heap:=h'.push (seqObj "list" (qa8 ts).toArray 0),toks:=tk }) gL h64 ((tis_of I.hok hT).keep fun b o e=>Heap.get?_push_of_some _ (kp b o e)) hO fun ts' hp hr=>⟨rfl,?_⟩
 obtain ⟨ep,ge⟩:=sortedHeap_at (out:=(qa8 ts').toArray) gL
 have hf:H h'.objs.size=none:=I.hok.fresh hz
 refine ⟨.ref h'.objs.size,_,I.laid (o:=.lst (yaf ts')) (t':=tk) (fun b o g=>?_) hz ?_,rfl,q _ ts' hf hp hr⟩
 ·have hb:b<h'.objs.size:=Heap.lt_size (kp b o g)
  rw[sortedHeap_old (Nat.ne_of_lt hb) (by rw[show (h'.push (seqObj "list" (qa8 ts).toArray 0)).objs.size=h'.objs.size+1 from Heap.size_push ..];exact Nat.lt_succ_of_lt hb)]
  exact Heap.get?_push_of_some _ (kp b o g)
 ·exact ⟨qgc (by unfold yaf;rw[List.length_map,hp.length_eq];omega),qa8 ts',ep,qec ts',ge⟩
def rSortDT:List V→Hp→VK→Prop:=fun xs H Q=>∃ (a:Addr) (kvs:List (List Key×V)) (ks:List (List Int)) (m:Nat),xs=[.ref a]∧H a=some (.dT kvs)∧kvs.map (·.1)=ks.map (List.map Sum.inl)∧(∀ k∈ks,k.length=m+1∧Sml k)∧ks.length<64∧
 ∀ (p:Addr) (ts:List TL),H p=none→(∀ t∈ts,H t.1=some (.tup (t.2.map V.int)))→(ts.map (·.2)).Perm ks→RiseT ts→Q (.ref p) (upd H p (.lst (yaf ts)))
theorem qf2 {H:Hp}:∀ {kvs:List (List Key×V)}{xs:List (List Key×Addr×Value)}{ks:List (List Int)},KT H kvs xs→kvs.map (·.1)=ks.map (List.map Sum.inl)→
  ∃ ts:List TL,ts.map (·.2)=ks∧ts.map (·.1)=xs.map (·.2.1)∧∀ t∈ts,H t.1=some (.tup (t.2.map V.int))
 | [],[],[],_,_=>⟨[],rfl,rfl,fun t h=>by simp at h⟩
 | [],[],_::_,_,h=>by simp at h
 | _::_,_,[],_,h=>by simp at h
 | p::kvs,x::xs,k::ks,.cons r q,h=>by
  simp only[List.map_cons,List.cons.injEq] at h
  obtain ⟨ts,a,b,c⟩:=qf2 q h.2
  refine ⟨(x.2.1,k)::ts,by rw[List.map_cons,a],by rw[List.map_cons,b];rfl,fun t ht=>?_⟩
  rcases List.mem_cons.mp ht with rfl|ht
  ·have:=r.2.1
   rw[h.1,List.map_map] at this
   exact this
  ·exact c t ht
theorem qej (hc:X.calm=true):yb5 X (.builtin "sorted") rSortDT:=by
 intro pins s σ H xs us Q I r h
 obtain ⟨a,kvs,ks,m,rfl,hH,hk,hK,h64,q⟩:=h
 cases r with
 | cons r rr=>
  cases rr
  cases r
  obtain ⟨z1,m1,ys,r1,o,es,ep,e1,e2,e3,e4,e5⟩:=(show ya2 X.prog X.w H s.heap a (.dT kvs) from I.hok a _ hH)
  obtain ⟨ts,t1,t2,t3⟩:=qf2 (H:=H) r1 hk
  have htl:ts.length=ks.length:=by have:=congrArg List.length t1;simpa using this
  have hyl:ys.length=ts.length:=by have:=congrArg List.length t2;simpa using this.symm
  have hes:es.size=ys.length:=by rw[← Array.length_toList,e4,List.length_map]
  refine yf3 (collectK (srcE (es:=es) (ep:=ep) m1) (by simpa using I.ok.hd hc) ⟨o,e1,e2,e3⟩ (qgc (by omega)) fun vs h' tk hvl hP hz kp=>⟨by omega,fun s2 hs=>?_⟩)
  subst hs
  have ev:vs=qa8 ts:=by
   refine List.ext_getElem? fun j=>?_
   by_cases hj:j<ts.length
   ·have hv:j<vs.length:=by omega
    obtain ⟨e,g1,g2⟩:=hP j vs[j] (by simp[hv])
    rw[← Array.getElem?_toList,e4,List.getElem?_map,List.getElem?_eq_getElem (show j<ys.length by omega)] at g1
    have g3:e=entryOfKey (tupleKind (ya7 X.prog X.w)) ys[j]:=by simpa using g1.symm
    have g4:=congrArg (·[j]?) t2
    simp only[List.getElem?_map,List.getElem?_eq_getElem hj,List.getElem?_eq_getElem (show j<ys.length by omega),Option.map_some,Option.some.injEq] at g4
    unfold qa8
    rw[List.getElem?_eq_getElem hv,List.getElem?_map,List.getElem?_eq_getElem hj,g2,g3]
    show some (Value.ref (ys[j].2.1))=some (Value.ref (ts[j].1))
    rw[g4]
   ·rw[List.getElem?_eq_none (by omega),List.getElem?_eq_none (by unfold qa8;rw[List.length_map];omega)]
  subst ev
  have hO:OkT m ts:=fun t ht=>hK t.2 (by rw[← t1];exact List.mem_map_of_mem ht)
  refine qf5 (s1:={ s with heap:=h',toks:=tk }) I ⟨_,_,rfl,kp⟩ (Nat.le_of_lt hz) t3 hO (by omega) fun p ts' hp pm ri=>q p ts' hp (fun t ht=>t3 t (pm.mem_iff.mp ht)) ?_ ri
  rw[← t1]
  exact pm.map _
end
end L2
namespace L2
open PySem PySem.Spec PyProof.Rows
def Srt (xs:Array Nat):Prop:=∀ (i j:Nat) (x y:Nat),i<j→xs[i]?=some x→xs[j]?=some y→x<y
theorem qdv (xs:Array Nat) (j:Nat) (hs:Srt xs):∀ (fuel lo hi:Nat),hi-lo≤fuel→lo≤hi→hi≤xs.size→(∀ k x,k<lo→xs[k]?=some x→x<j)→(∀ k x,hi≤k→xs[k]?=some x→j≤x)→
  (∀ k x,k<SetTable.below.go xs j fuel lo hi→xs[k]?=some x→x<j)∧(∀ k x,SetTable.below.go xs j fuel lo hi≤k→xs[k]?=some x→j≤x)∧SetTable.below.go xs j fuel lo hi≤xs.size
 | 0,lo,hi,hf,h1,h2,ha,hb=>by
  have e:lo=hi:=by omega
  subst e
  exact ⟨ha,hb,h2⟩
 | fuel+1,lo,hi,hf,h1,h2,ha,hb=>by
  unfold SetTable.below.go
  by_cases hlt:lo<hi
  ·rw[if_pos hlt]
   have hm:(lo+hi) / 2<xs.size:=by omega
   have hg:xs[(lo+hi) / 2]?=some (xs.getD ((lo+hi) / 2) j):=by
    rw[Array.getD_eq_getD_getElem?,Array.getElem?_eq_getElem hm];rfl
   dsimp only
   by_cases hc:xs.getD ((lo+hi) / 2) j<j
   ·rw[if_pos hc]
    refine qdv xs j hs fuel _ hi (by omega) (by omega) h2 (fun k x hk hx=>?_) hb
    by_cases he:k=(lo+hi) / 2
    ·subst he;rw[hg] at hx;cases hx;exact hc
    ·have:=hs k ((lo+hi) / 2) x _ (by omega) hx hg
     omega
   ·rw[if_neg hc]
    refine qdv xs j hs fuel lo _ (by omega) (by omega) (by omega) ha (fun k x hk hx=>?_)
    by_cases he:k=(lo+hi) / 2
    ·subst he;rw[hg] at hx;cases hx;omega
    ·have:=hs ((lo+hi) / 2) k _ x (by omega) hg hx
     omega
  ·rw[if_neg hlt]
   have e:lo=hi:=by omega
   subst e
   exact ⟨ha,hb,h2⟩
theorem below_is {xs:Array Nat} (j:Nat) (hs:Srt xs):(∀ k x,k<SetTable.below xs j→xs[k]?=some x→x<j)∧(∀ k x,SetTable.below xs j≤k→xs[k]?=some x→j≤x)∧SetTable.below xs j≤xs.size:=by
 unfold SetTable.below
 refine qdv xs j hs xs.size 0 xs.size (by omega) (Nat.zero_le _) (Nat.le_refl _) (fun k x h=>absurd h (Nat.not_lt_zero _)) (fun k x h hx=>?_)
 rw[Array.getElem?_eq_none h] at hx;cases hx
theorem qd4 {α:Type} (xs:Array α) (p:Nat) (x:α) (hp:p≤xs.size) (i:Nat):(SetTable.insertAt xs p x)[i]?=if i<p then xs[i]? else if i=p then some x else xs[i-1]?:=by
 unfold SetTable.insertAt
 have e1:((xs.extract 0 p).push x++xs.extract p xs.size).toList=xs.toList.take p++x::xs.toList.drop p:=by
  simp
  exact List.take_of_length_le (by simp)
 rw[← Array.getElem?_toList,e1]
 have hl:(xs.toList.take p).length=p:=by rw[List.length_take,Array.length_toList];omega
 by_cases h1:i<p
 ·rw[if_pos h1,List.getElem?_append_left (by omega),List.getElem?_take_of_lt h1,Array.getElem?_toList]
 ·rw[if_neg h1,List.getElem?_append_right (by omega),hl]
  by_cases h2:i=p
  ·rw[if_pos h2,h2,Nat.sub_self];rfl
  ·rw[if_neg h2]
   obtain ⟨d,hd⟩:∃ d,i-p=d+1:=⟨i-p-1,by omega⟩
   rw[hd,List.getElem?_cons_succ,List.getElem?_drop,Array.getElem?_toList]
   congr 1
   omega
theorem yfb {xs:Array Nat}{j:Nat} (hs:Srt xs) (hj:xs[SetTable.below xs j]?≠some j):Srt (SetTable.insertAt xs (SetTable.below xs j) j):=by
 obtain ⟨b1,b2,b3⟩:=below_is j hs
 have hgt:∀ k x,SetTable.below xs j≤k→xs[k]?=some x→j<x:=fun k x hk hx=>by
  have h1:=b2 k x hk hx
  by_cases he:x=j
  ·subst he
   by_cases hk2:k=SetTable.below xs x
   ·subst hk2;exact absurd hx hj
   ·have hlt:SetTable.below xs x<xs.size:=by
     have:=(Array.getElem?_eq_some_iff.mp hx).1
     omega
    have g:=Array.getElem?_eq_getElem hlt
    have h2:=hs _ k _ x (by omega) g hx
    have h3:=b2 _ _ (Nat.le_refl _) g
    omega
  ·omega
 intro a b x y hab hx hy
 rw[qd4 _ _ _ b3] at hx hy
 by_cases ha:a<SetTable.below xs j
 ·rw[if_pos ha] at hx
  by_cases hb:b<SetTable.below xs j
  ·rw[if_pos hb] at hy
   exact hs a b x y hab hx hy
  ·rw[if_neg hb] at hy
   have hxj:=b1 a x ha hx
   by_cases hb2:b=SetTable.below xs j
   ·rw[if_pos hb2] at hy;cases hy;exact hxj
   ·rw[if_neg hb2] at hy
    have:=hgt (b-1) y (by omega) hy
    omega
 ·rw[if_neg ha] at hx
  have hb:¬ b<SetTable.below xs j:=by omega
  rw[if_neg hb] at hy
  by_cases ha2:a=SetTable.below xs j
  ·rw[if_pos ha2] at hx
   cases hx
   rw[if_neg (by omega)] at hy
   exact hgt (b-1) y (by omega) hy
  ·rw[if_neg ha2] at hx
   rw[if_neg (by omega)] at hy
   exact hs (a-1) (b-1) x y (by omega) hx hy
theorem yfs (n:Nat):Srt (Array.range n):=by
 intro i j x y hij hx hy
 have h1:=(Array.getElem?_eq_some_iff.mp hx).2
 have h2:=(Array.getElem?_eq_some_iff.mp hy).2
 simp at h1 h2
 omega
theorem srt_of {l:List Nat} (h:l.Pairwise (· < ·)):Srt l.toArray:=by
 intro i j x y hij hx hy
 have hx':l[i]?=some x:=by simpa using hx
 have hy':l[j]?=some y:=by simpa using hy
 obtain ⟨hi,e1⟩:=List.getElem?_eq_some_iff.mp hx'
 obtain ⟨hj,e2⟩:=List.getElem?_eq_some_iff.mp hy'
 have:=List.pairwise_iff_getElem.mp h i j hi hj hij
 rw[e1,e2] at this
 exact this
def TOk (t:SetTable):Prop:=Srt t.place∧t.dummies=#[]
theorem qeu (j:Nat):SetTable.has #[] j=false:=by
 unfold SetTable.has
 simp
theorem slot_no {t:SetTable} (h:TOk t) (j:Nat):t.slot j≠.dummy:=by
 unfold SetTable.slot
 rw[h.2,qeu]
 dsimp only
 split
 ·intro z;cases z
 ·simp
theorem yff {t:SetTable}{j:Nat} (h:t.slot j=.empty):t.place[SetTable.below t.place j]?≠some j:=by
 intro e
 unfold SetTable.slot at h
 dsimp only at h
 rw[if_pos (by rw[e];simp)] at h
 cases h
theorem ydz (t:SetTable) (p:SetTable.Probe):(t.advance p).dummy=p.dummy:=by
 unfold SetTable.advance
 split<;>rfl
theorem ydf {t:SetTable} (ht:TOk t) (f:Nat→Int) (h:Int):∀ (fuel:Nat) (p:SetTable.Probe) (j:Nat) (d:Option Nat),p.dummy=none→SetTable.probe.go t f h fuel p=some (.empty j d)→t.slot j=.empty∧d=none
 | 0,p,j,d,hp,e=>by
  unfold SetTable.probe.go at e
  cases e
 | fuel+1,p,j,d,hp,e=>by
  unfold SetTable.probe.go at e
  split at e
  ·rename_i hs
   cases e
   exact ⟨hs,hp⟩
  ·rename_i hs
   exact absurd hs (slot_no ht _)
  ·split at e
   ·cases e
   ·exact ydf ht f h fuel _ j d (by rw[ydz];exact hp) e
theorem qem {t:SetTable} (ht:TOk t) {h:Int}{j:Nat}{b:Bool} (e:t.freeSlot h=some (j,b)):t.slot j=.empty:=by
 unfold SetTable.freeSlot at e
 split at e
 ·rename_i j' d hp
  have hq:SetTable.probe.go t (fun _=>h+1) h (10*SetTable.turns t.mask) (t.probeStart h)=some (.empty j' d):=hp
  obtain ⟨h1,h2⟩:=ydf ht _ _ _ _ _ _ rfl hq
  subst h2
  cases e
  exact h1
 ·cases e
theorem put_ok {t:SetTable} (ht:TOk t) {j:Nat} (h:t.slot j=.empty):TOk (t.put j).1∧(t.put j).1.led=t.led:=by
 refine ⟨⟨yfb ht.1 (yff h),?_⟩,rfl⟩
 show (if SetTable.has t.dummies j then SetTable.eraseAt t.dummies (SetTable.below t.dummies j) else t.dummies)=#[]
 rw[ht.2,qeu]
 rfl
theorem qb8 (t:SetTable) (n:Nat):TOk (t.standIn n)∧(t.standIn n).led=t.led:=⟨⟨yfs n,rfl⟩,rfl⟩
theorem yd6 {t:SetTable} (ht:TOk t) (n:Nat):TOk (t.orStandIn n)∧(t.orStandIn n).led=t.led:=by
 unfold SetTable.orStandIn
 split
 ·exact ⟨ht,rfl⟩
 ·exact qb8 t n
theorem qft {t:SetTable} (ht:TOk t) (es:Array (Int×Value)) (h:Int) (x:Value):TOk (layNew t es h x).2.1∧(layNew t es h x).2.1.led=t.led:=by
 unfold layNew
 split
 ·rename_i j b e
  have hp:=put_ok ht (qem ht e)
  have ho:=yd6 hp.1 (SetTable.insertAt es (t.put j).2 (h,x)).size
  exact ⟨ho.1,ho.2.trans hp.2⟩
 ·exact qb8 t _
theorem qcm {α:Type} (f:Nat→Option α):∀ (l:List Nat),l.Pairwise (· < ·)→((l.filterMap fun j=>(f j).map (j,·)).map (·.1)).Pairwise (· < ·):=by
 intro l hl
 have hsub:((l.filterMap fun j=>(f j).map (j,·)).map (·.1)).Sublist l:=by
  induction l with
  | nil=>exact .slnil
  | cons a l ih=>
   rw[List.filterMap_cons]
   have:=ih (List.pairwise_cons.mp hl).2
   cases f a with
   | none=>exact .cons _ this
   | some b=>exact .cons₂ _ this
 exact hl.sublist hsub
theorem qfq {t t':SetTable}{hs:Array Int}{n:Nat}{o:Array Nat} (e:t.relaid hs n=some (t',o)):TOk t'∧t'.led=t.led:=by
 unfold SetTable.relaid SetTable.laid at e
 cases ho:SetTable.layClean (SetTable.sizeAbove n-1) hs with
 | none=>rw[ho] at e;cases e
 | some owner=>
  rw[ho] at e
  cases e
  refine ⟨⟨srt_of ?_,rfl⟩,rfl⟩
  exact qcm (fun j=>owner.getD j none) _ List.pairwise_lt_range
theorem yek {t:SetTable} (es:Array (Int×Value)) (n:Nat):TOk (relayAll t es n).2.1∧(relayAll t es n).2.1.led=t.led:=by
 unfold relayAll
 split
 ·rename_i t' o e
  dsimp only
  split
  ·exact qfq e
  ·exact qb8 t _
 ·exact qb8 t _
def byTx (w:World):Bool:=w.params.followText "set-order"
def SetL (P:Program) (w:World) (h:Heap) (a:Addr) (ks:List Int):Prop:=
 ∃ o es ep t,h.get? a=some o∧o.ExactSet∧o.data=.set es ep t∧ElemsOf (intKind P w) es.toList∧(∃ ns,IntsAre (es.toList.map (·.2)) ns∧ns.Perm ks)∧es.size<scanBound∧t.fits es.size=true∧TOk t∧(byTx w=true∨t.led=true)
theorem yec {vs' vs:List Value} (p:vs'.Perm vs):∀ {ns:List Int},IntsAre vs ns→∃ ns',IntsAre vs' ns'∧ns'.Perm ns:=by
 induction p with
 | nil=>intro ns h;exact ⟨ns,h,List.Perm.refl _⟩
 | cons x _ ih=>
  intro ns h
  cases h with
  | cons n t r=>
   obtain ⟨ns',h1,h2⟩:=ih r
   exact ⟨n::ns',.cons n t h1,h2.cons n⟩
 | swap x y l=>
  intro ns h
  cases h with
  | cons n t r=>
   cases r with
   | cons m u r=>exact ⟨m::n::_,.cons m u (.cons n t r),List.Perm.swap ..⟩
 | trans _ _ ih1 ih2=>
  intro ns h
  obtain ⟨n1,a1,b1⟩:=ih2 h
  obtain ⟨n2,a2,b2⟩:=ih1 a1
  exact ⟨n2,a2,b2.trans b1⟩
theorem qdw:∀ {vs:List Value}{ns:List Int},IntsAre vs ns→(∀ v∈vs,∃ n t,v=.int n t∧n∈ns)∧∀ n∈ns,∃ t,Value.int n t∈vs
 | _,_,.nil=>⟨fun v h=>by simp at h,fun n h=>by simp at h⟩
 | _,_,.cons n t r=>by
  obtain ⟨h1,h2⟩:=qdw r
  refine ⟨fun v hv=>?_,fun m hm=>?_⟩
  ·rcases List.mem_cons.mp hv with rfl|hv
   ·exact ⟨n,t,rfl,List.mem_cons_self ..⟩
   ·obtain ⟨m,u,e,hm⟩:=h1 v hv
    exact ⟨m,u,e,List.mem_cons_of_mem _ hm⟩
  ·rcases List.mem_cons.mp hm with rfl|hm
   ·exact ⟨t,List.mem_cons_self ..⟩
   ·obtain ⟨u,hu⟩:=h2 m hm
    exact ⟨u,List.mem_cons_of_mem _ hu⟩
theorem qea:∀ {vs:List Value}{ns:List Int} (k:Int) (t:Tok),IntsAre vs ns→IntsAre (vs++[.int k t]) (ns++[k])
 | _,_,k,t,.nil=>.cons k t .nil
 | _,_,k,t,.cons n u r=>.cons n u (qea k t r)
section
variable {P:Program}{w:World}{A:Around}{E:Value→Shared→Prop}{s:Shared}{a:Addr}{ks:List Int}
theorem storeL {o:Obj}{es:Array (Int×Value)}{ep:Nat}{t:SetTable}{es':Array (Int×Value)}{t':SetTable}{ks':List Int}{h:Heap} (g:h.get? a=some o) (gx:o.ExactSet) (gd:o.data=.set es ep t)
  (el:ElemsOf (intKind P w) es'.toList) (hv:∃ ns,IntsAre (es'.toList.map (·.2)) ns∧ns.Perm ks') (hb:es'.size<scanBound) (hf:t'.fits es'.size=true) (ht:TOk t') (hl:byTx w=true∨t'.led=true) :
  (h.update a (Obj.putSet es' t')).get? a=some { o with data:=.set es' (ep+1) t' }∧SetL P w (h.update a (Obj.putSet es' t')) a ks':=by
 have hg:(h.update a (Obj.putSet es' t')).get? a=some { o with data:=.set es' (ep+1) t' }:=by
  have z:=Heap.get?_update_self (Obj.putSet es' t') g (by rw[putSet_of es' t' gd];rfl)
  rw[putSet_of es' t' gd] at z
  exact z
 exact ⟨hg,_,es',ep+1,t',hg,gx,rfl,el,hv,hb,hf,ht,hl⟩
theorem addL {k:Int}{tk:Tok}{Q:Bool→Shared→Prop} (hS:SetL P w s.heap a ks) (hroom:ks.length+1<scanBound)
  (h:∀ b h',Heap.SameBut a s.heap h'→SetL P w h' a (if k∈ks then ks else ks++[k])→Q b { s with heap:=h' }) :
  wpAny (model P w) A (setAddHashed a (.int k tk) ((intKind P w).hash k)) Q E s:=by
 obtain ⟨o,es,ep,t,g,gx,gd,el,⟨ns,hi,hp⟩,hb,hf,ht,hl⟩:=hS
 have hlen:es.size=ks.length:=by
  have h1:=IntsAre.length hi
  rw[List.length_map,Array.length_toList] at h1
  rw[h1,hp.length_eq]
 have kk:(intKind P w).is k (.int k tk)=true:=intKind_is _ _ _ _
 unfold setAddHashed setAddHashedIn
 refine wpAny_holding (wpAny_bind (wpAny_setState_of g gd hf ?_))
 dsimp only
 rw[byScan_of (knd:=intKind P w) rfl hb el]
 simp only[↓reduceIte]
 unfold setAddByScan
 refine wpAny_bind ?_
 refine wpAny_bind (wpAny_rule ?_)
 refine wpAny_bind (wpAny_setScan_of kk g gd hf el ?_)
 have same:∀ m u,(intKind P w).is k (.int m u)=true→m=k:=fun m u z=>(intKind P w).inj _ m k (intKind_is _ _ _ _) z
 cases hr:List.findIdx? (fun e=>(intKind P w).is k e.2) es.toList with
 | some j=>
  dsimp only
  obtain ⟨hj,hpj,_⟩:=List.findIdx?_eq_some_iff_getElem.mp hr
  have hin:k∈ks:=by
   obtain ⟨m,u,e,hm⟩:=(qdw hi).1 (es.toList[j]).2 (List.mem_map.mpr ⟨_,List.getElem_mem hj,rfl⟩)
   rw[e] at hpj
   have:=same m u hpj
   subst this
   exact hp.mem_iff.mp hm
  refine wpAny_pure (wpAny_pure ?_)
  have e:s={ s with heap:=s.heap }:=by cases s;rfl
  have z:=h false s.heap (Heap.SameBut.refl a s.heap) (by rw[if_pos hin];exact ⟨o,es,ep,t,g,gx,gd,el,⟨ns,hi,hp⟩,hb,hf,ht,hl⟩)
  rw[e]
  exact z
 | none=>
  dsimp only
  have hout:k∉ks:=fun hin=>by
   obtain ⟨u,hu⟩:=(qdw hi).2 k (hp.mem_iff.mpr hin)
   obtain ⟨e,he,e2⟩:=List.mem_map.mp hu
   have z:=List.findIdx?_eq_none_iff.mp hr e he
   rw[e2] at z
   rw[show (intKind P w).is k (.int k u)=true from intKind_is _ _ _ _] at z
   cases z
  rw[if_neg hout] at h
  have gw:∀ (b:Bool) {s1:Shared}{Q':Unit→Shared→Prop},Q' () s1→wpAny (model P w) A (match b with|true=>rule "set.scan.the-table-gave-way" | false=>pure ()) Q' E s1:=fun b s1 Q' z=>by cases b<;>first|exact wpAny_pure z|exact wpAny_rule z
  have pm:=layNew_perm t es ((intKind P w).hash k) (.int k tk)
  have fm:=layNew_fits t es ((intKind P w).hash k) (.int k tk)
  have tm:=qft ht es ((intKind P w).hash k) (.int k tk)
  generalize hL:layNew t es ((intKind P w).hash k) (.int k tk)=L at pm fm tm ⊢
  obtain ⟨es1,t1,wasDummy,gave⟩:=L
  dsimp only at pm fm tm ⊢
  rw[Array.toList_push] at pm
  have el1:ElemsOf (intKind P w) es1.toList:=(el.push kk rfl).perm pm
  have hv1:∃ ns,IntsAre (es1.toList.map (·.2)) ns∧ns.Perm (ks++[k]):=by
   have q:=pm.map (·.2)
   rw[List.map_append] at q
   obtain ⟨n1,i1,p1⟩:=yec q (qea k tk hi)
   exact ⟨n1,i1,p1.trans (hp.append_right [k])⟩
  have sz1:es1.size=ks.length+1:=by
   rw[← Array.length_toList,pm.length_eq,List.length_append,Array.length_toList,hlen];rfl
  have hb1:es1.size<scanBound:=by rw[sz1];exact hroom
  refine wpAny_bind (gw _ ?_)
  have tail:∀ (t2:SetTable),t2.fits es1.size=true→TOk t2→(byTx w=true∨t2.led=true)→wpAny (model P w) A (do
    storeSet a es1 t2
    if (!wasDummy&&t2.tooFull)=true then do
      (match (relayAll t2 es1 (SetTable.grown es1.size)).2.2 with|true=>rule "set.scan.the-table-gave-way" | false=>pure ())
      storeSet a (relayAll t2 es1 (SetTable.grown es1.size)).1 (relayAll t2 es1 (SetTable.grown es1.size)).2.1
      pure (some true)
     else pure (some true)) (fun r s1=>wpAny (model P w) A (match r with|some added=>pure added|none=>setAddHashedIn a (.int k tk) ((intKind P w).hash k) 99999) Q E s1) E s:=by
   intro t2 f2 k2 l2
   refine wpAny_bind (wpAny_storeSet_of g gd ?_ (fits_of_scanBound hb1))
   obtain ⟨g1,S1⟩:=storeL (P:=P) (w:=w) g gx gd el1 hv1 hb1 f2 k2 l2
   have sb1:=Heap.SameBut.update s.heap a (Obj.putSet es1 t2)
   split
   ·have pr:=relayAll_perm t2 es1 (SetTable.grown es1.size)
    have fr:=relayAll_fits t2 es1 (SetTable.grown es1.size)
    have tr:=yek (t:=t2) es1 (SetTable.grown es1.size)
    generalize hR:relayAll t2 es1 (SetTable.grown es1.size)=R at pr fr tr ⊢
    obtain ⟨es2,t3,gave2⟩:=R
    dsimp only at pr fr tr ⊢
    have sz2:es2.size=es1.size:=by rw[← Array.length_toList,pr.length_eq,Array.length_toList]
    have hb2:es2.size<scanBound:=by rw[sz2];exact hb1
    refine wpAny_bind (gw _ ?_)
    refine wpAny_bind (wpAny_storeSet_of g1 rfl ?_ (fits_of_scanBound hb2))
    have hv2:∃ ns,IntsAre (es2.toList.map (·.2)) ns∧ns.Perm (ks++[k]):=by
     obtain ⟨n1,i1,p1⟩:=hv1
     obtain ⟨n2,i2,p2⟩:=yec (pr.map (·.2)) i1
     exact ⟨n2,i2,p2.trans p1⟩
    obtain ⟨_,S2⟩:=storeL (P:=P) (w:=w) g1 gx rfl (el1.perm pr) hv2 hb2 fr tr.1 (l2.imp id fun z=>tr.2.trans z)
    exact wpAny_pure (wpAny_pure (h true _ (sb1.trans (Heap.SameBut.update _ a _)) S2))
   ·exact wpAny_pure (wpAny_pure (h true _ sb1 S1))
  have l1:byTx w=true∨t1.led=true:=hl.imp id fun z=>tm.2.trans z
  split
  ·refine wpAny_bind ?_
   rw[hashByValue_scannable 8 (rfl:(Value.int k tk).scannable=true)]
   refine wpAny_pure ?_
   split
   ·exact tail t1 fm tm.1 l1
   ·exact tail { t1 with plain:=false } (SetTable.fits_plain_off fm) tm.1 l1
  ·refine wpAny_bind (wpAny_pure ?_)
   simp only[↓reduceIte]
   exact tail t1 fm tm.1 l1
end
def qaz (f:Nat→Int):Nat→List Int
 | 0=>[]
 | i+1=>if f i∈qaz f i then qaz f i else qaz f i++[f i]
theorem ycn (f:Nat→Int):∀ i,(qaz f i).length≤i
 | 0=>Nat.le_refl _
 | i+1=>by
  have ih:=ycn f i
  unfold qaz
  split
  ·omega
  ·rw[List.length_append];show _+1≤_;omega
theorem SetL.at {P:Program}{w:World}{h h':Heap}{a:Addr}{ks:List Int} (x:SetL P w h a ks) (k:∀ o,h.get? a=some o→h'.get? a=some o):SetL P w h' a ks:=by
 obtain ⟨o,es,ep,t,g,r⟩:=x
 exact ⟨o,es,ep,t,k o g,r⟩
section
variable {P:Program}{w:World}{A:Around}{R:Result→Shared→Prop}{I:Addr}{fp wr:List Addr}{G:Array GenState→Array GenState→Prop}{n:Nat}{Pv:Nat→Value→Prop}{St:Nat→Shared→Prop}
theorem loopL (W:WalksS P w A.in1 I fp wr G n Pv St) (d:Addr) (hd:d∉fp) (f:Nat→Int) (hf:∀ i v,Pv i v→∃ t,v=.int (f i) t) (hb:n+1<scanBound):∀ (k i:Nat) (s:Shared),n-i=k→i≤n→St i s→SetL P w s.heap d (qaz f i)→
   (∀ s',Moved (d::wr) G s s'→SetL P w s'.heap d (qaz f n)→R (.ok (.ret .none)) s')→codeAny (model P w) A (.builtin "set.update.loop" ⟨[.ref d,.ref I],[]⟩) R s:=by
 have hw:d∉wr:=fun z=>hd (W.sub _ z)
 have up:∀ b∈wr,b∈d::wr:=fun b z=>List.mem_cons_of_mem _ z
 intro k
 induction k with
 | zero=>
  intro i s hk hi st hS hR
  have e:i=n:=by omega
  subst e
  refine codeAny_builtin F.entry_set_update_loop ?_
  rw[Around.under_plainId F.plain_set_update_loop _]
  show wpAny _ A.in1 (pyNext (.ref I) >>= _) _ _ _
  refine wpAny_bind (W.done s _ _ st fun s' m=>?_)
  show wpAny _ A.in1 (ret Value.none) _ _ _
  exact wpAny_pure (hR s' (m.mono up) (hS.at fun o g=>m.heap d o hw g))
 | succ k ih=>
  intro i s hk hi st hS hR
  have hlt:i<n:=by omega
  refine codeAny_builtin F.entry_set_update_loop ?_
  rw[Around.under_plainId F.plain_set_update_loop _]
  show wpAny _ A.in1 (pyNext (.ref I) >>= _) _ _ _
  refine wpAny_bind (W.item i s _ _ hlt st fun v s' hP st' m=>?_)
  obtain ⟨t,rfl⟩:=hf i v hP
  have hS':SetL P w s'.heap d (qaz f i):=hS.at fun o g=>m.heap d o hw g
  show wpAny _ A.in1 (holding [Value.int (f i) t] (setAdd d (.int (f i) t)) >>= _) _ _ _
  refine wpAny_bind (wpAny_holding ?_)
  unfold setAdd
  refine wpAny_holding ?_
  refine wpAny_bind ((intKind P w).pyHash (k:=f i) (intKind_is _ _ _ _) ?_)
  have room:(qaz f i).length+1<scanBound:=by have:=ycn f i;omega
  refine addL (s:={ s' with toks:=s'.toks+1 }) hS' room fun b h' sb S2=>?_
  have S3:SetL P w h' d (qaz f (i+1)):=S2
  refine wpAny_pure ⟨plainId_quiet F.plain_set_update_loop _,?_⟩
  refine ih (i+1) _ (by omega) hlt (W.frame _ s' _ _ st' (Nat.le_succ _) fun b hb o g=>?_) S3 fun s2 m2 S4=>?_
  ·rw[sb.2 b (fun z:b=d=>hd (by rw[← z];exact hb))];exact g
  ·refine hR s2 (Moved.trans W.gtrans ((m.mono up).then_heap (Nat.le_succ _) fun b o hb g=>?_) m2) S4
   rw[sb.2 b (fun z:b=d=>hb (by rw[z];exact List.mem_cons_self))];exact g
end
section
variable {P:Program}{w:World}{A:Around}{E:Value→Shared→Prop}{s:Shared}
theorem newL (v:Value) {Q1:Value→Shared→Prop} (h:Q1 (.ref s.heap.objs.size) { s with heap:=s.heap.push { cls:=.type "set",dict:=none,data:=.set #[] 0 (.fresh 0 0 (!byTx w)) } }) :
  codeAny (model P w) A (.call (.builtin "set.__new__") ⟨[.type "set",v],[]⟩) (wants Q1 E) s:=by
 refine codeAny_of_tree ?_
 show wpAny _ A.in1 (do checkBuiltinCall "set.__new__" ⟨[.type "set",v],[]⟩;again (.builtin "set.__new__" ⟨[.type "set",v],[]⟩)) _ _ s
 refine wpAny_bind (wpAny_of_eq (F.newCall_set_1 v) (wpAny_pure ⟨plainId_quiet F.plain_set_new _,?_⟩))
 refine codeAny_builtin F.entry_set_new ?_
 rw[Around.under_plainId F.plain_set_new _]
 unfold Builtin.«set.__new__» Builtin.Frozenset.newClass
 have hsub:=sub_set_self
 obtain ⟨hp,g,d,tk,os⟩:=s
 dsimp only
 wp_walk
 refine wpAny_askSetting ?_
 refine wpAny_pure ?_
 dsimp only
 simp only[newObj]
 refine wpAny_bind (wpAny_alloc ?_)
 exact wpAny_pure (wpAny_pure h)
theorem SetL.new {h:Heap}{a:Addr} (g:h.get? a=some { cls:=.type "set",dict:=none,data:=.set #[] 0 (.fresh 0 0 (!byTx w)) }):SetL P w h a []:=by
 refine ⟨_,#[],0,_,g,⟨rfl,rfl,rfl⟩,rfl,fun e he=>by simp at he,⟨[],.nil,List.Perm.refl _⟩,by decide,rfl,⟨fun i j x y _ hx=>by simp[SetTable.fresh] at hx,rfl⟩,?_⟩
 cases byTx w
 ·exact .inr rfl
 ·exact .inl rfl
set_option maxHeartbeats 6400000 in
theorem qgf {l:Addr}{its:Array Value}{ns:List Int}{Q:Value→Shared→Prop} (hh:A.handled=none) (hl:s.heap.IsList l its) (hi:IntsAre its.toList ns) (hb:its.size+1<scanBound)
  (k:∀ (h':Heap) (tk:Nat),SetL P w h' s.heap.objs.size (qaz (fun i=>ns.getD i 0) its.size)→(∀ b o,b<s.heap.objs.size→s.heap.get? b=some o→h'.get? b=some o)→Q (.ref s.heap.objs.size) { s with heap:=h',toks:=tk }) :
  wpAny (model P w) A (call (.type "set") [.ref l]) Q E s:=by
 obtain ⟨c0,tl0,c1⟩:=F.called_set.mro
 have c2:=F.called_set.made
 have c3:=F.called_set.sub
 refine wpAny_call (codeAny_of_tree ?_)
 show wpAny _ _ (callAny (.type "set") _) _ _ s
 refine wpAny_pure ⟨?_,?_⟩
 ·exact Code.quiet_builtin _ (by decide +kernel)
 refine codeAny_builtin F.entry_type_call ?_
 rw[Around.under_plain (weight_type_call_type "set" [.ref l] []) rfl]
 have c4:=F.called_set.notType
 have c5:=F.called_set.canCreate
 have c6:=F.typeCall_set_1 (.ref l)
 repeat (any_goals first|assumption|wp_step)
 refine codeAny_mono (newL (.ref l) (E:=E) (Q1:=fun v s1=>v=.ref s.heap.objs.size∧s1={ s with heap:=s.heap.push { cls:=.type "set",dict:=none,data:=.set #[] 0 (.fresh 0 0 (!byTx w)) } }) ⟨rfl,rfl⟩) fun r s1 hr=>?_
 cases r with
 | error e=>exact hr
 | ok fl=>
  cases fl with
  | ret v=>
   obtain ⟨rfl,rfl⟩:=hr
   have g1:(s.heap.push { cls:=.type "set",dict:=none,data:=.set #[] 0 (.fresh 0 0 (!byTx w)) }).get? s.heap.objs.size=some { cls:=.type "set",dict:=none,data:=.set #[] 0 (.fresh 0 0 (!byTx w)) }:=Heap.get?_push_size _ rfl
   have c7:Shared.TypeIs { s with heap:=s.heap.push { cls:=.type "set",dict:=none,data:=.set #[] 0 (.fresh 0 0 (!byTx w)) } } (.ref s.heap.objs.size) "set":=⟨_,g1,rfl⟩
   have c8:=F.called_set.init.lookup
   have c9:=F.called_set.init.bind (.ref s.heap.objs.size)
   repeat (any_goals first|assumption|wp_step)
   refine codeAny_mono (codeAny_call_builtin (R:=wants (fun r s2=>r=.none∧∃ h' tk,s2={ s with heap:=h',toks:=tk }∧SetL P w h' s.heap.objs.size (qaz (fun i=>ns.getD i 0) its.size)∧
     (∀ b o,b<s.heap.objs.size→s.heap.get? b=some o→h'.get? b=some o)) E) F.called_set.init.plain F.entry_set_init (check_set_init_1 c7 ?_)) fun r2 s2 hr2=>?_
   ·obtain ⟨ol,gl,cl,nl,dl⟩:=hl
    obtain ⟨qc,qd,qa,qs⟩:=ol
    simp only at cl dl
    subst cl
    subst dl
    have gl':(s.heap.push { cls:=.type "set",dict:=none,data:=.set #[] 0 (.fresh 0 0 (!byTx w)) }).get? l=some { cls:=.type "list",dict:=qd,data:=.seq its nl,slots:=qs }:=Heap.get?_push_of_some _ gl
    have d1:=F.sub_list_set
    have d2:=F.sub_list_frozenset
    have d3:(Value.type "list" == Value.type "dict")=false:=by decide
    have hl1:(s.heap.push { cls:=.type "set",dict:=none,data:=.set #[] 0 (.fresh 0 0 (!byTx w)) }).IsList l its:=⟨_,gl',rfl,nl,rfl⟩
    unfold Builtin.«set.__init__» noKeywords Builtin.Frozenset.updateFrom
    generalize hPI:pyIter=PI
    wp_walk
    subst hPI
    refine wpAny_pyIter_list hl1 ?_
    refine wpAny_bind (wpAny_runValue ?_)
    have lt:l<s.heap.objs.size:=Heap.lt_size gl
    have h3:A.in1.in1.in1.handled=none:=by simp[hh]
    have nI:l≠(s.heap.push { cls:=.type "set",dict:=none,data:=.set #[] 0 (.fresh 0 0 (!byTx w)) }).objs.size:=by
     rw[Heap.size_push];exact Nat.ne_of_lt (Nat.lt_succ_of_lt lt)
    have nf:s.heap.objs.size∉[(s.heap.push { cls:=.type "set",dict:=none,data:=.set #[] 0 (.fresh 0 0 (!byTx w)) }).objs.size,l]:=by
     rw[Heap.size_push];simp only[List.mem_cons,List.mem_singleton,List.not_mem_nil,or_false,not_or]
     exact ⟨Nat.ne_of_lt (Nat.lt_succ_self _),Nat.ne_of_gt lt⟩
    have hv:∀ (i:Nat) (v:Value),its[i]?=some v→∃ t,v=.int ((fun i=>ns.getD i 0) i) t:=fun i v z=>PyProof.Rows.IntsAre.int_at hi i v (by rw[Array.getElem?_toList];exact z)
    refine loopL ((Walks.list h3 _ l nI its).toS) s.heap.objs.size nf (fun i=>ns.getD i 0) hv hb (its.size-0) 0 _ (by omega) (Nat.zero_le _) ⟨⟨_,Heap.get?_push_size _ rfl,rfl,rfl⟩,(hl1.push _)⟩ ?S0 ?R0
    case S0=>exact SetL.new (Heap.get?_push_of_some _ g1)
    case R0=>
     intro s' m S'
     obtain ⟨h',g',d',tk',os'⟩:=s'
     have eg:g'=s.gens:=m.gens
     have ed:d'=s.drawn:=m.drawn
     have eo:os'=s.os:=m.os
     subst eg
     subst ed
     subst eo
     show wpAny _ _ _ _ _ _
     refine wpAny_pure ?_
     show wpAny _ _ (ret Value.none) _ _ _
     refine wpAny_pure ⟨rfl,h',tk',rfl,S',fun b o lb g=>?_⟩
     have b1:b≠s.heap.objs.size:=Nat.ne_of_lt lb
     have b2:b≠(s.heap.push { cls:=.type "set",dict:=none,data:=.set #[] 0 (.fresh 0 0 (!byTx w)) }).objs.size:=by
      rw[Heap.size_push];exact Nat.ne_of_lt (Nat.lt_succ_of_lt lb)
     exact m.heap b o (by simp only[List.mem_cons,List.mem_singleton,List.not_mem_nil,or_false,not_or];exact ⟨b1,b2⟩) (Heap.get?_push_of_some _ (Heap.get?_push_of_some _ g))
   ·cases r2 with
    | error e=>exact hr2
    | ok fl2=>
     cases fl2 with
     | ret r=>
      obtain ⟨rfl,h',tk,rfl,S',kp⟩:=hr2
      repeat (any_goals first|assumption|wp_step)
      exact k _ _ S' kp
     | _=>exact hr2.elim
  | _=>exact hr.elim
end
theorem ydl (f:Nat→Int) (k:Int):∀ n,k∈qaz f n↔∃ i,i<n∧f i=k
 | 0=>by
  unfold qaz
  constructor
  ·intro h;simp at h
  ·rintro ⟨i,h,_⟩;omega
 | n+1=>by
  have ih:=ydl f k n
  have e:k∈qaz f (n+1)↔k∈qaz f n∨k=f n:=by
   show k∈(if f n∈qaz f n then qaz f n else qaz f n++[f n])↔_
   split
   ·rename_i h
    exact ⟨.inl,fun z=>z.elim id fun z=>z ▸ h⟩
   ·rw[List.mem_append,List.mem_singleton]
  rw[e,ih]
  constructor
  ·rintro (⟨i,h,z⟩|z)
   ·exact ⟨i,by omega,z⟩
   ·exact ⟨n,by omega,z.symm⟩
  ·rintro ⟨i,h,z⟩
   by_cases hi:i=n
   ·subst hi;exact .inr z.symm
   ·exact .inl ⟨i,by omega,z⟩
theorem qcy (f:Nat→Int):∀ n,(qaz f n).Nodup
 | 0=>List.nodup_nil
 | n+1=>by
  have ih:=qcy f n
  show (if f n∈qaz f n then qaz f n else qaz f n++[f n]).Nodup
  split
  ·exact ih
  ·rename_i h
   rw[List.nodup_append]
   exact ⟨ih,by simp,fun x hx y hy z=>h (by rw[← List.mem_singleton.mp hy,← z];exact hx)⟩
def uniq (ns:List Int):List Int:=qaz (fun i=>ns.getD i 0) ns.length
theorem qe3 (ns:List Int) (k:Int):k∈uniq ns↔k∈ns:=by
 unfold uniq
 rw[ydl]
 constructor
 ·rintro ⟨i,h,z⟩
  rw[List.getD_eq_getElem?_getD,List.getElem?_eq_getElem h] at z
  rw[← z]
  exact List.getElem_mem h
 ·intro h
  obtain ⟨i,hi,e⟩:=List.getElem_of_mem h
  exact ⟨i,hi,by rw[List.getD_eq_getElem?_getD,List.getElem?_eq_getElem hi,e];rfl⟩
theorem yfd (ns:List Int):(uniq ns).Nodup:=qcy _ _
theorem qew (ns:List Int):(uniq ns).length≤ns.length:=ycn _ _
def SetO (P:Program) (w:World) (a:Addr) (ks:List Int):HO:=.ext fun h=>SetL P w h a ks
section
variable {X:Cx}{pins:List (Addr×Obj)}{σ:St}{H:Hp}{s:Shared}
def rSet (P:Program) (w:World):List V→Hp→VK→Prop:=fun xs H Q=>∃ (l:Addr) (ns:List Int),xs=[.ref l]∧H l=some (.lst (ns.map V.int))∧ns.length≤4000∧∀ p,H p=none→Q (.ref p) (upd H p (SetO P w p (uniq ns)))
theorem qdd (hc:X.calm=true):yb5 X (.type "set") (rSet X.prog X.w):=by
 intro pins s σ H xs us Q I r h
 obtain ⟨l,ns,rfl,hH,h4,q⟩:=h
 cases r with
 | cons r rr=>
  cases rr
  cases r
  obtain ⟨z,its,n,rv,hl,e⟩:=I.lstM hH
  have hil:its.length=ns.length:=by rw[← hl,List.length_map]
  have hf:H s.heap.objs.size=none:=I.hok.fresh (Nat.le_refl _)
  refine qgf (by simpa using I.ok.hd hc) (its:=its.toArray) (ns:=ns) ⟨_,e,rfl,n,rfl⟩ (by simpa using qdp rv) (by rw[List.size_toArray,hil];unfold scanBound;omega) fun h' tk S kp=>?_
  have ez:its.toArray.size=ns.length:=by rw[List.size_toArray,hil]
  rw[ez] at S
  refine ⟨.ref s.heap.objs.size,_,I.laid (o:=SetO X.prog X.w s.heap.objs.size (uniq ns)) (t':=tk) (fun b o g=>kp b o (Heap.lt_size g) g) (Nat.le_refl _) ?_,rfl,q _ hf⟩
  refine ⟨S,?_,fun h1 h2 x y=>SetL.at x y⟩
  obtain ⟨o,es,ep,t,g,_⟩:=S
  exact ⟨o,g⟩
def rLenSet (P:Program) (w:World):List V→Hp→VK→Prop:=fun xs H Q=>∃ (p:Addr) (ks:List Int),xs=[.ref p]∧H p=some (SetO P w p ks)∧Q (.int ks.length) H
theorem ycf:yb5 X (.builtin "len") (rLenSet X.prog X.w):=by
 intro pins s σ H xs us Q I r h
 obtain ⟨p,ks,rfl,hH,q⟩:=h
 cases r with
 | cons r rr=>
  cases rr
  cases r
  obtain ⟨⟨o,es,ep,t,g,gx,gd,el,⟨ns,hi,hp⟩,hb,hf,ht,hl⟩,_⟩:=I.hok p _ hH
  have hlen:es.size=ks.length:=by
   have h1:=IntsAre.length hi
   rw[List.length_map,Array.length_toList] at h1
   rw[h1,hp.length_eq]
  refine call_len_set g gx gd hf (by unfold scanBound at hb;omega) ?_
  rw[hlen]
  exact ⟨.int ks.length,H,I.tok _,⟨_,rfl⟩,q⟩
end
theorem qdh:bootBuiltins "set" = some (.type "set"):=by decide +kernel
theorem eqI:∀ (a b:List Int),PyData.eqvAll (a.map PyData.int) (b.map PyData.int)=decide (a=b)
 | [],[]=>rfl
 | [],_::_=>rfl
 | _::_,[]=>rfl
 | x::a,y::b=>by
  show ((PyData.int x).eqv (.int y)&&PyData.eqvAll (a.map PyData.int) (b.map PyData.int))=_
  rw[eqI a b]
  have:(PyData.int x).eqv (.int y)=decide (x=y):=by simp[PyData.eqv];rfl
  rw[this,Bool.eq_iff_iff]
  simp
theorem qc5 {H:Hp}:∀ (cs:List Int),AtAll H (cs.map V.int) (cs.map PyData.int)
 | []=>.nil
 | c::cs=>.cons (.int c) (qc5 cs)
theorem layI:∀ (cs:List Int),PyData.canLayAll0 (cs.map PyData.int)=true
 | []=>rfl
 | c::cs=>by
  have:=layI cs
  simp only[List.map_cons,PyData.canLayAll0,this,Bool.and_true]
  rfl
theorem depI:∀ (cs:List Int),PyData.depthAll (cs.map PyData.int)≤1
 | []=>by simp[PyData.depthAll]
 | c::cs=>by
  have:=depI cs
  simp only[List.map_cons,PyData.depthAll,PyData.depth]
  omega
def tupD (ks:List (List Int)):List PyData:=ks.map fun k=>PyData.tuple (k.map PyData.int)
theorem eqTs:∀ (a b:List (List Int)),PyData.eqvAll (tupD a) (tupD b)=decide (a=b)
 | [],[]=>rfl
 | [],_::_=>rfl
 | _::_,[]=>rfl
 | x::a,y::b=>by
  show ((PyData.tuple (x.map PyData.int)).eqv (.tuple (y.map PyData.int))&&PyData.eqvAll (tupD a) (tupD b))=_
  rw[eqTs a b]
  have:(PyData.tuple (x.map PyData.int)).eqv (.tuple (y.map PyData.int))=decide (x=y):=by rw[PyData.eqv];exact eqI x y
  rw[this,Bool.eq_iff_iff]
  simp
theorem atTs {H:Hp}:∀ {ts:List TL},(∀ t∈ts,H t.1=some (.tup (t.2.map V.int)))→AtAll H (yaf ts) (tupD (ts.map (·.2)))
 | [],_=>.nil
 | t::ts,h=>.cons (.tup (h t (List.mem_cons_self ..)) (qc5 _)) (atTs fun u hu=>h u (List.mem_cons_of_mem _ hu))
theorem layTs:∀ (ks:List (List Int)),PyData.canLayAll0 (tupD ks)=true
 | []=>rfl
 | k::ks=>by
  show (PyData.canLay0 (.tuple (k.map PyData.int))&&PyData.canLayAll0 (tupD ks))=true
  rw[layTs ks,Bool.and_true]
  exact layI k
theorem depTs:∀ (ks:List (List Int)),PyData.depthAll (tupD ks)≤2
 | []=>by simp[tupD,PyData.depthAll]
 | k::ks=>by
  have h1:=depTs ks
  have h2:=depI k
  unfold tupD at h1 ⊢
  simp only[List.map_cons,PyData.depthAll,PyData.depth]
  omega
section
variable {X:Cx}
def rInP (neg:Bool):R2:=fun x y H Q=>∃ (q p:Addr) (k:List Int) (ts:List TL),x=.ref q∧y=.ref p∧H q=some (.tup (k.map V.int))∧H p=some (.lst (yaf ts))∧(∀ t∈ts,H t.1=some (.tup (t.2.map V.int)))∧Q (.bl (if neg then !decide (k∈ts.map (·.2)) else decide (k∈ts.map (·.2)))) H
def eUP (H:Hp) (k:List Int):Value→Bool
 | .ref a=>match H a with|some (.tup xs)=>decide (xs=k.map V.int)|_=>false
 | _=>false
theorem qeq {a b:List Int}:a.map V.int=b.map V.int↔a=b:=by
 constructor
 ·intro h
  have:=congrArg (List.map fun v:V=>match v with | .int i=>i|_=>0) h
  rw[List.map_map,List.map_map] at this
  have e:((fun v:V=>match v with | .int i=>i|_=>(0:Int)) ∘ V.int)=id:=rfl
  rw[e,List.map_id,List.map_id] at this
  exact this
 ·intro h;rw[h]
theorem eUP_at {H:Hp}{k m:List Int}{a:Addr} (ha:H a=some (.tup (m.map V.int))):eUP H k (.ref a)=decide (m=k):=by
 unfold eUP
 dsimp only
 rw[ha]
 dsimp only
 exact decide_eq_decide.mpr qeq
theorem qgi {H:Hp}{k:List Int}:∀ {ts:List TL},(∀ t∈ts,H t.1=some (.tup (t.2.map V.int)))→(qa8 ts).any (eUP H k)=decide (k∈ts.map (·.2))
 | [],_=>rfl
 | t::ts,h=>by
  show (eUP H k (.ref t.1)||(qa8 ts).any (eUP H k))=_
  rw[qgi fun u hu=>h u (List.mem_cons_of_mem _ hu),eUP_at (h t (List.mem_cons_self ..)),← Bool.decide_or]
  refine decide_eq_decide.mpr ?_
  rw[List.map_cons,List.mem_cons]
  exact ⟨fun z=>z.imp Eq.symm id,fun z=>z.imp Eq.symm id⟩
theorem eUP_eq {pins:List (Addr×Obj)}{σ:St}{H:Hp}{s:Shared}{n:Nat} (hr:Room n X.A) (I:Inv X pins σ H s) {q:Addr}{k:List Int}{ts:List TL} (hq:H q=some (.tup (k.map V.int))) (hT:∀ t∈ts,H t.1=some (.tup (t.2.map V.int))) :
  ∀ y,y∈qa8 ts→SeqAt.EqAt X.A.in1 s y (.ref q) (eUP H k y):=fun y hy=>by
 obtain ⟨t,ht,rfl⟩:=List.mem_map.mp hy
 have ha:=hT t ht
 have hu:=hr.units
 obtain ⟨as,rx⟩:=(At.tup hq (qc5 k)).reads I.hok (u:=.ref q) rfl
 obtain ⟨bs,ry⟩:=(At.tup ha (qc5 t.2)).reads I.hok (u:=.ref t.1) rfl
 have e:eUP H k (.ref t.1)=PyData.eqv (.tuple (t.2.map PyData.int)) (.tuple (k.map PyData.int)):=by rw[eUP_at ha,PyData.eqv];exact (eqI _ _).symm
 rw[e]
 refine PySem.SeqAt.eqAt_reads _ _ _ _ _ _ _ _ ry rx (layI _) (layI _) ?_
 have h1:=depI t.2
 have h2:=Nat.min_le_left (PyData.tuple (t.2.map PyData.int)).depth (PyData.tuple (k.map PyData.int)).depth
 have h3:(PyData.tuple (t.2.map PyData.int)).depth≤2:=by
  simp only[PyData.depth]
  omega
 show X.A.units+1+_<_
 omega
theorem op_inP {n:Nat} (hr:Room n X.A):OpR X (compareOp .In) (rInP false):=by
 intro pins s σ H x y v u Q I rx ry h
 obtain ⟨q,p,k,ts,rfl,rfl,hq,hp,hT,kk⟩:=h
 cases rx
 cases ry
 obtain ⟨its,r,pl,hz⟩:=I.list (SqL.of hp)
 have ei:=yf4 r
 subst ei
 refine SeqAt.in_listAt (eUP H k) pl.isList (fun w hw=>eUP_eq hr I hq hT w (by simpa using hw)) ⟨.bl _,H,I,rfl,?_⟩
 rw[show (qa8 ts).toArray.any (eUP H k)=(qa8 ts).any (eUP H k) by simp,qgi hT]
 exact kk
end
end L2
namespace L2
open PySem PyProof.Rows PySem.W
theorem yds {X:Cx}{K:PySem.W.Frag} (h:X.K=K):yb5 X (.type "list") (fun xs H Q=>∃ p ys,xs=[.ref p]∧(SqL K H p ys∨SqT K H p ys)∧∀ l,H l=none→Q (.ref l) (upd H l (.lst ys))):=h ▸ qa4
end L2
namespace Mc
open PySem L2 PyProof.Rows Mx
def top (i:Nat):Stmt:=PySem.Challenge.pw_marchmend_k47_trees_let_by_or_not.main.body.getD i (.Pass ⟨0,0,0,0⟩)
abbrev Bs:=List (Int×Int)
def B12 (bs:Bs):Prop:=∀ p∈bs,(0≤p.1∧p.1<12)∧0≤p.2∧p.2<12
theorem yc6 {α:Type} [DecidableEq α]:∀ {l m:List α},l.Nodup→(∀ x∈l,x∈m)→l.length≤m.length
 | [],_,_,_=>Nat.zero_le _
 | x::l,m,hn,h=>by
  rw[List.nodup_cons] at hn
  have hx:=h x (List.mem_cons_self ..)
  have:=yc6 (l:=l) (m:=m.erase x) hn.2 fun y hy=>(List.mem_erase_of_ne (show y≠x from fun z=>hn.1 (z ▸ hy))).mpr (h y (List.mem_cons_of_mem _ hy))
  rw[List.length_erase_of_mem hx] at this
  have hp:0<m.length:=List.length_pos_of_mem hx
  rw[List.length_cons]
  omega
end Mc
namespace Mc
open PySem L2 PyProof.Rows Mx
theorem iteB {b:Bool}{A B:Prop} (hb:b=true) (h:A):if b=true then A else B:=by
 rw[if_pos hb];exact h
theorem iteN {b:Bool}{A B:Prop} (hb:b=false) (h:B):if b=true then A else B:=by
 rw[if_neg (by rw[hb];exact Bool.false_ne_true)];exact h
theorem iteD {c:Prop} [Decidable c] {A B:Prop} (hc:c) (h:A):if decide c=true then A else B:=iteB (decide_eq_true hc) h
theorem yca {c:Prop} [Decidable c] {A B:Prop} (hc:¬ c) (h:B):if decide c=true then A else B:=iteN (decide_eq_false hc) h
end Mc
namespace Mc
open PySem L2 PyProof.Rows Mx
def pr2 (p:Int×Int):List Int:=[p.1,p.2]
structure PT (H:Hp) (ts:List TL) (bs:Bs):Prop where
 eq:ts.map (·.2)=bs.map pr2
 at_:∀ t∈ts,H t.1=some (.tup (t.2.map V.int))
theorem PT.len {H:Hp}{ts:List TL}{bs:Bs} (h:PT H ts bs):ts.length=bs.length:=by have:=congrArg List.length h.eq;simpa using this
theorem PT.same {H H':Hp}{ts:List TL}{bs:Bs} (h:PT H ts bs) (s:Same H H'):PT H' ts bs:=⟨h.eq,fun t ht=>s _ _ (h.at_ t ht)⟩
end Mc
namespace Mc
open PySem L2 PyProof.Rows Mx
theorem map_get {α β:Type}{f:α→β}{xs:List α}{i:Nat}{y:β} (h:(xs.map f)[i]?=some y):∃ x,xs[i]?=some x∧y=f x:=by
 rw[List.getElem?_map] at h
 cases e:xs[i]? with
 | none=>rw[e] at h;cases h
 | some x=>rw[e] at h;cases h;exact ⟨x,rfl,rfl⟩
def Dig (ds zs:List Int):Prop:=ds.length=zs.length∧∀ (i:Nat) d z,ds[i]?=some d→zs[i]?=some z→0≤d∧d<z
theorem Dig.get {ds zs:List Int} (h:Dig ds zs) {i:Nat}{z:Int} (hz:zs[i]?=some z):∃ d,ds[i]?=some d∧0≤d∧d<z:=by
 have hi:i<ds.length:=by rw[h.1];exact (List.getElem?_eq_some_iff.mp hz).1
 exact ⟨ds[i],by simp[hi],h.2 i _ z (by simp[hi]) hz⟩
theorem qfv {ds:List Int}{i:Nat}{v:V} (h:(ds.map V.int)[i]?=some v):∃ d,ds[i]?=some d∧v=.int d:=map_get h
theorem qaw {ds:List Int}{i:Nat}{d:Int} (h:ds[i]?=some d):(ds.map V.int)[i]?=some (.int d):=by rw[List.getElem?_map,h];rfl
section
variable {P:Program}{w:World}{K:PySem.W.Frag}{mg:Str→Option Value}{base:Heap}
def qdc:Sp:=fun vs H Q _=>∃ c t a zs,vs=[.int c,.int t,.ref a]∧H a=some (.lst (zs.map V.int))∧zs.length≤200∧(∀ z∈zs,0<z∧z≤1000)∧0≤t∧t≤1000000∧
 ∀ p ds H',Same H H'→H p=none→H' p=some (.lst (ds.map V.int))→Dig ds zs→Q (.ref p) H'
abbrev ybd:Stmt:=top 14
theorem ycb:FnScope ["_law_cell","_law_turn","_law_sizes","_law_number","_law_wide","_law_seed","_law_found","_law_k","_law_size"] ["_law_cell","_law_turn","_law_sizes"] (yae ybd):=⟨rfl,rfl,rfl,by decide +kernel,rfl,by decide +kernel,by decide +kernel⟩
theorem ygd (B:Bl mg) (F:FnAt K mg "_law_digits" ybd ["_law_cell","_law_turn","_law_sizes"]):Has P w K mg base 1 "_law_digits" ["_law_cell","_law_turn","_law_sizes"] qdc:=by
 refine Has.of F ycb (fun vs H Q E h=>?_) (fun f cdv A outer s H vs Q E hr h=>?_)
 ·obtain ⟨c,t,a,zs,rfl,_⟩:=h
  rfl
 ·obtain ⟨c,t,a,zs,rfl,ha,hl,hz,ht0,ht1,k⟩:=h
  have sc:=ycb
  refine ⟨_,(qbl (yda (i:=3) sc.nd rfl (Or.inl rfl) (qa5 call_abs rfl (B.of rfl) boot_abs (yad (pv 0) qan)))
   (qbl (yda (i:=4) sc.nd rfl (Or.inl rfl) (ybr op_ge (pv 3) (qb3 op_pow yaa yaa) (yah _)))
   (qbl (yda (i:=5) sc.nd rfl (Or.inl rfl) (qb3 qbi (qb3 qbg (pv 3) yaa) (qb3 qdn yaa (pv 1))))
   (qbl (yda (i:=6) sc.nd rfl (Or.inl rfl) (qe7 qan))
   (qbl (ps_for PassesOwn.never rfl (yf0 rfl (B.of rfl) (yad (pv 2) qan)) (qe2 rfl (ybe (qal (i:=7) sc.nd rfl (Or.inl rfl)) (ybe (qal (i:=8) sc.nd rfl (Or.inl rfl)) qdy)))
    (ydb (ps_if (PW.pt (pw_and (ye5 (pv 4)) (yf5 (qbp yb4 (pv 3) yaa (yah _)))))
     (qbl (yel (pe_bm PySem.F.plainAttrs_list PySem.F.slot_list_append PySem.F.type_list_append ybq (pv 6) (yad (qb3 qbg (pv 3) (pv 8)) qan)))
     (ydb (yda (i:=3) sc.nd rfl (Or.inl rfl) (qb3 ygh (pv 3) (pv 8)))))
     (qbl (yda (i:=5) sc.nd rfl (Or.inl rfl) (qb3 qbg (qb3 op_pow (qb3 qbi (pv 5) (qb3 qdn yaa (qb3 qbi (pv 7) yaa))) yaa) yaa))
     (ydb (yel (pe_bm PySem.F.plainAttrs_list PySem.F.slot_list_append PySem.F.type_list_append ybq (pv 6) (yad (qb3 qbg (qb3 ygh (pv 5) yaa) (pv 8)) qan))))))))
   (ydb (ps_ret (pv 6)))))))),?_⟩
  refine ⟨_,rfl,c,rfl,?_⟩
  refine ⟨_,rfl,10,18,rfl,rfl,⟨by decide,by decide,by decide⟩,_,_,rfl,rfl,?_⟩
  refine ⟨_,rfl,_,_,rfl,rfl,(by show (0:Int)<2147483647;decide),_,rfl,_,_,rfl,rfl,.inl ⟨by decide,by decide⟩,_,_,rfl,rfl,?_⟩
  refine ⟨Nat.zero_le _,fun p hp=>?_⟩
  generalize hnum:(if c<0 then -c else c)=num
  generalize hwd:decide ((10:Int) ^ (18:Int).toNat≤num)=wd
  have hs0:0≤num % 2147483647+7919*t:=by have:=Int.emod_nonneg num (show (2147483647:Int)≠0 by decide);omega
  have hs1:num % 2147483647+7919*t<2 ^ 40:=by have:=Int.emod_lt_of_pos num (show (0:Int)<2147483647 by decide);omega
  refine ⟨_,rfl,a,_,rfl,SqL.of (by rw[yao (qai ha hp)];exact ha),yey (xs:=zs.map V.int) (fun i σ H2=>∃ (nu seed:Int) (ds:List Int) (q1 q2:Option V),σ=[some (.int c),some (.int t),some (.ref a),some (.int nu),some (.bl wd),some (.int seed),some (.ref p),q1,q2]∧
   Same H H2∧H2 p=some (.lst (ds.map V.int))∧ds.length=i∧(∀ (j:Nat) d z,ds[j]?=some d→zs[j]?=some z→0≤d∧d<z)∧0≤seed∧seed<2 ^ 40) ?_ (fun i σ H2 _ ⟨_,_,_,_,_,_,s2,_⟩=>SqL.of (s2 _ _ ha)) ?_ ?_⟩
  ·exact ⟨num,_,[],none,none,by rw[← hwd];rfl,(Same.refl H).upd hp,qac,rfl,fun j d z h=>by simp at h,hs0,hs1⟩
  ·rintro i x pp σ H2 hx ⟨nu,seed,ds,q1,q2,rfl,s2,hp2,hln,hds,hse0,hse1⟩ hpp
   obtain ⟨z,hzi,rfl⟩:=qfv hx
   obtain ⟨hz0,hz1⟩:=hz z (List.mem_of_getElem? hzi)
   have hil:i<zs.length:=(List.getElem?_eq_some_iff.mp hzi).1
   have s3:Same H (upd H2 pp (.tup [.int i,.int z])):=s2.upd hpp
   have hp3:upd H2 pp (.tup [.int i,.int z]) p=some (.lst (ds.map V.int)):=by rw[yao (qai hp2 hpp)];exact hp2
   have fin:∀ (d:Int),0≤d→d<z→∀ (j:Nat) d' z',(ds++[d])[j]?=some d'→zs[j]?=some z'→0≤d'∧d' < z':=fun d h0 h1 j d' z' hj hj2=>by
    by_cases hlt:j<ds.length
    ·rw[List.getElem?_append_left hlt] at hj
     exact hds j d' z' hj hj2
    ·rw[List.getElem?_append_right (by omega)] at hj
     have hj0:j-ds.length=0:=by
      cases q:j-ds.length with
      | zero=>rfl
      | succ n=>rw[q] at hj;simp at hj
     rw[hj0] at hj
     have e1:d=d':=by simpa using hj
     have e2:j=i:=by omega
     subst e1 e2
     rw[hzi] at hj2;cases hj2
     exact ⟨h0,h1⟩
   refine ⟨pp,_,rfl,SqT.of qac,rfl,_,_,rfl,_,_,rfl,rfl,?_⟩
   refine ⟨_,rfl,wd,rfl,?_⟩
   cases wd with
   | true=>
    refine iteT ⟨_,rfl,_,_,rfl,rfl,_,rfl,?_⟩
    by_cases hn:0<nu
    ·refine iteD hn ?_
     refine ⟨_,rfl,.inl ⟨rfl,_,SqL.of hp3⟩,_,rfl,_,rfl,_,_,rfl,rfl,hz0,p,_,_,rfl,rfl,hp3,qcb (by rw[List.length_map];omega),?_⟩
     refine ⟨_,rfl,_,rfl,_,_,rfl,rfl,⟨hz0,by omega⟩,?_⟩
     exact ⟨_,seed,ds++[nu % z],_,_,rfl,s3.at hp,by rw[List.map_append];exact qac,by simp[hln],fin _ (Int.emod_nonneg _ (by omega)) (Int.emod_lt_of_pos _ hz0),hse0,hse1⟩
    ·refine iteN (decide_eq_false hn) ?_
     refine ⟨_,rfl,_,rfl,_,_,rfl,rfl,_,_,rfl,rfl,.inl ⟨by decide,by decide⟩,_,_,rfl,rfl,_,_,rfl,rfl,⟨by decide,by decide,by omega⟩,_,_,rfl,rfl,(by show (0:Int)<2147483587;decide),?_⟩
     have g0:=Int.emod_nonneg ((seed+104729*((i:Int)+1)) ^ (2:Int).toNat) (show (2147483587:Int)≠0 by decide)
     have g1:=Int.emod_lt_of_pos ((seed+104729*((i:Int)+1)) ^ (2:Int).toNat) (show (0:Int)<2147483587 by decide)
     generalize hse':(seed+104729*((i:Int)+1)) ^ (2:Int).toNat % 2147483587=seed' at g0 g1
     refine ⟨_,rfl,.inl ⟨rfl,_,SqL.of hp3⟩,_,rfl,_,_,rfl,rfl,⟨by decide,by decide⟩,_,rfl,_,_,rfl,rfl,hz0,p,_,_,rfl,rfl,hp3,qcb (by rw[List.length_map];omega),?_⟩
     exact ⟨nu,seed',ds++[seed' / 16 % z],_,_,by rw[← hse'];rfl,s3.at hp,by rw[List.map_append,← hse'];exact qac,by simp[hln],fin _ (Int.emod_nonneg _ (by omega)) (Int.emod_lt_of_pos _ hz0),g0,by omega⟩
   | false=>
    refine iteF (iteF ?_)
    refine ⟨_,rfl,_,rfl,_,_,rfl,rfl,_,_,rfl,rfl,.inl ⟨by decide,by decide⟩,_,_,rfl,rfl,_,_,rfl,rfl,⟨by decide,by decide,by omega⟩,_,_,rfl,rfl,(by show (0:Int)<2147483587;decide),?_⟩
    have g0:=Int.emod_nonneg ((seed+104729*((i:Int)+1)) ^ (2:Int).toNat) (show (2147483587:Int)≠0 by decide)
    have g1:=Int.emod_lt_of_pos ((seed+104729*((i:Int)+1)) ^ (2:Int).toNat) (show (0:Int)<2147483587 by decide)
    generalize hse':(seed+104729*((i:Int)+1)) ^ (2:Int).toNat % 2147483587=seed' at g0 g1
    refine ⟨_,rfl,.inl ⟨rfl,_,SqL.of hp3⟩,_,rfl,_,_,rfl,rfl,⟨by decide,by decide⟩,_,rfl,_,_,rfl,rfl,hz0,p,_,_,rfl,rfl,hp3,qcb (by rw[List.length_map];omega),?_⟩
    exact ⟨nu,seed',ds++[seed' / 16 % z],_,_,by rw[← hse'];rfl,s3.at hp,by rw[List.map_append,← hse'];exact qac,by simp[hln],fin _ (Int.emod_nonneg _ (by omega)) (Int.emod_lt_of_pos _ hz0),g0,by omega⟩
  ·rintro σ H2 ⟨nu,seed,ds,q1,q2,rfl,s2,hp2,hln,hds,_,_⟩
   rw[List.length_map] at hln
   exact ⟨_,rfl,k p ds H2 s2 hp hp2 ⟨hln,hds⟩⟩
end
end Mc
namespace Mc
open PySem L2 PyProof.Rows Mx
def kyB (bs:Bs):List (List Key):=bs.map fun p=>[Sum.inl p.1,Sum.inl p.2]
theorem perm_pr {ts:List TL}{bs:Bs} (h:(ts.map (·.2)).Perm (bs.map pr2)):∃ bs':Bs,bs'.Perm bs∧ts.map (·.2)=bs'.map pr2:=by
 refine ⟨ts.map fun t=>(t.2.getD 0 0,t.2.getD 1 0),?_,?_⟩
 ·have:=h.map (fun z:List Int=>(z.getD 0 0,z.getD 1 0))
  rw[List.map_map,List.map_map] at this
  have e:((fun z:List Int=>(z.getD 0 0,z.getD 1 0)) ∘ pr2)=id:=rfl
  rw[e,List.map_id] at this
  exact this
 ·rw[List.map_map]
  refine List.map_congr_left fun t ht=>?_
  obtain ⟨p,_,e⟩:=List.mem_map.mp (h.mem_iff.mp (List.mem_map_of_mem ht))
  show t.2=pr2 (t.2.getD 0 0,t.2.getD 1 0)
  rw[← e]
  rfl
end Mc
namespace Mc
open PySem L2 PyProof.Rows Mx
inductive Tr where
 | cells (C:Bs)
 | split (r l:Int) (one other:Tr)
 | nil
def ycz (bs:Bs) (r:Int):Bs:=bs.filter fun p=>!decide (p.1=r)
def yb0 (bs:Bs) (l:Int):Bs:=bs.filter fun p=>!decide (p.2=l)
def qb2:Bs→Nat→Nat→Tr→Prop
 | bs,n,m,.cells C=>(∀ p∈C,p∈bs)∧(0<n→(C.map (·.1)).Nodup)∧(0<m→(C.map (·.2)).Nodup)∧n+m<C.length
 | bs,n,m,.split r l one other=>(r,l)∈bs∧(0<n→qb2 (ycz bs r) (n-1) m one)∧(n=0→one=.nil)∧(0<m→qb2 (yb0 bs l) n (m-1) other)∧(m=0→other=.nil)
 | _,_,_,.nil=>False
end Mc
namespace Mc
open PySem L2 PyProof.Rows Mx
theorem PT.bs_eq {H:Hp}{ts:List TL}{bs:Bs} (h:PT H ts bs):bs=ts.map fun t=>(t.2.getD 0 0,t.2.getD 1 0):=by
 have:=congrArg (List.map fun z:List Int=>(z.getD 0 0,z.getD 1 0)) h.eq
 rw[List.map_map,List.map_map] at this
 have e:((fun z:List Int=>(z.getD 0 0,z.getD 1 0)) ∘ pr2)=id:=rfl
 rw[e,List.map_id] at this
 exact this.symm
theorem PT.of_mem {H:Hp}{ts:List TL}{bs:Bs} (h:PT H ts bs) {t:TL} (ht:t∈ts):∃ r l,t.2=[r,l]∧(r,l)∈bs∧H t.1=some (.tup [.int r,.int l]):=by
 have:t.2∈bs.map pr2:=by rw[← h.eq];exact List.mem_map_of_mem ht
 obtain ⟨p,hp,e⟩:=List.mem_map.mp this
 refine ⟨p.1,p.2,e.symm,hp,?_⟩
 rw[h.at_ t ht,← e]
 rfl
theorem PT.sub {H:Hp}{ts us:List TL}{bs:Bs} (h:PT H ts bs) (hs:∀ t∈us,t∈ts):PT H us (us.map fun t=>(t.2.getD 0 0,t.2.getD 1 0)):=by
 refine ⟨?_,fun t ht=>h.at_ t (hs t ht)⟩
 rw[List.map_map]
 refine List.map_congr_left fun t ht=>?_
 obtain ⟨r,l,e,_⟩:=h.of_mem (hs t ht)
 show t.2=pr2 (t.2.getD 0 0,t.2.getD 1 0)
 rw[e]
 rfl
def kp (i:Nat) (t:TL):Int:=t.2.getD i 0
section
variable {P:Program}{w:World}{K:PySem.W.Frag}{mg:Str→Option Value}{base:Heap}
def qbf (i:Nat):Sp:=fun vs H Q _=>∃ (b:Addr) (r:Int) (ts:List TL) (bs:Bs),vs=[.ref b,.int r]∧H b=some (.lst (yaf ts))∧PT H ts bs∧bs.length≤100∧
 ∀ p H',Same H H'→H p=none→H' p=some (.lst (yaf (ts.filter fun t=>!decide (kp i t=r))))→Q (.ref p) H'
abbrev qbd:Stmt:=top 5
theorem qcc:FnScope ["broken","row"] ["broken","row"] (yae qbd):=⟨rfl,rfl,rfl,by decide +kernel,rfl,by decide +kernel,by decide +kernel⟩
theorem ok_wrow (B:Bl mg) (F:FnAt K mg "without_row" qbd ["broken","row"]):Has P w K mg base 1 "without_row" ["broken","row"] (qbf 0):=by
 refine Has.ofQ F qcc (fun vs H Q E h=>?_) (fun f cdv A outer s H vs Q E hr h=>?_)
 ·obtain ⟨b,r,ts,bs,rfl,_⟩:=h
  rfl
 ·obtain ⟨b,r,ts,bs,rfl,hb,hP,hbl,k⟩:=h
  have hpl:=hP.len
  have sc:=qcc
  refine ⟨_,(yaq rfl (qaf (yag (qaa (yax rfl (qap rfl) (M:=["cell","row"]) (ix:=[none,some 1]) (qax (pv 0)) (fun _ _ _ _=>(qal (i:=0) (show List.Nodup (["cell","row"]:List Str) by decide +kernel) rfl (Or.inl rfl))) (fun _ _ _ _=>(yce (qbp ydi (qa0 (yat (K:=K) rfl) (pv 0) yaa (fun _ _=>rfl)) (pv 1) (yah _)))) (fun _ _ _ _=>(pv 0))))))),?_⟩
  refine ⟨_,rfl,b,rfl,⟨_,SqL.of hb⟩,fun D nD=>ybs (n:=ts.length) (fun i H2=>Same H H2∧H2 D=some (.lst (yaf ((ts.take i).filter fun t=>!decide (kp 0 t=r))))) ⟨(Same.refl H).upd nD,qac⟩ ?_ ?_⟩
  ·rintro H2 ⟨s2,e2⟩
   rw[List.take_length] at e2
   exact ⟨⟨_,SqL.of (s2 _ _ hb),by unfold yaf;simp⟩,k D H2 s2 nD e2⟩
  ·rintro i H2 hi ⟨s2,e2⟩
   have hb2:=s2 _ _ hb
   have ht:ts[i]?=some ts[i]:=List.getElem?_eq_getElem hi
   obtain ⟨r1,l1,et,_,hat⟩:=hP.of_mem (List.getElem_mem hi)
   generalize ts[i]=t at ht et hat
   have hti:(yaf ts)[i]?=some (.ref t.1):=by unfold yaf;rw[List.getElem?_map,ht];rfl
   refine ⟨⟨_,_,SqL.of hb2,hti⟩,?_⟩
   rintro x H3 ⟨rfl,hx⟩
   have hx':=hx _ (SqL.of hb2)
   rw[hti] at hx'
   cases hx'
   have tk:ts.take (i+1)=ts.take i++[t]:=by rw[List.take_add_one,ht];rfl
   have fl:((ts.take i).filter fun t=>!decide (kp 0 t=r)).length≤i:=Nat.le_trans (List.length_filter_le _ _) (by rw[List.length_take];omega)
   have ek:kp 0 t=r1:=by unfold kp;rw[et];rfl
   refine ⟨ya4.set (ya4.refl _) rfl,?_⟩
   refine ⟨_,rfl,_,_,_,_,rfl,rfl,SqT.of (s2 _ _ hat),qad 0 rfl,_,rfl,rfl,_,rfl,?_⟩
   by_cases hc:r1=r
   ·refine iteN (by rw[hc];simp) ⟨s2,?_⟩
    rw[e2,tk,List.filter_append,List.filter_cons_of_neg (by rw[ek];simp[hc])]
    simp
   ·refine iteB (by rw[decide_eq_false fun z=>hc (by injection z)];rfl) ⟨_,rfl,_,e2,qcb (by unfold yaf;rw[List.length_map];omega),s2.at nD,?_⟩
    rw[qac,tk,List.filter_append,List.filter_cons_of_pos (by rw[ek];simp[hc])]
    unfold yaf
    rw[List.map_append]
    rfl
abbrev qba:Stmt:=top 6
theorem yb3:FnScope ["broken","line"] ["broken","line"] (yae qba):=⟨rfl,rfl,rfl,by decide +kernel,rfl,by decide +kernel,by decide +kernel⟩
theorem ok_wline (B:Bl mg) (F:FnAt K mg "without_line" qba ["broken","line"]):Has P w K mg base 1 "without_line" ["broken","line"] (qbf 1):=by
 refine Has.ofQ F yb3 (fun vs H Q E h=>?_) (fun f cdv A outer s H vs Q E hr h=>?_)
 ·obtain ⟨b,r,ts,bs,rfl,_⟩:=h
  rfl
 ·obtain ⟨b,r,ts,bs,rfl,hb,hP,hbl,k⟩:=h
  have hpl:=hP.len
  have sc:=yb3
  refine ⟨_,(yaq rfl (qaf (yag (qaa (yax rfl (qap rfl) (M:=["cell","line"]) (ix:=[none,some 1]) (qax (pv 0)) (fun _ _ _ _=>(qal (i:=0) (show List.Nodup (["cell","line"]:List Str) by decide +kernel) rfl (Or.inl rfl))) (fun _ _ _ _=>(yce (qbp ydi (qa0 (yat (K:=K) rfl) (pv 0) yaa (fun _ _=>rfl)) (pv 1) (yah _)))) (fun _ _ _ _=>(pv 0))))))),?_⟩
  refine ⟨_,rfl,b,rfl,⟨_,SqL.of hb⟩,fun D nD=>ybs (n:=ts.length) (fun i H2=>Same H H2∧H2 D=some (.lst (yaf ((ts.take i).filter fun t=>!decide (kp 1 t=r))))) ⟨(Same.refl H).upd nD,qac⟩ ?_ ?_⟩
  ·rintro H2 ⟨s2,e2⟩
   rw[List.take_length] at e2
   exact ⟨⟨_,SqL.of (s2 _ _ hb),by unfold yaf;simp⟩,k D H2 s2 nD e2⟩
  ·rintro i H2 hi ⟨s2,e2⟩
   have hb2:=s2 _ _ hb
   have ht:ts[i]?=some ts[i]:=List.getElem?_eq_getElem hi
   obtain ⟨r1,l1,et,_,hat⟩:=hP.of_mem (List.getElem_mem hi)
   generalize ts[i]=t at ht et hat
   have hti:(yaf ts)[i]?=some (.ref t.1):=by unfold yaf;rw[List.getElem?_map,ht];rfl
   refine ⟨⟨_,_,SqL.of hb2,hti⟩,?_⟩
   rintro x H3 ⟨rfl,hx⟩
   have hx':=hx _ (SqL.of hb2)
   rw[hti] at hx'
   cases hx'
   have tk:ts.take (i+1)=ts.take i++[t]:=by rw[List.take_add_one,ht];rfl
   have fl:((ts.take i).filter fun t=>!decide (kp 1 t=r)).length≤i:=Nat.le_trans (List.length_filter_le _ _) (by rw[List.length_take];omega)
   have ek:kp 1 t=l1:=by unfold kp;rw[et];rfl
   refine ⟨ya4.set (ya4.refl _) rfl,?_⟩
   refine ⟨_,rfl,_,_,_,_,rfl,rfl,SqT.of (s2 _ _ hat),qad 1 rfl,_,rfl,rfl,_,rfl,?_⟩
   by_cases hc:l1=r
   ·refine iteN (by rw[hc];simp) ⟨s2,?_⟩
    rw[e2,tk,List.filter_append,List.filter_cons_of_neg (by rw[ek];simp[hc])]
    simp
   ·refine iteB (by rw[decide_eq_false fun z=>hc (by injection z)];rfl) ⟨_,rfl,_,e2,qcb (by unfold yaf;rw[List.length_map];omega),s2.at nD,?_⟩
    rw[qac,tk,List.filter_append,List.filter_cons_of_pos (by rw[ek];simp[hc])]
    unfold yaf
    rw[List.map_append]
    rfl
end
end Mc
namespace Mc
open PySem L2 PyProof.Rows Mx PySem.W
theorem qck {ns:List Int} (h:(uniq ns).length=ns.length):ns.Nodup:=by
 refine Classical.byContradiction fun hn=>?_
 have:∃ ms:List Int,(∀ x,x∈ns→x∈ms)∧ms.length<ns.length:=by
  clear h
  induction ns with
  | nil=>exact absurd List.nodup_nil hn
  | cons x xs ih=>
   by_cases hx:x∈xs
   ·exact ⟨xs,fun y hy=>(List.mem_cons.mp hy).elim (fun z=>z ▸ hx) id,by simp⟩
   ·obtain ⟨ms,h1,h2⟩:=ih fun z=>hn (List.nodup_cons.mpr ⟨hx,z⟩)
    exact ⟨x::ms,fun y hy=>(List.mem_cons.mp hy).elim (fun z=>z ▸ List.mem_cons_self ..) fun z=>List.mem_cons_of_mem _ (h1 y z),by simp;omega⟩
 obtain ⟨ms,h1,h2⟩:=this
 have:=yc6 (yfd ns) fun x hx=>h1 x ((qe3 ns x).mp hx)
 omega
theorem ycm {ns:List Int} (h:ns.Nodup):(uniq ns).length=ns.length:=Nat.le_antisymm (qew ns) (yc6 h fun x hx=>(qe3 ns x).mpr hx)
theorem PT.wRow {H:Hp}{ts:List TL}{bs:Bs} (h:PT H ts bs) (r:Int):PT H (ts.filter fun t=>!decide (kp 0 t=r)) (ycz bs r):=by
 have e:=h.sub (us:=ts.filter fun t=>!decide (kp 0 t=r)) fun t ht=>(List.mem_filter.mp ht).1
 have e2:ycz bs r=(ts.filter fun t=>!decide (kp 0 t=r)).map fun t=>(t.2.getD 0 0,t.2.getD 1 0):=by
  unfold ycz
  conv=>lhs;rw[h.bs_eq]
  rw[List.filter_map]
  rfl
 rw[e2]
 exact e
theorem PT.wLine {H:Hp}{ts:List TL}{bs:Bs} (h:PT H ts bs) (r:Int):PT H (ts.filter fun t=>!decide (kp 1 t=r)) (yb0 bs r):=by
 have e:=h.sub (us:=ts.filter fun t=>!decide (kp 1 t=r)) fun t ht=>(List.mem_filter.mp ht).1
 have e2:yb0 bs r=(ts.filter fun t=>!decide (kp 1 t=r)).map fun t=>(t.2.getD 0 0,t.2.getD 1 0):=by
  unfold yb0
  conv=>lhs;rw[h.bs_eq]
  rw[List.filter_map]
  rfl
 rw[e2]
 exact e
def trD:Tr→PyData
 | .cells C=>.tuple [.str "cells",.list (tupD (C.map pr2))]
 | .split r l a b=>.tuple [.str "split",.tuple [.int r,.int l],trD a,trD b]
 | .nil=>.none
def ycl:PyData→Bool | .int _=>true|_=>false
def isB (bs:Bs):PyData→Bool | .tuple [.int r,.int l]=>decide ((r,l)∈bs)|_=>false
def strD (y:Str):PyData→Bool | .str z=>decide (z=y)|_=>false
def hdW (y:Str) (n:Nat):PyData→Bool | .tuple (x::xs)=>decide (xs.length+1=n)&&strD y x|_=>false
def qf3:PyData→Bool | .tuple [_,_]=>true|_=>false
theorem _root_.L2.AtX.at {H:Hp}{v:V}{d:PyData} (h:AtX H v d) (hd:d≠.dict []):At H v d:=h.elim id fun z=>absurd z.1 hd
theorem _root_.L2.AtX.tupE {H:Hp}{v:V}{d:PyData} (h:AtX H v d) (ht:yc9 d=true):∃ a us ds,d=.tuple ds∧v=.ref a∧H a=some (.tup us)∧AtAll H us ds:=by
 obtain ⟨ds,rfl⟩:∃ ds,d=.tuple ds:=by cases d<;>first|exact ⟨_,rfl⟩|cases ht
 obtain ⟨a,us,rfl,ha,hu⟩:=(h.at (by intro z;cases z)).tupEq
 exact ⟨a,us,ds,rfl,rfl,ha,hu⟩
theorem _root_.L2.AtX.lstE {H:Hp}{v:V}{d:PyData} (h:AtX H v d) (ht:qd8 d=true):∃ a us ds,d=.list ds∧v=.ref a∧H a=some (.lst us)∧AtAll H us ds:=by
 obtain ⟨ds,rfl⟩:∃ ds,d=.list ds:=by cases d<;>first|exact ⟨_,rfl⟩|cases ht
 obtain ⟨a,us,rfl,ha,hu⟩:=(h.at (by intro z;cases z)).lstEq
 exact ⟨a,us,ds,rfl,rfl,ha,hu⟩
theorem mem_pr {H:Hp}{ts:List TL}{bs:Bs} (hP:PT H ts bs) (r l:Int):decide ([r,l]∈ts.map (·.2))=decide ((r,l)∈bs):=decide_eq_decide.mpr (by
 rw[hP.eq]
 constructor
 ·intro z
  obtain ⟨p,hp,e⟩:=List.mem_map.mp z
  cases p with
  | mk r' l'=>
   cases e
   exact hp
 ·intro z
  exact List.mem_map_of_mem (f:=pr2) z)
section
variable {P:Program}{w:World}{K:PySem.W.Frag}{mg:Str→Option Value}{base:Heap}
def yc1:Sp:=fun vs H Q _=>∃ v d,vs=[v]∧AtX H v d∧Q (.bl (ycl d)) H
abbrev yb7:Stmt:=top 1
theorem yde:FnScope ["thing"] ["thing"] (yae yb7):=⟨rfl,rfl,rfl,by decide +kernel,rfl,by decide +kernel,by decide +kernel⟩
theorem og_whole (B:Bl mg) (F:FnAt K mg "is_whole" yb7 ["thing"]):Has P w K mg base 1 "is_whole" ["thing"] yc1:=by
 refine Has.ofQ F yde (fun vs H Q E h=>?_) (fun f cdv A outer s H vs Q E hr h=>?_)
 ·obtain ⟨v,d,rfl,_⟩:=h
  rfl
 ·obtain ⟨v,d,rfl,hv,q⟩:=h
  have sc:=yde
  refine ⟨_,(yaq rfl (qaf (yag (qaa (qbh (qa5 ya0 rfl (B.of rfl) boot_isinstance (yad (pv 0) (yad (ya8 (v:=.ty "int") rfl (B.of rfl) boot_int rfl) qan))) (qbz (pe_not (qa5 ya0 rfl (B.of rfl) boot_isinstance (yad (pv 0) (yad (ya8 (v:=.ty "bool") rfl (B.of rfl) boot_bool rfl) qan)))))))))),?_⟩
  refine ⟨_,rfl,_,_,_,_,rfl,hv.ty,qfs d,_,rfl,?_⟩
  cases hi:isInt d with
  | false=>
   have e:ycl d=false:=by cases d<;>first|rfl|cases hi
   rw[e] at q
   exact iteF q
  | true=>
   refine iteT ⟨_,rfl,_,_,_,_,rfl,hv.ty,kit_bl d,_,rfl,?_⟩
   have e:ycl d=!isBl d:=by cases d<;>first|rfl|cases hi
   rw[e] at q
   exact q
def qf7:Sp:=fun vs H Q _=>∃ v d,vs=[v]∧AtX H v d∧Q (.bl (qf3 d)) H
abbrev qci:Stmt:=top 3
theorem qdo:FnScope ["thing"] ["thing"] (yae qci):=⟨rfl,rfl,rfl,by decide +kernel,rfl,by decide +kernel,by decide +kernel⟩
theorem og_pair (B:Bl mg) (F:FnAt K mg "is_pair" qci ["thing"]):Has P w K mg base 1 "is_pair" ["thing"] qf7:=by
 refine Has.ofQ F qdo (fun vs H Q E h=>?_) (fun f cdv A outer s H vs Q E hr h=>?_)
 ·obtain ⟨v,d,rfl,_⟩:=h
  rfl
 ·obtain ⟨v,d,rfl,hv,q⟩:=h
  have sc:=qdo
  refine ⟨_,(yaq rfl (qaf (yag (qaa (qbh (qa5 ya0 rfl (B.of rfl) boot_isinstance (yad (pv 0) (yad (ya8 (v:=.ty "tuple") rfl (B.of rfl) boot_tuple rfl) qan))) (qbz (ybr ycs (qa5 yaj rfl (B.of rfl) boot_len (yad (pv 0) qan)) yaa (yah _)))))))),?_⟩
  refine ⟨_,rfl,_,_,_,_,rfl,hv.ty,ydv d,_,rfl,?_⟩
  cases hi:yc9 d with
  | false=>
   have e:qf3 d=false:=by cases d<;>first|rfl|cases hi
   rw[e] at q
   exact iteF q
  | true=>
   obtain ⟨a,us,ds,rfl,rfl,ha,hu⟩:=hv.tupE hi
   refine iteT ⟨_,rfl,a,_,rfl,.inr (SqT.of ha),rfl,?_⟩
   have e:decide (V.int (us.length:Int)=V.int 2)=qf3 (.tuple ds):=by
    rw[hu.length]
    match ds with
    | []=>rfl
    | [_]=>rfl
    | [_,_]=>rfl
    | x::y::z::r=>exact decide_eq_false fun q=>by injection q;simp at *;omega
   rw[e]
   exact q
def qez:Sp:=fun vs H Q _=>∃ (v:V) (d:PyData) (a:Addr) (y:Str),vs=[v,.ref a]∧AtX H v d∧H a=some (.tup [.str y])∧Q (.bl (strD y d)) H
abbrev qby:Stmt:=top 2
theorem qcw:FnScope ["thing","words"] ["thing","words"] (yae qby):=⟨rfl,rfl,rfl,by decide +kernel,rfl,by decide +kernel,by decide +kernel⟩
theorem og_oneof (B:Bl mg) (F:FnAt K mg "is_one_of" qby ["thing","words"]):Has P w K mg base 1 "is_one_of" ["thing","words"] qez:=by
 refine Has.ofQ F qcw (fun vs H Q E h=>?_) (fun f cdv A outer s H vs Q E hr h=>?_)
 ·obtain ⟨v,d,a,y,rfl,_⟩:=h
  rfl
 ·obtain ⟨v,d,a,y,rfl,hv,ha,k⟩:=h
  have sc:=qcw
  refine ⟨_,(yaq rfl (qaf (yag (qaa (qbh (qa5 ya0 rfl (B.of rfl) boot_isinstance (yad (pv 0) (yad (ya8 (v:=.ty "str") rfl (B.of rfl) boot_str rfl) qan))) (qbz (ybr yf1 (pv 0) (pv 1) (by with_unfolding_all rfl)))))))),?_⟩
  refine ⟨_,rfl,_,_,_,_,rfl,hv.ty,yfy d,_,rfl,?_⟩
  cases hi:isStr d with
  | false=>
   have e:strD y d=false:=by cases d<;>first|rfl|cases hi
   rw[e] at k
   exact iteF k
  | true=>
   obtain ⟨x,rfl⟩:∃ x,d=.str x:=by cases d<;>first|exact ⟨_,rfl⟩|cases hi
   have ev:=(hv.at (by intro z;cases z)).strEq
   subst ev
   refine iteT ⟨_,rfl,_,rfl,a,_,rfl,.inr (SqT.of ha),rfl,rfl,?_⟩
   show Q (.bl ((y == x)||false)) H
   rw[Bool.or_false]
   have e:(y == x)=strD y (.str x):=by
    show _=decide (x=y)
    rw[Bool.eq_iff_iff]
    simp only[beq_iff_eq,decide_eq_true_eq]
    exact ⟨Eq.symm,Eq.symm⟩
   rw[e]
   exact k
def qep:Sp:=fun vs H Q _=>∃ (v:V) (d:PyData) (y:Str) (n:Nat),vs=[v,.str y,.int n]∧AtX H v d∧0<n∧∀ H',Same H H'→Q (.bl (hdW y n d)) H'
abbrev yb8:Stmt:=top 10
theorem qc4:FnScope ["thing","word","length"] ["thing","word","length"] (yae yb8):=⟨rfl,rfl,rfl,by decide +kernel,rfl,by decide +kernel,by decide +kernel⟩
theorem og_word (B:Bl mg) (yei:Has P w K mg base 1 "is_one_of" ["thing","words"] qez) (F:FnAt K mg "has_word" yb8 ["thing","word","length"]):Has P w K mg base 2 "has_word" ["thing","word","length"] qep:=by
 refine Has.ofQ F qc4 (fun vs H Q E h=>?_) (fun f cdv A outer s H vs Q E hr h=>?_)
 ·obtain ⟨v,d,y,n,rfl,_⟩:=h
  rfl
 ·obtain ⟨v,d,y,n,rfl,hv,hn0,k⟩:=h
  have sc:=qc4
  refine ⟨_,(yaq rfl (qaf (yag (qaa (qbh (qa5 ya0 rfl (B.of rfl) boot_isinstance (yad (pv 0) (yad (ya8 (v:=.ty "tuple") rfl (B.of rfl) boot_tuple rfl) qan))) (qbh (ybr ycs (qa5 yaj rfl (B.of rfl) boot_len (yad (pv 0) qan)) (pv 2) (yah _)) (qbz (qay yei hr (yad (qa0 qak (pv 0) yaa (fun _ _=>rfl)) (yad (qd6 (yad (pv 1) qan)) qan)))))))))),?_⟩
  refine ⟨_,rfl,_,_,_,_,rfl,hv.ty,ydv d,_,rfl,?_⟩
  cases hi:yc9 d with
  | false=>
   have e:hdW y n d=false:=by cases d<;>first|rfl|cases hi
   rw[e] at k
   exact iteF (k H (Same.refl H))
  | true=>
   obtain ⟨a,us,ds,rfl,rfl,ha,hu⟩:=hv.tupE hi
   refine iteT ⟨_,rfl,a,_,rfl,.inr (SqT.of ha),_,rfl,rfl,_,rfl,?_⟩
   cases hu with
   | nil=>
    refine iteN (decide_eq_false fun z=>by injection z with z;simp at z;omega) ?_
    exact k H (Same.refl H)
   | @cons u x us xs hx hu=>
    have hl:=hu.length
    by_cases hn:xs.length+1=n
    ·refine iteB (decide_eq_true (by rw[List.length_cons,hl,← hn])) ⟨_,rfl,a,_,_,_,rfl,rfl,SqT.of ha,qad 0 rfl,_,rfl,(by show 1≤sizeLine;decide),fun q nq=>?_⟩
     have s1:=(Same.refl H).upd (o:=.tup [.str y]) nq
     refine ⟨u,x,q,y,rfl,.inl (hx.same s1),qac,?_⟩
     have kk:=k _ s1
     rw[show hdW y n (.tuple (x::xs))=strD y x by show (decide (xs.length+1=n)&&strD y x)=_;rw[decide_eq_true hn,Bool.true_and]] at kk
     exact kk
    ·refine iteN (decide_eq_false fun z=>hn (by injection z with z;rw[List.length_cons] at z;omega)) ?_
     have kk:=k _ (Same.refl H)
     rw[show hdW y n (.tuple (x::xs))=false by show (decide (xs.length+1=n)&&strD y x)=_;rw[decide_eq_false hn,Bool.false_and]] at kk
     exact kk
def qcv:Sp:=fun vs H Q _=>∃ (b:Addr) (v:V) (ts:List TL) (bs:Bs) (d:PyData),vs=[.ref b,v]∧H b=some (.lst (yaf ts))∧PT H ts bs∧AtX H v d∧Q (.bl (isB bs d)) H
theorem qe0 {bs:Bs}{d:PyData} (h:qf3 d=false):isB bs d=false:=by
 unfold isB
 split
 ·cases h
 ·rfl
abbrev qbu:Stmt:=top 7
theorem ycw:FnScope ["broken","thing"] ["broken","thing"] (yae qbu):=⟨rfl,rfl,rfl,by decide +kernel,rfl,by decide +kernel,by decide +kernel⟩
theorem og_isb (B:Bl mg) (qdq:Has P w K mg base 1 "is_whole" ["thing"] yc1) (qfx:Has P w K mg base 1 "is_pair" ["thing"] qf7) (F:FnAt K mg "is_broken" qbu ["broken","thing"]):Has P w K mg base 2 "is_broken" ["broken","thing"] qcv:=by
 refine Has.ofQ F ycw (fun vs H Q E h=>?_) (fun f cdv A outer s H vs Q E hr h=>?_)
 ·obtain ⟨b,v,ts,bs,d,rfl,_⟩:=h
  rfl
 ·obtain ⟨b,v,ts,bs,d,rfl,hb,hP,hv,k⟩:=h
  have sc:=ycw
  refine ⟨_,(yaq rfl (qaf (yag (qaa (qbh (qay qfx hr (yad (pv 1) qan)) (qbh (qay qdq hr (yad (qa0 qak (pv 1) yaa (fun _ _=>rfl)) qan)) (qbh (qay qdq hr (yad (qa0 qak (pv 1) yaa (fun _ _=>rfl)) qan)) (qbz (ybr (op_inP hr) (pv 1) (pv 0) (by with_unfolding_all rfl)))))))))),?_⟩
  refine ⟨_,rfl,v,d,rfl,hv,_,rfl,?_⟩
  cases hp:qf3 d with
  | false=>
   rw[qe0 hp] at k
   exact iteF k
  | true=>
   have hi:yc9 d=true:=by cases d<;>first|rfl|cases hp
   obtain ⟨t,us,ds,rfl,rfl,ht,hu⟩:=hv.tupE hi
   match ds,us,hp,hu with
   | [x,y],[u,z],_,.cons hx (.cons hy .nil)=>
    refine iteT ⟨_,rfl,t,_,_,_,rfl,rfl,SqT.of ht,qad 0 rfl,u,x,rfl,.inl hx,_,rfl,?_⟩
    cases hwx:ycl x with
    | false=>
     rw[show isB bs (.tuple [x,y])=false by cases x<;>first|rfl|cases hwx] at k
     exact iteF k
    | true=>
     obtain ⟨r,rfl⟩:∃ r,x=.int r:=by cases x<;>first|exact ⟨_,rfl⟩|cases hwx
     refine iteT ⟨_,rfl,t,_,_,_,rfl,rfl,SqT.of ht,qad 1 rfl,z,y,rfl,.inl hy,_,rfl,?_⟩
     cases hwy:ycl y with
     | false=>
      rw[show isB bs (.tuple [.int r,y])=false by cases y<;>first|rfl|cases hwy] at k
      exact iteF k
     | true=>
      obtain ⟨l,rfl⟩:∃ l,y=.int l:=by cases y<;>first|exact ⟨_,rfl⟩|cases hwy
      have eu:=hx.intEq
      have ez:=hy.intEq
      subst eu ez
      refine iteT ⟨_,rfl,_,rfl,t,b,[r,l],ts,rfl,rfl,ht,hb,hP.at_,?_⟩
      show Q (.bl (decide ([r,l]∈ts.map (·.2)))) H
      rw[mem_pr hP]
      exact k
def qc8:Sp:=fun vs H Q _=>∃ (a:Addr) (ns:List Int),vs=[.ref a]∧H a=some (.lst (ns.map V.int))∧ns.length≤1000∧∀ (b:Bool) H',(b=true↔ns.Nodup)→Same H H'→Q (.bl b) H'
abbrev ybk:Stmt:=top 8
theorem yci:FnScope ["things"] ["things"] (yae ybk):=⟨rfl,rfl,rfl,by decide +kernel,rfl,by decide +kernel,by decide +kernel⟩
theorem yfh (B:Bl mg) (yep:mg "set" = none) (F:FnAt K mg "are_unlike" ybk ["things"]):Has P w K mg base 1 "are_unlike" ["things"] qc8:=by
 refine Has.ofQ F yci (fun vs H Q E h=>?_) (fun f cdv A outer s H vs Q E hr h=>?_)
 ·obtain ⟨a,ns,rfl,_⟩:=h
  rfl
 ·obtain ⟨a,ns,rfl,ha,hl,k⟩:=h
  have sc:=yci
  refine ⟨_,(yaq rfl (qaf (yag (qek ycs (yak ycf rfl (B.of rfl) boot_len (ycd (qa7 (qdd rfl) rfl yep qdh (qah (qaa (pv 0)) yab)) yab)) (yak yaj rfl (B.of rfl) boot_len (qah (qaa (pv 0)) yab)) (yah _))))),?_⟩
  refine ⟨_,rfl,a,ns,rfl,ha,by omega,fun p np=>⟨p,_,rfl,qac,_,rfl,a,_,rfl,.inl (SqL.of (by rw[yao (qai ha np)];exact ha)),rfl,?_⟩⟩
  refine k _ _ ?_ ((Same.refl H).upd np)
  rw[decide_eq_true_eq,List.length_map]
  constructor
  ·intro z
   injection z with z
   exact qck (by omega)
  ·intro z
   rw[ycm z]
end
end Mc
namespace Mc
open PySem L2 PyProof.Rows Mx PySem.W
theorem ye8 {S A:Hp→Prop}{Q:Prop} (main:(∀ H,S H→A H)→Q) (st2:∀ H,S H→A H):Q:=main st2
theorem qdx {K:PySem.W.Frag}{j i:Nat}{σ:L2.St}{H:Hp}{Q:VK}{c:Addr}{cs:List TL}{C:Bs} (hσ:σ[j]?=some (some (.ref c))) (hc:H c=some (.lst (yaf cs))) (hC:PT H cs C) (hl:C.length≤1000) (hi:i<2)
  (k:∀ D H',Same H H'→H' D=some (.lst ((cs.map (kp i)).map V.int))→Q (.ref D) H'):qfz (qd2 K (tVar j)) [none] (qco 0) tYes (tOp (rIxT K) (tVar 0) (tC (.int i))) σ H Q:=by
 have hcl:=hC.len
 refine ⟨_,hσ,c,rfl,⟨_,SqL.of hc⟩,fun D nD=>ybs (n:=cs.length) (fun j H'=>Same H H'∧H' D=some (.lst (((cs.take j).map (kp i)).map V.int))) ⟨(Same.refl H).upd nD,qac⟩ ?_ ?_⟩
 ·rintro H4 ⟨s4,e4⟩
  rw[List.take_length] at e4
  exact ⟨⟨_,SqL.of (s4 _ _ hc),by unfold yaf;simp⟩,k D H4 s4 e4⟩
 ·rintro j H4 hj ⟨s4,e4⟩
  have htj:(yaf cs)[j]?=some (.ref cs[j].1):=by unfold yaf;rw[List.getElem?_map,List.getElem?_eq_getElem hj];rfl
  refine ⟨⟨_,_,SqL.of (s4 _ _ hc),htj⟩,?_⟩
  rintro y H5 ⟨rfl,hy⟩
  have hy':=hy _ (SqL.of (s4 _ _ hc))
  rw[htj] at hy'
  cases hy'
  obtain ⟨r,l,et,_,hat⟩:=hC.of_mem (List.getElem_mem hj)
  have tj:(cs.take (j+1)).map (kp i)=(cs.take j).map (kp i)++[kp i cs[j]]:=by rw[List.take_add_one,List.getElem?_eq_getElem hj,List.map_append];rfl
  have ha:atI [V.int r,.int l] (i:Int)=some (.int (kp i cs[j])):=by
   unfold kp
   rw[et]
   rcases (by omega:i=0∨i=1) with rfl|rfl<;>rfl
  refine ⟨ya4.set (ya4.refl _) rfl,?_⟩
  unfold tYes
  refine iteB rfl ⟨_,rfl,_,_,_,_,rfl,rfl,SqT.of (s4 _ _ hat),ha,_,e4,qcb (by rw[List.length_map,List.length_map,List.length_take];omega),s4.at nD,?_⟩
  rw[qac,tj,List.map_append]
  rfl
theorem cols {H:Hp}{cs:List TL}{C:Bs} (hC:PT H cs C):cs.map (kp 0)=C.map (·.1)∧cs.map (kp 1)=C.map (·.2):=by
 rw[hC.bs_eq,List.map_map,List.map_map]
 exact ⟨rfl,rfl⟩
theorem qdm {K:PySem.W.Frag}{j i:Nat}{σ:L2.St}{H:Hp}{Q:Bool→Hp→Prop}{c:Addr}{cs:List TL}{C:Bs} (hσ:σ[j]?=some (some (.ref c))) (hc:H c=some (.lst (yaf cs))) (hC:PT H cs C) (hl:C.length≤1000) (hi:i<2)
  (k:∀ (v:Bool) H',(v=true↔(cs.map (kp i)).Nodup)→Same H H'→Q (!v) H'):tNot (tB (qel qc8 [] E0 (qbj (qfz (qd2 K (tVar j)) [none] (qco 0) tYes (tOp (rIxT K) (tVar 0) (tC (.int i)))) tNil))) σ H Q:=by
 have hcl:=hC.len
 unfold tNot tB qel qbj
 exact qdx hσ hc hC hl hi fun D H5 s5 e5=>⟨D,_,rfl,e5,by rw[List.length_map];omega,fun v H6 hv s6=>⟨_,rfl,k v H6 hv (s5.trans s6)⟩⟩
def pD (p:Int×Int):PyData:=.tuple [.int p.1,.int p.2]
theorem qef (C:Bs):tupD (C.map pr2)=C.map pD:=by
 unfold tupD
 rw[List.map_map]
 rfl
theorem pD_inj:∀ {C D:Bs},C.map pD=D.map pD→C=D
 | [],[],_=>rfl
 | [],_::_,h=>by simp at h
 | _::_,[],h=>by simp at h
 | (a,b)::C,(c,d)::D,h=>by
  simp only[List.map_cons,List.cons.injEq,pD,PyData.tuple.injEq,PyData.int.injEq,and_true] at h
  rw[h.1.1,h.1.2,pD_inj h.2]
theorem ybx {H:Hp}{bs:Bs}:∀ {us:List V}{ds:List PyData},AtAll H us ds→ds.all (isB bs)=true→∃ C cs,ds=C.map pD∧us=yaf cs∧PT H cs C∧∀ p∈C,p∈bs
 | _,_,.nil,_=>⟨[],[],rfl,rfl,⟨rfl,(fun _ h=>nomatch h)⟩,(fun _ h=>nomatch h)⟩
 | _,_,.cons (v:=v) (d:=d) a r,h=>by
  rw[List.all_cons,Bool.and_eq_true] at h
  obtain ⟨C,cs,rfl,rfl,p1,p2⟩:=ybx r h.2
  have hd:=h.1
  unfold isB at hd
  split at hd
  ·rename_i x y
   obtain ⟨q,ws,rfl,hq,hw⟩:=a.tupEq
   match ws,hw with
   | [w1,w2],.cons a1 (.cons a2 .nil)=>
    have e1:=a1.intEq
    have e2:=a2.intEq
    subst e1 e2
    refine ⟨(x,y)::C,(q,[x,y])::cs,rfl,rfl,⟨by rw[List.map_cons,List.map_cons,p1.eq];rfl,fun t ht=>?_⟩,fun p hp=>?_⟩
    ·rcases List.mem_cons.mp ht with rfl|ht
     ·exact hq
     ·exact p1.at_ t ht
    ·rcases List.mem_cons.mp hp with rfl|hp
     ·exact of_decide_eq_true hd
     ·exact p2 p hp
  ·cases hd
theorem qcz {bs C:Bs} (h:∀ p∈C,p∈bs):(C.map pD).all (isB bs)=true:=by
 rw[List.all_eq_true]
 intro d hd
 obtain ⟨p,hp,rfl⟩:=List.mem_map.mp hd
 exact decide_eq_true (h p hp)
def yfg (bs:Bs) (n m:Nat) (d:PyData):Prop:=∃ C,d=.list (C.map pD)∧qb2 bs n m (.cells C)
theorem yfg.iff {bs C:Bs}{n m:Nat}:yfg bs n m (.list (C.map pD))↔qb2 bs n m (.cells C):=by
 constructor
 ·rintro ⟨D,e,h⟩
  rw[pD_inj (PyData.list.inj e)]
  exact h
 ·exact fun h=>⟨C,rfl,h⟩
section
variable {P:Program}{w:World}{K:PySem.W.Frag}{mg:Str→Option Value}{base:Heap}
def qct:Sp:=fun vs H Q _=>∃ (b:Addr) (x:V) (n m:Nat) (ts:List TL) (bs:Bs) (d:PyData),vs=[.ref b,.int n,.int m,x]∧H b=some (.lst (yaf ts))∧PT H ts bs∧AtX H x d∧(∀ ds,d=.list ds→ds.length≤1000)∧
 ∀ (v:Bool) H',(v=true↔yfg bs n m d)→Same H H'→Q (.bl v) H'
abbrev ya9:Stmt:=top 9
theorem yb2:FnScope ["broken","rows","lines","thing"] ["broken","rows","lines","thing"] (yae ya9):=⟨rfl,rfl,rfl,by decide +kernel,rfl,by decide +kernel,by decide +kernel⟩
theorem og_many (B:Bl mg) (z_all:mg "all" = none) (qcf:Has P w K mg base 2 "is_broken" ["broken","thing"] qcv) (ycy:Has P w K mg base 1 "are_unlike" ["things"] qc8) (F:FnAt K mg "are_too_many" ya9 ["broken","rows","lines","thing"]):Has P w K mg base 3 "are_too_many" ["broken","rows","lines","thing"] qct:=by
 refine Has.ofQ F yb2 (fun vs H Q E h=>?_) (fun f cdv A outer s H vs Q E hr h=>?_)
 ·obtain ⟨b,x,n,m,ts,bs,d,rfl,_⟩:=h
  rfl
 ·obtain ⟨b,x,n,m,ts,bs,d,rfl,hb,hP,hx,hl,k⟩:=h
  have sc:=yb2
  refine ⟨_,(yaq rfl (yac (qau (QW.pt (ycr (qb6 (qbc (yak ya0 rfl (B.of rfl) boot_isinstance (qah (qaa (pv 3)) (qah (qaa (ya8 (v:=.ty "list") rfl (B.of rfl) boot_list rfl)) yab))))) (yb6 (qb6 (qbc (yak (yfp rfl) rfl z_all qfo (ycq (qaa (yax rfl (qap rfl) (M:=["cell","broken"]) (ix:=[none,some 0]) (qax (pv 3)) (fun _ _ _ _=>(qal (i:=0) (show List.Nodup (["cell","broken"]:List Str) by decide +kernel) rfl (Or.inl rfl))) (fun _ _ _ _=>ybf) (fun _ _ _ _=>(qay qcf hr (yad (pv 1) (yad (pv 0) qan)))))) yab)))))))
    (qaf (yag (qaa qb1)))
    yan)
   (yac (qau (QW.pt (qdg (yai yb4 (qaa (pv 1)) (qaa yaa) (yah _)) (ycg (qb6 (qbc (qaj ycy hr (ycq (qaa (yax rfl (qap rfl) (M:=["cell"]) (ix:=[none]) (qax (pv 3)) (fun _ _ _ _=>(qal (i:=0) (show List.Nodup (["cell"]:List Str) by decide +kernel) rfl (Or.inl rfl))) (fun _ _ _ _=>ybf) (fun _ _ _ _=>(qa0 (yat (K:=K) rfl) (pv 0) yaa (fun _ _=>rfl))))) yab)))))))
    (qaf (yag (qaa qb1)))
    yan)
   (yac (qau (QW.pt (qdg (yai yb4 (qaa (pv 2)) (qaa yaa) (yah _)) (ycg (qb6 (qbc (qaj ycy hr (ycq (qaa (yax rfl (qap rfl) (M:=["cell"]) (ix:=[none]) (qax (pv 3)) (fun _ _ _ _=>(qal (i:=0) (show List.Nodup (["cell"]:List Str) by decide +kernel) rfl (Or.inl rfl))) (fun _ _ _ _=>ybf) (fun _ _ _ _=>(qa0 (yat (K:=K) rfl) (pv 0) yaa (fun _ _=>rfl))))) yab)))))))
    (qaf (yag (qaa qb1)))
    yan)
   (qaf (yag (qek yb4 (yak yaj rfl (B.of rfl) boot_len (qah (qaa (pv 3)) yab)) (yam qbi (qaa (pv 1)) (qaa (pv 2))) (yah _)))))))),?_⟩
  refine ⟨_,rfl,_,_,_,_,rfl,hx.ty,ygg d,_,rfl,?_⟩
  cases hi:qd8 d with
  | false=>exact iteB rfl (iteT (k false H ⟨fun z=>(by cases z),fun ⟨C,e,_⟩=>by rw[e] at hi;cases hi⟩ (Same.refl H)))
  | true=>
  obtain ⟨c,us,ds,rfl,rfl,hc,hu⟩:=hx.lstE hi
  have hl:=hl ds rfl
  have hul:=hu.length
  refine iteN rfl ?_
  refine ⟨_,rfl,c,rfl,⟨_,SqL.of hc⟩,fun D nD=>ybs (n:=us.length) (fun j H'=>Same H H'∧H' D=some (.lst (((ds.take j).map (isB bs)).map V.bl))) ⟨(Same.refl H).upd nD,qac⟩ ?_ ?_⟩
  rotate_left
  ·rintro j H4 hj ⟨s4,e4⟩
   refine ⟨⟨_,_,SqL.of (s4 _ _ hc),List.getElem?_eq_getElem hj⟩,?_⟩
   rintro y H5 ⟨rfl,hy⟩
   have hy':=hy _ (SqL.of (s4 _ _ hc))
   obtain ⟨e,he,ha⟩:=hu.get hy'
   refine ⟨ya4.set (ya4.refl _) rfl,?_⟩
   unfold tYes
   refine iteB rfl ⟨_,rfl,_,rfl,b,y,ts,bs,e,rfl,s4 _ _ hb,hP.same s4,.inl (ha.same s4),_,e4,qcb (by rw[List.length_map,List.length_map,List.length_take];omega),s4.at nD,?_⟩
   rw[qac,List.take_add_one,he,List.map_append,List.map_append]
   rfl
  rintro H4 ⟨s4,e4⟩
  rw[hul,List.take_length] at e4
  refine ⟨⟨_,SqL.of (s4 _ _ hc),by simp⟩,D,_,rfl,e4,_,rfl,?_⟩
  have eall:(ds.map (isB bs)).all id=ds.all (isB bs):=by rw[List.all_map];rfl
  rw[eall]
  cases hall:ds.all (isB bs) with
  | false=>exact iteB rfl (k false H4 ⟨fun z=>(by cases z),fun ⟨C,e,h⟩=>by rw[PyData.list.inj e,qcz h.1] at hall;cases hall⟩ s4)
  | true=>
  obtain ⟨C,cs,rfl,rfl,hC,hsub⟩:=ybx hu hall
  refine iteN rfl ?_
  rw[List.length_map] at hl
  have hCl:C.length≤1000:=hl
  have hcl:=hC.len
  have k:∀ (v:Bool) H',(v=true↔qb2 bs n m (.cells C))→Same H H'→Q (.bl v) H':=fun v H' hv s'=>k v H' (hv.trans yfg.iff.symm) s'
  have hc4:=s4 _ _ hc
  have hC4:=hC.same s4
  have fin:∀ H5,Same H H5→(0<n→(C.map (·.1)).Nodup)→(0<m→(C.map (·.2)).Nodup)→Q (.bl (decide (n+m<C.length))) H5:=fun H5 s5 h1 h2=>k _ H5 ⟨fun z=>⟨hsub,h1,h2,of_decide_eq_true z⟩,fun z=>decide_eq_true z.2.2.2⟩ s5
  have no:∀ H5,Same H H5→¬ qb2 bs n m (.cells C)→Q (.bl false) H5:=fun H5 s5 z=>k false H5 ⟨fun z=>(by cases z),fun y=>absurd y z⟩ s5
  refine' ye8 (S:=fun H5=>Same H H5∧(0<n→(C.map (·.1)).Nodup)) (fun st2=>?main) ?st2
  case main=>
   refine ⟨_,rfl,_,_,rfl,rfl,_,rfl,?_⟩
   by_cases hn:0<n
   ·refine iteD (by omega) (qdm (i:=0) rfl hc4 hC4 hCl (by decide) fun v H6 hv s6=>?_)
    rw[(cols hC4).1] at hv
    cases v with
    | true=>exact iteN rfl (st2 H6 ⟨s4.trans s6,fun _=>hv.mp rfl⟩)
    | false=>exact iteB rfl (no H6 (s4.trans s6) fun y=>absurd (hv.mpr (y.2.1 hn)) (by decide))
   ·exact yca (by omega) (iteF (st2 H4 ⟨s4,fun z=>absurd z hn⟩))
  case st2=>
   rintro H5 ⟨s5,h1⟩
   refine ⟨_,rfl,_,_,rfl,rfl,_,rfl,?_⟩
   have hc5:=s5 _ _ hc
   have hC5:=hC.same s5
   have el:∀ H6,Same H H6→H6 c=some (.lst (yaf cs)):=fun H6 s6=>s6 _ _ hc
   have ecl:(yaf cs).length=C.length:=by unfold yaf;rw[List.length_map];exact hcl
   have fin2:∀ H6,Same H H6→(0<m→(C.map (·.2)).Nodup)→Q (.bl (decide ((n:Int)+(m:Int)<((yaf cs).length:Int)))) H6:=fun H6 s6 h2=>by
    have:=fin H6 s6 h1 h2
    rw[ecl,show decide ((n:Int)+(m:Int)<(C.length:Int))=decide (n+m<C.length) from decide_eq_decide.mpr (by omega)]
    exact this
   by_cases hm:0<m
   ·refine iteD (by omega) (qdm (i:=1) rfl hc5 hC5 hCl (by decide) fun v H6 hv s6=>?_)
    rw[(cols hC5).2] at hv
    have s7:=s5.trans s6
    cases v with
    | true=>exact iteN rfl ⟨_,rfl,c,_,rfl,.inl (SqL.of (el H6 s7)),_,rfl,_,rfl,_,_,rfl,rfl,_,_,rfl,rfl,fin2 H6 s7 fun _=>hv.mp rfl⟩
    | false=>exact iteB rfl (no H6 s7 fun y=>absurd (hv.mpr (y.2.2.1 hm)) (by decide))
   ·exact yca (by omega) (iteF ⟨_,rfl,c,_,rfl,.inl (SqL.of (el H5 s5)),_,rfl,_,rfl,_,_,rfl,rfl,_,_,rfl,rfl,fin2 H5 s5 fun z=>absurd z hm⟩)
end
end Mc
namespace Mc
open PySem L2 PyProof.Rows Mx PySem.W
inductive LL:PyData→Prop
 | leaf {d:PyData}:qd8 d=false→yc9 d=false→LL d
 | lst {ds:List PyData}:ds.length≤1000→(∀ x∈ds,LL x)→LL (.list ds)
 | tup {ds:List PyData}:(∀ x∈ds,LL x)→LL (.tuple ds)
theorem LL.len {ds:List PyData} (h:LL (.list ds)):ds.length≤1000:=by
 cases h with
 | leaf a b=>cases a
 | lst a b=>exact a
theorem LL.len' {d:PyData}{ds:List PyData} (h:LL d) (e:d=.list ds):ds.length≤1000:=by
 subst e
 exact h.len
theorem LL.all {ds:List PyData} (h:LL (.tuple ds)):∀ x∈ds,LL x:=by
 cases h with
 | leaf a b=>cases b
 | tup a=>exact a
def qa6 (bs:Bs) (n m:Nat) (d:PyData):Prop:=∃ t,d=trD t∧qb2 bs n m t
def qgn (bs:Bs) (n m:Nat) (c d1 d2:PyData):Prop:=∃ r l,c=pD (r,l)∧(r,l)∈bs∧(0<n→qa6 (ycz bs r) (n-1) m d1)∧(n=0→d1=.none)∧(0<m→qa6 (yb0 bs l) n (m-1) d2)∧(m=0→d2=.none)
theorem qa6.cells {bs:Bs}{n m:Nat}{x:PyData}:qa6 bs n m (.tuple [.str "cells",x])↔yfg bs n m x:=by
 constructor
 ·rintro ⟨t,e,h⟩
  cases t with
  | cells C=>
   unfold trD at e
   rw[qef] at e
   simp only[PyData.tuple.injEq,List.cons.injEq,and_true,true_and] at e
   exact ⟨C,e,h⟩
  | split r l a b=>simp[trD] at e
  | nil=>simp[trD] at e
 ·rintro ⟨C,rfl,h⟩
  refine ⟨.cells C,?_,h⟩
  unfold trD
  rw[qef]
theorem qa6.split {bs:Bs}{n m:Nat}{c d1 d2:PyData}:qa6 bs n m (.tuple [.str "split",c,d1,d2])↔qgn bs n m c d1 d2:=by
 constructor
 ·rintro ⟨t,e,h⟩
  cases t with
  | cells C=>simp[trD] at e
  | nil=>simp[trD] at e
  | split r l a b=>
   simp only[trD,PyData.tuple.injEq,List.cons.injEq,and_true,true_and] at e
   obtain ⟨rfl,rfl,rfl⟩:=e
   obtain ⟨h1,h2,h3,h4,h5⟩:=h
   exact ⟨r,l,rfl,h1,fun z=>⟨a,rfl,h2 z⟩,fun z=>by rw[h3 z];rfl,fun z=>⟨b,rfl,h4 z⟩,fun z=>by rw[h5 z];rfl⟩
 ·rintro ⟨r,l,rfl,h1,h2,h3,h4,h5⟩
  have ha:∃ a,d1=trD a∧(0<n→qb2 (ycz bs r) (n-1) m a)∧(n=0→a=.nil):=by
   by_cases hn:0<n
   ·obtain ⟨a,e,h⟩:=h2 hn
    exact ⟨a,e,fun _=>h,fun z=>by omega⟩
   ·exact ⟨.nil,h3 (by omega),fun z=>absurd z hn,fun _=>rfl⟩
  have hb:∃ b,d2=trD b∧(0<m→qb2 (yb0 bs l) n (m-1) b)∧(m=0→b=.nil):=by
   by_cases hm:0<m
   ·obtain ⟨a,e,h⟩:=h4 hm
    exact ⟨a,e,fun _=>h,fun z=>by omega⟩
   ·exact ⟨.nil,h5 (by omega),fun z=>absurd z hm,fun _=>rfl⟩
  obtain ⟨a,rfl,a1,a2⟩:=ha
  obtain ⟨b,rfl,b1,b2⟩:=hb
  exact ⟨.split r l a b,rfl,h1,a1,a2,b1,b2⟩
theorem qa6.no {bs:Bs}{n m:Nat}{d:PyData} (h1:hdW "cells" 2 d=false) (h2:hdW "split" 4 d=false):¬ qa6 bs n m d:=by
 rintro ⟨t,rfl,h⟩
 cases t with
 | cells C=>simp[trD,hdW,strD] at h1
 | split r l a b=>simp[trD,hdW,strD] at h2
 | nil=>exact h
theorem hdW_is {y:Str}{n:Nat}{d:PyData} (h:hdW y n d=true):∃ xs,d=.tuple (.str y::xs)∧xs.length+1=n:=by
 unfold hdW at h
 split at h
 ·rename_i x xs
  rw[Bool.and_eq_true] at h
  have hx:=h.2
  unfold strD at hx
  split at hx
  ·rw[of_decide_eq_true hx];exact ⟨xs,rfl,of_decide_eq_true h.1⟩
  ·cases hx
 ·cases h
theorem At.nonIff {H:Hp}{v:V}{d:PyData} (h:At H v d):v=.non↔d=.none:=by
 cases h<;>first|exact ⟨fun _=>rfl,fun _=>rfl⟩|exact ⟨fun z=>(by cases z),fun z=>by cases z⟩
section
variable {P:Program}{w:World}{K:PySem.W.Frag}{mg:Str→Option Value}{base:Heap}
def qed (N:Nat):Sp:=fun vs H Q _=>∃ (b p:Addr) (n m:Nat) (ts:List TL) (bs:Bs) (v0 vc v1 v2:V) (dc d1 d2:PyData),vs=[.ref b,.int n,.int m,.ref p]∧n+m≤N∧H b=some (.lst (yaf ts))∧PT H ts bs∧bs.length≤63∧
 H p=some (.tup [v0,vc,v1,v2])∧At H vc dc∧At H v1 d1∧At H v2 d2∧LL d1∧LL d2∧∀ (v:Bool) H',(v=true↔qgn bs n m dc d1 d2)→Same H H'→Q (.bl v) H'
def qce (N:Nat):Sp:=fun vs H Q _=>∃ (b:Addr) (x:V) (n m:Nat) (ts:List TL) (bs:Bs) (d:PyData),vs=[.ref b,.int n,.int m,x]∧n+m≤N∧H b=some (.lst (yaf ts))∧PT H ts bs∧bs.length≤63∧
 AtX H x d∧LL d∧∀ (v:Bool) H',(v=true↔qa6 bs n m d)→Same H H'→Q (.bl v) H'
def qc3 (N:Nat):Sp:=fun vs H Q E=>0<N∧qce (N-1) vs H Q E
abbrev ybp:Stmt:=top 11
theorem ydc:FnScope ["broken","rows","lines","thing","cell","one","other"] ["broken","rows","lines","thing"] (yae ybp):=⟨rfl,rfl,rfl,by decide +kernel,rfl,by decide +kernel,by decide +kernel⟩
abbrev ybj:Stmt:=top 12
theorem yct:FnScope ["broken","rows","lines","thing"] ["broken","rows","lines","thing"] (yae ybj):=⟨rfl,rfl,rfl,by decide +kernel,rfl,by decide +kernel,by decide +kernel⟩
theorem ygj {N:Nat} (B:Bl mg) (ydo:Has P w K mg base 2 "has_word" ["thing","word","length"] qep) (qdj:Has P w K mg base 3 "are_too_many" ["broken","rows","lines","thing"] qct)
  (yfa:Has P w K mg base (3+2*N) "is_split" ["broken","rows","lines","thing"] (qed N)) (F:FnAt K mg "lets_none" ybj ["broken","rows","lines","thing"]):Has P w K mg base (4+2*N) "lets_none" ["broken","rows","lines","thing"] (qce N):=by
 rw[show 4+2*N=(3+2*N)+1 by omega]
 refine Has.ofQ F yct (fun vs H Q E h=>?_) (fun f cdv A outer s H vs Q E hr h=>?_)
 ·obtain ⟨b,x,n,m,ts,bs,d,rfl,_⟩:=h
  rfl
 ·obtain ⟨b,x,n,m,ts,bs,d,rfl,hnm,hb,hP,hbl,hx,hll,k⟩:=h
  have sc:=yct
  refine ⟨_,(yaq rfl (yac (qau (qbc (qaj (hk:=(by omega)) ydo hr (qah (qaa (pv 3)) (qam (qaa yay) (qam (qaa yaa) yab)))))
    (qaf (yag (qaj (hk:=(by omega)) qdj hr (qah (qaa (pv 0)) (qah (qaa (pv 1)) (qah (qaa (pv 2)) (ya1 (yap qak (qaa (pv 3)) (qaa yaa) (fun _ _=>rfl)) yab)))))))
    yan)
   (qaf (yag (qaa (qbh (qay (hk:=(by omega)) ydo hr (yad (pv 3) (yad yay (yad yaa qan)))) (qbz (qay (hk:=Nat.le_refl _) yfa hr (yc8 (pv 0) (yc8 (pv 1) (yc8 (pv 2) (yc8 (pv 3) qan)))))))))))),?_⟩
  refine ⟨_,rfl,x,d,"cells",2,rfl,hx,by decide,fun H1 s1=>⟨_,rfl,?_⟩⟩
  cases hw:hdW "cells" 2 d with
  | true=>
   obtain ⟨xs,rfl,hl⟩:=hdW_is hw
   obtain ⟨p,us,rfl,hp,hu⟩:=(hx.at (by intro z;cases z)).tupEq
   match xs,us,hl,hu with
   | [y],[u0,u1],_,.cons _ (.cons a1 .nil)=>
    refine iteB rfl ?_
    refine ⟨_,rfl,_,rfl,_,rfl,_,rfl,p,_,_,_,rfl,rfl,SqT.of (s1 _ _ hp),qad 1 rfl,?_⟩
    exact ⟨b,u1,n,m,ts,bs,y,rfl,s1 _ _ hb,hP.same s1,.inl (a1.same s1),fun ds e=>(hll.all y (by simp)).len' e,fun u H2 hu s2=>k u H2 (hu.trans qa6.cells.symm) (s1.trans s2)⟩
  | false=>
   refine iteN rfl ?_
   refine ⟨_,rfl,x,d,"split",4,rfl,hx.same s1,by decide,fun H2 s2=>⟨_,rfl,?_⟩⟩
   have s3:=s1.trans s2
   cases hw2:hdW "split" 4 d with
   | false=>exact iteN rfl (k false H2 ⟨fun z=>(by cases z),fun z=>absurd z (qa6.no hw hw2)⟩ s3)
   | true=>
    obtain ⟨xs,rfl,hl⟩:=hdW_is hw2
    obtain ⟨p,us,rfl,hp,hu⟩:=(hx.at (by intro z;cases z)).tupEq
    match xs,us,hl,hu with
    | [c,d1,d2],[u0,uc,u1,u2],_,.cons _ (.cons ac (.cons a1 (.cons a2 .nil)))=>
     refine iteB rfl ?_
     exact ⟨_,rfl,_,rfl,_,rfl,_,rfl,b,p,n,m,ts,bs,u0,uc,u1,u2,c,d1,d2,rfl,hnm,s3 _ _ hb,hP.same s3,hbl,s3 _ _ hp,ac.same s3,a1.same s3,a2.same s3,hll.all d1 (by simp),hll.all d2 (by simp),fun u H4 hu s4=>k u H4 (hu.trans qa6.split.symm) (s3.trans s4)⟩
theorem yd1 {N:Nat} (B:Bl mg) (qcf:Has P w K mg base 2 "is_broken" ["broken","thing"] qcv) (qdr:Has P w K mg base 1 "without_row" ["broken","row"] (qbf 0)) (ydj:Has P w K mg base 1 "without_line" ["broken","line"] (qbf 1))
  (qa9:Has P w K mg base (2+2*N) "lets_none" ["broken","rows","lines","thing"] (qc3 N)) (F:FnAt K mg "is_split" ybp ["broken","rows","lines","thing"]):Has P w K mg base (3+2*N) "is_split" ["broken","rows","lines","thing"] (qed N):=by
 rw[show 3+2*N=(2+2*N)+1 by omega]
 refine Has.ofQ F ydc (fun vs H Q E h=>?_) (fun f cdv A outer s H vs Q E hr h=>?_)
 ·obtain ⟨b,p,n,m,ts,bs,v0,vc,v1,v2,dc,d1,d2,rfl,_⟩:=h
  rfl
 ·obtain ⟨b,p,n,m,ts,bs,v0,vc,v1,v2,dc,d1,d2,rfl,hnm,hb,hP,hbl,hp,hc,hT1,hT2,L1,L2,k⟩:=h
  have sc:=ydc
  refine ⟨_,(yaq rfl (yac (yal (i:=4) sc.nd rfl (Or.inl rfl) (yap qak (qaa (pv 3)) (qaa yaa) (fun _ _=>rfl)))
   (yac (qau (qb6 (qbc (qaj (hk:=(by omega)) qcf hr (qah (qaa (pv 0)) (qah (qaa (pv 4)) yab)))))
    (qaf (yag (qaa qb1)))
    yan)
   (yac (yal (i:=5) sc.nd rfl (Or.inl rfl) (qe_mid (qex (yai yb4 (qaa (pv 1)) (qaa yaa) (yah _)) (qaj (hk:=Nat.le_refl _) qa9 hr (ycd (qaj (hk:=(by omega)) qdr hr (qah (qaa (pv 0)) (ya1 (yap qak (qaa (pv 4)) (qaa yaa) (fun _ _=>rfl)) yab))) (qbb (yam ydn (qaa (pv 1)) (qaa yaa)) (qah (qaa (pv 2)) (ya1 (yap qak (qaa (pv 3)) (qaa yaa) (fun _ _=>rfl)) yab))))) (qaa (yev (yd9 (qa0 qak (pv 3) yaa (fun _ _=>rfl))))))))
   (yac (yal (i:=6) sc.nd rfl (Or.inl rfl) (qe_mid (qex (yai yb4 (qaa (pv 2)) (qaa yaa) (yah _)) (qaj (hk:=Nat.le_refl _) qa9 hr (ycd (qaj (hk:=(by omega)) ydj hr (qah (qaa (pv 0)) (ya1 (yap qak (qaa (pv 4)) (qaa yaa) (fun _ _=>rfl)) yab))) (qah (qaa (pv 1)) (qbb (yam ydn (qaa (pv 2)) (qaa yaa)) (ya1 (yap qak (qaa (pv 3)) (qaa yaa) (fun _ _=>rfl)) yab))))) (qaa (yev (yd9 (qa0 qak (pv 3) yaa (fun _ _=>rfl))))))))
   (qaf (yag (qaa (qbh (pv 5) (qbz (pv 6))))))))))),?_⟩
  have en:0<n→(n:Int)-1=((n-1:Nat):Int):=fun _=>by omega
  have em:0<m→(m:Int)-1=((m-1:Nat):Int):=fun _=>by omega
  refine ⟨_,rfl,p,_,_,_,rfl,rfl,SqT.of hp,qad 1 rfl,?_⟩
  refine ⟨_,rfl,_,rfl,b,vc,ts,bs,dc,rfl,hb,hP,.inl hc,_,rfl,?_⟩
  cases hin0:isB bs dc with
  | false=>
   refine iteB rfl (k false H ⟨fun z=>(by cases z),?_⟩ (Same.refl H))
   rintro ⟨r,l,rfl,h,_⟩
   rw[show isB bs (pD (r,l))=decide ((r,l)∈bs) from rfl,decide_eq_true h] at hin0
   cases hin0
  | true=>
  obtain ⟨r,l,rfl,hin⟩:∃ r l,dc=pD (r,l)∧(r,l)∈bs:=by
   unfold isB at hin0
   split at hin0
   ·exact ⟨_,_,rfl,of_decide_eq_true hin0⟩
   ·cases hin0
  obtain ⟨d,ws,rfl,hd,hw⟩:=hc.tupEq
  have s1:=Same.refl H
  refine iteN rfl ?_
  match ws,hw with
  | [w1,w2],.cons a1 (.cons a2 .nil)=>
  have e1:=a1.intEq
  have e2:=a2.intEq
  subst e1 e2
  have hd:H d=some (.tup [.int r,.int l]):=hd
  refine ⟨fun v H2=>∃ c1:Bool,v=.bl c1∧Same H H2∧(c1=true↔(0<n→qa6 (ycz bs r) (n-1) m d1)∧(n=0→d1=.none)),?_,?_⟩
  ·refine ⟨_,rfl,_,_,rfl,rfl,_,rfl,?_⟩
   by_cases hn:0<n
   ·refine iteD (by omega) ?_
    refine ⟨_,rfl,_,rfl,d,_,_,_,rfl,rfl,SqT.of (s1 _ _ hd),qad 0 rfl,b,r,ts,bs,rfl,s1 _ _ hb,hP.same s1,by omega,fun q H2 s2 nq eq=>?_⟩
    have s12:=s1.trans s2
    refine ⟨_,rfl,_,_,rfl,rfl,_,rfl,_,rfl,p,_,_,_,rfl,rfl,SqT.of (s12 _ _ hp),qad 2 rfl,?_⟩
    refine ⟨by omega,q,v1,n-1,m,_,ycz bs r,d1,by show [V.ref q,V.int ((n:Int)-1),V.int m,v1]=_;rw[en hn],by omega,eq,(hP.same s12).wRow r,Nat.le_trans (List.length_filter_le _ _) hbl,.inl (hT1.same s12),L1,fun u H3 hu s3=>⟨u,rfl,s12.trans s3,hu.trans ⟨fun z=>⟨fun _=>z,fun z'=>by omega⟩,fun z=>z.1 hn⟩⟩⟩
   ·refine yca (by omega) ?_
    refine ⟨_,rfl,p,_,_,_,rfl,rfl,SqT.of (s1 _ _ hp),qad 2 rfl,_,rfl,s1,?_⟩
    rw[decide_eq_true_eq,At.nonIff hT1]
    exact ⟨fun z=>⟨fun z'=>absurd z' hn,fun _=>z⟩,fun z=>z.2 (by omega)⟩
  rintro _ H2 ⟨c1,rfl,s2,h1⟩
  refine ⟨fun v H3=>∃ c2:Bool,v=.bl c2∧Same H H3∧(c2=true↔(0<m→qa6 (yb0 bs l) n (m-1) d2)∧(m=0→d2=.none)),?_,?_⟩
  ·refine ⟨_,rfl,_,_,rfl,rfl,_,rfl,?_⟩
   by_cases hm:0<m
   ·refine iteD (by omega) ?_
    refine ⟨_,rfl,_,rfl,d,_,_,_,rfl,rfl,SqT.of (s2 _ _ hd),qad 1 rfl,b,l,ts,bs,rfl,s2 _ _ hb,hP.same s2,by omega,fun q H3 s3 nq eq=>?_⟩
    have s12:=s2.trans s3
    refine ⟨_,rfl,_,rfl,_,_,rfl,rfl,_,rfl,p,_,_,_,rfl,rfl,SqT.of (s12 _ _ hp),qad 3 rfl,?_⟩
    refine ⟨by omega,q,v2,n,m-1,_,yb0 bs l,d2,by show [V.ref q,V.int n,V.int ((m:Int)-1),v2]=_;rw[em hm],by omega,eq,(hP.same s12).wLine l,Nat.le_trans (List.length_filter_le _ _) hbl,.inl (hT2.same s12),L2,fun u H4 hu s4=>⟨u,rfl,s12.trans s4,hu.trans ⟨fun z=>⟨fun _=>z,fun z'=>by omega⟩,fun z=>z.1 hm⟩⟩⟩
   ·refine yca (by omega) ?_
    refine ⟨_,rfl,p,_,_,_,rfl,rfl,SqT.of (s2 _ _ hp),qad 3 rfl,_,rfl,s2,?_⟩
    rw[decide_eq_true_eq,At.nonIff hT2]
    exact ⟨fun z=>⟨fun z'=>absurd z' hm,fun _=>z⟩,fun z=>z.2 (by omega)⟩
  rintro _ H3 ⟨c2,rfl,s3,h2⟩
  refine ⟨_,rfl,_,rfl,?_⟩
  cases c1 with
  | true=>
   refine iteB rfl ⟨_,rfl,k c2 H3 ?_ s3⟩
   rw[h2]
   exact ⟨fun z=>⟨r,l,rfl,hin,(h1.mp rfl).1,(h1.mp rfl).2,z.1,z.2⟩,fun ⟨r',l',e,z⟩=>by cases e;exact ⟨z.2.2.2.1,z.2.2.2.2⟩⟩
  | false=>exact iteN rfl (k false H3 ⟨fun z=>(by cases z),fun ⟨r',l',e,z⟩=>by cases e;exact h1.mpr ⟨z.2.1,z.2.2.1⟩⟩ s3)
theorem yc7 (B:Bl mg) (h1:Has P w K mg base 2 "has_word" ["thing","word","length"] qep) (h2:Has P w K mg base 3 "are_too_many" ["broken","rows","lines","thing"] qct) (h3:Has P w K mg base 2 "is_broken" ["broken","thing"] qcv) (h4:Has P w K mg base 1 "without_row" ["broken","row"] (qbf 0)) (h5:Has P w K mg base 1 "without_line" ["broken","line"] (qbf 1))
  (FS:FnAt K mg "is_split" ybp ["broken","rows","lines","thing"]) (F:FnAt K mg "lets_none" ybj ["broken","rows","lines","thing"]):∀ N,Has P w K mg base (4+2*N) "lets_none" ["broken","rows","lines","thing"] (qce N)
 | 0=>by
  refine ygj B h1 h2 (yd1 B h3 h4 h5 ?_ FS) F
  obtain ⟨f,fd,e1,e2,e3⟩:=F
  have no:∀ vs H Q E,¬ qc3 0 vs H Q E:=fun vs H Q E h=>absurd h.1 (by decide)
  exact ⟨f,fd,e1,e2.kp,e3,⟨fun vs H Q E h=>(no vs H Q E h).elim,fun A outer s H args us vs Q E _ _ _ _ h=>(no vs H Q E h).elim⟩⟩
 | N+1=>ygj B h1 h2 (yd1 B h3 h4 h5 (by rw[show 2+2*(N+1)=4+2*N by omega];exact Has.imp (yc7 B h1 h2 h3 h4 h5 FS F N) fun vs H Q E h=>h.2) FS) F
end
end Mc
namespace Mc
open PySem L2 PyProof.Rows Mx PySem.W
theorem qd9 {K:PySem.W.Frag}{i:Nat}{σ:L2.St}{H:Hp}{QD:Hp→Prop}{c D:Addr}{cs:List TL}{C:Bs} (nD:H D=none) (hc:H c=some (.lst (yaf cs))) (hC:PT H cs C) (hl:C.length≤1000) (hi:i<2)
  (k:∀ H',Same H H'→H' D=some (.lst ((cs.map (kp i)).map V.int))→QD H') :
  ∃ W:Nat→Nat→Hp→Prop,(∃ m,W 0 m (upd H D (.lst [])))∧∀ j m H,W j m H→
   ((Itl K c).stop j H∧QD H)∨((Itl K c).go j H∧∃ N:Hp→Prop,(∀ H',N H'→∃ m',m' < m∧W (j+1) m' H')∧∀ x H',(Itl K c).yld j H x H'→qco 0 x (capS [none] σ) H' fun σ2 H2=>ya4 (capS [none] σ) σ2∧tYes σ2 H2 fun b H3=>
    if b=true then tOp (rIxT K) (tVar 0) (tC (.int i)) σ2 H3 fun v H4=>∃ ys,H4 D=some (.lst ys)∧ys.length<sizeLine∧N (upd H4 D (.lst (ys++[v]))) else N H3):=by
 have hcl:=hC.len
 refine ybs (n:=cs.length) (fun j H'=>Same H H'∧H' D=some (.lst (((cs.take j).map (kp i)).map V.int))) ⟨(Same.refl H).upd nD,qac⟩ ?_ ?_
 ·rintro H4 ⟨s4,e4⟩
  rw[List.take_length] at e4
  exact ⟨⟨_,SqL.of (s4 _ _ hc),by unfold yaf;simp⟩,k H4 s4 e4⟩
 ·rintro j H4 hj ⟨s4,e4⟩
  have htj:(yaf cs)[j]?=some (.ref cs[j].1):=by unfold yaf;rw[List.getElem?_map,List.getElem?_eq_getElem hj];rfl
  refine ⟨⟨_,_,SqL.of (s4 _ _ hc),htj⟩,?_⟩
  rintro y H5 ⟨rfl,hy⟩
  have hy':=hy _ (SqL.of (s4 _ _ hc))
  rw[htj] at hy'
  cases hy'
  obtain ⟨r,l,et,_,hat⟩:=hC.of_mem (List.getElem_mem hj)
  have tj:(cs.take (j+1)).map (kp i)=(cs.take j).map (kp i)++[kp i cs[j]]:=by rw[List.take_add_one,List.getElem?_eq_getElem hj,List.map_append];rfl
  have ha:atI [V.int r,.int l] (i:Int)=some (.int (kp i cs[j])):=by
   unfold kp
   rw[et]
   rcases (by omega:i=0∨i=1) with rfl|rfl<;>rfl
  refine ⟨ya4.set (ya4.refl _) rfl,?_⟩
  unfold tYes
  refine iteB rfl ⟨_,rfl,_,_,_,_,rfl,rfl,SqT.of (s4 _ _ hat),ha,_,e4,qcb (by rw[List.length_map,List.length_map,List.length_take];omega),s4.at nD,?_⟩
  rw[qac,tj,List.map_append]
  rfl
theorem yd7 {K:PySem.W.Frag}{q i:Nat}{σ:L2.St}{H:Hp}{QD:Hp→Prop}{c D:Addr}{r:Int}{cs:List TL}{C:Bs} (hσ2:σ[q]?=some (some (.int r))) (nD:H D=none) (hc:H c=some (.lst (yaf cs))) (hC:PT H cs C) (hl:C.length≤1000) (hi:i<2)
  (k:∀ H',Same H H'→H' D=some (.lst (yaf (cs.filter fun t=>!decide (kp i t=r))))→QD H') :
  ∃ W:Nat→Nat→Hp→Prop,(∃ m,W 0 m (upd H D (.lst [])))∧∀ j m H,W j m H→
   ((Itl K c).stop j H∧QD H)∨((Itl K c).go j H∧∃ N:Hp→Prop,(∀ H',N H'→∃ m',m' < m∧W (j+1) m' H')∧∀ x H',(Itl K c).yld j H x H'→qco 0 x (capS [none,some q] σ) H' fun σ2 H2=>ya4 (capS [none,some q] σ) σ2∧tTest (tOp rNe (tOp (rIxT K) (tVar 0) (tC (.int i))) (tVar 1)) σ2 H2 fun b H3=>
    if b=true then tVar 0 σ2 H3 fun v H4=>∃ ys,H4 D=some (.lst ys)∧ys.length<sizeLine∧N (upd H4 D (.lst (ys++[v]))) else N H3):=by
 have hcl:=hC.len
 have ec:capS [none,some q] σ=[none,some (.int r)]:=by show [none,(σ[q]?).getD none]=_;rw[hσ2];rfl
 refine ybs (n:=cs.length) (fun j H'=>Same H H'∧H' D=some (.lst (yaf ((cs.take j).filter fun t=>!decide (kp i t=r))))) ⟨(Same.refl H).upd nD,qac⟩ ?_ ?_
 ·rintro H4 ⟨s4,e4⟩
  rw[List.take_length] at e4
  exact ⟨⟨_,SqL.of (s4 _ _ hc),by unfold yaf;simp⟩,k H4 s4 e4⟩
 ·rintro j H4 hj ⟨s4,e4⟩
  rw[ec]
  have ht:cs[j]?=some cs[j]:=List.getElem?_eq_getElem hj
  obtain ⟨r1,l1,et,_,hat⟩:=hC.of_mem (List.getElem_mem hj)
  generalize cs[j]=t at ht et hat
  have htj:(yaf cs)[j]?=some (.ref t.1):=by unfold yaf;rw[List.getElem?_map,ht];rfl
  refine ⟨⟨_,_,SqL.of (s4 _ _ hc),htj⟩,?_⟩
  rintro y H5 ⟨rfl,hy⟩
  have hy':=hy _ (SqL.of (s4 _ _ hc))
  rw[htj] at hy'
  cases hy'
  have tk:cs.take (j+1)=cs.take j++[t]:=by rw[List.take_add_one,ht];rfl
  have fl:((cs.take j).filter fun t=>!decide (kp i t=r)).length≤j:=Nat.le_trans (List.length_filter_le _ _) (by rw[List.length_take];omega)
  have a1:atI [V.int r1,.int l1] (i:Int)=some (.int (kp i t)):=by
   unfold kp
   rw[et]
   rcases (by omega:i=0∨i=1) with rfl|rfl<;>rfl
  refine ⟨ya4.set (ya4.refl _) rfl,?_⟩
  refine ⟨_,rfl,_,_,_,_,rfl,rfl,SqT.of (s4 _ _ hat),a1,_,rfl,rfl,_,rfl,?_⟩
  by_cases hc:kp i t=r
  ·refine iteN (by rw[hc];simp) ⟨s4,?_⟩
   rw[e4,tk,List.filter_append,List.filter_cons_of_neg (by rw[hc];simp)]
   simp
  ·refine iteB (by rw[decide_eq_false fun z=>hc (by injection z)];rfl) ⟨_,rfl,_,e4,qcb (by unfold yaf;rw[List.length_map];omega),s4.at nD,?_⟩
   rw[qac,tk,List.filter_append,List.filter_cons_of_pos (by rw[decide_eq_false hc];rfl)]
   unfold yaf
   rw[List.map_append]
   rfl
section
variable {P:Program}{w:World}{K:PySem.W.Frag}{mg:Str→Option Value}{base:Heap}
abbrev ya6:Stmt:=top 15
theorem yby:FnScope ["_law_thing"] ["_law_thing"] (yae ya6):=⟨rfl,rfl,rfl,by decide +kernel,rfl,by decide +kernel,by decide +kernel⟩
theorem qf6 (B:Bl mg) (F:FnAt K mg "_law_is_whole" ya6 ["_law_thing"]):Has P w K mg base 1 "_law_is_whole" ["_law_thing"] yc1:=by
 refine Has.ofQ F yby (fun vs H Q E h=>?_) (fun f cdv A outer s H vs Q E hr h=>?_)
 ·obtain ⟨v,d,rfl,_⟩:=h
  rfl
 ·obtain ⟨v,d,rfl,hv,q⟩:=h
  have sc:=yby
  refine ⟨_,(yaq rfl (qaf (yag (qaa (qbh (qa5 ya0 rfl (B.of rfl) boot_isinstance (yad (pv 0) (yad (ya8 (v:=.ty "int") rfl (B.of rfl) boot_int rfl) qan))) (qbz (pe_not (qa5 ya0 rfl (B.of rfl) boot_isinstance (yad (pv 0) (yad (ya8 (v:=.ty "bool") rfl (B.of rfl) boot_bool rfl) qan)))))))))),?_⟩
  refine ⟨_,rfl,_,_,_,_,rfl,hv.ty,qfs d,_,rfl,?_⟩
  cases hi:isInt d with
  | false=>
   have e:ycl d=false:=by cases d<;>first|rfl|cases hi
   rw[e] at q
   exact iteF q
  | true=>
   refine iteT ⟨_,rfl,_,_,_,_,rfl,hv.ty,kit_bl d,_,rfl,?_⟩
   have e:ycl d=!isBl d:=by cases d<;>first|rfl|cases hi
   rw[e] at q
   exact q
abbrev qbe:Stmt:=top 18
theorem ycc:FnScope ["_law_broken","_law_thing"] ["_law_broken","_law_thing"] (yae qbe):=⟨rfl,rfl,rfl,by decide +kernel,rfl,by decide +kernel,by decide +kernel⟩
theorem og_lone (B:Bl mg) (yb1:Has P w K mg base 1 "_law_is_whole" ["_law_thing"] yc1) (F:FnAt K mg "_law_is_one" qbe ["_law_broken","_law_thing"]):Has P w K mg base 2 "_law_is_one" ["_law_broken","_law_thing"] qcv:=by
 refine Has.ofQ F ycc (fun vs H Q E h=>?_) (fun f cdv A outer s H vs Q E hr h=>?_)
 ·obtain ⟨b,v,ts,bs,d,rfl,_⟩:=h
  rfl
 ·obtain ⟨b,v,ts,bs,d,rfl,hb,hP,hv,k⟩:=h
  have sc:=ycc
  refine ⟨_,(yaq rfl (yac (qau (QW.pt (ycr (qb6 (qbc (yak ya0 rfl (B.of rfl) boot_isinstance (qah (qaa (pv 1)) (qah (qaa (ya8 (v:=.ty "tuple") rfl (B.of rfl) boot_tuple rfl)) yab))))) (yb6 (yai ydi (yak yaj rfl (B.of rfl) boot_len (qah (qaa (pv 1)) yab)) (qaa yaa) (yah _)))))
    (qaf (yag (qaa qb1)))
    yan)
   (qaf (yag (qaa (qbh (qay yb1 hr (yad (qa0 qak (pv 1) yaa (fun _ _=>rfl)) qan)) (qbh (qay yb1 hr (yad (qa0 qak (pv 1) yaa (fun _ _=>rfl)) qan)) (qbz (ybr (op_inP hr) (pv 1) (pv 0) (by with_unfolding_all rfl)))))))))),?_⟩
  refine ⟨_,rfl,_,_,_,_,rfl,hv.ty,ydv d,_,rfl,?_⟩
  cases hi:yc9 d with
  | false=>
   rw[qe0 (by cases d<;>first|rfl|cases hi)] at k
   exact iteB rfl (iteT k)
  | true=>
   obtain ⟨t,us,ds,rfl,rfl,ht,hu⟩:=hv.tupE hi
   refine iteN rfl ⟨_,rfl,t,_,rfl,.inr (SqT.of ht),rfl,_,rfl,?_⟩
   match ds,us,hu with
   | [],_,.nil=>
    exact iteB rfl k
   | [x],_,.cons hx .nil=>
    rw[qe0 rfl] at k
    exact iteB rfl k
   | x::y::z::r,u1::u2::u3::ur,.cons _ (.cons _ (.cons _ _))=>
    rw[qe0 rfl] at k
    refine iteB ?_ k
    rw[decide_eq_false fun q=>by injection q with q;simp at q;omega]
    rfl
   | [x,y],[u,z],.cons hx (.cons hy .nil)=>
    refine iteN rfl ⟨_,rfl,t,_,_,_,rfl,rfl,SqT.of ht,qad 0 rfl,u,x,rfl,.inl hx,_,rfl,?_⟩
    cases hwx:ycl x with
    | false=>
     rw[show isB bs (.tuple [x,y])=false by cases x<;>first|rfl|cases hwx] at k
     exact iteF k
    | true=>
     obtain ⟨r,rfl⟩:∃ r,x=.int r:=by cases x<;>first|exact ⟨_,rfl⟩|cases hwx
     refine iteT ⟨_,rfl,t,_,_,_,rfl,rfl,SqT.of ht,qad 1 rfl,z,y,rfl,.inl hy,_,rfl,?_⟩
     cases hwy:ycl y with
     | false=>
      rw[show isB bs (.tuple [.int r,y])=false by cases y<;>first|rfl|cases hwy] at k
      exact iteF k
     | true=>
      obtain ⟨l,rfl⟩:∃ l,y=.int l:=by cases y<;>first|exact ⟨_,rfl⟩|cases hwy
      have eu:=hx.intEq
      have ez:=hy.intEq
      subst eu ez
      refine iteT ⟨_,rfl,_,rfl,t,b,[r,l],ts,rfl,rfl,ht,hb,hP.at_,?_⟩
      show Q (.bl (decide ([r,l]∈ts.map (·.2)))) H
      rw[mem_pr hP]
      exact k
abbrev ya3:Stmt:=top 19
theorem qbr:FnScope ["_law_broken","_law_rows","_law_lines","_law_thing"] ["_law_broken","_law_rows","_law_lines","_law_thing"] (yae ya3):=⟨rfl,rfl,rfl,by decide +kernel,rfl,by decide +kernel,by decide +kernel⟩
theorem og_apart (B:Bl mg) (yep:mg "set" = none) (ybu:Has P w K mg base 2 "_law_is_one" ["_law_broken","_law_thing"] qcv) (F:FnAt K mg "_law_are_apart" ya3 ["_law_broken","_law_rows","_law_lines","_law_thing"]):Has P w K mg base 3 "_law_are_apart" ["_law_broken","_law_rows","_law_lines","_law_thing"] qct:=by
 refine Has.ofQ F qbr (fun vs H Q E h=>?_) (fun f cdv A outer s H vs Q E hr h=>?_)
 ·obtain ⟨b,x,n,m,ts,bs,d,rfl,_⟩:=h
  rfl
 ·obtain ⟨b,x,n,m,ts,bs,d,rfl,hb,hP,hx,hl,k⟩:=h
  have sc:=qbr
  refine ⟨_,(yaq rfl (yac (qau (QW.pt (ycr (qb6 (qbc (yak ya0 rfl (B.of rfl) boot_isinstance (qah (qaa (pv 3)) (qah (qaa (ya8 (v:=.ty "list") rfl (B.of rfl) boot_list rfl)) yab))))) (yb6 (yai (op_neNil hr) (qaa (yax rfl (qap rfl) (M:=["_law_cell","_law_broken"]) (ix:=[none,some 0]) (qax (pv 3)) (fun _ _ _ _=>(qal (i:=0) (show List.Nodup (["_law_cell","_law_broken"]:List Str) by decide +kernel) rfl (Or.inl rfl))) (fun _ _ _ _=>(yce (pt_not (ye5 (qay ybu hr (yad (pv 1) (yad (pv 0) qan))))))) (fun _ _ _ _=>(pv 0)))) (qas yab) (yah _)))))
    (qaf (yag (qaa qb1)))
    yan)
   (yac (qau (QW.pt (qdg (yai yb4 (qaa (pv 1)) (qaa yaa) (yah _)) (ycg (yai op_lt (yak ycf rfl (B.of rfl) boot_len (ycd (qa7 (qdd rfl) rfl yep qdh (ycq (qaa (yax rfl (qap rfl) (M:=["_law_cell"]) (ix:=[none]) (qax (pv 3)) (fun _ _ _ _=>(qal (i:=0) (show List.Nodup (["_law_cell"]:List Str) by decide +kernel) rfl (Or.inl rfl))) (fun _ _ _ _=>ybf) (fun _ _ _ _=>(qa0 (yat (K:=K) rfl) (pv 0) yaa (fun _ _=>rfl))))) yab)) yab)) (yak yaj rfl (B.of rfl) boot_len (qah (qaa (pv 3)) yab)) (yah _)))))
    (qaf (yag (qaa qb1)))
    yan)
   (yac (qau (QW.pt (qdg (yai yb4 (qaa (pv 2)) (qaa yaa) (yah _)) (ycg (yai op_lt (yak ycf rfl (B.of rfl) boot_len (ycd (qa7 (qdd rfl) rfl yep qdh (ycq (qaa (yax rfl (qap rfl) (M:=["_law_cell"]) (ix:=[none]) (qax (pv 3)) (fun _ _ _ _=>(qal (i:=0) (show List.Nodup (["_law_cell"]:List Str) by decide +kernel) rfl (Or.inl rfl))) (fun _ _ _ _=>ybf) (fun _ _ _ _=>(qa0 (yat (K:=K) rfl) (pv 0) yaa (fun _ _=>rfl))))) yab)) yab)) (yak yaj rfl (B.of rfl) boot_len (qah (qaa (pv 3)) yab)) (yah _)))))
    (qaf (yag (qaa qb1)))
    yan)
   (qaf (yag (qek yb4 (yak yaj rfl (B.of rfl) boot_len (qah (qaa (pv 3)) yab)) (yam qbi (qaa (pv 1)) (qaa (pv 2))) (yah _)))))))),?_⟩
  refine ⟨_,rfl,_,_,_,_,rfl,hx.ty,ygg d,_,rfl,?_⟩
  cases hi:qd8 d with
  | false=>exact iteB rfl (iteT (k false H ⟨fun z=>(by cases z),fun ⟨C,e,_⟩=>by rw[e] at hi;cases hi⟩ (Same.refl H)))
  | true=>
  obtain ⟨c,us,ds,rfl,rfl,hc,hu⟩:=hx.lstE hi
  have hl:=hl ds rfl
  have hul:=hu.length
  refine iteN rfl ?_
  refine ⟨_,rfl,c,rfl,⟨_,SqL.of hc⟩,fun D nD=>ybs (n:=us.length) (fun j H'=>Same H H'∧∃ ws,H' D=some (.lst ws)∧ws.length≤j∧(ws=[]↔(ds.take j).all (isB bs)=true)) ⟨(Same.refl H).upd nD,[],qac,Nat.le_refl _,⟨fun _=>rfl,fun _=>rfl⟩⟩ ?_ ?_⟩
  rotate_left
  ·rintro j H4 hj ⟨s4,ws,e4,wl,hw⟩
   refine ⟨⟨_,_,SqL.of (s4 _ _ hc),List.getElem?_eq_getElem hj⟩,?_⟩
   rintro y H5 ⟨rfl,hy⟩
   have hy':=hy _ (SqL.of (s4 _ _ hc))
   obtain ⟨e,he,ha⟩:=hu.get hy'
   have tk:(ds.take (j+1)).all (isB bs)=((ds.take j).all (isB bs)&&isB bs e):=by rw[List.take_add_one,he,List.all_append];simp
   refine ⟨ya4.set (ya4.refl _) rfl,?_⟩
   refine ⟨_,rfl,_,rfl,b,y,ts,bs,e,rfl,s4 _ _ hb,hP.same s4,.inl (ha.same s4),_,rfl,?_⟩
   cases hin:isB bs e with
   | true=>
    refine iteN rfl ⟨s4,ws,e4,by omega,?_⟩
    rw[tk,hin,Bool.and_true]
    exact hw
   | false=>
    refine iteB rfl ⟨_,rfl,_,e4,qcb (by omega),s4.at nD,_,qac,by simp;omega,?_⟩
    rw[tk,hin,Bool.and_false]
    simp
  rintro H4' ⟨s4',ws,e4,_,hw⟩
  rw[hul,List.take_length] at hw
  refine ⟨⟨_,SqL.of (s4' _ _ hc),by simp⟩,Nat.zero_le _,fun z nz=>?_⟩
  have s4:=s4'.upd (o:=.lst []) nz
  have e4:upd H4' z (.lst []) D=some (.lst ws):=by rw[yao (qai e4 nz)];exact e4
  have ez:upd H4' z (.lst []) z=some (.lst []):=qac
  revert s4 e4 ez
  generalize upd H4' z (.lst [])=H4
  intro s4 e4 ez
  refine ⟨D,z,ws,rfl,rfl,SqL.of e4,SqL.of ez,_,rfl,?_⟩
  cases hall:ds.all (isB bs) with
  | false=>
   refine iteB ?_ (k false H4 ⟨fun z=>(by cases z),fun ⟨C,e,h⟩=>by rw[PyData.list.inj e,qcz h.1] at hall;cases hall⟩ s4)
   cases ws with
   | nil=>rw[hw.mp rfl] at hall;cases hall
   | cons a b=>rfl
  | true=>
  rw[hw.mpr hall] at e4 ⊢
  obtain ⟨C,cs,rfl,rfl,hC,hsub⟩:=ybx hu hall
  refine iteN rfl ?_
  rw[List.length_map] at hl
  have hCl:C.length≤1000:=hl
  have hcl:=hC.len
  have k:∀ (v:Bool) H',(v=true↔qb2 bs n m (.cells C))→Same H H'→Q (.bl v) H':=fun v H' hv s'=>k v H' (hv.trans yfg.iff.symm) s'
  have hc4:=s4 _ _ hc
  have hC4:=hC.same s4
  have fin:∀ H5,Same H H5→(0<n→(C.map (·.1)).Nodup)→(0<m→(C.map (·.2)).Nodup)→Q (.bl (decide (n+m<C.length))) H5:=fun H5 s5 h1 h2=>k _ H5 ⟨fun z=>⟨hsub,h1,h2,of_decide_eq_true z⟩,fun z=>decide_eq_true z.2.2.2⟩ s5
  have no:∀ H5,Same H H5→¬ qb2 bs n m (.cells C)→Q (.bl false) H5:=fun H5 s5 z=>k false H5 ⟨fun z=>(by cases z),fun y=>absurd y z⟩ s5
  have ecl:(yaf cs).length=C.length:=by unfold yaf;rw[List.length_map];exact hcl
  have ul:∀ i,(uniq (cs.map (kp i))).length≤C.length:=fun i=>Nat.le_trans (qew _) (by rw[List.length_map];omega)
  have un:∀ i,¬ (uniq (cs.map (kp i))).length<C.length→(cs.map (kp i)).Nodup:=fun i h=>qck (by have:=ul i;rw[List.length_map];omega)
  have nu:∀ i,(cs.map (kp i)).Nodup→¬ (uniq (cs.map (kp i))).length<C.length:=fun i h=>by rw[ycm h,List.length_map];omega
  refine' ye8 (S:=fun H5=>Same H H5∧(0<n→(C.map (·.1)).Nodup)) (fun st2=>?main) ?st2
  case main=>
   refine ⟨_,rfl,_,_,rfl,rfl,_,rfl,?_⟩
   by_cases hn:0<n
   ·refine iteD (by omega) ⟨_,rfl,c,rfl,⟨_,SqL.of hc4⟩,fun D2 nD2=>qd9 (i:=0) nD2 hc4 hC4 hCl (by decide) fun H5 s5 e5=>⟨D2,_,rfl,e5,by rw[List.length_map];omega,fun q2 n2=>⟨q2,_,rfl,qac,_,rfl,c,_,rfl,.inl (SqL.of ((s5.upd n2) _ _ hc4)),_,_,rfl,rfl,_,rfl,?_⟩⟩⟩
    generalize hH6:upd H5 q2 _=H6
    have s6:Same H H6:=by rw[← hH6];exact s4.trans (s5.upd n2)
    clear hH6
    rw[ecl]
    by_cases hlt:(uniq (cs.map (kp 0))).length<C.length
    ·exact iteD (by omega) (no H6 s6 fun y=>nu 0 (by rw[(cols hC4).1];exact y.2.1 hn) hlt)
    ·exact yca (by omega) (st2 H6 ⟨s6,fun _=>by rw[← (cols hC4).1];exact un 0 hlt⟩)
   ·exact yca (by omega) (iteF (st2 H4 ⟨s4,fun z=>absurd z hn⟩))
  case st2=>
   rintro H5 ⟨s5,h1⟩
   refine ⟨_,rfl,_,_,rfl,rfl,_,rfl,?_⟩
   have hc5:=s5 _ _ hc
   have hC5:=hC.same s5
   have fin2:∀ H6,Same H H6→(0<m→(C.map (·.2)).Nodup)→Q (.bl (decide ((n:Int)+(m:Int)<((yaf cs).length:Int)))) H6:=fun H6 s6 h2=>by
    have:=fin H6 s6 h1 h2
    rw[ecl,show decide ((n:Int)+(m:Int)<(C.length:Int))=decide (n+m<C.length) from decide_eq_decide.mpr (by omega)]
    exact this
   by_cases hm:0<m
   ·refine iteD (by omega) ⟨_,rfl,c,rfl,⟨_,SqL.of hc5⟩,fun D2 nD2=>qd9 (i:=1) nD2 hc5 hC5 hCl (by decide) fun H6' s6' e6=>⟨D2,_,rfl,e6,by rw[List.length_map];omega,fun q2 n2=>⟨q2,_,rfl,qac,_,rfl,c,_,rfl,.inl (SqL.of ((s6'.upd n2) _ _ hc5)),_,_,rfl,rfl,_,rfl,?_⟩⟩⟩
    generalize hH6:upd H6' q2 _=H6
    have s6:Same H H6:=by rw[← hH6];exact s5.trans (s6'.upd n2)
    clear hH6
    rw[ecl]
    by_cases hlt:(uniq (cs.map (kp 1))).length<C.length
    ·exact iteD (by omega) (no H6 s6 fun y=>nu 1 (by rw[(cols hC5).2];exact y.2.2.1 hm) hlt)
    ·exact yca (by omega) ⟨_,rfl,c,_,rfl,.inl (SqL.of (s6 _ _ hc)),_,rfl,_,rfl,_,_,rfl,rfl,_,_,rfl,rfl,fin2 H6 s6 fun _=>by rw[← (cols hC5).2];exact un 1 hlt⟩
   ·exact yca (by omega) (iteF ⟨_,rfl,c,_,rfl,.inl (SqL.of hc5),_,rfl,_,rfl,_,_,rfl,rfl,_,_,rfl,rfl,fin2 H5 s5 fun z=>absurd z hm⟩)
end
end Mc
namespace Mc
open PySem L2 PyProof.Rows Mx PySem.W
theorem not_tree {bs:Bs}{n m:Nat}{ds:List PyData} (h:ds.length≠2) (h4:ds.length≠4):¬ qa6 bs n m (.tuple ds):=by
 rintro ⟨t,e,_⟩
 cases t with
 | cells C=>simp only[trD,PyData.tuple.injEq] at e;exact h (by rw[e];rfl)
 | split r l a b=>simp only[trD,PyData.tuple.injEq] at e;exact h4 (by rw[e];rfl)
 | nil=>simp[trD] at e
theorem not_hd {bs:Bs}{n m:Nat}{x:PyData}{ds:List PyData} (h:isStr x=false):¬ qa6 bs n m (.tuple (x::ds)):=by
 rintro ⟨t,e,_⟩
 cases t with
 | cells C=>simp only[trD,PyData.tuple.injEq,List.cons.injEq] at e;rw[e.1] at h;cases h
 | split r l a b=>simp only[trD,PyData.tuple.injEq,List.cons.injEq] at e;rw[e.1] at h;cases h
 | nil=>simp[trD] at e
theorem not_w2 {bs:Bs}{n m:Nat}{x:Str}{y:PyData} (h:x≠"cells"):¬ qa6 bs n m (.tuple [.str x,y]):=by
 rintro ⟨t,e,_⟩
 cases t with
 | cells C=>simp only[trD,PyData.tuple.injEq,List.cons.injEq,PyData.str.injEq] at e;exact h e.1
 | split r l a b=>simp[trD] at e
 | nil=>simp[trD] at e
theorem not_w4 {bs:Bs}{n m:Nat}{x:Str}{y z u:PyData} (h:x≠"split"):¬ qa6 bs n m (.tuple [.str x,y,z,u]):=by
 rintro ⟨t,e,_⟩
 cases t with
 | split r l a b=>simp only[trD,PyData.tuple.injEq,List.cons.injEq,PyData.str.injEq] at e;exact h e.1
 | cells C=>simp[trD] at e
 | nil=>simp[trD] at e
section
variable {P:Program}{w:World}{K:PySem.W.Frag}{mg:Str→Option Value}{base:Heap}
abbrev ybi:Stmt:=top 20
theorem ycx:FnScope ["_law_broken","_law_rows","_law_lines","_law_thing","_law_row","_law_line","_law_one","_law_other"] ["_law_broken","_law_rows","_law_lines","_law_thing"] (yae ybi):=⟨rfl,rfl,rfl,by decide +kernel,rfl,by decide +kernel,by decide +kernel⟩
theorem yea {N:Nat} (B:Bl mg) (ybu:Has P w K mg base 2 "_law_is_one" ["_law_broken","_law_thing"] qcv) (qc1:Has P w K mg base 3 "_law_are_apart" ["_law_broken","_law_rows","_law_lines","_law_thing"] qct)
  (qbt:Has P w K mg base (3+N) "_law_lets" ["_law_broken","_law_rows","_law_lines","_law_thing"] (qc3 N)) (F:FnAt K mg "_law_lets" ybi ["_law_broken","_law_rows","_law_lines","_law_thing"]):Has P w K mg base (4+N) "_law_lets" ["_law_broken","_law_rows","_law_lines","_law_thing"] (qce N):=by
 rw[show 4+N=(3+N)+1 by omega]
 refine Has.ofQ F ycx (fun vs H Q E h=>?_) (fun f cdv A outer s H vs Q E hr h=>?_)
 ·obtain ⟨b,x,n,m,ts,bs,d,rfl,_⟩:=h
  rfl
 ·obtain ⟨b,x,n,m,ts,bs,d,rfl,hnm,hb,hP,hbl,hx,hll,k⟩:=h
  have sc:=ycx
  refine ⟨_,(yaq rfl (yac (qau (QW.pt (ycr (qb6 (qbc (yak ya0 rfl (B.of rfl) boot_isinstance (qah (qaa (pv 3)) (qah (qaa (ya8 (v:=.ty "tuple") rfl (B.of rfl) boot_tuple rfl)) yab))))) (ycr (yai qb7 (yak yaj rfl (B.of rfl) boot_len (qah (qaa (pv 3)) yab)) (qao (qam (qaa yaa) (qam (qaa yaa) yab))) (by with_unfolding_all rfl)) (yb6 (qb6 (qbc (yak ya0 rfl (B.of rfl) boot_isinstance (ya1 (yap qak (qaa (pv 3)) (qaa yaa) (fun _ _=>rfl)) (qah (qaa (ya8 (v:=.ty "str") rfl (B.of rfl) boot_str rfl)) yab)))))))))
    (qaf (yag (qaa qb1)))
    yan)
   (yac (qau (yai ycs (yak yaj rfl (B.of rfl) boot_len (qah (qaa (pv 3)) yab)) (qaa yaa) (yah _))
    (qaf (yag (qaa (qbh (ybr ycs (qa0 qak (pv 3) yaa (fun _ _=>rfl)) yay (yah _)) (qbz (qay (hk:=(by omega)) qc1 hr (yc8 (pv 0) (yc8 (pv 1) (yc8 (pv 2) (yad (qa0 qak (pv 3) yaa (fun _ _=>rfl)) qan))))))))))
    yan)
   (yac (qau (QW.pt (ycr (yai ydi (yap qak (qaa (pv 3)) (qaa yaa) (fun _ _=>rfl)) (qaa yay) (yah _)) (yb6 (qb6 (qbc (qaj (hk:=(by omega)) ybu hr (qah (qaa (pv 0)) (ya1 (yap qak (qaa (pv 3)) (qaa yaa) (fun _ _=>rfl)) yab))))))))
    (qaf (yag (qaa qb1)))
    yan)
   (yac (qs_asg (yap qak (qaa (pv 3)) (qaa yaa) (fun _ _=>rfl)) (qe2 rfl (ybe (qal (i:=4) sc.nd rfl (Or.inr rfl)) (ybe (qal (i:=5) sc.nd rfl (Or.inr rfl)) qdy))))
   (yac (yal (i:=6) sc.nd rfl (Or.inl rfl) (qaa (yev (yd9 (qa0 qak (pv 3) yaa (fun _ _=>rfl))))))
   (qcr (qau (yai yb4 (qaa (pv 1)) (qaa yaa) (yah _))
    (qaf (yal (i:=6) sc.nd rfl (Or.inl rfl) (qaj (hk:=Nat.le_refl _) qbt hr (ycq (qaa (yax rfl (qap rfl) (M:=["_law_cell","_law_row"]) (ix:=[none,some 4]) (qax (pv 0)) (fun _ _ _ _=>(qal (i:=0) (show List.Nodup (["_law_cell","_law_row"]:List Str) by decide +kernel) rfl (Or.inl rfl))) (fun _ _ _ _=>(yce (qbp ydi (qa0 (yat (K:=K) rfl) (pv 0) yaa (fun _ _=>rfl)) (pv 1) (yah _)))) (fun _ _ _ _=>(pv 0)))) (qbb (yam ydn (qaa (pv 1)) (qaa yaa)) (qah (qaa (pv 2)) (ya1 (yap qak (qaa (pv 3)) (qaa yaa) (fun _ _=>rfl)) yab)))))))
    yan)
   (yac (yal (i:=7) sc.nd rfl (Or.inl rfl) (qaa (yev (yd9 (qa0 qak (pv 3) yaa (fun _ _=>rfl))))))
   (qcr (qau (QW.pt (qdg (yai yb4 (qaa (pv 2)) (qaa yaa) (yah _)) (ycg (qt_valN (qaa (pv 6))))))
    (qaf (yal (i:=7) sc.nd rfl (Or.inl rfl) (qaj (hk:=Nat.le_refl _) qbt hr (ycq (qaa (yax rfl (qap rfl) (M:=["_law_cell","_law_line"]) (ix:=[none,some 5]) (qax (pv 0)) (fun _ _ _ _=>(qal (i:=0) (show List.Nodup (["_law_cell","_law_line"]:List Str) by decide +kernel) rfl (Or.inl rfl))) (fun _ _ _ _=>(yce (qbp ydi (qa0 (yat (K:=K) rfl) (pv 0) yaa (fun _ _=>rfl)) (pv 1) (yah _)))) (fun _ _ _ _=>(pv 0)))) (qah (qaa (pv 1)) (qbb (yam ydn (qaa (pv 2)) (qaa yaa)) (ya1 (yap qak (qaa (pv 3)) (qaa yaa) (fun _ _=>rfl)) yab)))))))
    yan)
   (qaf (yag (qaa (qbh (pv 6) (qbz (pv 7))))))))))))))),?_⟩
  have no:¬ qa6 bs n m d→∀ H',Same H H'→Q (.bl false) H':=fun z H' s'=>k false H' ⟨fun z=>(by cases z),fun y=>absurd y z⟩ s'
  refine ⟨_,rfl,_,_,_,_,rfl,hx.ty,ydv d,_,rfl,?_⟩
  cases hi:yc9 d with
  | false=>
   refine iteB rfl (iteT (no ?_ H (Same.refl H)))
   exact qa6.no (by cases d<;>first|rfl|cases hi) (by cases d<;>first|rfl|cases hi)
  | true=>
  obtain ⟨p,us,ds,rfl,rfl,hp,hu⟩:=hx.tupE hi
  refine iteN rfl ?_
  refine ⟨_,rfl,p,_,rfl,.inr (SqT.of hp),(by show 2≤sizeLine;decide),fun z nz=>⟨z,_,rfl,.inr (SqT.of qac),rfl,rfl,_,rfl,?_⟩⟩
  have sz:=(Same.refl H).upd (o:=.tup [.int 2,.int 4]) nz
  revert sz
  generalize upd H z (.tup [.int 2,.int 4])=Hz
  intro sz
  have hpz:=sz _ _ hp
  have hl:=hu.length
  have ein:inV (.int (us.length:Int)) [.int 2,.int 4]=decide (ds.length=2∨ds.length=4):=by
   show ((2 == (us.length:Int))||((4 == (us.length:Int))||false))=_
   rw[Bool.eq_iff_iff,decide_eq_true_eq,Bool.or_false,Bool.or_eq_true,beq_iff_eq,beq_iff_eq]
   omega
  by_cases h24:ds.length=2∨ds.length=4
  rotate_left
  ·refine iteB (by show (!inV _ _)=true;rw[ein,decide_eq_false h24];rfl) (iteT ?_)
   exact no (not_tree (fun z=>h24 (.inl z)) fun z=>h24 (.inr z)) Hz sz
  refine iteN (by show (!inV _ _)=false;rw[ein,decide_eq_true h24];rfl) ?_
  match ds,us,hu,h24 with
  | [],_,.nil,h24=>exact absurd h24 (by simp)
  | x0::xs,u0::us,.cons a0 hu,h24=>
  refine ⟨_,rfl,p,_,_,_,rfl,rfl,SqT.of hpz,qad 0 rfl,_,_,_,_,rfl,AtX.ty (.inl (a0.same sz)),yfy x0,_,rfl,?_⟩
  cases hs:isStr x0 with
  | false=>exact iteB rfl (no (not_hd hs) Hz sz)
  | true=>
  obtain ⟨y,rfl⟩:∃ y,x0=.str y:=by cases x0<;>first|exact ⟨_,rfl⟩|cases hs
  have e0:=a0.strEq
  subst e0
  refine iteN rfl ?_
  have eq0:∀ s:Str,(eqV (.str y) (.str s))=decide (y=s):=fun s=>rfl
  match xs,us,hu,h24 with
  | [],_,.nil,h24=>exact absurd h24 (by simp)
  | [x1,x2],_,.cons _ (.cons _ .nil),h24=>exact absurd h24 (by simp)
  | x1::x2::x3::x4::xs,_,_,h24=>exact absurd h24 (by simp)
  | [x1],[u1],.cons a1 .nil,_=>
   refine ⟨_,rfl,p,_,rfl,.inr (SqT.of hpz),rfl,_,rfl,iteB rfl ?_⟩
   refine ⟨_,rfl,p,_,_,_,rfl,rfl,SqT.of hpz,qad 0 rfl,rfl,_,rfl,?_⟩
   by_cases hy:y="cells"
   ·subst hy
    refine iteB (by decide +kernel) ?_
    refine ⟨_,rfl,_,rfl,_,rfl,_,rfl,p,_,_,_,rfl,rfl,SqT.of hpz,qad 1 rfl,?_⟩
    exact ⟨b,u1,n,m,ts,bs,x1,rfl,sz _ _ hb,hP.same sz,.inl (a1.same sz),fun ds e=>(hll.all x1 (by simp)).len' e,fun u H2 hu s2=>k u H2 (hu.trans qa6.cells.symm) (sz.trans s2)⟩
   ·refine iteN (decide_eq_false fun z=>hy (by injection z)) (no (not_w2 hy) Hz sz)
  | [c,d1,d2],[uc,v1,v2],.cons ac (.cons hT1 (.cons hT2 .nil)),_=>
  refine ⟨_,rfl,p,_,rfl,.inr (SqT.of hpz),rfl,_,rfl,iteN rfl ?_⟩
  refine ⟨_,rfl,p,_,_,_,rfl,rfl,SqT.of hpz,qad 0 rfl,rfl,_,rfl,?_⟩
  by_cases hy:y="split"
  rotate_left
  ·exact iteB (by rw[decide_eq_false fun z=>hy (by injection z)];rfl) (iteT (no (not_w4 hy) Hz sz))
  subst hy
  refine iteN (by decide +kernel) ?_
  have L1:=hll.all d1 (by simp)
  have L2:=hll.all d2 (by simp)
  have kk:∀ (v:Bool) H',(v=true↔qgn bs n m c d1 d2)→Same H H'→Q (.bl v) H':=fun v H' hv s'=>k v H' (hv.trans qa6.split.symm) s'
  refine ⟨_,rfl,_,rfl,p,_,_,_,rfl,rfl,SqT.of hpz,qad 1 rfl,b,uc,ts,bs,c,rfl,sz _ _ hb,hP.same sz,.inl (ac.same sz),_,rfl,?_⟩
  have s1:=sz
  cases hin0:isB bs c with
  | false=>
   refine iteB rfl (kk false Hz ⟨fun z=>(by cases z),?_⟩ sz)
   rintro ⟨r,l,rfl,h,_⟩
   rw[show isB bs (pD (r,l))=decide ((r,l)∈bs) from rfl,decide_eq_true h] at hin0
   cases hin0
  | true=>
  obtain ⟨r,l,rfl,hin⟩:∃ r l,c=pD (r,l)∧(r,l)∈bs:=by
   unfold isB at hin0
   split at hin0
   ·exact ⟨_,_,rfl,of_decide_eq_true hin0⟩
   ·cases hin0
  obtain ⟨d,ws,rfl,hd,hw⟩:=ac.tupEq
  refine iteN rfl ?_
  match ws,hw with
  | [w1,w2],.cons b1 (.cons b2 .nil)=>
  have e1:=b1.intEq
  have e2:=b2.intEq
  subst e1 e2
  have hd:H d=some (.tup [.int r,.int l]):=hd
  refine ⟨_,rfl,p,_,_,_,rfl,rfl,SqT.of (s1 _ _ hp),qad 1 rfl,d,_,rfl,SqT.of (s1 _ _ hd),rfl,_,_,rfl,_,_,rfl,rfl,?_⟩
  refine ⟨_,rfl,p,_,_,_,rfl,rfl,SqT.of (s1 _ _ hp),qad 2 rfl,?_⟩
  refine ⟨fun σ' H2=>∃ c1:Bool,σ'=[some (.ref b),some (.int n),some (.int m),some (.ref p),some (.int r),some (.int l),some (.bl c1),none]∧Same H H2∧(c1=true↔(0<n→qa6 (ycz bs r) (n-1) m d1)∧(n=0→d1=.none)),?_,?_⟩
  ·refine ⟨_,rfl,_,_,rfl,rfl,_,rfl,?_⟩
   by_cases hn:0<n
   ·refine iteD (by omega) ⟨_,rfl,b,rfl,⟨_,SqL.of (s1 _ _ hb)⟩,fun D nD=>yd7 (q:=4) (i:=0) (r:=r) rfl nD (s1 _ _ hb) (hP.same s1) (by omega) (by decide) fun H2 s2 e2=>?_⟩
    have s12:=s1.trans s2
    refine ⟨_,rfl,_,_,rfl,rfl,_,rfl,_,rfl,p,_,_,_,rfl,rfl,SqT.of (s12 _ _ hp),qad 2 rfl,?_⟩
    refine ⟨by omega,D,v1,n-1,m,_,ycz bs r,d1,by show [V.ref D,V.int ((n:Int)-1),V.int m,v1]=_;rw[show (n:Int)-1=((n-1:Nat):Int) by omega],by omega,e2,(hP.same s12).wRow r,Nat.le_trans (List.length_filter_le _ _) hbl,(.inl (hT1.same s12)),L1,fun u H3 hu s3=>⟨u,rfl,s12.trans s3,hu.trans ⟨fun z=>⟨fun _=>z,fun z'=>by omega⟩,fun z=>z.1 hn⟩⟩⟩
   ·refine yca (by omega) ⟨_,rfl,s1,?_⟩
    rw[decide_eq_true_eq,At.nonIff hT1]
    exact ⟨fun z=>⟨fun z'=>absurd z' hn,fun _=>z⟩,fun z=>z.2 (by omega)⟩
  rintro _ H2 ⟨c1,rfl,s2,h1⟩
  refine ⟨_,rfl,p,_,_,_,rfl,rfl,SqT.of (s2 _ _ hp),qad 3 rfl,?_⟩
  refine ⟨fun σ' H3=>∃ c2:Bool,σ'=[some (.ref b),some (.int n),some (.int m),some (.ref p),some (.int r),some (.int l),some (.bl c1),some (.bl c2)]∧Same H H3∧(c1=true→(c2=true↔(0<m→qa6 (yb0 bs l) n (m-1) d2)∧(m=0→d2=.none))),?_,?_⟩
  ·refine ⟨_,rfl,_,_,rfl,rfl,_,rfl,?_⟩
   by_cases hm:0<m
   ·refine iteD (by omega) ⟨_,rfl,_,rfl,?_⟩
    cases c1 with
    | false=>exact iteN rfl ⟨_,rfl,s2,fun z=>by cases z⟩
    | true=>
     refine iteB rfl ⟨_,rfl,b,rfl,⟨_,SqL.of (s2 _ _ hb)⟩,fun D nD=>yd7 (q:=5) (i:=1) (r:=l) rfl nD (s2 _ _ hb) (hP.same s2) (by omega) (by decide) fun H3 s3 e3=>?_⟩
     have s12:=s2.trans s3
     refine ⟨_,rfl,_,rfl,_,_,rfl,rfl,_,rfl,p,_,_,_,rfl,rfl,SqT.of (s12 _ _ hp),qad 3 rfl,?_⟩
     refine ⟨by omega,D,v2,n,m-1,_,yb0 bs l,d2,by show [V.ref D,V.int n,V.int ((m:Int)-1),v2]=_;rw[show (m:Int)-1=((m-1:Nat):Int) by omega],by omega,e3,(hP.same s12).wLine l,Nat.le_trans (List.length_filter_le _ _) hbl,(.inl (hT2.same s12)),L2,fun u H4 hu s4=>⟨u,rfl,s12.trans s4,fun _=>hu.trans ⟨fun z=>⟨fun _=>z,fun z'=>by omega⟩,fun z=>z.1 hm⟩⟩⟩
   ·refine yca (by omega) (iteF ⟨_,rfl,s2,fun _=>?_⟩)
    rw[decide_eq_true_eq,At.nonIff hT2]
    exact ⟨fun z=>⟨fun z'=>absurd z' hm,fun _=>z⟩,fun z=>z.2 (by omega)⟩
  rintro _ H3 ⟨c2,rfl,s3,h2⟩
  refine ⟨_,rfl,_,rfl,?_⟩
  cases c1 with
  | true=>
   refine iteB rfl ⟨_,rfl,kk c2 H3 ?_ s3⟩
   rw[h2 rfl]
   exact ⟨fun z=>⟨r,l,rfl,hin,(h1.mp rfl).1,(h1.mp rfl).2,z.1,z.2⟩,fun ⟨r',l',e,z⟩=>by cases e;exact ⟨z.2.2.2.1,z.2.2.2.2⟩⟩
  | false=>exact iteN rfl (kk false H3 ⟨fun z=>(by cases z),fun ⟨r',l',e,z⟩=>by cases e;exact h1.mpr ⟨z.2.1,z.2.2.1⟩⟩ s3)
theorem ye2 (B:Bl mg) (h1:Has P w K mg base 2 "_law_is_one" ["_law_broken","_law_thing"] qcv) (h2:Has P w K mg base 3 "_law_are_apart" ["_law_broken","_law_rows","_law_lines","_law_thing"] qct)
  (F:FnAt K mg "_law_lets" ybi ["_law_broken","_law_rows","_law_lines","_law_thing"]):∀ N,Has P w K mg base (4+N) "_law_lets" ["_law_broken","_law_rows","_law_lines","_law_thing"] (qce N)
 | 0=>by
  refine yea B h1 h2 ?_ F
  obtain ⟨f,fd,e1,e2,e3⟩:=F
  have no:∀ vs H Q E,¬ qc3 0 vs H Q E:=fun vs H Q E h=>absurd h.1 (by decide)
  exact ⟨f,fd,e1,e2.kp,e3,⟨fun vs H Q E h=>(no vs H Q E h).elim,fun A outer s H args us vs Q E _ _ _ _ h=>(no vs H Q E h).elim⟩⟩
 | N+1=>yea B h1 h2 (by rw[show 3+(N+1)=4+N by omega];exact Has.imp (ye2 B h1 h2 F N) fun vs H Q E h=>h.2) F
end
end Mc
namespace Mc
open PySem L2 PyProof.Rows Mx PySem.W
inductive TrAt (N:Addr→Prop) (H:Hp):V→Tr→Prop where
 | cells {p c:Addr}{cs:List TL}{C:Bs}:H p=some (.tup [.str "cells",.ref c])→H c=some (.lst (yaf cs))→PT H cs C→N c→C.length≤1000→TrAt N H (.ref p) (.cells C)
 | split {p d:Addr}{r l:Int}{v1 v2:V}{t1 t2:Tr}:H p=some (.tup [.str "split",.ref d,v1,v2])→H d=some (.tup [.int r,.int l])→TrAt N H v1 t1→TrAt N H v2 t2→TrAt N H (.ref p) (.split r l t1 t2)
 | nil:TrAt N H .non .nil
theorem TrAt.keep {N:Addr→Prop}{H H':Hp} (k:∀ b u,(∃ xs,u=.lst xs)∨(∃ xs,u=.tup xs)→H b=some u→H' b=some u) {v:V}{t:Tr} (h:TrAt N H v t):TrAt N H' v t:=by
 induction h with
 | cells a b c d e=>exact .cells (k _ _ (.inr ⟨_,rfl⟩) a) (k _ _ (.inl ⟨_,rfl⟩) b) ⟨c.eq,fun t ht=>k _ _ (.inr ⟨_,rfl⟩) (c.at_ t ht)⟩ d e
 | nil=>exact .nil
 | split a b _ _ i1 i2=>exact .split (k _ _ (.inr ⟨_,rfl⟩) a) (k _ _ (.inr ⟨_,rfl⟩) b) i1 i2
theorem TrAt.same {N:Addr→Prop}{H H':Hp}{v:V}{t:Tr} (h:TrAt N H v t) (s:Same H H'):TrAt N H' v t:=h.keep fun b u _ e=>s b u e
theorem TrAt.at {N:Addr→Prop}{H:Hp}{v:V}{t:Tr} (h:TrAt N H v t):At H v (trD t):=by
 induction h with
 | cells a b c _ _=>exact .tup a (.cons (.str _) (.cons (.lst b (by rw[← c.eq];exact atTs c.at_)) .nil))
 | split a b _ _ i1 i2=>exact .tup a (.cons (.str _) (.cons (.tup b (.cons (.int _) (.cons (.int _) .nil))) (.cons i1 (.cons i2 .nil))))
 | nil=>exact .non
theorem qe6 (x:Int):∀ (R:List Int),inV (.int x) (R.map V.int)=decide (x∈R)
 | []=>rfl
 | r::R=>by
  have e:inV (.int x) ((r::R).map V.int)=(eqV (.int r) (.int x)||inV (.int x) (R.map V.int)):=rfl
  rw[e,qe6 x R,show eqV (.int r) (.int x)=decide (r=x) from rfl,← Bool.decide_or]
  refine decide_eq_decide.mpr ?_
  rw[List.mem_cons]
  exact ⟨fun z=>z.imp Eq.symm id,fun z=>z.imp Eq.symm id⟩
theorem qdb:∀ (R:List Int),(R.map V.int).all qdt=true
 | []=>rfl
 | r::R=>by rw[List.map_cons,List.all_cons,qdb R];rfl
theorem eqT_nil (ks:List (List Int)):PyData.eqv (.list (tupD ks)) (.list [])=ks.isEmpty:=by
 rw[PyData.eqv]
 have:=eqTs ks []
 rw[show tupD []=[] from rfl] at this
 rw[this]
 cases ks<;>rfl
theorem yez {K:PySem.W.Frag}{j q i:Nat}{σ:L2.St}{H:Hp}{Q:VK}{c d:Addr}{r l:Int}{cs:List TL}{C:Bs} (hσ:σ[j]?=some (some (.ref c))) (hσ2:σ[q]?=some (some (.ref d))) (hd:H d=some (.tup [.int r,.int l])) (hc:H c=some (.lst (yaf cs))) (hC:PT H cs C) (hl:C.length≤1000) (hi:i<2)
  (k:∀ D H',Same H H'→H' D=some (.lst (yaf (cs.filter fun t=>!decide (kp i t=if i=0 then r else l))))→Q (.ref D) H') :
  qfz (qd2 K (tVar j)) [none,some q] (qco 0) (tTest (tOp rNe (tOp (rIxT K) (tVar 0) (tC (.int i))) (tOp (rIxT K) (tVar 1) (tC (.int i))))) (tVar 0) σ H Q:=by
 have hcl:=hC.len
 have ec:capS [none,some q] σ=[none,some (.ref d)]:=by show [none,(σ[q]?).getD none]=_;rw[hσ2];rfl
 refine ⟨_,hσ,c,rfl,⟨_,SqL.of hc⟩,fun D nD=>ybs (n:=cs.length) (fun j H'=>Same H H'∧H' D=some (.lst (yaf ((cs.take j).filter fun t=>!decide (kp i t=if i=0 then r else l))))) ⟨(Same.refl H).upd nD,qac⟩ ?_ ?_⟩
 ·rintro H4 ⟨s4,e4⟩
  rw[List.take_length] at e4
  exact ⟨⟨_,SqL.of (s4 _ _ hc),by unfold yaf;simp⟩,k D H4 s4 e4⟩
 ·rintro j H4 hj ⟨s4,e4⟩
  rw[ec]
  have ht:cs[j]?=some cs[j]:=List.getElem?_eq_getElem hj
  obtain ⟨r1,l1,et,_,hat⟩:=hC.of_mem (List.getElem_mem hj)
  generalize cs[j]=t at ht et hat
  have htj:(yaf cs)[j]?=some (.ref t.1):=by unfold yaf;rw[List.getElem?_map,ht];rfl
  refine ⟨⟨_,_,SqL.of (s4 _ _ hc),htj⟩,?_⟩
  rintro y H5 ⟨rfl,hy⟩
  have hy':=hy _ (SqL.of (s4 _ _ hc))
  rw[htj] at hy'
  cases hy'
  have tk:cs.take (j+1)=cs.take j++[t]:=by rw[List.take_add_one,ht];rfl
  have fl:((cs.take j).filter fun t=>!decide (kp i t=if i=0 then r else l)).length≤j:=Nat.le_trans (List.length_filter_le _ _) (by rw[List.length_take];omega)
  have a1:atI [V.int r1,.int l1] (i:Int)=some (.int (kp i t)):=by
   unfold kp
   rw[et]
   rcases (by omega:i=0∨i=1) with rfl|rfl<;>rfl
  have a2:atI [V.int r,.int l] (i:Int)=some (.int (if i=0 then r else l)):=by
   rcases (by omega:i=0∨i=1) with rfl|rfl<;>rfl
  refine ⟨ya4.set (ya4.refl _) rfl,?_⟩
  refine ⟨_,rfl,_,_,_,_,rfl,rfl,SqT.of (s4 _ _ hat),a1,_,rfl,_,_,_,_,rfl,rfl,SqT.of (s4 _ _ hd),a2,rfl,_,rfl,?_⟩
  by_cases hc:kp i t=if i=0 then r else l
  ·refine iteN (by rw[hc];simp) ⟨s4,?_⟩
   rw[e4,tk,List.filter_append,List.filter_cons_of_neg (by rw[hc];simp)]
   simp
  ·refine iteB (by rw[decide_eq_false fun z=>hc (by injection z)];rfl) ⟨_,rfl,_,e4,qcb (by unfold yaf;rw[List.length_map];omega),s4.at nD,?_⟩
   rw[qac,tk,List.filter_append,List.filter_cons_of_pos (by rw[decide_eq_false hc];rfl)]
   unfold yaf
   rw[List.map_append]
   rfl
abbrev AnyA:Addr→Prop:=fun _=>True
def P12 (p:Int×Int):Prop:=(0≤p.1∧p.1<12)∧0≤p.2∧p.2<12
inductive TrS:Nat→Tr→Prop
 | cells {n:Nat}{C:Bs}:C.length≤12→(∀ p∈C,P12 p)→TrS n (.cells C)
 | nil {n:Nat}:TrS n .nil
 | split {n:Nat}{r l:Int}{a b:Tr}:P12 (r,l)→TrS n a→TrS n b→TrS (n+1) (.split r l a b)
theorem qgg {H:Hp}:∀ {us:List V}{zs:List Int},AtAll H us (zs.map PyData.int)→us=zs.map V.int
 | [],[],.nil=>rfl
 | u::us,z::zs,.cons a r=>by rw[qgg r,a.intEq];rfl
theorem qcl {H:Hp}{v:V}{zs:List Int} (h:At H v (.list (zs.map PyData.int))):∃ a,v=.ref a∧H a=some (.lst (zs.map V.int)):=by
 obtain ⟨a,us,rfl,ha,hu⟩:=h.lstEq
 exact ⟨a,rfl,by rw[ha,qgg hu]⟩
theorem c_go {v:V}{σ:L2.St}{H:Hp}{Q:VK} (h:Q v H):tC v σ H Q:=h
theorem putBs1 {kvs:List (List Key×V)}{bs:Bs}{r l:Int}{v:V} (h:kvs.map (·.1)=kyB bs) (h12:B12 bs) (hr:0≤r∧r<12) (hl:0≤l∧l<12):∃ bs',(putK kvs [Sum.inl r,Sum.inl l] v).map (·.1)=kyB bs'∧B12 bs'∧bs'.length≤bs.length+1∧1≤bs'.length∧∀ p∈bs',p∈bs∨p=(r,l):=by
 unfold putK
 split
 ·rename_i ha
  refine ⟨bs,?_,h12,by omega,?_,fun p hp=>.inl hp⟩
  ·rw[← h,List.map_map]
   refine List.map_congr_left fun e _=>?_
   show (if e.1=_ then _ else e).1=e.1
   split<;>rfl
  ·have e:=congrArg List.length h
   unfold kyB at e
   rw[List.length_map,List.length_map] at e
   rw[← e]
   cases kvs with
   | nil=>simp at ha
   | cons a b=>simp
 ·refine ⟨bs++[(r,l)],?_,fun p hp=>?_,by simp,by simp,fun p hp=>?_⟩
  ·rw[List.map_append,h]
   unfold kyB
   rw[List.map_append]
   rfl
  ·rcases List.mem_append.mp hp with hp|hp
   ·exact h12 p hp
   ·rw[List.mem_singleton.mp hp];exact ⟨hr,hl⟩
  ·rcases List.mem_append.mp hp with hp|hp
   ·exact .inl hp
   ·exact .inr (List.mem_singleton.mp hp)
def zsF:List Int:=[5,5,12,3,3]++(List.replicate 12 [5,5]).flatten
theorem zsF_at:∀ k:Nat,k<12→zsF[5+2*k]?=some 5∧zsF[6+2*k]?=some 5:=by decide
section
variable {P:Program}{w:World}{K:PySem.W.Frag}{mg:Str→Option Value}{base:Heap}
def sp_few:Sp:=fun vs H Q _=>∃ c:Int,vs=[.int c]∧∀ (t p:Addr) (ts:List TL) (bs:Bs) (n m:Nat) (H':Hp),Same H H'→H' t=some (.tup [.ref p,.int n,.int m])→H' p=some (.lst (yaf ts))→PT H' ts bs→B12 bs→(∀ p∈bs,6≤p.2)→1≤bs.length→bs.length≤12→n≤2→m≤2→Q (.ref t) H'
abbrev yb9:Stmt:=top 21
theorem ydg:FnScope ["_law_cell","_law_d","_law_found","_law_k"] ["_law_cell"] (yae yb9):=⟨rfl,rfl,rfl,by decide +kernel,rfl,by decide +kernel,by decide +kernel⟩
theorem ok_few (B:Bl mg) (ybc:Has P w K mg base 1 "_law_digits" ["_law_cell","_law_turn","_law_sizes"] qdc) (F:FnAt K mg "_law_few" yb9 ["_law_cell"]):Has P w K mg base 2 "_law_few" ["_law_cell"] sp_few:=by
 refine Has.ofQ F ydg (fun vs H Q E h=>?_) (fun f cdv A outer s H vs Q E hr h=>?_)
 ·obtain ⟨c,rfl,_⟩:=h
  rfl
 ·obtain ⟨c,rfl,k⟩:=h
  have sc:=ydg
  refine ⟨_,(yaq rfl (yac (yal (i:=1) sc.nd rfl (Or.inl rfl) (qaj ybc hr (qah (qaa (pv 0)) (qam (qaa yaa) (qbb (yam qb0 (qas (qam (qaa yaa) (qam (qaa yaa) (qam (qaa yaa) (qam (qaa yaa) (qam (qaa yaa) yab)))))) (yam qf0 (qas (qam (qaa yaa) (qam (qaa yaa) yab))) (qaa yaa))) yab)))))
   (yac (yal (i:=2) sc.nd rfl (Or.inl rfl) (qaa pe_dnewT))
   (yac (yee PassesOwn.never rfl (qi_of (qfl rfl (B.of rfl) (yad (qb3 qbi yaa (qa0 qar (pv 1) yaa (fun _ _=>rfl))) qan))) (qal (i:=3) sc.nd rfl (Or.inl rfl))
    (qaf (qs_of (ps_dput (hu_of hr) (QE.of (qaa (pv 2))) (QE.of (qao (qbb (yam qdn (yam qbg (yap qar (qaa (pv 1)) (yam qbi (qaa yaa) (yam qdn (qaa yaa) (qaa (pv 3)))) (fun _ _=>rfl)) (yam qbi (qaa yaa) (yap qar (qaa (pv 1)) (qaa yaa) (fun _ _=>rfl)))) (qaa yaa)) (qbb (yam qbi (yam qbg (yap qar (qaa (pv 1)) (yam qbi (qaa yaa) (yam qdn (qaa yaa) (qaa (pv 3)))) (fun _ _=>rfl)) (yam qbi (qaa yaa) (yap qar (qaa (pv 1)) (qaa yaa) (fun _ _=>rfl)))) (qaa yaa)) yab)))) (QE.of (qaa qb1)) rfl))))
   (qaf (yag (qao (ycd (yak (qej rfl) rfl (B.of rfl) qd3 (qah (qaa (pv 2)) yab)) (ya1 (yap qar (qaa (pv 1)) (qaa yaa) (fun _ _=>rfl)) (ya1 (yap qar (qaa (pv 1)) (qaa yaa) (fun _ _=>rfl)) yab)))))))))),?_⟩
  refine ⟨_,rfl,c_go ?_⟩
  dsimp only
  refine qcu (L:=[]) (d:=.list (zsF.map PyData.int)) ?_ (fun b hb=>by cases hb) fun vz H1 s1 a1=>?_
  ·have:(zsF.map PyData.int)=([5,5,12,3,3]:List Int).map PyData.int++(List.replicate 12 (([5,5]:List Int).map PyData.int)).flatten:=rfl
   rw[this]
   refine qbs (qat ?_) (yeh (n:=12) (qat ?_) (by decide) (by decide)) (by decide)
   all_goals repeat' (first|exact qbn|exact qag|refine qab ?_ ?_)
  obtain ⟨pz,rfl,hz⟩:=qcl (a1.same (qae _ _))
  refine ⟨c,1,pz,zsF,rfl,hz,by decide,by decide,by decide,by decide,fun hd ds H2 s2' nhd ehd hD=>?_⟩
  have s2:=s1.trans s2'
  obtain ⟨d0,g0,m0,m0'⟩:=hD.get (i:=0) (z:=5) rfl
  obtain ⟨d1,g1,m1,m1'⟩:=hD.get (i:=1) (z:=5) rfl
  obtain ⟨d2,g2,m2,m2'⟩:=hD.get (i:=2) (z:=12) rfl
  obtain ⟨d3,g3,m3,m3'⟩:=hD.get (i:=3) (z:=3) rfl
  obtain ⟨d4,g4,m4,m4'⟩:=hD.get (i:=4) (z:=3) rfl
  refine gn ?_
  refine fun fo nfo=>?_
  have hfo:H fo=none:=s2.free nfo
  have s3:=s2.upd (o:=.dT []) nfo
  have ehd3:upd H2 fo (.dT []) hd=some (.lst (ds.map V.int)):=by rw[yao (qai ehd nfo)];exact ehd
  have efo3:upd H2 fo (.dT []) fo=some (.dT []):=qac
  revert s3 ehd3 efo3
  generalize upd H2 fo (.dT [])=H3
  intro s3 ehd3 efo3
  refine gn ?_
  dsimp only
  obtain ⟨nn,hnn⟩:∃ nn:Nat,1+d2=(nn:Int):=⟨(1+d2).toNat,by omega⟩
  refine ⟨_,rfl,hd,_,_,_,rfl,rfl,SqL.of ehd3,qad 2 (qaw g2),_,_,rfl,rfl,(nn:Int),congrArg (fun z=>[V.int z]) hnn,by omega,by omega,?_⟩
  refine yft (n:=nn) (fun i σ H4=>∃ (o3:Option V) (kvs:List (List Key×V)) (bs:Bs),σ=[some (.int c),some (.ref hd),some (.ref fo),o3]∧Same H H4∧H4 hd=some (.lst (ds.map V.int))∧
   H4 fo=some (.dT kvs)∧kvs.map (·.1)=kyB bs∧B12 bs∧(∀ p∈bs,6≤p.2)∧bs.length≤i∧(0<i→1≤bs.length)) ⟨none,[],[],rfl,s3,ehd3,efo3,rfl,(fun p hp=>by simp at hp),(fun p hp=>by simp at hp),Nat.le_refl _,fun z=>by omega⟩ ?_ ?_
  ·rintro i σ H4 hi ⟨o3,kvs,bs,rfl,s4,ehd4,efo4,hk,h12,h6,hbl,_⟩
   obtain ⟨z1,z2⟩:=zsF_at i (by omega)
   obtain ⟨dr,gr,mr,mr'⟩:=hD.get z1
   obtain ⟨dl,gl,ml,ml'⟩:=hD.get z2
   have kl:kvs.length≤i:=by have:=congrArg List.length hk;unfold kyB at this;rw[List.length_map,List.length_map] at this;omega
   have a1:atI (ds.map V.int) (5+2*((0:Int)+(i:Int)))=some (.int dr):=by rw[show (5:Int)+2*(0+(i:Int))=((5+2*i:Nat):Int) by omega];exact qbv (qaw gr)
   have a2:atI (ds.map V.int) (6+2*((0:Int)+(i:Int)))=some (.int dl):=by rw[show (6:Int)+2*(0+(i:Int))=((6+2*i:Nat):Int) by omega];exact qbv (qaw gl)
   have cm:CMul 2 ((0:Int)+(i:Int)):=.inl ⟨by decide,by decide⟩
   have r0:=Int.emod_nonneg dr (show (1+d0:Int)≠0 by omega)
   have r1:=Int.emod_lt_of_pos dr (show (0:Int)<1+d0 by omega)
   have l0:=Int.emod_nonneg dl (show (1+d1:Int)≠0 by omega)
   have l1:=Int.emod_lt_of_pos dl (show (0:Int)<1+d1 by omega)
   refine ⟨_,rfl,_,rfl,_,rfl,_,_,rfl,rfl,cm,_,_,rfl,rfl,hd,_,_,_,rfl,rfl,SqL.of ehd4,a1,_,rfl,hd,_,_,_,rfl,rfl,SqL.of ehd4,qad 0 (qaw g0),_,_,rfl,rfl,_,_,rfl,rfl,(by show (0:Int)<1+d0;omega),_,_,rfl,rfl,.inr ⟨by decide,by decide⟩,?_⟩
   refine ⟨_,rfl,_,rfl,_,_,rfl,rfl,cm,_,_,rfl,rfl,hd,_,_,_,rfl,rfl,SqL.of ehd4,a2,_,rfl,hd,_,_,_,rfl,rfl,SqL.of ehd4,qad 1 (qaw g1),_,_,rfl,rfl,_,_,rfl,rfl,(by show (0:Int)<1+d1;omega),_,_,rfl,rfl,(by show 2≤sizeLine;decide),fun q6 n6=>?_⟩
   dsimp only
   generalize hre:dr % (1+d0)*2=r at *
   generalize hle:dl % (1+d1)+6=l at *
   have hr':0≤r∧r<12:=by omega
   have hl':0≤l∧l<12:=by omega
   have s6:=s4.upd (o:=.tup [V.int r,.int l]) n6
   have ehd6:upd H4 q6 (.tup [V.int r,.int l]) hd=some (.lst (ds.map V.int)):=by rw[yao (qai ehd4 n6)];exact ehd4
   have efo6:upd H4 q6 (.tup [V.int r,.int l]) fo=some (.dT kvs):=by rw[yao (qai efo4 n6)];exact efo4
   have eq6:upd H4 q6 (.tup [V.int r,.int l]) q6=some (.tup [V.int r,.int l]):=qac
   revert s6 ehd6 efo6 eq6
   generalize upd H4 q6 (.tup [V.int r,.int l])=H6
   intro s6 ehd6 efo6 eq6
   obtain ⟨bs',p1,p2,p3,p4,p5⟩:=putBs1 (v:=.bl true) hk h12 hr' hl'
   refine ⟨fo,_,rfl,DPut.t (k:=[Sum.inl r,Sum.inl l]) efo6 eq6 (qcb (by omega)),?_⟩
   exact ⟨_,_,bs',rfl,s6.at hfo,by rw[yao (ne_of ehd6 efo6 (by intro z;cases z))];exact ehd6,qac,p1,p2,(fun p hp=>(p5 p hp).elim (fun z=>h6 p z) fun z=>by rw[z];show 6≤l;omega),by omega,fun _=>p4⟩
  ·rintro σ H4 ⟨o3,kvs,bs,rfl,s4,ehd4,efo4,hk,h12,h6,hbl,hb1⟩
   refine ⟨_,rfl,fo,kvs,bs.map pr2,1,rfl,efo4,by rw[hk,List.map_map];rfl,fun z hz=>?_,by rw[List.length_map];omega,fun p ts np ht hpm hri=>?_⟩
   ·obtain ⟨p,hp,rfl⟩:=List.mem_map.mp hz
    refine ⟨rfl,fun x hx=>?_⟩
    have:=h12 p hp
    rcases List.mem_cons.mp hx with rfl|hx
    ·omega
    ·rw[List.mem_singleton.mp hx];omega
   ·obtain ⟨bs',e1,e2⟩:=perm_pr hpm
    have s5:=(Same.refl H4).upd (o:=.lst (yaf ts)) np
    have f5:upd H4 p (.lst (yaf ts)) p=some (.lst (yaf ts)):=qac
    revert s5 f5
    generalize upd H4 p (.lst (yaf ts))=H5
    intro s5 f5
    refine ⟨_,rfl,hd,_,_,_,rfl,rfl,SqL.of (s5 _ _ ehd4),qad 3 (qaw g3),_,rfl,hd,_,_,_,rfl,rfl,SqL.of (s5 _ _ ehd4),qad 4 (qaw g4),(by show 3≤sizeLine;decide),fun t nt=>?_⟩
    have s6:=(Same.refl H5).upd (o:=.tup [.ref p,.int d3,.int d4]) nt
    have h:=k t p ts bs' d3.toNat d4.toNat _ (s4.trans (s5.trans s6)) (by rw[qac,show ((d3.toNat:Nat):Int)=d3 by omega,show ((d4.toNat:Nat):Int)=d4 by omega]) (s6 _ _ f5) ⟨e2,fun t' ht'=>s6 _ _ (s5 _ _ (ht t' ht'))⟩ (fun q hq=>h12 q (e1.mem_iff.mp hq)) (fun q hq=>h6 q (e1.mem_iff.mp hq)) (by rw[e1.length_eq];exact hb1 (by omega)) (by rw[e1.length_eq];omega) (by omega) (by omega)
    exact h
end
end Mc
namespace Mc
open PySem L2 PyProof.Rows Mx PySem.W
section
variable {P:Program}{w:World}{K:PySem.W.Frag}{mg:Str→Option Value}{base:Heap}
def qde:Sp:=fun vs H Q _=>∃ (b:Addr) (n m:Nat) (ts:List TL) (bs:Bs),vs=[.ref b,.int n,.int m]∧H b=some (.lst (yaf ts))∧PT H ts bs∧bs.length≤63∧
 ∀ (p:Addr) (us:List TL) (H':Hp),Same H H'→H' p=some (.lst (yaf us))→(∀ t∈us,t∈ts)→us.length≤ts.length→Q (.ref p) H'
abbrev ybm:Stmt:=top 22
theorem ycj:FnScope ["_law_broken","_law_rows","_law_lines","_law_found","_law_cell"] ["_law_broken","_law_rows","_law_lines"] (yae ybm):=⟨rfl,rfl,rfl,by decide +kernel,rfl,by decide +kernel,by decide +kernel⟩
theorem qfi (B:Bl mg) (F:FnAt K mg "_law_apart" ybm ["_law_broken","_law_rows","_law_lines"]):Has P w K mg base 1 "_law_apart" ["_law_broken","_law_rows","_law_lines"] qde:=by
 refine Has.ofQ F ycj (fun vs H Q E h=>?_) (fun f cdv A outer s H vs Q E hr h=>?_)
 ·obtain ⟨b,n,m,ts,bs,rfl,_⟩:=h
  rfl
 ·obtain ⟨b,n,m,ts,bs,rfl,hb,hP,hbl,k⟩:=h
  have hpl:=hP.len
  have sc:=ycj
  refine ⟨_,(yaq rfl (yac (yal (i:=3) sc.nd rfl (Or.inl rfl) (qas yab))
   (yac (yee PassesOwn.never rfl (qei (qaa (pv 0))) (qal (i:=4) sc.nd rfl (Or.inl rfl))
    (qaf (qau (QW.pt (ycr (yai ycs (qaa (pv 1)) (qaa yaa) (yah _)) (yb6 (yai qb7 (yap qak (qaa (pv 4)) (qaa yaa) (fun _ _=>rfl)) (qaa (yax rfl (qap rfl) (M:=["_law_one"]) (ix:=[none]) (qax (pv 3)) (fun _ _ _ _=>(qal (i:=0) (show List.Nodup (["_law_one"]:List Str) by decide +kernel) rfl (Or.inl rfl))) (fun _ _ _ _=>ybf) (fun _ _ _ _=>(qa0 (yat (K:=K) rfl) (pv 0) yaa (fun _ _=>rfl))))) (by with_unfolding_all rfl)))))
     (qaf (qau (QW.pt (ycr (yai ycs (qaa (pv 2)) (qaa yaa) (yah _)) (yb6 (yai qb7 (yap qak (qaa (pv 4)) (qaa yaa) (fun _ _=>rfl)) (qaa (yax rfl (qap rfl) (M:=["_law_one"]) (ix:=[none]) (qax (pv 3)) (fun _ _ _ _=>(qal (i:=0) (show List.Nodup (["_law_one"]:List Str) by decide +kernel) rfl (Or.inl rfl))) (fun _ _ _ _=>ybf) (fun _ _ _ _=>(qa0 (yat (K:=K) rfl) (pv 0) yaa (fun _ _=>rfl))))) (by with_unfolding_all rfl)))))
      (qaf (qeo (qe_bm PySem.F.plainAttrs_list PySem.F.slot_list_append PySem.F.type_list_append ybq (qaa (pv 3)) (qah (qaa (pv 4)) yab))))
      yan))
     yan)))
   (qaf (yag (qaa (pv 3))))))),?_⟩
  refine ⟨Nat.zero_le _,fun p np=>?_⟩
  have s1:=(Same.refl H).upd (o:=.lst []) np
  have f1:upd H p (.lst []) p=some (.lst []):=qac
  revert s1 f1
  generalize upd H p (.lst [])=H1
  intro s1 f1
  refine ⟨_,rfl,b,rfl,⟨_,SqL.of (s1 _ _ hb)⟩,ydt (xs:=yaf ts) (fun i σ H2=>∃ (o4:Option V) (us:List TL),σ=[some (.ref b),some (.int n),some (.int m),some (.ref p),o4]∧Same H H2∧H2 p=some (.lst (yaf us))∧(∀ t∈us,t∈ts)∧us.length≤i)
   ⟨none,[],rfl,s1,f1,(fun _ h=>nomatch h),Nat.le_refl _⟩ (fun i σ H2 _ ⟨_,_,_,h,_⟩=>SqL.of (h _ _ hb)) ?_ ?_⟩
  rotate_left
  ·rintro σ H2 ⟨o4,us,rfl,s2,e2,hs,hl⟩
   exact ⟨_,rfl,k p us H2 s2 e2 hs (by unfold yaf at hl;rw[List.length_map] at hl;exact hl)⟩
  rintro i x σ H2 hx ⟨o4,us,rfl,s2,e2,hs,hl⟩
  have hi:i<ts.length:=by have:=(List.getElem?_eq_some_iff.mp hx).1;unfold yaf at this;rwa [List.length_map] at this
  unfold yaf at hx
  obtain ⟨t,ht,rfl⟩:∃ t,ts[i]?=some t∧x=.ref t.1:=by
   rw[List.getElem?_map,List.getElem?_eq_getElem hi] at hx
   exact ⟨_,List.getElem?_eq_getElem hi,(Option.some.inj hx).symm⟩
  have htm:=List.mem_of_getElem? ht
  obtain ⟨r,l,et,hrl,hat⟩:=hP.of_mem htm
  have hPu:=(hP.sub hs).same s2
  have ul:us.length≤63:=by omega
  have stay:∀ H3,Same H2 H3→∃ (o4:Option V) (us:List TL),[some (.ref b),some (.int n),some (.int m),some (.ref p),some (V.ref t.1)]=[some (.ref b),some (.int n),some (.int m),some (.ref p),o4]∧Same H H3∧H3 p=some (.lst (yaf us))∧(∀ t∈us,t∈ts)∧us.length≤i+1:=fun H3 s3=>⟨_,us,rfl,s2.trans s3,s3 _ _ e2,hs,by omega⟩
  have inI:∀ (i:Nat) (z:Int),inV (.int z) ((us.map (kp i)).map V.int)=decide (z∈us.map (kp i)):=fun i z=>qe6 z _
  refine' ye8 (S:=fun H3=>Same H2 H3) (fun put=>?main) ?st2
  case main=>
   refine' ye8 (S:=fun H3=>Same H2 H3) (fun inner=>?main2) ?st3
   case main2=>
    refine ⟨_,rfl,rfl,_,rfl,?_⟩
    by_cases hn:n=0
    ·exact iteB (decide_eq_true (congrArg V.int (by omega:(n:Int)=0))) (iteT (inner H2 (Same.refl H2)))
    ·refine iteN (decide_eq_false fun z=>hn (by injection z;omega)) ?_
     refine ⟨_,rfl,t.1,_,_,_,rfl,rfl,SqT.of (s2 _ _ hat),qad 0 rfl,?_⟩
     refine qdx (i:=0) rfl e2 hPu (by simp;omega) (by decide) fun D H3 s3 e3=>?_
     refine ⟨D,_,rfl,.inl (SqL.of e3),rfl,qdb _,_,rfl,?_⟩
     show if (!inV (V.int r) ((us.map (kp 0)).map V.int))=true then _ else _
     rw[inI]
     by_cases hin:r∈us.map (kp 0)
     ·exact iteN (by rw[decide_eq_true hin];rfl) (stay H3 s3)
     ·exact iteB (by rw[decide_eq_false hin];rfl) (inner H3 s3)
   case st3=>
    intro H3 s3
    refine ⟨_,rfl,rfl,_,rfl,?_⟩
    by_cases hm:m=0
    ·exact iteB (decide_eq_true (congrArg V.int (by omega:(m:Int)=0))) (iteT (put H3 s3))
    ·refine iteN (decide_eq_false fun z=>hm (by injection z;omega)) ?_
     refine ⟨_,rfl,t.1,_,_,_,rfl,rfl,SqT.of (s3 _ _ (s2 _ _ hat)),qad 1 rfl,?_⟩
     refine qdx (i:=1) rfl (s3 _ _ e2) (hPu.same s3) (by simp;omega) (by decide) fun D H4 s4 e4=>?_
     refine ⟨D,_,rfl,.inl (SqL.of e4),rfl,qdb _,_,rfl,?_⟩
     show if (!inV (V.int l) ((us.map (kp 1)).map V.int))=true then _ else _
     rw[inI]
     by_cases hin:l∈us.map (kp 1)
     ·exact iteN (by rw[decide_eq_true hin];rfl) (stay H4 (s3.trans s4))
     ·exact iteB (by rw[decide_eq_false hin];rfl) (put H4 (s3.trans s4))
  case st2=>
   intro H3 s3
   refine ⟨_,rfl,.inl ⟨rfl,_,SqL.of (s3 _ _ e2)⟩,?_⟩
   refine ⟨_,rfl,p,_,_,rfl,rfl,s3 _ _ e2,qcb (by unfold yaf;rw[List.length_map];omega),?_⟩
   refine ⟨_,us++[t],rfl,(s2.trans s3).at np,?_,fun u hu=>?_,by simp;omega⟩
   ·rw[qac];unfold yaf;rw[List.map_append];rfl
   ·rcases List.mem_append.mp hu with hu|hu
    ·exact hs u hu
    ·rw[List.mem_singleton.mp hu];exact htm
end
end Mc
namespace Mc
open PySem L2 PyProof.Rows Mx PySem.W
theorem yf2 {bs:Bs} (h:B12 bs) (r:Int):B12 (ycz bs r):=fun p hp=>h p (List.mem_filter.mp hp).1
theorem qfd {bs:Bs} (h:B12 bs) (r:Int):B12 (yb0 bs r):=fun p hp=>h p (List.mem_filter.mp hp).1
section
variable {P:Program}{w:World}{K:PySem.W.Frag}{mg:Str→Option Value}{base:Heap}
def qdu (N:Nat):Sp:=fun vs H Q _=>∃ (b d:Addr) (n m:Nat) (ts:List TL) (bs:Bs) (ds:List Int),vs=[.ref b,.int n,.int m,.ref d]∧n+m≤N∧n≤2∧m≤2∧H b=some (.lst (yaf ts))∧PT H ts bs∧bs.length≤12∧B12 bs∧H d=some (.lst (ds.map V.int))∧ds.length=16∧
 ∀ v t H',Same H H'→TrAt AnyA H' v t→TrS N t→Q v H'
def qey (N:Nat):Sp:=fun vs H Q E=>0<N∧qdu (N-1) vs H Q E
abbrev ybh:Stmt:=top 23
theorem ycu:FnScope ["_law_broken","_law_rows","_law_lines","_law_d","_law_cells","_law_cell","_law_one","_law_other"] ["_law_broken","_law_rows","_law_lines","_law_d"] (yae ybh):=⟨rfl,rfl,rfl,by decide +kernel,rfl,by decide +kernel,by decide +kernel⟩
theorem ye1 {N:Nat} (B:Bl mg) (yeg:Has P w K mg base 1 "_law_apart" ["_law_broken","_law_rows","_law_lines"] qde) (qbw:Has P w K mg base (N+1) "_law_tree" ["_law_broken","_law_rows","_law_lines","_law_d"] (qey N)) (F:FnAt K mg "_law_tree" ybh ["_law_broken","_law_rows","_law_lines","_law_d"]):Has P w K mg base (N+2) "_law_tree" ["_law_broken","_law_rows","_law_lines","_law_d"] (qdu N):=by
 refine Has.ofQ F ycu (fun vs H Q E h=>?_) (fun f cdv A outer s H vs Q E hr h=>?_)
 ·obtain ⟨b,d,n,m,ts,bs,ds,rfl,_⟩:=h
  rfl
 ·obtain ⟨b,d,n,m,ts,bs,ds,rfl,hnm,hn2,hm2,hb0,hP0,hbl,h12,hd0,hdl,k⟩:=h
  have hpl:=hP0.len
  have sc:=ycu
  refine ⟨_,(yaq rfl (yac (yal (i:=4) sc.nd rfl (Or.inl rfl) (qaj (hk:=(by omega)) yeg hr (qah (qaa (pv 0)) (qah (qaa (pv 1)) (qah (qaa (pv 2)) yab)))))
   (yac (qau (QW.pt (ycr (yai yb4 (yak yaj rfl (B.of rfl) boot_len (qah (qaa (pv 4)) yab)) (yam qbi (qaa (pv 1)) (qaa (pv 2))) (yah _)) (ycr (yai (op_eqD hr) (qaa (pv 0)) (qas yab) (yah _)) (yb6 (yai ycs (yam qbi (qaa (pv 1)) (qaa (pv 2))) (qaa yaa) (yah _))))))
    (qaf (yag (qao (qam (qaa yay) (qah (qaa (pv 4)) yab)))))
    yan)
   (yac (yal (i:=5) sc.nd rfl (Or.inr rfl) (yap qar (qaa (pv 0)) (yam qbg (yap qar (qaa (pv 3)) (yam qbi (qaa (pv 1)) (yam qdn (qaa yaa) (qaa (pv 2)))) (fun _ _=>rfl)) (yak yaj rfl (B.of rfl) boot_len (qah (qaa (pv 0)) yab))) (fun _ _=>rfl)))
   (yac (yal (i:=6) sc.nd rfl (Or.inl rfl) (qaa ybl))
   (qcr (qau (yai yb4 (qaa (pv 1)) (qaa yaa) (yah _))
    (qaf (yal (i:=6) sc.nd rfl (Or.inl rfl) (qaj (hk:=Nat.le_refl _) qbw hr (ycq (qaa (yax rfl (qap rfl) (M:=["_law_other","_law_cell"]) (ix:=[none,some 5]) (qax (pv 0)) (fun _ _ _ _=>(qal (i:=0) (show List.Nodup (["_law_other","_law_cell"]:List Str) by decide +kernel) rfl (Or.inl rfl))) (fun _ _ _ _=>(yce (qbp ydi (qa0 (yat (K:=K) rfl) (pv 0) yaa (fun _ _=>rfl)) (qa0 (yat (K:=K) rfl) (pv 1) yaa (fun _ _=>rfl)) (yah _)))) (fun _ _ _ _=>(pv 0)))) (qbb (yam ydn (qaa (pv 1)) (qaa yaa)) (qah (qaa (pv 2)) (qah (qaa (pv 3)) yab)))))))
    yan)
   (yac (yal (i:=7) sc.nd rfl (Or.inl rfl) (qaa ybl))
   (qcr (qau (yai yb4 (qaa (pv 2)) (qaa yaa) (yah _))
    (qaf (yal (i:=7) sc.nd rfl (Or.inl rfl) (qaj (hk:=Nat.le_refl _) qbw hr (ycq (qaa (yax rfl (qap rfl) (M:=["_law_there","_law_cell"]) (ix:=[none,some 5]) (qax (pv 0)) (fun _ _ _ _=>(qal (i:=0) (show List.Nodup (["_law_there","_law_cell"]:List Str) by decide +kernel) rfl (Or.inl rfl))) (fun _ _ _ _=>(yce (qbp ydi (qa0 (yat (K:=K) rfl) (pv 0) yaa (fun _ _=>rfl)) (qa0 (yat (K:=K) rfl) (pv 1) yaa (fun _ _=>rfl)) (yah _)))) (fun _ _ _ _=>(pv 0)))) (qah (qaa (pv 1)) (qbb (yam ydn (qaa (pv 2)) (qaa yaa)) (qah (qaa (pv 3)) yab)))))))
    yan)
   (qaf (yag (qao (qam (qaa yay) (qah (qaa (pv 5)) (qah (qaa (pv 6)) (qah (qaa (pv 7)) yab))))))))))))))),?_⟩
  refine ⟨_,rfl,_,rfl,_,rfl,b,n,m,ts,bs,rfl,hb0,hP0,by omega,fun q us H1 s1 e1 hs hul=>?_⟩
  have hb:=s1 _ _ hb0
  have hP:=hP0.same s1
  have hd:=s1 _ _ hd0
  have lru:(yaf us).length=us.length:=by unfold yaf;rw[List.length_map]
  have hPu:=hP.sub hs
  have leaf:∀ H2,Same H1 H2→∀ p,H2 p=some (.tup [.str "cells",.ref q])→Q (.ref p) H2:=fun H2 s2 p hp=>by
   refine k (.ref p) (.cells _) H2 (s1.trans s2) (.cells hp (s2 _ _ e1) (hPu.same s2) trivial (by simp;omega)) (.cells (by simp;omega) fun x hx=>?_)
   obtain ⟨t,ht,rfl⟩:=List.mem_map.mp hx
   obtain ⟨r,l,et,hrl,_⟩:=hP.of_mem (hs t ht)
   rw[et]
   exact h12 _ hrl
  refine gn ?_
  dsimp only
  refine' ye8 (S:=fun H5=>Same H1 H5) (fun leaf=>?main) ?st2
  case main=>
   refine ⟨_,rfl,q,_,rfl,.inl (SqL.of e1),_,rfl,_,rfl,_,_,rfl,rfl,_,_,rfl,rfl,_,rfl,?_⟩
   rw[lru]
   by_cases h0:n+m<us.length
   case pos=>exact iteD (by omega) (iteT (leaf H1 (Same.refl H1)))
   case neg=>
    refine yca (by omega) ?_
    refine ⟨_,rfl,Nat.zero_le _,fun z nz=>?_⟩
    have sz:=(Same.refl H1).upd (o:=.lst []) nz
    refine ⟨.list (tupD (ts.map (·.2))),.list [],.lst (sz _ _ hb) (atTs fun t ht=>sz _ _ (hP.at_ t ht)),.lst qac .nil,layTs _,rfl,by have:=depTs (ts.map (·.2));simp only[PyData.depth];omega,_,rfl,?_⟩
    rw[eqT_nil,List.isEmpty_map]
    generalize upd H1 z (.lst [])=Hz at sz
    have hb:=sz _ _ hb
    have hP:=hP.same sz
    have hd:=sz _ _ hd
    by_cases hne:ts=[]
    ·exact iteB (by rw[hne];rfl) (iteT (leaf Hz sz))
    refine iteN (by cases ts with|nil=>exact absurd rfl hne|cons=>rfl) ?_
    refine ⟨_,rfl,_,rfl,_,_,rfl,rfl,rfl,_,rfl,?_⟩
    by_cases ha:n+m=0
    ·exact iteB (decide_eq_true (congrArg V.int (by omega:(n:Int)+(m:Int)=0))) (leaf Hz sz)
    refine iteN (decide_eq_false fun z=>ha (by injection z;omega)) ?_
    have hlt:0<ts.length:=List.length_pos_iff.mpr hne
    obtain ⟨x,hx⟩:∃ x,ds[n+3*m]?=some x:=⟨ds[n+3*m]'(by omega),by simp[show n+3*m<ds.length by omega]⟩
    have hat':atI (ds.map V.int) ((n:Int)+3*(m:Int))=some (.int x):=by rw[show (n:Int)+3*(m:Int)=((n+3*m:Nat):Int) by omega];exact qbv (qaw hx)
    refine ⟨_,rfl,_,rfl,_,rfl,_,rfl,_,_,rfl,rfl,.inl ⟨by decide,by decide⟩,_,_,rfl,rfl,d,_,_,_,rfl,rfl,SqL.of hd,hat',_,rfl,b,_,rfl,.inl (SqL.of hb),?_⟩
    have lr:(yaf ts).length=ts.length:=by unfold yaf;rw[List.length_map]
    refine ⟨_,_,rfl,rfl,by rw[lr];omega,?_⟩
    rw[lr]
    have x0:=Int.emod_nonneg x (show (ts.length:Int)≠0 by omega)
    have x1:=Int.emod_lt_of_pos x (show (0:Int)<(ts.length:Int) by omega)
    obtain ⟨i0,hi0⟩:∃ i0:Nat,x % (ts.length:Int)=(i0:Int):=⟨(x % (ts.length:Int)).toNat,by omega⟩
    have hi0l:i0<ts.length:=by omega
    obtain ⟨r,l,et,hrl,hat⟩:=hP.of_mem (List.getElem_mem hi0l)
    have ht0:(yaf ts)[i0]?=some (.ref ts[i0].1):=by unfold yaf;rw[List.getElem?_map,List.getElem?_eq_getElem hi0l];rfl
    refine ⟨b,_,_,_,rfl,rfl,SqL.of hb,by rw[hi0];exact qbv ht0,?_⟩
    generalize ts[i0].1=e at hat
    refine ⟨fun σ' H2=>∃ v1 t1,σ'=[some (.ref b),some (.int n),some (.int m),some (.ref d),some (.ref q),some (.ref e),some v1,none]∧Same Hz H2∧TrAt AnyA H2 v1 t1∧TrS (N-1) t1,?_,?_⟩
    ·refine ⟨_,rfl,_,_,rfl,rfl,_,rfl,?_⟩
     by_cases hn:0<n
     ·refine iteD (by omega) ?_
      unfold tAsg qel qbj
      refine yez (q:=5) (i:=0) rfl rfl hat hb hP (by omega) (by decide) fun D H2 s2 e2=>?_
      refine ⟨_,rfl,_,_,rfl,rfl,_,rfl,_,rfl,by omega,D,d,n-1,m,_,ycz bs r,ds,?_,by omega,by omega,hm2,e2,(hP.same s2).wRow r,Nat.le_trans (List.length_filter_le _ _) hbl,yf2 h12 r,s2 _ _ hd,hdl,fun v t H3 s3 hv hh=>⟨v,t,rfl,s2.trans s3,hv,hh⟩⟩
      show [V.ref D,V.int ((n:Int)-1),V.int m,V.ref d]=_
      rw[show (n:Int)-1=((n-1:Nat):Int) by omega]
     ·exact yca (by omega) ⟨_,_,rfl,Same.refl Hz,.nil,.nil⟩
    rintro _ H2 ⟨v1,t1,rfl,s2,h1,hh1⟩
    refine ⟨fun σ' H3=>∃ v2 t2,σ'=[some (.ref b),some (.int n),some (.int m),some (.ref d),some (.ref q),some (.ref e),some v1,some v2]∧Same Hz H3∧Same H2 H3∧TrAt AnyA H3 v2 t2∧TrS (N-1) t2,?_,?_⟩
    ·refine ⟨_,rfl,_,_,rfl,rfl,_,rfl,?_⟩
     by_cases hm:0<m
     ·refine iteD (by omega) ?_
      unfold tAsg qel qbj
      refine yez (q:=5) (i:=1) rfl rfl (s2 _ _ hat) (s2 _ _ hb) (hP.same s2) (by omega) (by decide) fun D H3 s3 e3=>?_
      have s23:=s2.trans s3
      refine ⟨_,rfl,_,rfl,_,_,rfl,rfl,_,rfl,by omega,D,d,n,m-1,_,yb0 bs l,ds,?_,by omega,hn2,by omega,e3,(hP.same s23).wLine l,Nat.le_trans (List.length_filter_le _ _) hbl,qfd h12 l,s23 _ _ hd,hdl,fun v t H4 s4 hv hh=>⟨v,t,rfl,s23.trans s4,s3.trans s4,hv,hh⟩⟩
      show [V.ref D,V.int n,V.int ((m:Int)-1),V.ref d]=_
      rw[show (m:Int)-1=((m-1:Nat):Int) by omega]
     ·exact yca (by omega) ⟨_,_,rfl,s2,Same.refl H2,.nil,.nil⟩
    rintro _ H3 ⟨v2,t2,rfl,s3,s23,h2,hh2⟩
    refine ⟨_,rfl,_,rfl,_,rfl,(by show 4≤sizeLine;decide),fun p np=>?_⟩
    have s4:=(Same.refl H3).upd (o:=.tup [.str "split",.ref e,v1,v2]) np
    obtain ⟨N',rfl⟩:∃ N',N=N' + 1:=⟨N-1,by omega⟩
    exact k (.ref p) (.split r l t1 t2) _ (s1.trans ((sz.trans s3).trans s4)) (.split qac (s4 _ _ (s3 _ _ hat)) ((h1.same s23).same s4) (h2.same s4)) (.split (h12 _ hrl) hh1 hh2)
  case st2=>
   intro H2 s2
   refine ⟨_,rfl,(by show 2≤sizeLine;decide),fun p np=>?_⟩
   exact leaf _ (s2.upd np) p qac
theorem yfv (B:Bl mg) (h1:Has P w K mg base 1 "_law_apart" ["_law_broken","_law_rows","_law_lines"] qde) (F:FnAt K mg "_law_tree" ybh ["_law_broken","_law_rows","_law_lines","_law_d"]):∀ N,Has P w K mg base (N+2) "_law_tree" ["_law_broken","_law_rows","_law_lines","_law_d"] (qdu N)
 | 0=>by
  refine ye1 B h1 ?_ F
  obtain ⟨f,fd,e1,e2,e3⟩:=F
  have no:∀ vs H Q E,¬ qey 0 vs H Q E:=fun vs H Q E h=>absurd h.1 (by decide)
  exact ⟨f,fd,e1,e2.kp,e3,⟨fun vs H Q E h=>(no vs H Q E h).elim,fun A outer s H args us vs Q E _ _ _ _ h=>(no vs H Q E h).elim⟩⟩
 | N+1=>ye1 B h1 (Has.imp (yfv B h1 F N) fun vs H Q E h=>h.2) F
end
end Mc
namespace L2
open PySem PyProof.Rows
section
variable {K:PySem.W.Frag}{σ:L2.St}{H:Hp}{te tf:TE}{ta:TA}{d:PyData}{ds es:List PyData}{L:List Addr}
theorem qcn {t:TE}{n:Nat} (h1:Lay L te σ (.tuple ds) H) (hn:LayN t σ n) (hlt:n<ds.length):Lay L (tSl (rSlT K) te ybt (ydq t)) σ (.tuple (ds.take n)) H:=fun hL H1 s Q k=>
 h1 hL H1 s _ fun v H2 s2 a2=>hn H2 _ ⟨n,rfl,by
  obtain ⟨a,vs,rfl,ha,hw⟩:=a2.tupEq
  have hl:=hw.length
  refine ⟨a,vs,rfl,SqT.of (qae _ _ _ _ ha),fun ⟨_,z⟩=>?_,fun p hp=>k _ _ (s2.upd hp) ?_⟩
  ·rw[HT.sIx_nat] at z;omega
  rw[qds]
  exact ycp hL (s.trans s2) hp (hw.take n)⟩
theorem qb4 {t:TE}{n:Nat} (h1:Lay L te σ (.tuple ds) H) (hn:LayN t σ n) (h0:0<n) (h2:0<ds.length):Lay L (tSl (rSlT K) te (ydq t) ybt) σ (.tuple (ds.drop n)) H:=fun hL H1 s Q k=>
 h1 hL H1 s _ fun v H2 s2 a2=>hn H2 _ ⟨n,rfl,by
  obtain ⟨a,vs,rfl,ha,hw⟩:=a2.tupEq
  have hl:=hw.length
  refine ⟨a,vs,rfl,SqT.of (qae _ _ _ _ ha),fun ⟨z,_⟩=>?_,fun p hp=>k _ _ (s2.upd hp) ?_⟩
  ·rw[HT.sIx_nat] at z;omega
  rw[yew]
  exact ycp hL (s.trans s2) hp (hw.drop n)⟩
theorem AtAll.dropLast {H:Hp}{vs:List V}{ds:List PyData} (h:AtAll H vs ds):AtAll H vs.dropLast ds.dropLast:=by
 rw[List.dropLast_eq_take,List.dropLast_eq_take,h.length]
 exact h.take _
theorem yfl (h1:Lay L te σ (.tuple ds) H) (h2:0<ds.length):Lay L (tSl (rSlT K) te ybt (ydq (tUn (rU fun i=>V.int (-i)) (tC (.int 1))))) σ (.tuple ds.dropLast) H:=fun hL H1 s Q k=>
 h1 hL H1 s _ fun v H2 s2 a2=>⟨1,rfl,-1,rfl,by
  obtain ⟨a,vs,rfl,ha,hw⟩:=a2.tupEq
  have hl:=hw.length
  refine ⟨a,vs,rfl,SqT.of (qae _ _ _ _ ha),fun ⟨_,z⟩=>?_,fun p hp=>k _ _ (s2.upd hp) ?_⟩
  ·unfold HT.sIx at z
   simp at z
   omega
  rw[qet]
  exact ycp hL (s.trans s2) hp hw.dropLast⟩
theorem yba (h1:Lay L te σ (.tuple ds) H) (h2:Lay L tf σ (.tuple es) H) (hne:ds≠[]) (z:ds.length+es.length≤1000):Lay L (tOp (rCatT K) te tf) σ (.tuple (ds++es)) H:=fun hL H1 s Q k=>
 h1 hL H1 s _ fun v H2 s2 a2=>h2 hL H2 (s.trans s2) _ fun u H3 s3 a3=>by
  obtain ⟨a,vs,rfl,ha,hw⟩:=(a2.same (yaz s3 L)).tupEq
  obtain ⟨b,us,rfl,hb,hu⟩:=a3.tupEq
  have l1:=hw.length
  have l2:=hu.length
  refine ⟨a,b,vs,us,rfl,rfl,SqT.of (qae _ _ _ _ ha),SqT.of (qae _ _ _ _ hb),fun e=>hne (by rw[e] at l1;exact List.length_eq_zero_iff.mp l1.symm),by rw[l1,l2];exact Nat.le_trans z (by decide),fun e=>k _ _ (s2.trans s3) ?_,fun _ p hp=>k _ _ ((s2.trans s3).upd hp) (ycp hL ((s.trans s2).trans s3) hp (hw.append hu))⟩
  subst e
  have:es=[]:=List.length_eq_zero_iff.mp l2.symm
  subst this
  rw[List.append_nil]
  exact .tup ha hw
theorem qcp (h1:Lay L te σ (.tuple ds) H):Lay L (tCB (fun xs H Q=>∃ p ys,xs=[.ref p]∧(SqL K H p ys∨SqT K H p ys)∧∀ l,H l=none→Q (.ref l) (upd H l (.lst ys))) (qbj te tNil)) σ (.list ds) H:=fun hL H1 s Q k=>
 h1 hL H1 s _ fun v H2 s2 a2=>by
  obtain ⟨a,vs,rfl,ha,hw⟩:=a2.tupEq
  exact ⟨a,vs,rfl,.inr (SqT.of (qae _ _ _ _ ha)),fun p hp=>k _ _ (s2.upd hp) (ybv hL (s.trans s2) hp hw)⟩
theorem yeq {t:TE}{i:Int}{j:Nat}{d:PyData} (h1:Lay L te σ (.tuple ds) H) (hn:∀ H1 (Q:VK),Q (.int i) H1→t σ H1 Q) (hd:ds[j]?=some d) (hi:∀ vs:List V,vs.length=ds.length→∀ v,vs[j]?=some v→atI vs i=some v):Lay L (tOp (rIxT K) te t) σ d H:=fun hL H1 s Q k=>
 h1 hL H1 s _ fun v H2 s2 a2=>hn H2 _ (by
  obtain ⟨a,vs,rfl,ha,hw⟩:=a2.tupEq
  obtain ⟨x,hx,hat⟩:=hw.getD hd
  exact ⟨a,vs,i,x,rfl,rfl,SqT.of (qae _ _ _ _ ha),hi vs hw.length x hx,k x H2 s2 hat⟩)
theorem qc6 (h1:Lay L te σ (.list ds) H):Lay L (tCB (fun xs H Q=>∃ p ys,xs=[.ref p]∧(SqL K H p ys∨SqT K H p ys)∧∀ l,H l=none→Q (.ref l) (upd H l (.lst ys))) (qbj te tNil)) σ (.list ds) H:=fun hL H1 s Q k=>
 h1 hL H1 s _ fun v H2 s2 a2=>by
  obtain ⟨a,vs,rfl,ha,hw⟩:=a2.lstEq
  exact ⟨a,vs,rfl,.inl (SqL.of (qae _ _ _ _ ha)),fun p hp=>k _ _ (s2.upd hp) (ybv hL (s.trans s2) hp hw)⟩
theorem yf8 (h1:Lay L te σ (.list ds) H):Lay L (tSl (rSlL K) te ybt (ydq (tUn (rU fun i=>V.int (-i)) (tC (.int 1))))) σ (.list ds.dropLast) H:=fun hL H1 s Q k=>
 h1 hL H1 s _ fun v H2 s2 a2=>⟨1,rfl,-1,rfl,by
  obtain ⟨a,vs,rfl,ha,hw⟩:=a2.lstEq
  refine ⟨a,vs,rfl,SqL.of (qae _ _ _ _ ha),fun p hp=>k _ _ (s2.upd hp) ?_⟩
  rw[qet]
  exact ybv hL (s.trans s2) hp hw.dropLast⟩
theorem AtAll.rev {H:Hp}:∀ {vs:List V}{ds:List PyData},AtAll H vs ds→AtAll H vs.reverse ds.reverse
 | _,_,.nil=>.nil
 | _,_,.cons a r=>by
  rw[List.reverse_cons,List.reverse_cons]
  exact r.rev.append (.cons a .nil)
theorem lay_revL (h1:Lay L te σ (.list ds) H):Lay L (tSl3 K te (tUn (rU fun i=>V.int (-i)) (tC (.int 1)))) σ (.list ds.reverse) H:=fun hL H1 s Q k=>
 h1 hL H1 s _ fun v H2 s2 a2=>⟨1,rfl,by
  obtain ⟨a,vs,rfl,ha,hw⟩:=a2.lstEq
  exact ⟨a,vs,false,rfl,SqL.of (qae _ _ _ _ ha),rfl,fun p hp=>k _ _ (s2.upd hp) (ybv hL (s.trans s2) hp hw.rev)⟩⟩
end
end L2
namespace Mc
open PySem L2 PyProof.Rows Mx PySem.W
theorem qc2 {K:PySem.W.Frag}{L:List Addr}{j:Nat}{σ:L2.St}{H:Hp}{c:Addr}{cs:List TL}{C:Bs}{te:TE}{f:Int×Int→PyData} (hσ:σ[j]?=some (some (.ref c))) (hc:H c=some (.lst (yaf cs))) (hC:PT (yau H L) cs C) (hl:C.length≤1000)
  (he:∀ (D:Addr) (H1:Hp) (t:Addr) (r l:Int),At (yau H1 (D::L)) (.ref t) (pD (r,l))→Lay (D::L) te [some (.ref t)] (f (r,l)) H1):Lay L (qfz (qd2 K (tVar j)) [none] (qco 0) tYes te) σ (.list (C.map f)) H:=fun hL H1 s1 Q k=>by
 have hcl:=hC.len
 refine ⟨_,hσ,c,rfl,⟨_,SqL.of (s1 _ _ hc)⟩,fun D nD=>ybs (n:=cs.length) (fun i H'=>Same H1 H'∧Bld L H' D ((C.take i).map f)) ⟨(Same.refl H1).upd nD,Bld.new⟩ ?_ ?_⟩
 ·rintro H4 ⟨s4,b4⟩
  rw[hcl,List.take_length] at b4
  exact ⟨⟨_,SqL.of ((s1.trans s4) _ _ hc),by unfold yaf;simp⟩,k _ H4 s4 (b4.at (qc9 hL s1 nD))⟩
 ·rintro i H4 hi ⟨s4,b4⟩
  have hti:(yaf cs)[i]?=some (.ref cs[i].1):=by unfold yaf;rw[List.getElem?_map,List.getElem?_eq_getElem hi];rfl
  refine ⟨⟨_,_,SqL.of ((s1.trans s4) _ _ hc),hti⟩,?_⟩
  rintro y H5 ⟨rfl,hy⟩
  have hy':=hy _ (SqL.of ((s1.trans s4) _ _ hc))
  rw[hti] at hy'
  cases hy'
  obtain ⟨r,l,et,_,hat⟩:=hC.of_mem (List.getElem_mem hi)
  have hCi:C[i]?=some (r,l):=by
   rw[hC.bs_eq,List.getElem?_map,List.getElem?_eq_getElem hi]
   show some (cs[i].2.getD 0 0,cs[i].2.getD 1 0)=_
   rw[et]
   rfl
  have hat0:=qae _ _ _ _ hat
  have hne:cs[i].1≠D:=fun z=>by rw[z] at hat0;have:=s1 _ _ hat0;rw[nD] at this;cases this
  have hnL:cs[i].1∉L:=fun z=>by unfold yau at hat;rw[if_pos z] at hat;cases hat
  obtain ⟨us,e4,_⟩:=id b4
  have hul:=b4.len e4
  rw[List.length_map,List.length_take] at hul
  refine ⟨ya4.set (ya4.refl _) rfl,yes ?_⟩
  refine qcu (L:=D::L) (he D H5 cs[i].1 r l (.tup (by rw[qa2 (by simp[hne,hnL])];exact s4 _ _ (s1 _ _ hat0)) (.cons (.int _) (.cons (.int _) .nil)))) (fun b hb=>?_) fun v H6 s6 a6=>?_
  ·rcases List.mem_cons.mp hb with rfl|hb
   ·rw[e4];intro z;cases z
   ·exact fun z=>hL b hb (s1.free (s4.free z))
  refine ⟨us,s6 _ _ e4,qcb (by omega),(s4.trans s6).at nD,?_⟩
  have:=(b4.grow s6).push (s6 _ _ e4) a6
  rw[List.take_add_one,hCi,List.map_append]
  exact this
theorem PT.hid {H:Hp}{cs:List TL}{C:Bs} (h:PT H cs C):PT (yau H []) cs C:=⟨h.eq,fun t ht=>by rw[qa2 (by simp)];exact h.at_ t ht⟩
theorem PT.hid1 {H H':Hp}{p:Addr}{cs:List TL}{C:Bs} (h:PT H cs C) (np:H p=none) (s:Same H H'):PT (yau H' [p]) cs C:=⟨h.eq,fun t ht=>by
 have e:=h.at_ t ht
 have hx:t.1≠p:=fun z=>by rw[z,np] at e;cases e
 rw[qa2 (by simpa using hx)]
 exact s _ _ e⟩
theorem qf8 {x:Int} (h:0≤x∧x<64):Sm 0 0 (.int x):=by
 have:∀ n:Nat,n<64→(PyData.int (n:Int)).showable=true∧PyData.leavesShort 40 (.int (n:Int))=true:=by decide +kernel
 have h1:=this x.toNat (by omega)
 rw[show ((x.toNat:Nat):Int)=x by omega] at h1
 exact ⟨h1.1,by simp[PyData.depth],h1.2,by simp[PyData.bulk]⟩
theorem bl_sm (b:Bool):Sm 0 0 (.bool b):=by cases b<;>exact ⟨by decide +kernel,by decide +kernel,by decide +kernel,by decide +kernel⟩
theorem non_sm:Sm 0 0 .none:=⟨by decide +kernel,by decide +kernel,by decide +kernel,by decide +kernel⟩
theorem yet {p:Int×Int} (h:P12 p):Sm 0 0 (.int p.1)∧Sm 0 0 (.int p.2):=⟨qf8 ⟨h.1.1,by have:=h.1.2;omega⟩,qf8 ⟨h.2.1,by have:=h.2.2;omega⟩⟩
theorem pD_sm {p:Int×Int} (h:P12 p):Sm 1 3 (pD p):=by
 obtain ⟨a,b⟩:=yet h
 exact (Sm.tuple (n:=3) (D:=0) (B:=0) (xs:=[.int p.1,.int p.2]) (fun x hx=>by simp only[List.mem_cons,List.not_mem_nil,or_false] at hx;rcases hx with rfl|rfl<;>assumption) (by simp)).mono
theorem pD_ll (p:Int×Int):LL (pD p):=.tup fun x hx=>by
 simp only[List.mem_cons,List.not_mem_nil,or_false] at hx
 rcases hx with rfl|rfl<;>exact .leaf rfl rfl
def Gd (D B:Nat) (d:PyData):Prop:=Sm D B d∧LL d
theorem Gd.mono {D B D' B':Nat}{d:PyData} (h:Gd D B d) (h1:D≤D') (h2:B≤B'):Gd D' B' d:=⟨h.1.mono h1 h2,h.2⟩
theorem Gd.lst {D B n:Nat}{xs:List PyData} (h:∀ x∈xs,Gd D B x) (hl:xs.length≤n) (hn:n≤1000):Gd (D+1) ((B+1)*n) (.list xs):=⟨Sm.list (fun x hx=>(h x hx).1) hl,.lst (by omega) fun x hx=>(h x hx).2⟩
theorem Gd.tup {D B n:Nat}{xs:List PyData} (h:∀ x∈xs,Gd D B x) (hl:xs.length≤n):Gd (D+1) ((B+1)*n) (.tuple xs):=⟨Sm.tuple (fun x hx=>(h x hx).1) hl,.tup fun x hx=>(h x hx).2⟩
theorem qcq {p:Int×Int} (h:P12 p):Gd 1 3 (pD p):=⟨pD_sm h,pD_ll p⟩
theorem qes:Gd 0 0 .none:=⟨non_sm,.leaf rfl rfl⟩
def bcL (bs C:Bs):List PyData:=[.list (C.map pD++(C.map pD).take 1),.list (C.map pD).dropLast,.list (C.map pD).reverse,.tuple (C.map pD),.none,.list (C.map pD++[pD (0,0)]),.list (C.map pD++[.none]),.list []]
 ++ [.list (C.map fun p=>.list [.int p.1,.int p.2]),.list (C.map fun p=>.tuple [.int p.1,.int p.2,.int 0]),.list (bs.map pD)]++[.list (C.map fun p=>.tuple [.int p.1,.bool (p.2 % 2 != 0)])]
 ++ [.list (C.map fun p=>.tuple [if p.1=0 then .bool true else .int p.1,.int p.2])]
theorem bcL_gd {bs C:Bs} (hb:B12 bs) (hbl:bs.length≤12) (hC:∀ p∈C,P12 p) (hCl:C.length≤12):∀ d∈bcL bs C,Gd 2 52 d:=by
 have hp:∀ x∈C.map pD,Gd 1 3 x:=fun x hx=>by
  obtain ⟨p,hp,rfl⟩:=List.mem_map.mp hx
  exact qcq (hC p hp)
 have ls:∀ {xs:List PyData},(∀ x∈xs,Gd 1 3 x)→xs.length≤13→Gd 2 52 (.list xs):=fun h hl=>Gd.lst (n:=13) h hl (by decide)
 have cl:(C.map pD).length≤12:=by rw[List.length_map];exact hCl
 have t2:∀ {a b:PyData},Gd 0 0 a→Gd 0 0 b→Gd 1 3 (.tuple [a,b]):=fun ha hb=>(Gd.tup (n:=3) (D:=0) (B:=0) (fun x hx=>by simp only[List.mem_cons,List.not_mem_nil,or_false] at hx;rcases hx with rfl|rfl<;>assumption) (by simp))
 have i0:∀ {p:Int×Int},p∈C→Gd 0 0 (.int p.1)∧Gd 0 0 (.int p.2):=fun hp=>⟨⟨(yet (hC _ hp)).1,.leaf rfl rfl⟩,⟨(yet (hC _ hp)).2,.leaf rfl rfl⟩⟩
 intro d hd
 simp only[bcL,List.cons_append,List.nil_append,List.mem_cons,List.not_mem_nil,or_false] at hd
 rcases hd with rfl|rfl|rfl|rfl|rfl|rfl|rfl|rfl|rfl|rfl|rfl|rfl|rfl
 ·refine ls (fun x hx=>?_) (by rw[List.length_append,List.length_take];omega)
  rcases List.mem_append.mp hx with hx|hx
  ·exact hp x hx
  ·exact hp x (List.mem_of_mem_take hx)
 ·exact ls (fun x hx=>hp x (List.dropLast_subset _ hx)) (by rw[List.length_dropLast];omega)
 ·exact ls (fun x hx=>hp x (List.mem_reverse.mp hx)) (by rw[List.length_reverse];omega)
 ·exact Gd.tup (n:=13) hp (by omega)
 ·exact qes.mono (by decide) (by decide)
 ·refine ls (fun x hx=>?_) (by rw[List.length_append];simp;omega)
  rcases List.mem_append.mp hx with hx|hx
  ·exact hp x hx
  ·rw[List.mem_singleton.mp hx];exact qcq ⟨⟨by decide,by decide⟩,by decide,by decide⟩
 ·refine ls (fun x hx=>?_) (by rw[List.length_append];simp;omega)
  rcases List.mem_append.mp hx with hx|hx
  ·exact hp x hx
  ·rw[List.mem_singleton.mp hx];exact qes.mono (by decide) (by decide)
 ·exact ls (fun x hx=>by cases hx) (by simp)
 ·refine ls (fun x hx=>?_) (by rw[List.length_map];omega)
  obtain ⟨p,hp',rfl⟩:=List.mem_map.mp hx
  exact Gd.lst (n:=3) (D:=0) (B:=0) (fun x hx=>by simp only[List.mem_cons,List.not_mem_nil,or_false] at hx;rcases hx with rfl|rfl;exact (i0 hp').1;exact (i0 hp').2) (by simp) (by decide)
 ·refine ls (fun x hx=>?_) (by rw[List.length_map];omega)
  obtain ⟨p,hp',rfl⟩:=List.mem_map.mp hx
  exact Gd.tup (n:=3) (D:=0) (B:=0) (fun x hx=>by simp only[List.mem_cons,List.not_mem_nil,or_false] at hx;rcases hx with rfl|rfl|rfl;exact (i0 hp').1;exact (i0 hp').2;exact ⟨qf8 (by decide),.leaf rfl rfl⟩) (by simp)
 ·refine ls (fun x hx=>?_) (by rw[List.length_map];omega)
  obtain ⟨p,hp',rfl⟩:=List.mem_map.mp hx
  exact qcq (hb p hp')
 ·refine ls (fun x hx=>?_) (by rw[List.length_map];omega)
  obtain ⟨p,hp',rfl⟩:=List.mem_map.mp hx
  exact t2 (i0 hp').1 ⟨bl_sm _,.leaf rfl rfl⟩
 ·refine ls (fun x hx=>?_) (by rw[List.length_map];omega)
  obtain ⟨p,hp',rfl⟩:=List.mem_map.mp hx
  refine t2 ?_ (i0 hp').2
  by_cases h0:p.1=0
  ·rw[if_pos h0];exact ⟨bl_sm _,.leaf rfl rfl⟩
  ·rw[if_neg h0];exact (i0 hp').1
end Mc
namespace Mc
open PySem L2 PyProof.Rows Mx PySem.W
theorem qfm {H:Hp}{b:Addr}{ts:List TL}{bs:Bs} (hb:H b=some (.lst (yaf ts))) (hP:PT H ts bs):At H (.ref b) (.list (bs.map pD)):=by
 refine .lst hb ?_
 rw[← qef,← hP.eq]
 exact atTs hP.at_
section
variable {P:Program}{w:World}{K:PySem.W.Frag}{mg:Str→Option Value}{base:Heap}
def qd0:Sp:=fun vs H Q _=>∃ (b c:Addr) (dg:Int) (ts cs:List TL) (bs C:Bs),vs=[.ref b,.ref c,.int dg]∧H b=some (.lst (yaf ts))∧PT H ts bs∧B12 bs∧bs.length≤12∧H c=some (.lst (yaf cs))∧PT H cs C∧(∀ p∈C,P12 p)∧C.length≤12∧∀ v d H',Same H H'→At H' v d→Gd 2 52 d→Q v H'
abbrev qa1:Stmt:=top 24
theorem qbm:FnScope ["_law_broken","_law_cells","_law_d","_law_some"] ["_law_broken","_law_cells","_law_d"] (yae qa1):=⟨rfl,rfl,rfl,by decide +kernel,rfl,by decide +kernel,by decide +kernel⟩
theorem ok_bentc (B:Bl mg) (F:FnAt K mg "_law_bent_cells" qa1 ["_law_broken","_law_cells","_law_d"]):Has P w K mg base 1 "_law_bent_cells" ["_law_broken","_law_cells","_law_d"] qd0:=by
 refine Has.ofQ F qbm (fun vs H Q E h=>?_) (fun f cdv A outer s H vs Q E hr h=>?_)
 ·obtain ⟨b,c,dg,ts,cs,bs,C,rfl,_⟩:=h
  rfl
 ·obtain ⟨b,c,dg,ts,cs,bs,C,rfl,hb,hP,h12,hbl,hc,hC,hC12,hCl,k⟩:=h
  have sc:=qbm
  refine ⟨_,(yaq rfl (yac (yal (i:=3) sc.nd rfl (Or.inl rfl) (qas (qbb (yam qb0 (qaa (pv 1)) (qbx qb5 (qaa (pv 1)) yav (yas yaa))) (ya1 (qbx qb5 (qaa (pv 1)) yav (yas (pe_un qgk yaa))) (ya1 (qaa (ygn (pv 1) (pe_un qgk yaa))) (ycd (qa7 ydy rfl (B.of rfl) boot_tuple (qah (qaa (pv 1)) yab)) (qam (qaa ybl) (qbb (yam qb0 (qaa (pv 1)) (qas (qbq (qao (qam (qaa yaa) (qam (qaa yaa) yab))) yab))) (qbb (yam qb0 (qaa (pv 1)) (qas (qam (qaa ybl) yab))) (yd2 (qas yab) yab))))))))))
   (yac (yal (i:=3) sc.nd rfl (Or.inl rfl) (yam qb0 (qaa (pv 3)) (qas (ycq (qaa (yax rfl (qap rfl) (M:=["_law_cell"]) (ix:=[none]) (qax (pv 1)) (fun _ _ _ _=>(qal (i:=0) (show List.Nodup (["_law_cell"]:List Str) by decide +kernel) rfl (Or.inl rfl))) (fun _ _ _ _=>ybf) (fun _ _ _ _=>(yc4 (yds (K:=K) rfl) rfl (B.of rfl) boot_list (yad (pv 0) qan))))) (ycq (qaa (yax rfl (qap rfl) (M:=["_law_cell"]) (ix:=[none]) (qax (pv 1)) (fun _ _ _ _=>(qal (i:=0) (show List.Nodup (["_law_cell"]:List Str) by decide +kernel) rfl (Or.inl rfl))) (fun _ _ _ _=>ybf) (fun _ _ _ _=>(qd6 (yad (qa0 (yat (K:=K) rfl) (pv 0) yaa (fun _ _=>rfl)) (yad (qa0 (yat (K:=K) rfl) (pv 0) yaa (fun _ _=>rfl)) (yad yaa qan))))))) (ycd (qa7 qa4 rfl (B.of rfl) boot_list (qah (qaa (pv 0)) yab)) yab))))))
   (yac (qeo (qe_bm PySem.F.plainAttrs_list PySem.F.slot_list_append PySem.F.type_list_append ybq (qaa (pv 3)) (ycq (qaa (yax rfl (qap rfl) (M:=["_law_cell"]) (ix:=[none]) (qax (pv 1)) (fun _ _ _ _=>(qal (i:=0) (show List.Nodup (["_law_cell"]:List Str) by decide +kernel) rfl (Or.inl rfl))) (fun _ _ _ _=>ybf) (fun _ _ _ _=>(qd6 (yad (qa0 (yat (K:=K) rfl) (pv 0) yaa (fun _ _=>rfl)) (yad (yc4 qfb rfl (B.of rfl) boot_bool (yad (qb3 qbg (qa0 (yat (K:=K) rfl) (pv 0) yaa (fun _ _=>rfl)) yaa) qan)) qan)))))) yab)))
   (yac (qeo (qe_bm PySem.F.plainAttrs_list PySem.F.slot_list_append PySem.F.type_list_append ybq (qaa (pv 3)) (ycq (qaa (yax rfl (qap rfl) (M:=["_law_cell"]) (ix:=[none]) (qax (pv 1)) (fun _ _ _ _=>(qal (i:=0) (show List.Nodup (["_law_cell"]:List Str) by decide +kernel) rfl (Or.inl rfl))) (fun _ _ _ _=>ybf) (fun _ _ _ _=>(qd6 (yad (pe_or (ybr ycs (qa0 (yat (K:=K) rfl) (pv 0) yaa (fun _ _=>rfl)) yaa (yah _)) (qbz (qa0 (yat (K:=K) rfl) (pv 0) yaa (fun _ _=>rfl)))) (yad (qa0 (yat (K:=K) rfl) (pv 0) yaa (fun _ _=>rfl)) qan)))))) yab)))
   (qaf (yag (yap qar (qaa (pv 3)) (yam qbg (qaa (pv 2)) (qaa yaa)) (fun _ _=>rfl))))))))),?_⟩
  have aC:=qfm hc hC
  have cl:(C.map pD).length≤12:=by rw[List.length_map];exact hCl
  refine qdz (d:=.list [.list (C.map pD++(C.map pD).take 1),.list (C.map pD).dropLast,.list (C.map pD).reverse,.tuple (C.map pD),.none,.list (C.map pD++[pD (0,0)]),.list (C.map pD++[.none]),.list []]) ?_ fun v1 H1 s1 a1=>?_
  ·have vC:Lay [] (tVar 1) [some (.ref b),some (.ref c),some (.int dg),none] (.list (C.map pD)) H:=qav rfl (hid0 aC)
   refine qat (qab (qbs vC (qe4 vC qc0) (by rw[List.length_take];omega)) (qab (yf8 vC) (qab (lay_revL vC) (qab (yf9 vC) (qab qbo (qab (qbs vC (qat (qab (qaq (qab qbn (qab qbn qag))) qag)) (by simp;omega)) (qab (qbs vC (qat (qab qbo qag)) (by simp;omega)) (qab (qat qag) qag))))))))
  obtain ⟨p1,w1,rfl,e1,x1⟩:=a1.lstEq
  have hc1:=s1 _ _ hc
  have hC1:=hC.same s1
  have tup0:∀ {L:List Addr}{H1:Hp}{t:Addr}{r l:Int},At (yau H1 L) (.ref t) (pD (r,l))→Lay L (tVar 0) [some (.ref t)] (.tuple [.int r,.int l]) H1:=fun a=>qav rfl a
  have i0:∀ {L:List Addr}{H1:Hp}{t:Addr}{r l:Int},At (yau H1 L) (.ref t) (pD (r,l))→Lay L (tOp (rIxT K) (tVar 0) (tC (.int 0))) [some (.ref t)] (.int r) H1:=fun a=>yeq (tup0 a) (fun _ _ z=>z) (j:=0) rfl fun vs _ v hv=>qad 0 hv
  have i1:∀ {L:List Addr}{H1:Hp}{t:Addr}{r l:Int},At (yau H1 L) (.ref t) (pD (r,l))→Lay L (tOp (rIxT K) (tVar 0) (tC (.int 1))) [some (.ref t)] (.int l) H1:=fun a=>yeq (tup0 a) (fun _ _ z=>z) (j:=1) rfl fun vs _ v hv=>qad 1 hv
  refine ⟨_,rfl,qcu (L:=[]) (d:=.list [.list (C.map fun p=>.list [.int p.1,.int p.2]),.list (C.map fun p=>.tuple [.int p.1,.int p.2,.int 0]),.list (bs.map pD)]) ?_ (fun b hb=>by cases hb) fun v2 H2 s2 a2=>?_⟩
  ·refine qat (qab (qc2 rfl hc1 hC1.hid (by omega) fun D H3 t r l a=>?_) (qab (qc2 rfl hc1 hC1.hid (by omega) fun D H3 t r l a=>?_) (qab (qc6 (qav rfl (hid0 (qfm (s1 _ _ hb) (hP.same s1))))) qag)))
   ·exact qcp (tup0 a)
   ·exact qaq (qab (i0 a) (qab (i1 a) (qab qbn qag)))
  obtain ⟨p2,w2,rfl,e2,x2⟩:=(a2.same (qae _ _)).lstEq
  have l1:w1.length=8:=x1.length
  have l2:w2.length=3:=x2.length
  refine ⟨p1,p2,w1,w2,rfl,rfl,s2 _ _ e1,e2,qgc (by omega),fun p np=>?_⟩
  have s12:=s1.trans s2
  have x12:=(x1.same s2).append x2
  generalize hH3:upd H2 p (.lst (w1++w2))=H3
  have s3:Same H2 H3:=by rw[← hH3];exact (Same.refl H2).upd np
  have b3:Bld [] H3 p ([PyData.list (C.map pD++(C.map pD).take 1),.list (C.map pD).dropLast,.list (C.map pD).reverse,.tuple (C.map pD),.none,.list (C.map pD++[pD (0,0)]),.list (C.map pD++[.none]),.list []]++[.list (C.map fun p=>.list [.int p.1,.int p.2]),.list (C.map fun p=>.tuple [.int p.1,.int p.2,.int 0]),.list (bs.map pD)]):=by
   refine ⟨w1++w2,by rw[← hH3];exact qac,x12.same fun x o e=>?_⟩
   have hx:x≠p:=fun z=>by rw[z,np] at e;cases e
   rw[qa2 (by simpa using hx)]
   exact s3 _ _ e
  clear hH3
  have np0:H p=none:=s12.free np
  refine gn ?_
  dsimp only
  have s13:=s12.trans s3
  obtain ⟨u3,e3,_⟩:=id b3
  have ul3:=b3.len e3
  refine ⟨_,rfl,.inl ⟨rfl,_,SqL.of e3⟩,?_⟩
  have bo:∀ {L:List Addr}{H1:Hp}{t:Addr}{r l:Int},At (yau H1 L) (.ref t) (pD (r,l))→Lay L (tCB (fun xs H Q=>(∃ i,xs=[V.int i]∧Q (V.bl (i != 0)) H)∨∃ k,xs=[V.bl k]∧Q (V.bl k) H) (qbj (tOp (rI (fun x j=>0<j) fun i j=>V.int (i % j)) (tOp (rIxT K) (tVar 0) (tC (V.int 1))) (tC (V.int 2))) tNil)) [some (.ref t)] (.bool (l % 2 != 0)) H1:=fun {L H1 t r l} a hL H2 s Q k=>by
   obtain ⟨t',us,e,ht,hu⟩:=a.tupEq
   cases e
   match us,hu with
   | [u1,u2],.cons b1 (.cons b2 .nil)=>
    have e1:=b1.intEq
    have e2:=b2.intEq
    subst e1 e2
    exact ⟨_,rfl,t,_,_,_,rfl,rfl,SqT.of (s _ _ (qae _ _ _ _ ht)),qad 1 rfl,_,_,rfl,rfl,(by show (0:Int)<2;decide),.inl ⟨_,rfl,k _ H2 (Same.refl H2) (.bl _)⟩⟩
  have orr:∀ {L:List Addr}{H1:Hp}{t:Addr}{r l:Int},At (yau H1 L) (.ref t) (pD (r,l))→Lay L (tOrV (tOp rEq (tOp (rIxT K) (tVar 0) (tC (V.int 0))) (tC (V.int 0))) (tOp (rIxT K) (tVar 0) (tC (V.int 0)))) [some (.ref t)] (if r=0 then .bool true else .int r) H1:=fun {L H1 t r l} a hL H2 s Q k=>by
   obtain ⟨t',us,e,ht,hu⟩:=a.tupEq
   cases e
   match us,hu with
   | [u1,u2],.cons b1 (.cons b2 .nil)=>
    have e1:=b1.intEq
    have e2:=b2.intEq
    subst e1 e2
    have ht2:=s _ _ (qae _ _ _ _ ht)
    refine ⟨_,rfl,t,_,_,_,rfl,rfl,SqT.of ht2,qad 0 rfl,rfl,_,rfl,?_⟩
    by_cases h0:r=0
    ·rw[if_pos h0] at k
     exact iteB (decide_eq_true (congrArg V.int h0)) (k _ H2 (Same.refl H2) (.bl _))
    ·rw[if_neg h0] at k
     exact iteN (decide_eq_false fun z=>h0 (by injection z)) ⟨_,rfl,t,_,_,_,rfl,rfl,SqT.of ht2,qad 0 rfl,k _ H2 (Same.refl H2) (.int _)⟩
  have hL3:∀ b∈[p],H3 b≠none:=fun b hb=>by rw[List.mem_singleton.mp hb,e3];intro z;cases z
  refine qcu (L:=[p]) (qc2 (f:=fun p=>.tuple [.int p.1,.bool (p.2 % 2 != 0)]) rfl (s13 _ _ hc) (hC.hid1 np0 s13) (by omega) fun D H4 t r l a=>?_) hL3 fun v4 H4 s4 a4=>?_
  ·exact qaq (qab (i0 a) (qab (bo a) qag))
  refine ⟨p,_,_,rfl,rfl,s4 _ _ e3,qcb (by rw[ul3];simp),?_⟩
  have b5:=(b3.grow s4).push (s4 _ _ e3) a4
  have s5:Same H (upd H4 p (.lst (u3++[v4]))):=(s13.trans s4).at np0
  revert b5 s5
  generalize upd H4 p (.lst (u3++[v4]))=H5
  intro b5 s5
  obtain ⟨u5,e5,_⟩:=id b5
  have ul5:=b5.len e5
  refine ⟨_,rfl,.inl ⟨rfl,_,SqL.of e5⟩,?_⟩
  have hL5:∀ b∈[p],H5 b≠none:=fun b hb=>by rw[List.mem_singleton.mp hb,e5];intro z;cases z
  refine qcu (L:=[p]) (qc2 (f:=fun p=>.tuple [if p.1=0 then .bool true else .int p.1,.int p.2]) rfl (s5 _ _ hc) (hC.hid1 np0 s5) (by omega) fun D H6 t r l a=>?_) hL5 fun v6 H6 s6 a6=>?_
  ·exact qaq (qab (orr a) (qab (i1 a) qag))
  refine ⟨p,_,_,rfl,rfl,s6 _ _ e5,qcb (by rw[ul5];simp),?_⟩
  have b7:=(b5.grow s6).push (s6 _ _ e5) a6
  have s7:Same H (upd H6 p (.lst (u5++[v6]))):=(s5.trans s6).at np0
  revert b7 s7
  generalize upd H6 p (.lst (u5++[v6]))=H7
  intro b7 s7
  have hgd:=bcL_gd h12 hbl hC12 hCl
  change Bld [] H7 p (bcL bs C) at b7
  obtain ⟨pp,u7,epp,e7,x7⟩:=b7.out.lstEq
  cases epp
  have m0:=Int.emod_nonneg dg (b:=13) (by decide)
  have m1:=Int.emod_lt_of_pos dg (b:=13) (by decide)
  obtain ⟨v,d,hv,hd,ha⟩:=x7.mem m0 (show dg % 13<(13:Int) from m1)
  exact ⟨_,rfl,_,rfl,_,_,rfl,rfl,(by show (0:Int)<13;decide),p,_,_,_,rfl,rfl,SqL.of e7,hv,k v d H7 s7 ha (hgd d (List.mem_of_getElem? hd))⟩
end
end Mc
namespace Mc
open PySem L2 PyProof.Rows Mx PySem.W
def bnd:Nat→Nat
 | 0=>110
 | n+1=>(bnd n+1)*4
theorem qdl:∀ n,110≤bnd n
 | 0=>Nat.le_refl _
 | n+1=>by have:=qdl n;show 110≤(bnd n+1)*4;omega
theorem qbk:∀ x∈([("cells" : Str),"split","Cells","none"]),Gd 0 8 (.str x):=fun x hx=>by
 refine ⟨?_,.leaf rfl rfl⟩
 have:(PyData.str x).showable=true∧(PyData.str x).depth≤0∧(PyData.str x).leavesShort 40=true∧(PyData.str x).bulk≤8:=by
  revert x
  decide +kernel
 exact this
theorem yef {D B:Nat}{a b:PyData} (ha:Gd D B a) (hb:Gd D B b):Gd (D+1) ((B+1)*2) (.tuple [a,b]):=Gd.tup (n:=2) (fun x hx=>by simp only[List.mem_cons,List.not_mem_nil,or_false] at hx;rcases hx with rfl|rfl<;>assumption) (by simp)
theorem ydx {D B:Nat}{a b c d:PyData} (ha:Gd D B a) (hb:Gd D B b) (hc:Gd D B c) (hd:Gd D B d):Gd (D+1) ((B+1)*4) (.tuple [a,b,c,d]):=Gd.tup (n:=4) (fun x hx=>by simp only[List.mem_cons,List.not_mem_nil,or_false] at hx;rcases hx with rfl|rfl|rfl|rfl<;>assumption) (by simp)
theorem qdk {n:Nat}{t:Tr} (h:TrS n t):Gd (n+3) (bnd n) (trD t):=by
 induction h with
 | @cells n C hl hp=>
  have hb:=qdl n
  unfold trD
  rw[qef]
  have h1:Gd 2 52 (.list (C.map pD)):=Gd.lst (n:=13) (fun x hx=>by obtain ⟨p,hp',rfl⟩:=List.mem_map.mp hx;exact qcq (hp p hp')) (by rw[List.length_map];omega) (by decide)
  exact (yef ((qbk "cells" (by simp)).mono (by omega) (by omega)) h1).mono (by omega) (by omega)
 | @nil n=>exact qes.mono (by omega) (by omega)
 | @split n r l a b hp _ _ ih1 ih2=>
  have hb:=qdl n
  exact ydx ((qbk "split" (by simp)).mono (by omega) (by omega)) ((qcq hp).mono (by omega) (by omega)) ih1 ih2
theorem lay_at {K:PySem.W.Frag}{L:List Addr}{σ:L2.St}{H:Hp}{te tb:TE}{ds:List PyData}{i:Int} (h:Lay L te σ (.list ds) H) (hb:∀ H1,Same H H1→∀ Q:VK,Q (.int i) H1→tb σ H1 Q) (h0:0≤i) (h1:i<ds.length) {d:PyData} (hd:ds[i.toNat]?=some d):Lay L (tOp (rIxL K) te tb) σ d H:=fun hL H1 s Q k=>
 h hL H1 s _ fun v H2 s2 a2=>hb H2 (s.trans s2) _ (by
  obtain ⟨a,vs,rfl,ha,hw⟩:=a2.lstEq
  obtain ⟨v,d',hv,hd',hx⟩:=hw.mem h0 h1
  rw[hd] at hd'
  cases hd'
  exact ⟨a,vs,i,v,rfl,rfl,SqL.of (qae _ _ _ _ ha),hv,k v H2 s2 hx⟩)
theorem yfu {n:Nat}{t:Tr} (h:TrS n t) (hn:t≠.nil):∃ es B,trD t=.tuple es∧2≤es.length∧es.length≤4∧(∀ x∈es,Gd (n+2) B x)∧8≤B∧(B+1)*5≤bnd (n+1):=by
 cases h with
 | cells hl hp=>
  have hb:=qdl n
  refine ⟨_,52,rfl,by simp,by simp,fun x hx=>?_,by decide,by show 265≤(bnd n+1)*4;omega⟩
  simp only[List.mem_cons,List.not_mem_nil,or_false] at hx
  rcases hx with rfl|rfl
  ·exact (qbk "cells" (by simp)).mono (by omega) (by omega)
  ·rw[qef]
   exact (Gd.lst (n:=13) (D:=1) (B:=3) (fun x hx=>by obtain ⟨p,hp',rfl⟩:=List.mem_map.mp hx;exact qcq (hp p hp')) (by rw[List.length_map];omega) (by decide)).mono (by omega) (by decide)
 | nil=>exact absurd rfl hn
 | @split n r l a b hp h1 h2=>
  have hb:=qdl n
  refine ⟨_,bnd n,rfl,by simp,by simp,fun x hx=>?_,by omega,by show (bnd n+1)*5≤((bnd n+1)*4+1)*4;omega⟩
  simp only[List.mem_cons,List.not_mem_nil,or_false] at hx
  rcases hx with rfl|rfl|rfl|rfl
  ·exact (qbk "split" (by simp)).mono (by omega) (by omega)
  ·exact (qcq hp).mono (by omega) (by omega)
  ·exact qdk h1
  ·exact qdk h2
theorem lay_set1 {te:TE}{σ:L2.St}{H:Hp}{d:PyData}{i:Nat}{D:Ends} (h:Lay [] te σ d H) (k:∀ v H',Same H H'→At H' v d→D.nx (σ.set i (some v)) H'):tAsg te (qco i) D σ H:=
 h (fun b hb=>by cases hb) H (Same.refl H) _ fun v H' s a=>k v H' s (a.same (qae _ _))
def som8 (es:List PyData) (o:PyData):List PyData:=[.none,.list es,.tuple es.dropLast,.tuple (es++[.none]),.tuple ([.str "Cells"]++es.drop 1),.tuple [.str "cells",.list [o]],.tuple [],.tuple [.list [],.list []]]
def som4 (es:List PyData) (o:PyData):List PyData:=[.tuple ([.str "split"]++es.drop 1),.tuple [.str "split",o,.none,.none],.tuple [.str "split",.tuple [.int 0,.int 0],.tuple es,.tuple es],.tuple [.str "none",.tuple es]]
section
variable {P:Program}{w:World}{K:PySem.W.Frag}{mg:Str→Option Value}{base:Heap}
def ydu (N:Nat):Sp:=fun vs H Q _=>∃ (b:Addr) (v:V) (d:Addr) (ts:List TL) (bs:Bs) (t:Tr) (ds:List Int),vs=[.ref b,v,.ref d]∧H b=some (.lst (yaf ts))∧PT H ts bs∧B12 bs∧1≤bs.length∧bs.length≤12∧TrAt AnyA H v t∧TrS N t∧H d=some (.lst (ds.map V.int))∧ds.length=8∧(∀ x∈ds,0≤x)∧
 ∀ r dd H',Same H H'→At H' r dd→Gd (N+5) (bnd (N+1)) dd→Q r H'
def qe1 (N:Nat):Sp:=fun vs H Q E=>0<N∧ydu (N-1) vs H Q E
abbrev ybg:Stmt:=top 25
theorem ycv:FnScope ["_law_broken","_law_tree_here","_law_d","_law_other","_law_some"] ["_law_broken","_law_tree_here","_law_d"] (yae ybg):=⟨rfl,rfl,rfl,by decide +kernel,rfl,by decide +kernel,by decide +kernel⟩
theorem yeu {N:Nat} (B:Bl mg) (qcs:Has P w K mg base 1 "_law_bent_cells" ["_law_broken","_law_cells","_law_d"] qd0) (ybw:Has P w K mg base (N+1) "_law_bent" ["_law_broken","_law_tree_here","_law_d"] (qe1 N)) (F:FnAt K mg "_law_bent" ybg ["_law_broken","_law_tree_here","_law_d"]):Has P w K mg base (N+2) "_law_bent" ["_law_broken","_law_tree_here","_law_d"] (ydu N):=by
 refine Has.ofQ F ycv (fun vs H Q E h=>?_) (fun f cdv A outer s H vs Q E hr h=>?_)
 ·obtain ⟨b,v,d,ts,bs,t,ds,rfl,_⟩:=h
  rfl
 ·obtain ⟨b,v,d,ts,bs,t,ds,rfl,hb,hP,h12,hb1,hbl,hT,hS,hd,hdl,hd0,k⟩:=h
  have sc:=ycv
  refine ⟨_,(yaq rfl (yac (qau (qt_of (pt_cmp (yd9 (pv 1))))
    (qaf (yag (yap qar (qas (qbq (qao (qam (qaa yay) (yd2 (qas yab) yab))) (qbq (qao (qam (qaa yay) (ycd (qa7 qa4 rfl (B.of rfl) boot_list (qah (qaa (pv 0)) yab)) yab))) (qbq (qao yab) (qam (qaa yay) yab))))) (yam qbg (yap qar (qaa (pv 2)) (qaa yaa) (fun _ _=>rfl)) (qaa yaa)) (fun _ _=>rfl))))
    yan)
   (yac (qau (QW.pt (qdg (yai ycs (yap qak (qaa (pv 1)) (qaa yaa) (fun _ _=>rfl)) (qaa yay) (yah _)) (ycg (yai yb4 (yam qbg (yap qar (qaa (pv 2)) (qaa yaa) (fun _ _=>rfl)) (qaa yaa)) (qaa yaa) (yah _)))))
    (yac (qau (yai ycs (yam qbg (yap qar (qaa (pv 2)) (qaa yaa) (fun _ _=>rfl)) (qaa yaa)) (qaa yaa) (yah _))
     (qaf (yag (yam ybb (qbx ybz (qaa (pv 1)) yav (yas yaa)) (qao (ycd (qaj (hk:=Nat.le_refl _) ybw hr (qah (qaa (pv 0)) (ya1 (yap qak (qaa (pv 1)) (qaa yaa) (fun _ _=>rfl)) (qbb (yam qb0 (qbx qb5 (qaa (pv 2)) (yas yaa) yav) (qbx qb5 (qaa (pv 2)) yav (yas yaa))) yab)))) (ya1 (yap qak (qaa (pv 1)) (qaa yaa) (fun _ _=>rfl)) yab))))))
     yan)
    (qaf (yag (yam ybb (qbx ybz (qaa (pv 1)) yav (yas yaa)) (qao (ycd (qaj (hk:=Nat.le_refl _) ybw hr (qah (qaa (pv 0)) (ya1 (yap qak (qaa (pv 1)) (qaa yaa) (fun _ _=>rfl)) (qbb (yam qb0 (qbx qb5 (qaa (pv 2)) (yas yaa) yav) (qbx qb5 (qaa (pv 2)) yav (yas yaa))) yab)))) yab))))))
    yan)
   (yac (qau (QW.pt (qdg (yai ycs (yap qak (qaa (pv 1)) (qaa yaa) (fun _ _=>rfl)) (qaa yay) (yah _)) (ycg (yai yb4 (yam qbg (yap qar (qaa (pv 2)) (qaa yaa) (fun _ _=>rfl)) (qaa yaa)) (qaa yaa) (yah _)))))
    (qaf (yag (qao (qam (qaa yay) (ycd (qaj (hk:=(by omega)) qcs hr (qah (qaa (pv 0)) (ya1 (yap qak (qaa (pv 1)) (qaa yaa) (fun _ _=>rfl)) (ya1 (yap qar (qaa (pv 2)) (qaa yaa) (fun _ _=>rfl)) yab)))) yab)))))
    yan)
   (yac (yal (i:=3) sc.nd rfl (Or.inl rfl) (yap qar (qaa (pv 0)) (yam qbg (yap qar (qaa (pv 2)) (qaa yaa) (fun _ _=>rfl)) (yak yaj rfl (B.of rfl) boot_len (qah (qaa (pv 0)) yab))) (fun _ _=>rfl)))
   (yac (yal (i:=4) sc.nd rfl (Or.inl rfl) (qas (qam (qaa ybl) (ycd (qa7 qa4 rfl (B.of rfl) boot_list (qah (qaa (pv 1)) yab)) (ya1 (qbx ybz (qaa (pv 1)) yav (yas (pe_un qgk yaa))) (qbb (yam ybb (qaa (pv 1)) (qao (qam (qaa ybl) yab))) (qbb (yam ybb (qao (qam (qaa yay) yab)) (qbx ybz (qaa (pv 1)) (yas yaa) yav)) (qbq (qao (qam (qaa yay) (yd2 (qas (qah (qaa (pv 3)) yab)) yab))) (qbq (qao yab) (qbq (qao (yd2 (qas yab) (yd2 (qas yab) yab))) yab))))))))))
   (yac (yal (i:=4) sc.nd rfl (Or.inl rfl) (yam qb0 (qaa (pv 4)) (qas (qbb (yam ybb (qao (qam (qaa yay) yab)) (qbx ybz (qaa (pv 1)) (yas yaa) yav)) (qbq (qao (qam (qaa yay) (qah (qaa (pv 3)) (qam (qaa ybl) (qam (qaa ybl) yab))))) (qbq (qao (qam (qaa yay) (qbq (qao (qam (qaa yaa) (qam (qaa yaa) yab))) (qah (qaa (pv 1)) (qah (qaa (pv 1)) yab))))) (qbq (qao (qam (qaa yay) (qah (qaa (pv 1)) yab))) yab)))))))
   (qcr (qau (yai ycs (yap qak (qaa (pv 1)) (qaa yaa) (fun _ _=>rfl)) (qaa yay) (yah _))
    (yac (yal (i:=4) sc.nd rfl (Or.inl rfl) (yam qb0 (qaa (pv 4)) (qas (qbb (yam ybb (yam ybb (qbx ybz (qaa (pv 1)) yav (yas yaa)) (qao (qah (qaa (pv 3)) yab))) (qbx ybz (qaa (pv 1)) (yas yaa) yav)) (qbb (yam ybb (qbx ybz (qaa (pv 1)) yav (yas yaa)) (qao (ya1 (yap qak (qaa (pv 1)) (qaa yaa) (fun _ _=>rfl)) (ya1 (yap qak (qaa (pv 1)) (qaa yaa) (fun _ _=>rfl)) yab)))) (qbb (yam ybb (qbx ybz (qaa (pv 1)) yav (yas yaa)) (qao (qam (qaa ybl) (ya1 (yap qak (qaa (pv 1)) (qaa yaa) (fun _ _=>rfl)) yab)))) yab))))))
    (qaf (yal (i:=4) sc.nd rfl (Or.inl rfl) (yam qb0 (qaa (pv 4)) (qas (qbb (yam ybb (qbx ybz (qaa (pv 1)) yav (yas yaa)) (qao (qam (qaa ybl) yab))) (qbb (yam ybb (qao (ya1 (yap qak (qaa (pv 1)) (qaa yaa) (fun _ _=>rfl)) (ycd (qa7 qa4 rfl (B.of rfl) boot_list (ya1 (yap qak (qaa (pv 1)) (qaa yaa) (fun _ _=>rfl)) yab)) yab))) (qbx ybz (qaa (pv 1)) (yas yaa) yav)) (qbb (yam ybb (qao (ya1 (yap qak (qaa (pv 1)) (qaa yaa) (fun _ _=>rfl)) (qam (qaa ybl) yab))) (qbx ybz (qaa (pv 1)) (yas yaa) yav)) yab))))))))
    yan)
   (qaf (yag (yap qar (qaa (pv 4)) (yam qbg (yap qar (qaa (pv 2)) (qaa yaa) (fun _ _=>rfl)) (yak yaj rfl (B.of rfl) boot_len (qah (qaa (pv 4)) yab))) (fun _ _=>rfl)))))))))))),?_⟩
  have aT:=hT.at
  have gT:=qdk hS
  have bl:=qdl N
  have eb:bnd (N+1)=(bnd N+1)*4:=rfl
  have dAt:∀ i:Nat,i<8→∃ x,ds[i]?=some x∧0≤x:=fun i hi=>⟨ds[i]'(by omega),by simp[show i<ds.length by omega],hd0 _ (List.getElem_mem _)⟩
  obtain ⟨x0,g0,p0⟩:=dAt 0 (by decide)
  obtain ⟨x1,g1,p1⟩:=dAt 1 (by decide)
  obtain ⟨x2,g2,p2⟩:=dAt 2 (by decide)
  obtain ⟨x3,g3,p3⟩:=dAt 3 (by decide)
  have aB:=qfm hb hP
  have gB:Gd 2 52 (.list (bs.map pD)):=Gd.lst (n:=13) (fun x hx=>by obtain ⟨p,hp',rfl⟩:=List.mem_map.mp hx;exact qcq (h12 p hp')) (by rw[List.length_map];omega) (by decide)
  refine ⟨_,rfl,_,rfl,?_⟩
  by_cases hnil:t=.nil
  ·subst hnil
   cases hT
   refine iteB rfl ?_
   have m0:=Int.emod_nonneg x1 (b:=4) (by decide)
   have m1:=Int.emod_lt_of_pos x1 (b:=4) (by decide)
   obtain ⟨dd,hdd⟩:∃ dd,[PyData.tuple [.str "cells",.list []],.tuple [.str "cells",.list (bs.map pD)],.tuple [],.str "cells"][(x1 % 4).toNat]?=some dd:=⟨_,List.getElem?_eq_getElem (by show (x1 % 4).toNat<4;omega)⟩
   refine lay_ret (d:=dd) (lay_at (i:=x1 % 4) (ds:=[PyData.tuple [.str "cells",.list []],.tuple [.str "cells",.list (bs.map pD)],.tuple [],.str "cells"]) ?_ (fun H1 s1 Q1 q1=>⟨_,rfl,d,_,_,_,rfl,rfl,SqL.of (s1 _ _ hd),qad 1 (qaw g1),_,_,rfl,rfl,(by show (0:Int)<4;decide),q1⟩) m0 (show x1 % 4<(4:Int) from m1) hdd) fun r H' s' a'=>k r dd H' s' a' ?_
   ·exact qat (qab (qaq (qab ybo (qab (qat qag) qag))) (qab (qaq (qab ybo (qab (qc6 (qav rfl (hid0 aB))) qag))) (qab (qaq qag) (qab ybo qag))))
   ·have hm:=List.mem_of_getElem? hdd
    have wc:=(qbk "cells" (by simp)).mono (D':=2) (B':=52) (by decide) (by decide)
    simp only[List.mem_cons,List.not_mem_nil,or_false] at hm
    rcases hm with rfl|rfl|rfl|rfl
    ·exact (yef wc ((Gd.lst (n:=0) (D:=1) (B:=0) (xs:=[]) (fun x hx=>by cases hx) (by simp) (by decide)).mono (by decide) (by decide))).mono (by omega) (by omega)
    ·exact (yef wc gB).mono (by omega) (by omega)
    ·exact (Gd.tup (n:=0) (D:=0) (B:=0) (xs:=[]) (fun x hx=>by cases hx) (by simp)).mono (by omega) (by omega)
    ·exact wc.mono (by omega) (by omega)
  have hvn:v≠.non:=fun z=>by
   rw[z] at hT
   cases hT
   exact hnil rfl
  refine iteN (decide_eq_false hvn) ?_
  obtain ⟨es,Bb,ees,el2,el4,hes,hB8,hB5⟩:=yfu hS hnil
  have aE:At H v (.tuple es):=ees ▸ aT
  obtain ⟨p,us,rfl,hp,hu⟩:=id aE.tupEq
  have hul:=hu.length
  have tupG:∀ {xs:List PyData},(∀ x∈xs,Gd (N+2) Bb x)→xs.length≤5→Gd (N+5) (bnd (N+1)) (.tuple xs):=fun h hl=>(Gd.tup (n:=5) h hl).mono (by omega) hB5
  have lstG:∀ {xs:List PyData},(∀ x∈xs,Gd (N+2) Bb x)→xs.length≤5→Gd (N+5) (bnd (N+1)) (.list xs):=fun h hl=>(Gd.lst (n:=5) h hl (by decide)).mono (by omega) hB5
  have wG:∀ x∈([("cells" : Str),"split","Cells","none"]),Gd (N+2) Bb (.str x):=fun x hx=>(qbk x hx).mono (by omega) hB8
  have nG:Gd (N+2) Bb .none:=qes.mono (by omega) (by omega)
  have m30:=Int.emod_nonneg x0 (b:=3) (by decide)
  have m31:=Int.emod_nonneg x1 (b:=3) (by decide)
  refine' ye8 (S:=fun H1=>H1=H) (fun rest=>?main) ?st2
  case main=>
   cases hT with
   | @cells p c cs C hp' hc hC _ hl=>
    refine ⟨_,rfl,p,_,_,_,rfl,rfl,SqT.of hp',qad 0 rfl,rfl,_,rfl,iteN (by decide +kernel) (iteF ?_)⟩
    refine ⟨_,rfl,p,_,_,_,rfl,rfl,SqT.of hp',qad 0 rfl,rfl,_,rfl,iteB (by decide +kernel) ?_⟩
    refine ⟨_,rfl,d,_,_,_,rfl,rfl,SqL.of hd,qad 1 (qaw g1),_,_,rfl,rfl,(by show (0:Int)<3;decide),_,_,rfl,rfl,_,rfl,?_⟩
    by_cases h3:0<x1 % 3
    rotate_left
    ·exact yca h3 (rest H rfl)
    refine iteD h3 ?_
    have hC':C.length≤12∧∀ p∈C,P12 p:=by
     cases hS with
     | cells a b=>exact ⟨a,b⟩
    refine ⟨_,rfl,_,rfl,p,_,_,_,rfl,rfl,SqT.of hp',qad 1 rfl,_,rfl,d,_,_,_,rfl,rfl,SqL.of hd,qad 2 (qaw g2),b,c,x2,ts,cs,bs,C,rfl,hb,hP,h12,hbl,hc,hC,hC'.2,hC'.1,fun v' dd H1 s1 a1 gd=>⟨(by show 2≤sizeLine;decide),fun q nq=>?_⟩⟩
    have s2:=(Same.refl H1).upd (o:=.tup [.str "cells",v']) nq
    exact k (.ref q) (.tuple [.str "cells",dd]) _ (s1.trans s2) (.tup qac (.cons (.str _) (.cons (a1.same s2) .nil))) ((yef ((qbk "cells" (by simp)).mono (by decide) (by decide)) gd).mono (by omega) (by omega))
   | @split p e r l v1 v2 t1 t2 hp' he hT1 hT2=>
    refine ⟨_,rfl,p,_,_,_,rfl,rfl,SqT.of hp',qad 0 rfl,rfl,_,rfl,iteB (by decide +kernel) ?_⟩
    refine ⟨_,rfl,d,_,_,_,rfl,rfl,SqL.of hd,qad 0 (qaw g0),_,_,rfl,rfl,(by show (0:Int)<3;decide),_,_,rfl,rfl,_,rfl,?_⟩
    by_cases h3:0<x0 % 3
    rotate_left
    ·refine yca h3 ?_
     exact ⟨_,rfl,p,_,_,_,rfl,rfl,SqT.of hp',qad 0 rfl,rfl,_,rfl,iteN (by decide +kernel) (iteF (rest H rfl))⟩
    refine iteD h3 ?_
    obtain ⟨n,rfl,hp12,hS1,hS2⟩:∃ n,N=n+1∧P12 (r,l)∧TrS n t1∧TrS n t2:=by
     cases hS with
     | split a b c=>exact ⟨_,rfl,a,b,c⟩
    have aPair:At H (.ref e) (pD (r,l)):=.tup he (.cons (.int _) (.cons (.int _) .nil))
    have rot:∀ {H1:Hp}{Q1:VK}{σ1:L2.St},Same H H1→σ1[2]?=some (some (.ref d))→(∀ dq H2,Same H1 H2→H2 dq=some (.lst ((ds.drop 1++ds.take 1).map V.int))→Q1 (.ref dq) H2)→tOp rCat (tSl (rSlL K) (tVar 2) (ydq (tC (.int 1))) ybt) (tSl (rSlL K) (tVar 2) ybt (ydq (tC (.int 1)))) σ1 H1 Q1:=fun {H1 Q1 σ1} s1 hσ q1=>by
     have aD:At (yau H1 []) (.ref d) (.list (ds.map PyData.int)):=hid0 (.lst (s1 _ _ hd) (qc5 ds))
     refine qcu (L:=[]) (d:=.list ((ds.map PyData.int).drop 1++(ds.map PyData.int).take 1)) (qbs (lay_drop (qav hσ aD) qc0) (qe4 (qav hσ aD) qc0) (by simp;omega)) (fun b hb=>by cases hb) fun v' H2 s2 a2=>?_
     rw[← List.map_drop,← List.map_take,← List.map_append] at a2
     obtain ⟨dq,rfl,e2⟩:=qcl (a2.same (qae _ _))
     exact q1 dq H2 s2 e2
    have rl8:(ds.drop 1++ds.take 1).length=8:=by simp;omega
    have rp:∀ x∈ds.drop 1++ds.take 1,0≤x:=fun x hx=>by
     rcases List.mem_append.mp hx with hx|hx
     ·exact hd0 x (List.mem_of_mem_drop hx)
     ·exact hd0 x (List.mem_of_mem_take hx)
    refine ⟨_,rfl,d,_,_,_,rfl,rfl,SqL.of hd,qad 0 (qaw g0),_,_,rfl,rfl,(by show (0:Int)<3;decide),rfl,_,rfl,?_⟩
    by_cases hx1:x0 % 3=1
    ·refine iteB (decide_eq_true (congrArg V.int hx1)) ?_
     refine ⟨_,rfl,2,rfl,p,_,rfl,SqT.of hp',(fun ⟨_,z⟩=>by rw[show (2:Int)=((2:Nat):Int) from rfl,HT.sIx_nat] at z;simp at z),fun q1 n1=>?_⟩
     have s1:=(Same.refl H).upd (o:=.tup [.str "split",.ref e]) n1
     have f1:upd H q1 (.tup [.str "split",.ref e]) q1=some (.tup [.str "split",.ref e]):=qac
     rw[show cutV [V.str "split",.ref e,v1,v2] none (some 2)=[.str "split",.ref e] from rfl]
     revert s1 f1
     generalize upd H q1 (.tup [.str "split",.ref e])=H1
     intro s1 f1
     refine ⟨_,rfl,_,rfl,p,_,_,_,rfl,rfl,SqT.of (s1 _ _ hp'),qad 2 rfl,rot s1 rfl fun dq H2 s2 e2=>?_⟩
     have s12:=s1.trans s2
     refine ⟨by omega,b,v1,dq,ts,bs,t1,_,rfl,s12 _ _ hb,hP.same s12,h12,hb1,hbl,hT1.same s12,hS1,e2,rl8,rp,fun v' dd H3 s3 a3 gd=>?_⟩
     have s13:=s12.trans s3
     refine ⟨_,rfl,p,_,_,_,rfl,rfl,SqT.of (s13 _ _ hp'),qad 3 rfl,(by show 2≤sizeLine;decide),fun q2 n2=>?_⟩
     have s4:=(Same.refl H3).upd (o:=.tup [v',v2]) n2
     have f4:upd H3 q2 (.tup [v',v2]) q2=some (.tup [v',v2]):=qac
     revert s4 f4
     generalize upd H3 q2 (.tup [v',v2])=H4
     intro s4 f4
     refine ⟨q1,q2,_,_,rfl,rfl,SqT.of ((s2.trans (s3.trans s4)) _ _ f1),SqT.of f4,by simp,(by show 4≤sizeLine;decide),(fun z=>by cases z),fun _ q nq=>?_⟩
     have s5:=(Same.refl H4).upd (o:=.tup ([V.str "split",.ref e]++[v',v2])) nq
     have s05:=s13.trans (s4.trans s5)
     exact k (.ref q) (.tuple [.str "split",pD (r,l),dd,trD t2]) _ s05 (.tup qac (.cons (.str _) (.cons (aPair.same s05) (.cons (a3.same (s4.trans s5)) (.cons (hT2.at.same s05) .nil))))) (ydx ((qbk "split" (by simp)).mono (by omega) (by omega)) ((qcq hp12).mono (by omega) (by omega)) gd ((qdk hS2).mono (by omega) (by show bnd n≤(bnd n+1)*4;omega)))
    ·refine iteN (decide_eq_false fun z=>hx1 (by injection z)) ?_
     refine ⟨_,rfl,3,rfl,p,_,rfl,SqT.of hp',(fun ⟨_,z⟩=>by rw[show (3:Int)=((3:Nat):Int) from rfl,HT.sIx_nat] at z;simp at z),fun q1 n1=>?_⟩
     have s1:=(Same.refl H).upd (o:=.tup [.str "split",.ref e,v1]) n1
     have f1:upd H q1 (.tup [.str "split",.ref e,v1]) q1=some (.tup [.str "split",.ref e,v1]):=qac
     rw[show cutV [V.str "split",.ref e,v1,v2] none (some 3)=[.str "split",.ref e,v1] from rfl]
     revert s1 f1
     generalize upd H q1 (.tup [.str "split",.ref e,v1])=H1
     intro s1 f1
     refine ⟨_,rfl,_,rfl,p,_,_,_,rfl,rfl,SqT.of (s1 _ _ hp'),qad 3 rfl,rot s1 rfl fun dq H2 s2 e2=>?_⟩
     have s12:=s1.trans s2
     refine ⟨by omega,b,v2,dq,ts,bs,t2,_,rfl,s12 _ _ hb,hP.same s12,h12,hb1,hbl,hT2.same s12,hS2,e2,rl8,rp,fun v' dd H3 s3 a3 gd=>?_⟩
     have s13:=s12.trans s3
     refine ⟨(by show 1≤sizeLine;decide),fun q2 n2=>?_⟩
     have s4:=(Same.refl H3).upd (o:=.tup [v']) n2
     have f4:upd H3 q2 (.tup [v']) q2=some (.tup [v']):=qac
     revert s4 f4
     generalize upd H3 q2 (.tup [v'])=H4
     intro s4 f4
     refine ⟨q1,q2,_,_,rfl,rfl,SqT.of ((s2.trans (s3.trans s4)) _ _ f1),SqT.of f4,by simp,(by show 4≤sizeLine;decide),(fun z=>by cases z),fun _ q nq=>?_⟩
     have s5:=(Same.refl H4).upd (o:=.tup ([V.str "split",.ref e,v1]++[v'])) nq
     have s05:=s13.trans (s4.trans s5)
     exact k (.ref q) (.tuple [.str "split",pD (r,l),trD t1,dd]) _ s05 (.tup qac (.cons (.str _) (.cons (aPair.same s05) (.cons (hT1.at.same s05) (.cons (a3.same (s4.trans s5)) .nil))))) (ydx ((qbk "split" (by simp)).mono (by omega) (by omega)) ((qcq hp12).mono (by omega) (by omega)) ((qdk hS1).mono (by omega) (by show bnd n≤(bnd n+1)*4;omega)) gd)
  case st2=>
   rintro H1 rfl
   have hpl:=hP.len
   have lr:(yaf ts).length=ts.length:=by unfold yaf;rw[List.length_map]
   have x20:=Int.emod_nonneg x2 (show (ts.length:Int)≠0 by omega)
   have x21:=Int.emod_lt_of_pos x2 (show (0:Int)<(ts.length:Int) by omega)
   obtain ⟨i0,hi0⟩:∃ i0:Nat,x2 % (ts.length:Int)=(i0:Int):=⟨(x2 % (ts.length:Int)).toNat,by omega⟩
   have hi0l:i0<ts.length:=by omega
   obtain ⟨r,l,et,hrl,hat⟩:=hP.of_mem (List.getElem_mem hi0l)
   have ht0:(yaf ts)[i0]?=some (.ref ts[i0].1):=by unfold yaf;rw[List.getElem?_map,List.getElem?_eq_getElem hi0l];rfl
   refine ⟨_,rfl,_,rfl,d,_,_,_,rfl,rfl,SqL.of hd,qad 2 (qaw g2),_,rfl,b,_,rfl,.inl (SqL.of hb),_,_,rfl,rfl,by rw[lr];omega,?_⟩
   rw[lr]
   refine ⟨b,_,_,_,rfl,rfl,SqL.of hb,by rw[hi0];exact qbv ht0,?_⟩
   generalize ts[i0].1=o at hat
   have aO:At H1 (.ref o) (pD (r,l)):=.tup hat (.cons (.int _) (.cons (.int _) .nil))
   have gO:Gd (N+2) Bb (pD (r,l)):=(qcq (h12 _ hrl)).mono (by omega) (by omega)
   refine gn ?_
   dsimp only
   have dl:(es.drop 1).length≤3:=by rw[List.length_drop];omega
   refine qdz (d:=.list (som8 es (pD (r,l)))) ?_ fun v1 H2 s2 a2=>?_
   ·have vT:Lay [] (tVar 1) [some (.ref b),some (.ref p),some (.ref d),some (.ref o),none] (.tuple es) H1:=qav rfl (hid0 aE)
    refine qat (qab qbo (qab (qcp vT) (qab (yfl vT (by omega)) (qab (yba vT (qaq (qab qbo qag)) (fun z=>by rw[z] at el2;simp at el2) (by simp;omega)) (qab (yba (qaq (qab ybo qag)) (qb4 vT qc0 (by omega) (by omega)) (by simp) (by simp;omega)) (qab (qaq (qab ybo (qab (qat (qab (qav rfl (hid0 aO)) qag)) qag))) (qab (qaq qag) (qab (qaq (qab (qat qag) (qab (qat qag) qag))) qag))))))))
   refine qdz (d:=.list (som8 es (pD (r,l))++som4 es (pD (r,l)))) ?_ fun v2 H3 s3 a3=>?_
   ·have vT:Lay [] (tVar 1) [some (.ref b),some (.ref p),some (.ref d),some (.ref o),some v1] (.tuple es) H2:=qav rfl (hid0 (aE.same s2))
    refine qbs (qav rfl (hid0 a2)) (qat (qab (yba (qaq (qab ybo qag)) (qb4 vT qc0 (by omega) (by omega)) (by simp) (by simp;omega)) (qab (qaq (qab ybo (qab (qav rfl (hid0 (aO.same s2))) (qab qbo (qab qbo qag))))) (qab (qaq (qab ybo (qab (qaq (qab qbn (qab qbn qag))) (qab vT (qab vT qag))))) (qab (qaq (qab ybo (qab vT qag))) qag))))) (Nat.le_of_ble_eq_true rfl)
   have s13:=s2.trans s3
   have gS:∀ x∈som8 es (pD (r,l))++som4 es (pD (r,l)),Gd (N+5) (bnd (N+1)) x:=by
    have gTE:Gd (N+3) (bnd N) (.tuple es):=ees ▸ gT
    have two:∀ {a b:PyData},Gd (N+2) Bb a→Gd (N+2) Bb b→Gd (N+5) (bnd (N+1)) (.tuple [a,b]):=fun ha hb=>tupG (fun x hx=>by simp only[List.mem_cons,List.not_mem_nil,or_false] at hx;rcases hx with rfl|rfl<;>assumption) (by simp)
    have e0:Gd (N+2) Bb (.list []):=(Gd.lst (n:=0) (D:=0) (B:=0) (xs:=[]) (fun x hx=>by cases hx) (by simp) (by decide)).mono (by omega) (by omega)
    intro x hx
    simp only[som8,som4,List.cons_append,List.nil_append,List.mem_cons,List.not_mem_nil,or_false] at hx
    rcases hx with rfl|rfl|rfl|rfl|rfl|rfl|rfl|rfl|rfl|rfl|rfl|rfl
    ·exact nG.mono (by omega) (by omega)
    ·exact lstG hes (by omega)
    ·exact tupG (fun x hx=>hes x (List.dropLast_subset _ hx)) (by rw[List.length_dropLast];omega)
    ·refine tupG (fun x hx=>?_) (by simp;omega)
     rcases List.mem_append.mp hx with hx|hx
     ·exact hes x hx
     ·rw[List.mem_singleton.mp hx];exact nG
    ·refine tupG (fun x hx=>?_) (by simp;omega)
     rcases List.mem_cons.mp hx with rfl|hx
     ·exact wG _ (by simp)
     ·exact hes x (List.mem_of_mem_drop hx)
    ·refine two (wG _ (by simp)) ?_
     exact (Gd.lst (n:=1) (D:=1) (B:=3) (xs:=[pD (r,l)]) (fun x hx=>by rw[List.mem_singleton.mp hx];exact qcq (h12 _ hrl)) (by simp) (by decide)).mono (by omega) (by omega)
    ·exact tupG (fun x hx=>by cases hx) (by simp)
    ·exact two e0 e0
    ·refine tupG (fun x hx=>?_) (by simp;omega)
     rcases List.mem_cons.mp hx with rfl|hx
     ·exact wG _ (by simp)
     ·exact hes x (List.mem_of_mem_drop hx)
    ·refine tupG (fun x hx=>?_) (by simp)
     simp only[List.mem_cons,List.not_mem_nil,or_false] at hx
     rcases hx with rfl|rfl|rfl|rfl
     ·exact wG _ (by simp)
     ·exact gO
     ·exact nG
     ·exact nG
    ·exact (ydx ((qbk "split" (by simp)).mono (by omega) (by omega)) ((qcq (p:=(0,0)) ⟨⟨by decide,by decide⟩,by decide,by decide⟩).mono (by omega) (by omega)) gTE gTE).mono (by omega) (by omega)
    ·exact (yef ((qbk "none" (by simp)).mono (by omega) (by omega)) gTE).mono (by omega) (by omega)
   refine ⟨fun σ' H4=>∃ vs so,σ'=[some (.ref b),some (.ref p),some (.ref d),some (.ref o),some vs]∧Same H1 H4∧At H4 vs (.list so)∧0<so.length∧so.length≤1000∧∀ x∈so,Gd (N+5) (bnd (N+1)) x,?_,?_⟩
   ·have l12:(som8 es (pD (r,l))++som4 es (pD (r,l))).length=12:=rfl
    cases hT with
    | @cells p c cs C hp' hc hC _ hl=>
     exact ⟨_,rfl,p,_,_,_,rfl,rfl,SqT.of (s13 _ _ hp'),qad 0 rfl,rfl,_,rfl,iteN (by decide +kernel) ⟨v2,_,rfl,s13,a3,by omega,by omega,gS⟩⟩
    | @split p e r' l' w1 w2 t1 t2 hp' he hT1 hT2=>
     refine ⟨_,rfl,p,_,_,_,rfl,rfl,SqT.of (s13 _ _ hp'),qad 0 rfl,rfl,_,rfl,iteB (by decide +kernel) ?_⟩
     have ees':es=[.str "split",pD (r',l'),trD t1,trD t2]:=(PyData.tuple.inj ees).symm
     subst ees'
     have g1':=hes (.str "split") (by simp)
     have g2':=hes (pD (r',l')) (by simp)
     have g3':=hes (trD t1) (by simp)
     have g4':=hes (trD t2) (by simp)
     have gl:Gd (N+2) Bb (.list [.int r',.int l']):=by
      have hp12:P12 (r',l'):=by
       cases hS with
       | split a b c=>exact a
      obtain ⟨q1,q2⟩:=yet hp12
      exact (Gd.lst (n:=2) (D:=0) (B:=0) (xs:=[.int r',.int l']) (fun x hx=>by simp only[List.mem_cons,List.not_mem_nil,or_false] at hx;rcases hx with rfl|rfl;exact ⟨q1,.leaf rfl rfl⟩;exact ⟨q2,.leaf rfl rfl⟩) (by simp) (by decide)).mono (by omega) (by omega)
     have four:∀ {a b c d:PyData},Gd (N+2) Bb a→Gd (N+2) Bb b→Gd (N+2) Bb c→Gd (N+2) Bb d→Gd (N+5) (bnd (N+1)) (.tuple [a,b,c,d]):=fun ha hb hc hd=>tupG (fun x hx=>by simp only[List.mem_cons,List.not_mem_nil,or_false] at hx;rcases hx with rfl|rfl|rfl|rfl<;>assumption) (by simp)
     have ixv:∀ {H5:Hp}{y:V}{j:Nat}{dj:PyData},Same H1 H5→[PyData.str "split",pD (r',l'),trD t1,trD t2][j]?=some dj→Lay [] (tOp (rIxT K) (tVar 1) (tC (.int (j:Int)))) [some (.ref b),some (.ref p),some (.ref d),some (.ref o),some y] dj H5:=fun {H5 y j dj} s5 hj=>yeq (qav rfl (hid0 (aE.same s5))) (fun _ _ z=>z) hj fun vs _ v hv=>qbv hv
     refine qdz (d:=.list ((som8 [.str "split",pD (r',l'),trD t1,trD t2] (pD (r,l))++som4 [.str "split",pD (r',l'),trD t1,trD t2] (pD (r,l)))++[.tuple [.str "split",pD (r,l),trD t1,trD t2],.tuple [.str "split",pD (r',l'),trD t2,trD t1],.tuple [.str "split",pD (r',l'),.none,trD t2]])) ?_ fun v3 H5 s5 a5=>?_
     ·have vT:Lay [] (tVar 1) [some (.ref b),some (.ref p),some (.ref d),some (.ref o),some v2] (.tuple [.str "split",pD (r',l'),trD t1,trD t2]) H3:=qav rfl (hid0 (aE.same s13))
      refine qbs (qav rfl (hid0 a3)) (qat (qab (yba (ds:=[.str "split",pD (r,l)]) (es:=[trD t1,trD t2]) (yba (ds:=[.str "split"]) (es:=[pD (r,l)]) (qcn (n:=1) vT qc0 (by simp)) (qaq (qab (qav rfl (hid0 (aO.same s13))) qag)) (by simp) (by simp)) (qb4 (n:=2) vT qc0 (by simp) (by simp)) (by simp) (by simp)) (qab (yba (ds:=[.str "split",pD (r',l')]) (es:=[trD t2,trD t1]) (qcn (n:=2) vT qc0 (by simp)) (qaq (qab (ixv (j:=3) s13 rfl) (qab (ixv (j:=2) s13 rfl) qag))) (by simp) (by simp)) (qab (yba (ds:=[.str "split",pD (r',l')]) (es:=[.none,trD t2]) (qcn (n:=2) vT qc0 (by simp)) (qaq (qab qbo (qab (ixv (j:=3) s13 rfl) qag))) (by simp) (by simp)) qag)))) (Nat.le_of_ble_eq_true rfl)
     have s15:=s13.trans s5
     refine lay_set1 (d:=.list (((som8 [.str "split",pD (r',l'),trD t1,trD t2] (pD (r,l))++som4 [.str "split",pD (r',l'),trD t1,trD t2] (pD (r,l)))++[.tuple [.str "split",pD (r,l),trD t1,trD t2],.tuple [.str "split",pD (r',l'),trD t2,trD t1],.tuple [.str "split",pD (r',l'),.none,trD t2]])++[.tuple [.str "split",pD (r',l'),trD t1,.none],.tuple [.str "split",.list [.int r',.int l'],trD t1,trD t2],.tuple [.str "split",.none,trD t1,trD t2]])) ?_ fun v4 H6 s6 a6=>?_
     ·have vT:Lay [] (tVar 1) [some (.ref b),some (.ref p),some (.ref d),some (.ref o),some v3] (.tuple [.str "split",pD (r',l'),trD t1,trD t2]) H5:=qav rfl (hid0 (aE.same s15))
      refine qbs (qav rfl (hid0 a5)) (qat (qab (yba (ds:=[.str "split",pD (r',l'),trD t1]) (es:=[.none]) (qcn (n:=3) vT qc0 (by simp)) (qaq (qab qbo qag)) (by simp) (by simp)) (qab (yba (ds:=[.str "split",.list [.int r',.int l']]) (es:=[trD t1,trD t2]) (qaq (qab (ixv (j:=0) s15 rfl) (qab (qcp (ixv (j:=1) s15 rfl)) qag))) (qb4 (n:=2) vT qc0 (by simp) (by simp)) (by simp) (by simp)) (qab (yba (ds:=[.str "split",.none]) (es:=[trD t1,trD t2]) (qaq (qab (ixv (j:=0) s15 rfl) (qab qbo qag))) (qb4 (n:=2) vT qc0 (by simp) (by simp)) (by simp) (by simp)) qag)))) (Nat.le_of_ble_eq_true rfl)
     refine ⟨v4,_,rfl,s15.trans s6,a6,by simp[som8,som4],by simp[som8,som4],fun x hx=>?_⟩
     rcases List.mem_append.mp hx with hx|hx
     ·rcases List.mem_append.mp hx with hx|hx
      ·exact gS x hx
      ·simp only[List.mem_cons,List.not_mem_nil,or_false] at hx
       rcases hx with rfl|rfl|rfl
       ·exact four g1' gO g3' g4'
       ·exact four g1' g2' g4' g3'
       ·exact four g1' g2' nG g4'
     ·simp only[List.mem_cons,List.not_mem_nil,or_false] at hx
      rcases hx with rfl|rfl|rfl
      ·exact four g1' g2' g3' nG
      ·exact four g1' gl g3' g4'
      ·exact four g1' nG g3' g4'
   rintro _ H4 ⟨vs,so,rfl,s4,a4,l0,l1000,gso⟩
   obtain ⟨ps,ws,rfl,hps,hws⟩:=a4.lstEq
   have hwl:=hws.length
   have x30:=Int.emod_nonneg x3 (show (ws.length:Int)≠0 by omega)
   have x31:=Int.emod_lt_of_pos x3 (show (0:Int)<(ws.length:Int) by omega)
   obtain ⟨v',dd,hv,hdd,ha⟩:=hws.mem x30 (show x3 % (ws.length:Int)<(so.length:Int) by omega)
   exact ⟨_,rfl,_,rfl,d,_,_,_,rfl,rfl,SqL.of (s4 _ _ hd),qad 3 (qaw g3),_,rfl,ps,_,rfl,.inl (SqL.of hps),_,_,rfl,rfl,by omega,ps,_,_,_,rfl,rfl,SqL.of hps,hv,k v' dd H4 s4 ha (gso dd (List.mem_of_getElem? hdd))⟩
theorem qfk (B:Bl mg) (h1:Has P w K mg base 1 "_law_bent_cells" ["_law_broken","_law_cells","_law_d"] qd0) (F:FnAt K mg "_law_bent" ybg ["_law_broken","_law_tree_here","_law_d"]):∀ N,Has P w K mg base (N+2) "_law_bent" ["_law_broken","_law_tree_here","_law_d"] (ydu N)
 | 0=>by
  refine yeu B h1 ?_ F
  obtain ⟨f,fd,e1,e2,e3⟩:=F
  have no:∀ vs H Q E,¬ qe1 0 vs H Q E:=fun vs H Q E h=>absurd h.1 (by decide)
  exact ⟨f,fd,e1,e2.kp,e3,⟨fun vs H Q E h=>(no vs H Q E h).elim,fun A outer s H args us vs Q E _ _ _ _ h=>(no vs H Q E h).elim⟩⟩
 | N+1=>yeu B h1 (Has.imp (qfk B h1 F N) fun vs H Q E h=>h.2) F
end
end Mc
namespace Mc
open PySem L2 PyProof.Rows Mx PySem.W
theorem Gd.shown {D B:Nat}{d:PyData} (h:Gd D B d) (hD:D≤60) (hB:B≤200000):d.showable=true∧d.depth≤60∧d.shown.length≤sizeLine:=by
 have h:=h.1
 refine ⟨h.1,Nat.le_trans h.2.1 hD,?_⟩
 have h1:=PyData.shown_le_bulk 40 (by decide) d h.2.2.1
 have h2:=h.2.2.2
 have hsl:(sizeLine:Nat)=16777216:=rfl
 omega
theorem bnd5:bnd 5=114004:=rfl
def thg:List PyData:=[.none,.int 3,.str "",.list [],.tuple [],.dict [],.bool true,.tuple [.str "cells"],.tuple [.str "cells",.int 5],.tuple [.str "split",.tuple [.int 0,.int 0],.none,.none],.tuple [.list [.str "cells"],.list []]]
def ll1 (d:PyData):Bool:=match d with | .list ds=>decide (ds.length≤1000)&&ds.all fun x=>!qd8 x && !yc9 x | .tuple ds=>ds.all fun x=>!qd8 x && !yc9 x|_=>true
theorem qfu {d:PyData} (h:ll1 d=true):LL d:=by
 unfold ll1 at h
 have leaf:∀ {ds:List PyData},(ds.all fun x=>!qd8 x && !yc9 x)=true→∀ x∈ds,LL x:=fun h x hx=>by
  have:=List.all_eq_true.mp h x hx
  rw[Bool.and_eq_true] at this
  exact .leaf (by simpa using this.1) (by simpa using this.2)
 split at h
 ·rw[Bool.and_eq_true] at h
  exact .lst (of_decide_eq_true h.1) (leaf h.2)
 ·exact .tup (leaf h)
 ·rename_i h1 h2
  cases d<;>first|exact .leaf rfl rfl|exact absurd rfl (h1 _)|exact absurd rfl (h2 _)
theorem thg_ll:∀ d∈thg,LL d:=by
 intro d hd
 simp only[thg,List.mem_cons,List.not_mem_nil,or_false] at hd
 have sp:LL (.tuple [.str "split",.tuple [.int 0,.int 0],.none,.none]):=.tup fun x hx=>by
  simp only[List.mem_cons,List.not_mem_nil,or_false] at hx
  rcases hx with rfl|rfl|rfl|rfl<;>exact qfu rfl
 have cl:LL (.tuple [.list [.str "cells"],.list []]):=.tup fun x hx=>by
  simp only[List.mem_cons,List.not_mem_nil,or_false] at hx
  rcases hx with rfl|rfl<;>exact qfu rfl
 rcases hd with rfl|rfl|rfl|rfl|rfl|rfl|rfl|rfl|rfl|rfl|rfl<;>first|exact sp|exact cl|exact qfu rfl
theorem thg_no {bs:Bs} (h00:(0,0)∉bs) {n m:Nat}:∀ d∈thg,¬ qa6 bs n m d:=by
 intro d hd
 simp only[thg,List.mem_cons,List.not_mem_nil,or_false] at hd
 have no:∀ {d:PyData},hdW "cells" 2 d=false→hdW "split" 4 d=false→¬ qa6 bs n m d:=fun a b=>qa6.no a b
 rcases hd with rfl|rfl|rfl|rfl|rfl|rfl|rfl|rfl|rfl|rfl|rfl
 ·exact no rfl rfl
 ·exact no rfl rfl
 ·exact no rfl rfl
 ·exact no rfl rfl
 ·exact no rfl rfl
 ·exact no rfl rfl
 ·exact no rfl rfl
 ·exact no (by decide +kernel) (by decide +kernel)
 ·rw[qa6.cells];rintro ⟨C,e,_⟩;cases e
 ·rw[qa6.split]
  rintro ⟨r,l,e,h,_⟩
  simp only[pD,PyData.tuple.injEq,List.cons.injEq,PyData.int.injEq,and_true] at e
  rw[← e.1,← e.2] at h
  exact h00 h
 ·exact no (by decide +kernel) (by decide +kernel)
theorem cut_mid {xs:List V}{a b:Nat}:cutV xs (some (a:Int)) (some (b:Int))=(xs.drop (min a xs.length)).take (min b xs.length-min a xs.length):=by
 unfold cutV
 rw[HT.sIx_nat,HT.sIx_nat]
theorem layl_set {te:TE}{σ:L2.St}{H:Hp}{ds:List PyData}{i:Nat}{rest:TS}{KK:Ends} (h:LayL [] te σ ds H) (k:∀ a vs H',Same H H'→H' a=some (.lst vs)→AllX H' vs ds→rest KK (σ.set i (some (.ref a))) H'):tSeq (tAsg te (qco i)) rest KK σ H:=
 h (fun b hb=>by cases hb) H (Same.refl H) _ fun a vs H' s' ha hx=>k a vs H' s' (qae _ _ _ _ ha) (hx.same (qae _ _))
theorem ye3 {H:Hp}:∀ {vs:List V}{ds:List PyData}{i:Nat}{v:V},AllX H vs ds→vs[i]?=some v→∃ d,ds[i]?=some d∧AtX H v d
 | _,_,0,_,.cons a _,h=>by cases h;exact ⟨_,rfl,a⟩
 | _,_,i+1,_,.cons _ r,h=>ye3 (i:=i) r h
theorem lay_for1 {K:PySem.W.Frag}{te:TE}{σ:L2.St}{d:PyData}{H:Hp}{g:TG}{tb:TS}{D:Ends} (h:Lay [] te σ d H) (k:∀ v H',Same H H'→At H' v d→tFor (qd2 K (tC v)) g tb D σ H'):tFor (qd2 K te) g tb D σ H:=
 h (fun b hb=>by cases hb) H (Same.refl H) _ fun v H' s a=>k v H' s (a.same (qae _ _))
theorem qga {K:PySem.W.Frag}{L:List Addr}{σ:L2.St}{H:Hp}{i j:Nat}{p:Addr}{ds:List Int}{x:Int} (hσ:σ[i]?=some (some (.ref p))) (hp:H p=some (.lst (ds.map V.int))) (hx:ds[j]?=some x):Lay L (tOp (rIxL K) (tVar i) (tC (.int (j:Int)))) σ (.int x) H:=fun hL H1 s Q q=>
 ⟨_,hσ,p,_,_,_,rfl,rfl,SqL.of (s _ _ hp),qbv (qaw hx),q _ H1 (Same.refl H1) (.int _)⟩
def dgL:List Int:=List.replicate 8 60++[3,3,8]
theorem pD_tup {H:Hp}{x:V}{p:Int×Int} (h:At H x (pD p)):∃ t,x=.ref t∧H t=some (.tup [.int p.1,.int p.2]):=by
 obtain ⟨t,us,rfl,ht,hu⟩:=h.tupEq
 match us,hu with
 | [u1,u2],.cons b1 (.cons b2 .nil)=>
  have e1:=b1.intEq
  have e2:=b2.intEq
  subst e1 e2
  exact ⟨t,rfl,ht⟩
section
variable {P:Program}{w:World}{K:PySem.W.Frag}{mg:Str→Option Value}{base:Heap}
def qer (K:PySem.W.Frag):Sp:=fun vs H Q _=>∃ (a:Addr) (ns:List Int),vs=[.ref a]∧SqL K H a (ns.map V.int)∧ns.length≤63∧∀ H',Q (.bl true) H'
abbrev ydw:Stmt:=top 26
theorem sc_law:FnScope ["_law_script","_law_broken","_law_rows","_law_lines","_law_tree_here","_law_k","_law_cell","_law_d","_law_thing","_law_kept","_law_many","_law_handed","_law_found","_law_things"] ["_law_script"] (yae ydw):=⟨rfl,rfl,rfl,by decide +kernel,rfl,by decide +kernel,by decide +kernel⟩
theorem ok_law (B:Bl mg) (ybc:Has P w K mg base 1 "_law_digits" ["_law_cell","_law_turn","_law_sizes"] qdc) (qfe:Has P w K mg base 2 "_law_few" ["_law_cell"] sp_few) (qbw:Has P w K mg base 6 "_law_tree" ["_law_broken","_law_rows","_law_lines","_law_d"] (qdu 4)) (ybw:Has P w K mg base 6 "_law_bent" ["_law_broken","_law_tree_here","_law_d"] (ydu 4))
  (qa9:Has P w K mg base 12 "lets_none" ["broken","rows","lines","thing"] (qce 4)) (qbt:Has P w K mg base 8 "_law_lets" ["_law_broken","_law_rows","_law_lines","_law_thing"] (qce 4)) {f:Addr}{fd:FuncData} (F:Fun K "law" "law" ydw f fd):FnOk P w K mg base CX0 13 f fd ["_law_script"] (qer K):=by
 refine Mx.Fun.okQ F sc_law (fun vs H Q E h=>?_) (fun cdv A outer s H vs Q E hr h=>?_)
 ·obtain ⟨a,ns,rfl,_⟩:=h
  rfl
 ·obtain ⟨a,ns,rfl,hS,hnl,k⟩:=h
  have sc:=sc_law
  refine ⟨_,(yaq rfl (yac (qs_asg (qaj qfe hr (ya1 (yap qar (yam yge (qaa (pv 0)) (qas (qam (qaa yaa) yab))) (qaa yaa) (fun _ _=>rfl)) yab)) (qe2 rfl (ybe (qal (i:=1) sc.nd rfl (Or.inl rfl)) (ybe (qal (i:=2) sc.nd rfl (Or.inl rfl)) (ybe (qal (i:=3) sc.nd rfl (Or.inl rfl)) qdy)))))
   (yac (yal (i:=4) sc.nd rfl (Or.inl rfl) (qaj qbw hr (qah (qaa (pv 1)) (qah (qaa (pv 2)) (qah (qaa (pv 3)) (ycd (qaj ybc hr (ya1 (yap qar (yam yge (qaa (pv 0)) (qas (qam (qaa yaa) (qam (qaa yaa) yab)))) (qaa yaa) (fun _ _=>rfl)) (qam (qaa yaa) (qbb (yam qf0 (qas (qam (qaa yaa) yab)) (qaa yaa)) yab)))) yab))))))
   (yac (yee PassesOwn.never rfl (qi_of (yf0 rfl (B.of rfl) (yad (qb3 qb0 (ye7 qb5 (pv 0) (yas yaa) (yas yaa)) (qe7 (yad yaa (yad yaa qan)))) qan))) (qe2 rfl (ybe (qal (i:=5) sc.nd rfl (Or.inl rfl)) (ybe (qal (i:=6) sc.nd rfl (Or.inl rfl)) qdy)))
    (yac (yal (i:=7) sc.nd rfl (Or.inl rfl) (qaj ybc hr (qah (qaa (pv 6)) (qbb (yam qbi (qaa yaa) (qaa (pv 5))) (qbb (yam qb0 (yam qf0 (qas (qam (qaa yaa) yab)) (qaa yaa)) (qas (qam (qaa yaa) (qam (qaa yaa) (qam (qaa yaa) yab))))) yab)))))
    (yac (yal (i:=8) sc.nd rfl (Or.inl rfl) (qaa (pv 4)))
    (qcr (qau (yai yb4 (yap qar (qaa (pv 7)) (qaa yaa) (fun _ _=>rfl)) (qaa yaa) (yah _))
     (qaf (yal (i:=8) sc.nd rfl (Or.inl rfl) (qaj ybw hr (qah (qaa (pv 1)) (qah (qaa (pv 4)) (ya1 (qbx qb5 (qaa (pv 7)) yav (yas yaa)) yab))))))
     yan)
    (yac (yal (i:=9) sc.nd rfl (Or.inl rfl) (yak (ydm hr) rfl (B.of rfl) boot_repr (qah (qaa (pv 8)) yab)))
    (qaf (yee PassesOwn.never rfl (qei (qas (qbq (qao (qah (qaa (pv 2)) (qah (qaa (pv 3)) yab))) (qbq (qao (ya1 (yap qar (qaa (pv 7)) (qaa yaa) (fun _ _=>rfl)) (ya1 (yap qar (qaa (pv 7)) (qaa yaa) (fun _ _=>rfl)) yab))) (qbq (qao (qah (qaa (pv 2)) (qah (qaa (pv 3)) yab))) yab))))) (qal (i:=10) sc.nd rfl (Or.inl rfl))
     (yac (yal (i:=11) sc.nd rfl (Or.inl rfl) (qa7 qa4 rfl (B.of rfl) boot_list (qah (qaa (pv 1)) yab)))
     (yac (yal (i:=12) sc.nd rfl (Or.inl rfl) (qaj qa9 hr (qah (qaa (pv 11)) (ya1 (yap qak (qaa (pv 10)) (qaa yaa) (fun _ _=>rfl)) (ya1 (yap qak (qaa (pv 10)) (qaa yaa) (fun _ _=>rfl)) (qah (qaa (pv 8)) yab))))))
     (yac (qau (QW.pt (ycr (qb6 (qbc (yak ya0 rfl (B.of rfl) boot_isinstance (qah (qaa (pv 12)) (qah (qaa (ya8 (v:=.ty "bool") rfl (B.of rfl) boot_bool rfl)) yab))))) (yb6 (yai ydi (qaa (pv 12)) (qaj qbt hr (qah (qaa (pv 1)) (ya1 (yap qak (qaa (pv 10)) (qaa yaa) (fun _ _=>rfl)) (ya1 (yap qak (qaa (pv 10)) (qaa yaa) (fun _ _=>rfl)) (qah (qaa (pv 8)) yab))))) (yah _)))))
      (qaf (yag (qaa qb1)))
      yan)
     (qaf (qau (QW.pt (ycr (yai (op_neD hr) (qaa (pv 11)) (qaa (pv 1)) (yah _)) (yb6 (yai ydi (yak (ydm hr) rfl (B.of rfl) boot_repr (qah (qaa (pv 8)) yab)) (qaa (pv 9)) (yah _)))))
      (qaf (yag (qaa qb1)))
      yan))))))))))))
   (yac (yal (i:=13) sc.nd rfl (Or.inl rfl) (qas (qam (qaa ybl) (qam (qaa yaa) (qam (qaa yay) (yd2 (qas yab) (qbq (qao yab) (qa_cons (qaa pe_dnewK) (qam (qaa qb1) (qbq (qao (qam (qaa yay) yab)) (qbq (qao (qam (qaa yay) (qam (qaa yaa) yab))) (qbq (qao (qam (qaa yay) (qbq (qao (qam (qaa yaa) (qam (qaa yaa) yab))) (qam (qaa ybl) (qam (qaa ybl) yab))))) (qbq (qao (yd2 (qas (qam (qaa yay) yab)) (yd2 (qas yab) yab))) yab)))))))))))))
   (yac (yee PassesOwn.never rfl (qei (qaa (pv 13))) (qal (i:=8) sc.nd rfl (Or.inl rfl))
    (qaf (qau (QW.pt (ycr (qt_of (qbp qd5 (qay qa9 hr (yc8 (pv 1) (qf4 yaa (qf4 yaa (yc8 (pv 8) qan))))) qb1 (yah _))) (yb6 (qt_of (qbp qd5 (qay qa9 hr (yad (qe7 qan) (qf4 yaa (qf4 yaa (yc8 (pv 8) qan))))) qb1 (yah _))))))
     (qaf (yag (qaa qb1)))
     yan)))
   (qaf (yag (qaa qb1))))))))),?_⟩
  have z1:1≤sizeLine:=by decide
  have hsl:(sizeLine:Nat)=16777216:=sizeLine_eq
  -- the broken cells
  refine ⟨_,rfl,z1,fun c1 h1=>?_⟩
  generalize hG1:upd H c1 _=H1
  have s1:Same H H1:=by rw[← hG1];exact (Same.refl H).upd h1
  have f1:H1 c1=some (.lst [.int 9]):=by rw[← hG1];exact qac
  clear hG1
  refine ⟨a,c1,_,_,rfl,rfl,s1.seq hS,SqL.of f1,by rw[List.length_map];simp;omega,fun c3 h3=>?_⟩
  obtain ⟨y0,hy0⟩:∃ y,(ns++[9])[0]?=some y:=⟨_,List.getElem?_eq_getElem (by simp)⟩
  have f3:upd H1 c3 (.lst (ns.map V.int++[.int 9])) c3=some (.lst ((ns++[9]).map V.int)):=by rw[qac,List.map_append];rfl
  have s3:Same H (upd H1 c3 (.lst (ns.map V.int++[.int 9]))):=s1.upd h3
  revert f3 s3
  generalize upd H1 c3 (.lst (ns.map V.int++[.int 9]))=H3
  intro f3 s3
  refine ⟨c3,_,_,_,rfl,rfl,SqL.of f3,qad 0 (qaw hy0),y0,rfl,fun t b ts bs n m H4 s4 ht hb hP h12 h6 hb1 hbl hn2 hm2=>?_⟩
  refine ⟨t,_,rfl,SqT.of ht,rfl,_,_,rfl,_,_,rfl,_,_,rfl,rfl,?_⟩
  have s04:=s3.trans s4
  -- the tree
  refine ⟨_,rfl,_,rfl,_,rfl,_,rfl,(by show 2≤sizeLine;decide),fun c5 h5=>?_⟩
  generalize hG5:upd H4 c5 _=H5
  have s5:Same H4 H5:=by rw[← hG5];exact (Same.refl H4).upd h5
  have f5:H5 c5=some (.lst [.int 9,.int 9]):=by rw[← hG5];exact qac
  clear hG5
  refine ⟨a,c5,_,_,rfl,rfl,(s04.trans s5).seq hS,SqL.of f5,by rw[List.length_map];simp;omega,fun c6 h6'=>?_⟩
  obtain ⟨y1,hy1⟩:∃ y,(ns++[9,9])[1]?=some y:=⟨_,List.getElem?_eq_getElem (by simp)⟩
  have f6:upd H5 c6 (.lst (ns.map V.int++[.int 9,.int 9])) c6=some (.lst ((ns++[9,9]).map V.int)):=by rw[qac,List.map_append];rfl
  have s6:Same H4 (upd H5 c6 (.lst (ns.map V.int++[.int 9,.int 9]))):=s5.upd h6'
  revert f6 s6
  generalize upd H5 c6 (.lst (ns.map V.int++[.int 9,.int 9]))=H6
  intro f6 s6
  refine ⟨c6,_,_,_,rfl,rfl,SqL.of f6,qad 1 (qaw hy1),c_go ?_⟩
  dsimp only
  refine qcu (L:=[]) (d:=.list ((List.replicate 16 (12:Int)).map PyData.int)) ?_ (fun b hb=>by cases hb) fun vz H7 s7 a7=>?_
  ·have:((List.replicate 16 (12:Int)).map PyData.int)=(List.replicate 16 (([12]:List Int).map PyData.int)).flatten:=rfl
   rw[this]
   exact yeh (n:=16) (qat (qab qbn qag)) (by decide) (by decide)
  obtain ⟨pz,rfl,hz⟩:=qcl (a7.same (qae _ _))
  refine ⟨y1,2,pz,_,rfl,hz,by decide,by decide,by decide,by decide,fun td tds H8 s8 ntd etd hTD=>?_⟩
  have s48:=s6.trans (s7.trans s8)
  refine ⟨b,td,n,m,ts,bs,tds,rfl,by omega,hn2,hm2,s48 _ _ hb,hP.same s48,hbl,h12,etd,by rw[hTD.1];rfl,fun vt t H9 s9 hT hTS=>?_⟩
  have s49:=s48.trans s9
  have hb9:=s49 _ _ hb
  have hP9:=hP.same s49
  have s09:=s04.trans s49
  clear s48 s9 s8 s7 s6 s5 f5 f6 etd hz
  refine gn ?_
  -- the further cells
  obtain ⟨zs,hzs,zl⟩:∃ zs:List Int,cutV (ns.map V.int) (some 2) (some 62)=zs.map V.int∧zs.length≤60:=by
   have e:=cut_mid (xs:=ns.map V.int) (a:=2) (b:=62)
   refine ⟨_,e.trans (by rw[← List.map_drop,← List.map_take]),?_⟩
   rw[List.length_take]
   omega
  refine ⟨_,rfl,2,rfl,62,rfl,a,_,rfl,s09.seq hS,fun c7 h7=>?_⟩
  rw[hzs]
  generalize hG10:upd H9 c7 _=H10
  have s10:Same H9 H10:=by rw[← hG10];exact (Same.refl H9).upd h7
  have f10:H10 c7=some (.lst (zs.map V.int)):=by rw[← hG10];exact qac
  clear hG10
  refine ⟨(by show 2≤sizeLine;decide),fun c8 h8=>?_⟩
  generalize hG11:upd H10 c8 _=H11
  have s11:Same H10 H11:=by rw[← hG11];exact (Same.refl H10).upd h8
  have f11:H11 c8=some (.lst (([0,1]:List Int).map V.int)):=by rw[← hG11];exact qac
  clear hG11
  refine ⟨c7,c8,_,_,rfl,rfl,s11 _ _ f10,f11,qgc (by simp;omega),fun c9 h9=>?_⟩
  rw[← List.map_append]
  generalize hG12:upd H11 c9 _=H12
  have s12:Same H11 H12:=by rw[← hG12];exact (Same.refl H11).upd h9
  have f12:H12 c9=some (.lst ((zs++[0,1]).map V.int)):=by rw[← hG12];exact qac
  clear hG12
  have s912:=s10.trans (s11.trans s12)
  refine ⟨c9,_,rfl,SqL.of f12,yey (xs:=(zs++[0,1]).map V.int) (fun i σ H'=>∃ (o5 o6 o7 o8 o9 o10 o11 o12:Option V),σ=[some (.ref a),some (.ref b),some (.int n),some (.int m),some vt,o5,o6,o7,o8,o9,o10,o11,o12,none]∧Same H12 H') ⟨_,_,_,_,_,_,_,_,rfl,Same.refl _⟩ (fun i σ H' _ ⟨_,_,_,_,_,_,_,_,_,s⟩=>SqL.of (s _ _ f12)) ?_ ?_⟩
  ·rintro i x pp σ H13 hx ⟨o5,o6,o7,o8,o9,o10,o11,o12,rfl,s13⟩ hpp
   obtain ⟨c,hc,rfl⟩:=qfv hx
   have hi:i<(zs++[0,1]).length:=(List.getElem?_eq_some_iff.mp hc).1
   rw[List.length_append] at hi
   simp at hi
   refine ⟨pp,_,rfl,SqT.of qac,rfl,_,_,rfl,_,_,rfl,rfl,?_⟩
   have s14:=s13.upd (o:=.tup [V.int i,.int c]) hpp
   revert s14
   generalize upd H13 pp (.tup [V.int i,.int c])=H14
   intro s14
   have s914:=s912.trans s14
   refine ⟨_,rfl,_,rfl,_,_,rfl,rfl,qcu (L:=[]) (d:=.list (dgL.map PyData.int)) ?_ (fun b hb=>by cases hb) fun vz H15 s15 a15=>?_⟩
   ·have:(dgL.map PyData.int)=(List.replicate 8 (([60]:List Int).map PyData.int)).flatten++([3,3,8]:List Int).map PyData.int:=rfl
    rw[this]
    refine qbs (yeh (n:=8) (qat (qab qbn qag)) (by decide) (by decide)) (qat ?_) (by decide)
    repeat' (first|exact qbn|exact qag|refine qab ?_ ?_)
   obtain ⟨pz,rfl,hz⟩:=qcl (a15.same (qae _ _))
   refine ⟨c,3+(i:Int),pz,dgL,rfl,hz,by decide,by decide,by omega,by omega,fun dp ds H16 s16 ndp edp hD=>?_⟩
   have s916:=s914.trans (s15.trans s16)
   obtain ⟨e8,g8,q8,q8'⟩:=hD.get (i:=8) (z:=3) rfl
   obtain ⟨e9,g9,q9,q9'⟩:=hD.get (i:=9) (z:=3) rfl
   obtain ⟨e10,g10,q10,q10'⟩:=hD.get (i:=10) (z:=8) rfl
   have dl:ds.length=11:=hD.1
   have dnn:∀ x∈ds,0≤x:=fun x hx=>by
    obtain ⟨j,hj⟩:=List.getElem?_of_mem hx
    have hjl:=(List.getElem?_eq_some_iff.mp hj).1
    have hz:dgL[j]?=some (dgL[j]'(by rw[← hD.1];exact hjl)):=List.getElem?_eq_getElem _
    exact (hD.2 j x _ hj hz).1
   refine gn ?_
   refine ⟨_,rfl,?_⟩
   refine gn ?_
   dsimp only
   refine ⟨fun σ' H17=>∃ vth dd,σ'=[some (.ref a),some (.ref b),some (.int n),some (.int m),some vt,some (.int i),some (.int c),some (.ref dp),some vth,o9,o10,o11,o12,none]∧Same H16 H17∧At H17 vth dd∧Gd 9 114004 dd,?_,?_⟩
   ·refine ⟨_,rfl,dp,_,_,_,rfl,rfl,SqL.of edp,qad 10 (qaw g10),_,_,rfl,rfl,_,rfl,?_⟩
    by_cases h0:0<e10
    rotate_left
    ·refine yca h0 ⟨vt,trD t,rfl,Same.refl H16,(hT.same s916).at,?_⟩
     exact (qdk hTS).mono (by decide) (by decide)
    refine iteD h0 ?_
    refine ⟨_,rfl,_,rfl,_,rfl,8,rfl,dp,_,rfl,SqL.of edp,fun c17 h17=>?_⟩
    rw[show (8:Int)=((8:Nat):Int) from rfl,qds,← List.map_take]
    generalize hG17:upd H16 c17 _=H17
    have s17:Same H16 H17:=by rw[← hG17];exact (Same.refl H16).upd h17
    have f17:H17 c17=some (.lst ((ds.take 8).map V.int)):=by rw[← hG17];exact qac
    clear hG17
    have s917:=s916.trans s17
    refine ⟨b,vt,c17,ts,bs,t,ds.take 8,rfl,s917 _ _ hb9,hP9.same s917,h12,hb1,hbl,hT.same s917,hTS,f17,by rw[List.length_take];omega,fun x hx=>dnn x (List.mem_of_mem_take hx),fun r dd H18 s18 a18 gd=>?_⟩
    exact ⟨r,dd,rfl,s17.trans s18,a18,gd.mono (by decide) (by rw[bnd5];decide)⟩
   rintro _ H17 ⟨vth,dd,rfl,s17,a17,gd⟩
   obtain ⟨r1,r2,r3⟩:=gd.shown (by decide) (by decide)
   have s917:=s916.trans s17
   have edp17:=s17 _ _ edp
   refine ⟨_,rfl,vth,dd,rfl,.inl a17,r1,r2,r3,?_⟩
   refine gn ?_
   dsimp only
   refine lay_for1 (d:=.list [pD (n,m),pD (e8,e9),pD (n,m)]) ?_ fun v H18 s18 a18=>?_
   ·have vn:Lay [] (tVar 2) [some (.ref a),some (.ref b),some (.int n),some (.int m),some vt,some (.int i),some (.int c),some (.ref dp),some vth,some (.str dd.shown),o10,o11,o12,none] (.int n) H17:=qav rfl (.int _)
    have vm:Lay [] (tVar 3) [some (.ref a),some (.ref b),some (.int n),some (.int m),some vt,some (.int i),some (.int c),some (.ref dp),some vth,some (.str dd.shown),o10,o11,o12,none] (.int m) H17:=qav rfl (.int _)
    exact qat (qab (qaq (qab vn (qab vm qag))) (qab (qaq (qab (qga (j:=8) rfl edp17 g8) (qab (qga (j:=9) rfl edp17 g9) qag))) (qab (qaq (qab vn (qab vm qag))) qag)))
   obtain ⟨la,wa,rfl,hla,hwa⟩:=a18.lstEq
   have s918:=s917.trans s18
   refine ⟨la,rfl,⟨_,SqL.of hla⟩,ydt (xs:=wa) (fun j σ H'=>∃ (o10 o11 o12:Option V),σ=[some (.ref a),some (.ref b),some (.int n),some (.int m),some vt,some (.int i),some (.int c),some (.ref dp),some vth,some (.str dd.shown),o10,o11,o12,none]∧Same H18 H') ⟨_,_,_,rfl,Same.refl H18⟩ (fun j σ H' _ ⟨_,_,_,_,s⟩=>SqL.of (s _ _ hla)) ?_ ?_⟩
   rotate_left
   ·rintro σ H19 ⟨o10,o11,o12,rfl,s19⟩
    exact ⟨_,_,_,_,_,_,_,_,rfl,s14.trans (s15.trans (s16.trans (s17.trans (s18.trans s19))))⟩
   rintro j y σ H19 hy ⟨o10',o11',o12',rfl,s19⟩
   obtain ⟨dy,hdy,hay⟩:=hwa.get hy
   obtain ⟨n',m',rfl,hn',hm'⟩:∃ n' m':Nat,dy=pD ((n':Int),(m':Int))∧n'≤2∧m'≤2:=by
    have hm:=List.mem_of_getElem? hdy
    simp only[List.mem_cons,List.not_mem_nil,or_false] at hm
    rcases hm with rfl|rfl|rfl
    ·exact ⟨n,m,rfl,hn2,hm2⟩
    ·exact ⟨e8.toNat,e9.toNat,by rw[show ((e8.toNat:Nat):Int)=e8 by omega,show ((e9.toNat:Nat):Int)=e9 by omega],by omega,by omega⟩
    ·exact ⟨n,m,rfl,hn2,hm2⟩
   obtain ⟨tm,rfl,htm⟩:=pD_tup (hay.same s19)
   have s919:=s918.trans s19
   refine ⟨_,rfl,b,_,rfl,.inl (SqL.of (s919 _ _ hb9)),fun hh nh=>?_⟩
   generalize hG20:upd H19 hh _=H20
   have s20:Same H19 H20:=by rw[← hG20];exact (Same.refl H19).upd nh
   have f20:H20 hh=some (.lst (yaf ts)):=by rw[← hG20];exact qac
   clear hG20
   have s920:=s919.trans s20
   have htm20:=s20 _ _ htm
   have a20:=a17.same (s18.trans (s19.trans s20))
   refine gn ?_
   dsimp only
   refine ⟨_,rfl,_,rfl,tm,_,_,_,rfl,rfl,SqT.of htm20,qad 0 rfl,_,rfl,tm,_,_,_,rfl,rfl,SqT.of htm20,qad 1 rfl,_,rfl,?_⟩
   refine ⟨hh,vth,n',m',ts,bs,dd,rfl,by omega,f20,hP9.same s920,by omega,.inl a20,gd.2,fun u1 H21 hu1 s21=>?_⟩
   refine gn ?_
   dsimp only
   have htm21:=s21 _ _ htm20
   have s921:=s920.trans s21
   refine ⟨_,rfl,_,_,_,_,rfl,.bl u1,rfl,_,rfl,iteN rfl ?_⟩
   refine ⟨_,rfl,_,rfl,_,rfl,tm,_,_,_,rfl,rfl,SqT.of htm21,qad 0 rfl,_,rfl,tm,_,_,_,rfl,rfl,SqT.of htm21,qad 1 rfl,_,rfl,?_⟩
   refine ⟨b,vth,n',m',ts,bs,dd,rfl,by omega,s921 _ _ hb9,hP9.same s921,by omega,.inl (a20.same s21),gd.2,fun u2 H22 hu2 s22=>?_⟩
   have euu:u1=u2:=by rw[Bool.eq_iff_iff];exact hu1.trans hu2.symm
   subst euu
   have s922:=s921.trans s22
   refine ⟨rfl,_,rfl,iteN (by cases u1<;>decide +kernel) ?_⟩
   refine ⟨_,rfl,_,rfl,.list (tupD (ts.map (·.2))),.list (tupD (ts.map (·.2))),.lst ((s21.trans s22) _ _ f20) (atTs fun t' ht'=>(hP9.same s922).at_ t' ht'),.lst (s922 _ _ hb9) (atTs fun t' ht'=>(hP9.same s922).at_ t' ht'),layTs _,layTs _,(by have:=depTs (ts.map (·.2));simp only[PyData.depth];omega),_,rfl,iteN (by show (!PyData.eqvAll _ _)=false;rw[eqTs];simp) ?_⟩
   refine ⟨_,rfl,vth,dd,rfl,.inl (a20.same (s21.trans s22)),r1,r2,r3,_,rfl,rfl,_,rfl,iteN (by simp) ?_⟩
   exact ⟨_,_,_,rfl,s19.trans (s20.trans (s21.trans s22))⟩
  ·rintro σ H13 ⟨o5,o6,o7,o8,o9,o10,o11,o12,rfl,s13⟩
   dsimp only
   have s913:=s912.trans s13
   have hb13:=s913 _ _ hb9
   have hP13:=hP9.same s913
   refine layl_set (ds:=thg) ?_ fun la wa H14 s14 hla hwa=>?_
   ·unfold thg
    refine layl_lst ?_
    repeat' (first|exact yfz|exact qfw|refine qfc ?_ ?_|refine layx_of ?_|exact qbo|exact lay_bl|exact qbn|exact ybo|exact qag|refine qab ?_ ?_|refine qaq ?_|refine qat ?_)
   refine ⟨_,rfl,la,rfl,⟨_,SqL.of hla⟩,ydt (xs:=wa) (fun j σ H'=>∃ o8:Option V,σ=[some (.ref a),some (.ref b),some (.int n),some (.int m),some vt,o5,o6,o7,o8,o9,o10,o11,o12,some (.ref la)]∧Same H14 H') ⟨o8,rfl,Same.refl H14⟩ (fun j σ H' _ ⟨_,_,s⟩=>SqL.of (s _ _ hla)) ?_ (fun σ H' _=>k _)⟩
   rintro j y σ H15 hy ⟨o8',rfl,s15⟩
   obtain ⟨dd,hd,hax⟩:=ye3 hwa hy
   have hm:=List.mem_of_getElem? hd
   have hll:=thg_ll dd hm
   have h00:(0,0)∉bs:=fun z=>absurd (h6 _ z) (by decide)
   have s1315:=s14.trans s15
   refine ⟨_,rfl,_,rfl,b,y,0,0,ts,bs,dd,rfl,by decide,s1315 _ _ hb13,hP13.same s1315,by omega,hax.same s15,hll,fun u H16 hu s16=>?_⟩
   have hu0:u=false:=by
    cases u with
    | false=>rfl
    | true=>exact absurd (hu.mp rfl) (thg_no h00 dd hm)
   subst hu0
   refine ⟨_,_,rfl,rfl,_,rfl,iteN (by decide) ?_⟩
   refine ⟨Nat.zero_le _,fun q nq=>?_⟩
   have s17:=(Same.refl H16).upd (o:=.lst []) nq
   have f17:upd H16 q (.lst []) q=some (.lst (yaf [])):=qac
   revert s17 f17
   generalize upd H16 q (.lst [])=H17
   intro s17 f17
   refine ⟨_,rfl,q,y,1,1,[],[],dd,rfl,by decide,f17,⟨rfl,(fun _ h=>nomatch h)⟩,by decide,hax.same (s15.trans (s16.trans s17)),hll,fun u H18 hu s18=>?_⟩
   have hu0:u=false:=by
    cases u with
    | false=>rfl
    | true=>exact absurd (hu.mp rfl) (thg_no (by simp) dd hm)
   subst hu0
   refine ⟨_,_,rfl,rfl,_,rfl,iteN (by decide) ?_⟩
   exact ⟨_,rfl,s15.trans (s16.trans (s17.trans s18))⟩
end
end Mc
namespace Mc
open PySem L2 PyProof.Rows
theorem fnAt_mk {K:PySem.W.Frag}{h:Heap}{mg:Str→Option Value}{x:Str}{st:Stmt}{ps:List Str}{f:Addr}{oc:Value}{od an:Option Addr}{osl:Array (Option Value)}{kV doc pm cdv ct:Value} (X:K.In h) (G:h.Ns mainGlobals mg)
  (a:PySem.W.nsIn K mainGlobals x=some (some (.ref f))) (l:K.lookup f=some ⟨oc,od,.func (PySem.W.fnOf x x (ybn st) (ya5 st) (yae st) .none kV doc pm an cdv ct),osl⟩) (c:PySem.W.codeIn K cdv x=true) (k:PySem.W.keepIn K (.ref f)=true)
  (hb:∀ (kV doc pm:Value) (an:Option Addr) (cdv ct:Value) (us:List Value),us.length=ps.length→bindArgs (PySem.W.fnOf x x (ybn st) (ya5 st) (yae st) .none kV doc pm an cdv ct) ⟨us,[]⟩=pure (ps.zip us)):FnAt K mg x st ps:=by
 have F:=fun_mk (st:=st) l c k
 exact ⟨f,_,PySem.W.mg_of X G a,F,F.binds hb⟩
def FnP (K:PySem.W.Frag) (x:Str) (st:Stmt):Prop:=∃ (f:Addr) (oc:Value) (od an:Option Addr) (sl:Array (Option Value)) (kV dc pm cd ct:Value),PySem.W.nsIn K mainGlobals x=some (some (.ref f))∧K.lookup f=some ⟨oc,od,.func (PySem.W.fnOf x x (ybn st) (ya5 st) (yae st) .none kV dc pm an cd ct),sl⟩∧PySem.W.codeIn K cd x=true∧PySem.W.keepIn K (.ref f)=true
theorem FnP.at {K:PySem.W.Frag}{h:Heap}{mg:Str→Option Value}{x:Str}{st:Stmt}{ps:List Str} (p:FnP K x st) (X:K.In h) (G:h.Ns mainGlobals mg)
  (hb:∀ (kV doc pm:Value) (an:Option Addr) (cdv ct:Value) (us:List Value),us.length=ps.length→bindArgs (PySem.W.fnOf x x (ybn st) (ya5 st) (yae st) .none kV doc pm an cdv ct) ⟨us,[]⟩=pure (ps.zip us)):FnAt K mg x st ps:=by
 obtain ⟨f,oc,od,an,sl,kV,dc,pm,cd,ct,a,l,c,k⟩:=p
 exact fnAt_mk X G a l c k hb
set_option maxHeartbeats 0 in
theorem all_mk {l:PySem.W.OpenLaw}{w:World}{K:PySem.W.Frag}{h:Heap}{mg:Str→Option Value}{fa:Addr} (X:K.In h) (G:h.Ns mainGlobals mg) (hfa:mg "law" = some (.ref fa))
  (p0:FnP K "is_whole" yb7)
  (p1:FnP K "is_one_of" qby)
  (p2:FnP K "is_pair" qci)
  (p3:FnP K "without_row" qbd)
  (p4:FnP K "without_line" qba)
  (p5:FnP K "is_broken" qbu)
  (p6:FnP K "are_unlike" ybk)
  (p7:FnP K "are_too_many" ya9)
  (p8:FnP K "has_word" yb8)
  (p9:FnP K "is_split" ybp)
  (p10:FnP K "lets_none" ybj)
  (p11:FnP K "_law_digits" ybd)
  (p12:FnP K "_law_is_whole" ya6)
  (p13:FnP K "_law_is_one" qbe)
  (p14:FnP K "_law_are_apart" ya3)
  (p15:FnP K "_law_lets" ybi)
  (p16:FnP K "_law_few" yb9)
  (p17:FnP K "_law_apart" ybm)
  (p18:FnP K "_law_tree" ybh)
  (p19:FnP K "_law_bent_cells" qa1)
  (p20:FnP K "_law_bent" ybg)
  {f21:Addr}{od21 an21:Option Addr}{sl21:Array (Option Value)}{oc21 kV21 dc21 pm21 cd21 ct21:Value}
  (a21:PySem.W.nsIn K mainGlobals "law" = some (some (.ref f21)))
  (l21:K.lookup f21=some ⟨oc21,od21,.func (PySem.W.fnOf "law" "law" (ybn ydw) (ya5 ydw) (yae ydw) .none kV21 dc21 pm21 an21 cd21 ct21),sl21⟩)
  (c21:PySem.W.codeIn K cd21 "law" = true)
  (k21:PySem.W.keepIn K (.ref f21)=true)
  (z0:PySem.W.nsIn K mainGlobals "len" = some none)
  (z1:PySem.W.nsIn K mainGlobals "abs" = some none)
  (z2:PySem.W.nsIn K mainGlobals "max" = some none)
  (z3:PySem.W.nsIn K mainGlobals "min" = some none)
  (z4:PySem.W.nsIn K mainGlobals "repr" = some none)
  (z5:PySem.W.nsIn K mainGlobals "isinstance" = some none)
  (z6:PySem.W.nsIn K mainGlobals "int" = some none)
  (z7:PySem.W.nsIn K mainGlobals "bool" = some none)
  (z8:PySem.W.nsIn K mainGlobals "str" = some none)
  (z9:PySem.W.nsIn K mainGlobals "tuple" = some none)
  (z10:PySem.W.nsIn K mainGlobals "list" = some none)
  (z11:PySem.W.nsIn K mainGlobals "dict" = some none)
  (z12:PySem.W.nsIn K mainGlobals "range" = some none)
  (z13:PySem.W.nsIn K mainGlobals "enumerate" = some none)
  (z14:PySem.W.nsIn K mainGlobals "sorted" = some none)
  (z15:PySem.W.nsIn K mainGlobals "sum" = some none)
  (zset:PySem.W.nsIn K mainGlobals "set" = some none)
  (zall:PySem.W.nsIn K mainGlobals "all" = some none) :
  ∃ fd:FuncData,(∀ (s:Shared) (v:Value),BindsTo s fd ⟨[v],[]⟩ [("_law_script",v)])∧∀ base:Heap,K.In base→base.Ns mainGlobals mg→FnOk l.prog w K mg base CX0 13 fa fd ["_law_script"] (qer K):=by
 have e:=hfa.symm.trans (PySem.W.mg_of X G a21)
 cases e
 have B:Bl mg:=⟨fun x hx=>by
  unfold yem at hx
  simp only[List.mem_cons,List.not_mem_nil,or_false] at hx
  rcases hx with rfl|rfl|rfl|rfl|rfl|rfl|rfl|rfl|rfl|rfl|rfl|rfl|rfl|rfl|rfl|rfl
  ·exact PySem.W.mg_none_of X G z0
  ·exact PySem.W.mg_none_of X G z1
  ·exact PySem.W.mg_none_of X G z2
  ·exact PySem.W.mg_none_of X G z3
  ·exact PySem.W.mg_none_of X G z4
  ·exact PySem.W.mg_none_of X G z5
  ·exact PySem.W.mg_none_of X G z6
  ·exact PySem.W.mg_none_of X G z7
  ·exact PySem.W.mg_none_of X G z8
  ·exact PySem.W.mg_none_of X G z9
  ·exact PySem.W.mg_none_of X G z10
  ·exact PySem.W.mg_none_of X G z11
  ·exact PySem.W.mg_none_of X G z12
  ·exact PySem.W.mg_none_of X G z13
  ·exact PySem.W.mg_none_of X G z14
  ·exact PySem.W.mg_none_of X G z15⟩
 have yep:mg "set" = none:=PySem.W.mg_none_of X G zset
 have z_all:mg "all" = none:=PySem.W.mg_none_of X G zall
 have F0:FnAt K mg "is_whole" yb7 ["thing"]:=p0.at X G fun _ _ _ _ _ _ us hl=>match us,hl with | [_],_=>rfl
 have F1:FnAt K mg "is_one_of" qby ["thing","words"]:=p1.at X G fun _ _ _ _ _ _ us hl=>match us,hl with | [_,_],_=>rfl
 have F2:FnAt K mg "is_pair" qci ["thing"]:=p2.at X G fun _ _ _ _ _ _ us hl=>match us,hl with | [_],_=>rfl
 have F3:FnAt K mg "without_row" qbd ["broken","row"]:=p3.at X G fun _ _ _ _ _ _ us hl=>match us,hl with | [_,_],_=>rfl
 have F4:FnAt K mg "without_line" qba ["broken","line"]:=p4.at X G fun _ _ _ _ _ _ us hl=>match us,hl with | [_,_],_=>rfl
 have F5:FnAt K mg "is_broken" qbu ["broken","thing"]:=p5.at X G fun _ _ _ _ _ _ us hl=>match us,hl with | [_,_],_=>rfl
 have F6:FnAt K mg "are_unlike" ybk ["things"]:=p6.at X G fun _ _ _ _ _ _ us hl=>match us,hl with | [_],_=>rfl
 have F7:FnAt K mg "are_too_many" ya9 ["broken","rows","lines","thing"]:=p7.at X G fun _ _ _ _ _ _ us hl=>match us,hl with | [_,_,_,_],_=>rfl
 have F8:FnAt K mg "has_word" yb8 ["thing","word","length"]:=p8.at X G fun _ _ _ _ _ _ us hl=>match us,hl with | [_,_,_],_=>rfl
 have F9:FnAt K mg "is_split" ybp ["broken","rows","lines","thing"]:=p9.at X G fun _ _ _ _ _ _ us hl=>match us,hl with | [_,_,_,_],_=>rfl
 have F10:FnAt K mg "lets_none" ybj ["broken","rows","lines","thing"]:=p10.at X G fun _ _ _ _ _ _ us hl=>match us,hl with | [_,_,_,_],_=>rfl
 have F11:FnAt K mg "_law_digits" ybd ["_law_cell","_law_turn","_law_sizes"]:=p11.at X G fun _ _ _ _ _ _ us hl=>match us,hl with | [_,_,_],_=>rfl
 have F12:FnAt K mg "_law_is_whole" ya6 ["_law_thing"]:=p12.at X G fun _ _ _ _ _ _ us hl=>match us,hl with | [_],_=>rfl
 have F13:FnAt K mg "_law_is_one" qbe ["_law_broken","_law_thing"]:=p13.at X G fun _ _ _ _ _ _ us hl=>match us,hl with | [_,_],_=>rfl
 have F14:FnAt K mg "_law_are_apart" ya3 ["_law_broken","_law_rows","_law_lines","_law_thing"]:=p14.at X G fun _ _ _ _ _ _ us hl=>match us,hl with | [_,_,_,_],_=>rfl
 have F15:FnAt K mg "_law_lets" ybi ["_law_broken","_law_rows","_law_lines","_law_thing"]:=p15.at X G fun _ _ _ _ _ _ us hl=>match us,hl with | [_,_,_,_],_=>rfl
 have F16:FnAt K mg "_law_few" yb9 ["_law_cell"]:=p16.at X G fun _ _ _ _ _ _ us hl=>match us,hl with | [_],_=>rfl
 have F17:FnAt K mg "_law_apart" ybm ["_law_broken","_law_rows","_law_lines"]:=p17.at X G fun _ _ _ _ _ _ us hl=>match us,hl with | [_,_,_],_=>rfl
 have F18:FnAt K mg "_law_tree" ybh ["_law_broken","_law_rows","_law_lines","_law_d"]:=p18.at X G fun _ _ _ _ _ _ us hl=>match us,hl with | [_,_,_,_],_=>rfl
 have F19:FnAt K mg "_law_bent_cells" qa1 ["_law_broken","_law_cells","_law_d"]:=p19.at X G fun _ _ _ _ _ _ us hl=>match us,hl with | [_,_,_],_=>rfl
 have F20:FnAt K mg "_law_bent" ybg ["_law_broken","_law_tree_here","_law_d"]:=p20.at X G fun _ _ _ _ _ _ us hl=>match us,hl with | [_,_,_],_=>rfl
 have FL:=fun_mk (st:=ydw) l21 c21 k21
 refine ⟨PySem.W.fnOf "law" "law" (ybn ydw) (ya5 ydw) (yae ydw) .none kV21 dc21 pm21 an21 cd21 ct21,fun s v=>.of_eq rfl,fun base _ _=>?_⟩
 have h0:=og_whole (P:=l.prog) (w:=w) (base:=base) B F0
 have h1:=og_oneof (P:=l.prog) (w:=w) (base:=base) B F1
 have h2:=og_pair (P:=l.prog) (w:=w) (base:=base) B F2
 have h3:=ok_wrow (P:=l.prog) (w:=w) (base:=base) B F3
 have h4:=ok_wline (P:=l.prog) (w:=w) (base:=base) B F4
 have h5:=og_isb B h0 h2 F5
 have h6:=yfh (P:=l.prog) (w:=w) (base:=base) B yep F6
 have h7:=og_many B z_all h5 h6 F7
 have h8:=og_word B h1 F8
 have h9:=id F9
 have h10:=(fun F=>yc7 B h8 h7 h5 h3 h4 F9 F 4) F10
 have h11:=ygd (P:=l.prog) (w:=w) (base:=base) B F11
 have h12:=qf6 (P:=l.prog) (w:=w) (base:=base) B F12
 have h13:=og_lone B h12 F13
 have h14:=og_apart B yep h13 F14
 have h15:=(fun F=>ye2 B h13 h14 F 4) F15
 have h16:=ok_few B h11 F16
 have h17:=qfi (P:=l.prog) (w:=w) (base:=base) B F17
 have h18:=(fun F=>yfv B h17 F 4) F18
 have h19:=ok_bentc (P:=l.prog) (w:=w) (base:=base) B F19
 have h20:=(fun F=>qfk B h19 F 4) F20
 exact ok_law B h11 h16 h18 h20 h10 h15 FL
theorem walk {l:PySem.W.OpenLaw}{q:Program}{loose:List Str}{XP:(Str→Option Value)→Heap→Prop}{YP:World→Heap→Prop}{d:DefRec}{K:Params→PySem.W.Frag} (hn:l.most=some 63) (hdf:d.params.defaults=[])
  (hY:∀ (w:World) (h:Heap),YP w h→(K w.params).In h)
  (F:∀ (w:World) (mg:Str→Option Value) (fa:Addr) (h:Heap),(K w.params).In h→h.Ns mainGlobals mg→mg d.name=some (.ref fa)→
   ∃ fd:FuncData,(∀ (s:Shared) (u:Value),BindsTo s fd ⟨[u],[]⟩ [("_law_script",u)])∧∀ base:Heap,(K w.params).In base→base.Ns mainGlobals mg→FnOk l.prog w (K w.params) mg base CX0 13 fa fd ["_law_script"] (qer (K w.params))) :
  PySem.W.WalkO q loose XP YP l.row.toRowW d [] (fun f vs=>PySem.call f vs):=
 L2.walk_of (n:=63) (k:=13) (x:="_law_script") (CX:=fun _=>CX0) (sp:=fun w=>qer (K w.params)) hn (by decide) hdf ⟨rfl,by decide,by decide,rfl⟩ hY F (fun _ _ a ns hl _ hS=>⟨a,ns,rfl,hS,hl,fun _=>rfl⟩) fun _ _ _ _ _ z=>z
end Mc
def PySem.W.Fast.tw3498676824503739976:Nat:=0
def PySem.W.Fast.tw293678935159145718:=PySem.Challenge.pw_marchmend_k47_trees_let_by_or_not
theorem PySem.W.Fast.te293678935159145718:PySem.Challenge.pw_marchmend_k47_trees_let_by_or_not=PySem.W.Fast.tw293678935159145718:=rfl
def PySem.W.Fast.tw8771379851669793677:Nat:=0
def PySem.W.Fast.tw17894938200510983995:Nat:=0
def PySem.W.Fast.tw9443531045828440374:Nat:=0
def PySem.W.Fast.tw6434693320574003662:Nat:=0
def PySem.W.Fast.tw20649344707644721:Nat:=0
def PySem.W.Fast.tw9187297459638930769:Nat:=0
def PySem.W.Fast.tw591318070524323409:Nat:=0
def PySem.W.Fast.tw6869436553669899426:Nat:=0
def PySem.W.Fast.tw1266615881787563831:Nat:=0
def PySem.W.Fast.tw7974542020926090829:Nat:=0
def PySem.W.Fast.tw12147442532230999027:Nat:=0
def PySem.W.Fast.tw10472310490671577929:Nat:=0
def PySem.W.Fast.tw12341702110395004806:Nat:=0
def PySem.W.Fast.tw9434865438340628193:Nat:=0
def PySem.W.Fast.tw10117453255341181790:Nat:=0
def PySem.W.Fast.tw8915064853696407220:Nat:=0
def PySem.W.Fast.tw10351490330370895700:Nat:=0
def PySem.W.Fast.tw2186945105060880549:Nat:=0
def PySem.W.Fast.tw4581118015002482769:Nat:=0
def PySem.W.Fast.tw6084086308477465650:Nat:=0
def PySem.W.Fast.tw18340955618767430716:Nat:=0
def PySem.W.Fast.tw17300190044613754474:Nat:=0
def PySem.W.Fast.tw5927798774892528972:Nat:=0
def PySem.W.Fast.tw6373997263195014123:Nat:=0
def PySem.W.Fast.tw17330382420865367916:Nat:=0
def PySem.W.Fast.tw4489677627105338739:Nat:=0
def PySem.W.Fast.tw8314494528468684771:Nat:=0
def PySem.W.Fast.tw4745597472952852559:Nat:=0
def PySem.W.Fast.tw537950409146068417:Nat:=0
def PySem.W.Fast.tw17530977075437191683:Nat:=0
def PySem.W.Fast.tw9573337880131744573:Nat:=0
def PySem.W.Fast.tw17355422456536619680:Nat:=0
def PySem.W.Fast.tw16611355691738791899:Nat:=0
def PySem.W.Fast.tw16284592578823784341:Nat:=0
def PySem.W.Fast.tw10916312929290428901:Nat:=0
def PySem.W.Fast.tw13104996010628472240:Nat:=0
def PySem.W.Fast.tw17711330985076283172:Nat:=0
def PySem.W.Fast.tw682048382355642122:Nat:=0
def PySem.W.Fast.tw1395917336353689808:Nat:=0
def PySem.W.Fast.tw3316859774114900523:Nat:=0
open PySem PySem.W PyProof.Rows
set_option maxRecDepth 100000 in
set_option maxHeartbeats 0 in
theorem PySem.Challenge.cw_marchmend_k47_trees_let_by_or_not_holds : PySem.Challenge.rw_marchmend_k47_trees_let_by_or_not.Holds := by
  w_on; o_law; k_head; (case hw=>w_witness2)
  k_fill
  refine Mc.walk (l:=PySem.Challenge.rw_marchmend_k47_trees_let_by_or_not) rfl rfl (fun w h Y=>PySem.W.kIn_of Y) ?F
  case F=>
    intro w mg fa h KX G hmg
    refine' Mc.all_mk KX G hmg ?p0 ?p1 ?p2 ?p3 ?p4 ?p5 ?p6 ?p7 ?p8 ?p9 ?p10 ?p11 ?p12 ?p13 ?p14 ?p15 ?p16 ?p17 ?p18 ?p19 ?p20 ?a21 ?l21 ?c21 ?k21 ?z0 ?z1 ?z2 ?z3 ?z4 ?z5 ?z6 ?z7 ?z8 ?z9 ?z10 ?z11 ?z12 ?z13 ?z14 ?z15 ?zset ?zall
    (case p0=>exact ⟨_,_,_,_,_,_,_,_,_,_,by k_is,by k_is,by k_is,by k_is⟩)
    (case p1=>exact ⟨_,_,_,_,_,_,_,_,_,_,by k_is,by k_is,by k_is,by k_is⟩)
    (case p2=>exact ⟨_,_,_,_,_,_,_,_,_,_,by k_is,by k_is,by k_is,by k_is⟩)
    (case p3=>exact ⟨_,_,_,_,_,_,_,_,_,_,by k_is,by k_is,by k_is,by k_is⟩)
    (case p4=>exact ⟨_,_,_,_,_,_,_,_,_,_,by k_is,by k_is,by k_is,by k_is⟩)
    (case p5=>exact ⟨_,_,_,_,_,_,_,_,_,_,by k_is,by k_is,by k_is,by k_is⟩)
    (case p6=>exact ⟨_,_,_,_,_,_,_,_,_,_,by k_is,by k_is,by k_is,by k_is⟩)
    (case p7=>exact ⟨_,_,_,_,_,_,_,_,_,_,by k_is,by k_is,by k_is,by k_is⟩)
    (case p8=>exact ⟨_,_,_,_,_,_,_,_,_,_,by k_is,by k_is,by k_is,by k_is⟩)
    (case p9=>exact ⟨_,_,_,_,_,_,_,_,_,_,by k_is,by k_is,by k_is,by k_is⟩)
    (case p10=>exact ⟨_,_,_,_,_,_,_,_,_,_,by k_is,by k_is,by k_is,by k_is⟩)
    (case p11=>exact ⟨_,_,_,_,_,_,_,_,_,_,by k_is,by k_is,by k_is,by k_is⟩)
    (case p12=>exact ⟨_,_,_,_,_,_,_,_,_,_,by k_is,by k_is,by k_is,by k_is⟩)
    (case p13=>exact ⟨_,_,_,_,_,_,_,_,_,_,by k_is,by k_is,by k_is,by k_is⟩)
    (case p14=>exact ⟨_,_,_,_,_,_,_,_,_,_,by k_is,by k_is,by k_is,by k_is⟩)
    (case p15=>exact ⟨_,_,_,_,_,_,_,_,_,_,by k_is,by k_is,by k_is,by k_is⟩)
    (case p16=>exact ⟨_,_,_,_,_,_,_,_,_,_,by k_is,by k_is,by k_is,by k_is⟩)
    (case p17=>exact ⟨_,_,_,_,_,_,_,_,_,_,by k_is,by k_is,by k_is,by k_is⟩)
    (case p18=>exact ⟨_,_,_,_,_,_,_,_,_,_,by k_is,by k_is,by k_is,by k_is⟩)
    (case p19=>exact ⟨_,_,_,_,_,_,_,_,_,_,by k_is,by k_is,by k_is,by k_is⟩)
    (case p20=>exact ⟨_,_,_,_,_,_,_,_,_,_,by k_is,by k_is,by k_is,by k_is⟩)
    (case a21=>k_is)
    (case l21=>k_is)
    (case c21=>k_is)
    (case k21=>k_is)
    (case z0=>k_is)
    (case z1=>k_is)
    (case z2=>k_is)
    (case z3=>k_is)
    (case z4=>k_is)
    (case z5=>k_is)
    (case z6=>k_is)
    (case z7=>k_is)
    (case z8=>k_is)
    (case z9=>k_is)
    (case z10=>k_is)
    (case z11=>k_is)
    (case z12=>k_is)
    (case z13=>k_is)
    (case z14=>k_is)
    (case z15=>k_is)
    (case zset=>k_is)
    (case zall=>k_is)
#print axioms PySem.Challenge.cw_marchmend_k47_trees_let_by_or_not_holds
