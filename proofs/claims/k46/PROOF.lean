import PyProof.Rows.All
import Wide.All
import OpenK.AllK
import Wide.FinOn
import Lean
import PyProof.EqAt
import PyProof.EqKinds
import PyProof.TupleCall
import PyProof.StrLawsTight
import PyProof.Rows.StrJoin2
import PyProof.Rows.StrSplitJoin
import KE.KTab
import PyProof.ZipIter
import PyProof.Rows.TupIter
import PyProof.Rows.SortWalk
import PyProof.Rows.SortStr
import PyProof.ConsumeWalk
import KE.KRevSl
import KE.KTryMore
import PyProof.NsDelKeeps
import PyProof.NeKinds
import KE.KIntText
import KE.KDictLaws
import PyProof.DictIter
import PyProof.DictWalks
import PyProof.DictItems
import KE.KSortTup
import KE.KDictList
import PyProof.SetKind
import PyProof.SetRoads
import PyProof.Rows.SetFrom
import PyProof.CollectWalk
import PyProof.CollectIter
import PyProof.Rows.SortShell
import PyProof.Rows.MinMaxN
import KE.KNestM
import KE.KLam
import KE.KMinKey
import PyProof.Rows.CallKwBuiltin
import PySem.Challenge.RW_marchmend_k46_spares_told
set_option Elab.async false
set_option linter.all false
set_option maxRecDepth 100000
set_option maxHeartbeats 8000000
namespace L2
open PySem PySem.Spec PyProof.Rows
abbrev Key:=Sum Int Str
def qfq:Key→Value→Bool
 | .inl k,v=>Value.isInt k v
 | .inr x,v=>Value.isStrOf x v
def keyH (w:World):Key→Int
 | .inl k=>hashInt k
 | .inr x=>hashStr w x
theorem yao:∀ {k:Key}{v:Value},qfq k v=true→(∃ i t,k=Sum.inl i∧v=Value.int i t)∨(∃ x t,k=Sum.inr x∧v=Value.str x t)
 | .inl i,v,h=>by
  obtain ⟨t,e⟩:=Value.isInt_shape (k:=i) (v:=v) h
  exact .inl ⟨i,t,rfl,e⟩
 | .inr x,v,h=>by
  obtain ⟨t,e⟩:=Value.isStrOf_shape (x:=x) (v:=v) h
  exact .inr ⟨x,t,rfl,e⟩
theorem yf0 (i:Int) (t:Tok):qfq (.inl i) (.int i t)=true:=by simp[qfq,Value.isInt]
theorem qg0 (x:Str) (t:Tok):qfq (.inr x) (.str x t)=true:=by simp[qfq,Value.isStrOf]
theorem key_ll (a b:Int):decide ((Sum.inl a:Key)=Sum.inl b)=(a == b):=by
 by_cases e:a=b
 ·subst e;simp
 ·have h:¬ (Sum.inl a:Key)=Sum.inl b:=fun q=>e (Sum.inl.inj q)
  rw[decide_eq_false h]
  exact (beq_eq_false_iff_ne.mpr e).symm
theorem key_rr (a b:Str):decide ((Sum.inr a:Key)=Sum.inr b)=decide (a=b):=by
 by_cases e:a=b
 ·subst e;simp
 ·have h:¬ (Sum.inr a:Key)=Sum.inr b:=fun q=>e (Sum.inr.inj q)
  rw[decide_eq_false h,decide_eq_false e]
theorem key_lr (a:Int) (b:Str):decide ((Sum.inl a:Key)=Sum.inr b)=false:=decide_eq_false (fun q=>nomatch q)
theorem key_rl (a:Str) (b:Int):decide ((Sum.inr a:Key)=Sum.inl b)=false:=decide_eq_false (fun q=>nomatch q)
def yaq (prog:Program) (w:World):PySem.KeyKind prog w Key where
 is:=qfq
 hash:=keyH w
 inj:=fun v a b ha hb=>by
  rcases yao ha with ⟨i,t,rfl,rfl⟩|⟨x,t,rfl,rfl⟩
  ·rcases yao hb with ⟨j,u,rfl,e⟩|⟨y,u,rfl,e⟩
   ·injection e with e1 _;rw[e1]
   ·exact nomatch e
  ·rcases yao hb with ⟨j,u,rfl,e⟩|⟨y,u,rfl,e⟩
   ·exact nomatch e
   ·injection e with e1 _;rw[e1]
 byValue:=fun k v h=>by
  rcases yao h with ⟨i,t,rfl,rfl⟩|⟨x,t,rfl,rfl⟩<;>rfl
 pyHash:=fun hv h=>by
  rcases yao hv with ⟨i,t,rfl,rfl⟩|⟨x,t,rfl,rfl⟩
  ·exact wpAny_pyHash_int h
  ·exact wpAny_pyHash_str h
 eqBool:=fun hu hv h=>by
  rcases yao hu with ⟨i,t,rfl,rfl⟩|⟨x,t,rfl,rfl⟩
  ·rcases yao hv with ⟨j,u,rfl,rfl⟩|⟨y,u,rfl,rfl⟩
   ·rw[key_ll] at h;exact wpAny_eqBool_int h
   ·rw[key_lr] at h;exact SeqAt.EqAt.int_str i t y u _ _ _ _ h
  ·rcases yao hv with ⟨j,u,rfl,rfl⟩|⟨y,u,rfl,rfl⟩
   ·rw[key_rl] at h;exact SeqAt.EqAt.str_int x t j u _ _ _ _ h
   ·rw[key_rr] at h;exact wpAny_eqBool_str h
 «strs»:=fun k x t v h=>by
  rcases yao h with ⟨i,u,rfl,e⟩|⟨y,u,rfl,e⟩
  ·exact nomatch e
  ·injection e with e1 _
   subst e1
   cases v<;>rfl
theorem ye7 (prog:Program) (w:World) (i:Int) (t:Tok):(yaq prog w).is (.inl i) (.int i t)=true:=yf0 i t
theorem yez (prog:Program) (w:World) (x:Str) (t:Tok):(yaq prog w).is (.inr x) (.str x t)=true:=qg0 x t
end L2
namespace L2
open PySem PySem.Spec PyProof.Rows
inductive V where
 | non|bl (b:Bool)|int (i:Int)|str (x:Str)|byt (b:Array UInt8)|flt (b:UInt64)|ref (a:Addr)|ty (n:String)
 deriving DecidableEq
def RelV:V→Value→Prop
 | .non,u=>u=Value.none
 | .bl b,u=>u=Value.bool b
 | .int i,u=>∃ t,u=Value.int i t
 | .str x,u=>∃ t,u=Value.str x t
 | .byt b,u=>∃ t,u=Value.bytes b t
 | .flt b,u=>∃ t,u=Value.float b t
 | .ref a,u=>u=Value.ref a
 | .ty n,u=>u=Value.type n
abbrev Vals:List V→List Value→Prop:=Paired RelV
theorem Vals.length {xs:List V}{us:List Value} (r:Vals xs us):xs.length=us.length:=Paired.length r
theorem Vals.get:∀ {xs:List V}{us:List Value}{i:Nat}{x:V},Vals xs us→xs[i]?=some x→∃ u,us[i]?=some u∧RelV x u
 | _,_,_,_,.nil,e=>by simp at e
 | _,_,0,_,.cons r _,e=>by simp at e;subst e;exact ⟨_,rfl,r⟩
 | _,_,i+1,x,.cons _ t,e=>by
  obtain ⟨u,h1,h2⟩:=Vals.get (i:=i) (x:=x) t (by simpa using e)
  exact ⟨u,by simpa using h1,h2⟩
theorem Vals.append:∀ {xs ys:List V}{us ws:List Value},Vals xs us→Vals ys ws→Vals (xs++ys) (us++ws)
 | _,_,_,_,.nil,s=>s
 | _,_,_,_,.cons r t,s=>.cons r (Vals.append t s)
theorem Vals.take:∀ {xs:List V}{us:List Value} (n:Nat),Vals xs us→Vals (xs.take n) (us.take n)
 | _,_,0,_=>.nil
 | _,_,_+1,.nil=>.nil
 | _,_,n+1,.cons r t=>.cons r (Vals.take n t)
theorem Vals.drop:∀ {xs:List V}{us:List Value} (n:Nat),Vals xs us→Vals (xs.drop n) (us.drop n)
 | _,_,0,r=>r
 | _,_,_+1,.nil=>.nil
 | _,_,n+1,.cons _ t=>Vals.drop n t
def RelO:Option V→Option Value→Prop
 | some v,some u=>RelV v u
 | none,none=>True
 | _,_=>False
def KV {κ:Type}:List (κ×V)→List (κ×Value)→Prop:=Paired fun (p:κ×V) (q:κ×Value)=>p.1=q.1∧RelV p.2 q.2
def kV:Key→V
 | .inl i=>.int i
 | .inr x=>.str x
inductive HO where
 /-- a list -/
 | lst (xs:List V)
 /-- a tuple (never changes) -/
 | tup (xs:List V)
 /-- a dict whose keys are ints and texts;one whose keys are tuples of ints and texts (the empty one is both) -/
 | dK (kvs:List (Key×V))|dT (kvs:List (List Key×V))
 /-- a set of ints: its members,its size -/
 | set (S:Int→Bool) (n:Nat)
 /-- an instance of the class at C,its dict at dx,its attributes -/
 | ins (C dx:Addr) (fs:List (Str×V))
 /-- the dict of the instance at x -/
 | own (x:Addr)
 /-- the dict of an exception -/
 | xd (fs:List (Str×V))
 /-- a bound method,f of x -/
 | met (f x:Addr)
 /-- a range object lo,lo+1,.. below hi -/
 | rng (lo hi:Int)
 /-- a thing that is known to the object (the script;a dict while a loop walks it): read,never written while it is so -/
 | frz (o:Obj) (u:HO)
 /-- a code object's table -/
 | tbl (ps:Array Value)
 /-- any other thing,by what is true of its one object (a def of one's own: SetO a S n:=HO.ext fun h=>..) -/
 | ext (φ:Heap→Prop)
abbrev Hp:=Addr→Option HO
def upd (H:Hp) (a:Addr) (o:HO):Hp:=fun b=>if b=a then some o else H b
theorem yaa {H:Hp}{a:Addr}{o:HO}:upd H a o a=some o:=by unfold upd;rw[if_pos rfl]
theorem qad {H:Hp}{a b:Addr}{o:HO} (h:b≠a):upd H a o b=H b:=by unfold upd;rw[if_neg h]
theorem qbi {H:Hp}{a b:Addr}{o u:HO} (h:H a=some o) (h':H b=some u) (d:o≠u):a≠b:=by
 intro e;subst e;rw[h] at h';exact d (Option.some.inj h')
theorem yab {H:Hp}{a b:Addr}{o:HO} (h:H a=some o) (h':H b=none):a≠b:=by
 intro e;subst e;rw[h] at h';cases h'
section
variable (P:Program) (w:World)
def yap (H:Hp) (h:Heap) (a:Addr):HO→Prop
 | .lst xs=>xs.length≤sizeLine∧∃ (its:List Value) (n:Nat),Vals xs its∧h.get? a=some { cls:=.type "list",data:=.seq its.toArray n }
 | .tup xs=>xs.length≤sizeLine∧∃ its:List Value,Vals xs its∧IsTup h a its.toArray
 | .dK kvs=>kvs.length≤sizeLine∧(a == sysModules)=false∧∃ vs,KV kvs vs∧h.DictOf (yaq P w) a vs
 | .dT kvs=>kvs.length≤sizeLine∧(a == sysModules)=false∧∃ xs:List (List Key×Addr×Value),
   Paired (fun (p:List Key×V) (q:List Key×Addr×Value)=>p.1=q.1∧H q.2.1=some (.tup (p.1.map kV))∧RelV p.2 q.2.2) kvs xs∧
   ∃ o es ep,h.get? a=some o∧o.ExactDict∧o.data=.dict es ep∧es.toList=xs.map (entryOfKey (tupleKind (yaq P w)))∧(xs.map (·.1)).Nodup
 | .set S n=>h.SetOf (intKind P w) a S n
 | .ins C dx fs=>H dx=some (.own a)∧fs.length≤1000∧dx≠a∧h.get? a=some (PySem.W.instObj C dx)∧
   ∃ mA,h.Ns1 dx mA∧(∀ f,RelO (fs.lookup f) (mA f))∧PySem.Within mA (fs.map (·.1))
 | .own _=>∃ o,h.get? a=some o
 | .xd fs=>∃ mA,h.Ns1 a mA∧∀ f,RelO (fs.lookup f) (mA f)
 | .rng lo hi=>∃ t u v,h.get? a=some { cls:=.type "range",data:=.fields #[.int lo t,.int hi u,.int 1 v] }
 | .frz o u=>h.get? a=some o∧yap H h a u
 | .tbl ps=>h.get? a=some { cls:=.none,data:=.fields ps }
 | .met f x=>h.get? a=some (PySem.W.methodObj (.ref f) (.ref x))
 | .ext φ=>φ h∧(∃ o,h.get? a=some o)∧∀ h1 h2:Heap,φ h1→(∀ o,h1.get? a=some o→h2.get? a=some o)→φ h2
def HOk (H:Hp) (h:Heap):Prop:=∀ a o,H a=some o→yap P w H h a o
end
section
variable {P:Program}{w:World}{H H':Hp}{h h':Heap}{a:Addr}{o:HO}
theorem yap.lt (x:yap P w H h a o):a<h.objs.size:=by
 cases o with
 | lst xs=>obtain ⟨_,_,_,_,e⟩:=x;exact Heap.lt_size e
 | tup xs=>obtain ⟨_,_,_,p⟩:=x;exact p.lt
 | dK kvs=>obtain ⟨_,_,_,_,o,_,_,e,_⟩:=x;exact Heap.lt_size e
 | dT kvs=>obtain ⟨_,_,_,_,o,_,_,e,_⟩:=x;exact Heap.lt_size e
 | set S n=>obtain ⟨o,_,_,_,e,_⟩:=x;exact Heap.lt_size e
 | ins C dx fs=>obtain ⟨_,_,_,e,_⟩:=x;exact Heap.lt_size e
 | own y=>obtain ⟨_,e⟩:=x;exact Heap.lt_size e
 | xd fs=>obtain ⟨_,⟨_,_,_,e,_⟩,_⟩:=x;exact Heap.lt_size e
 | rng lo hi=>obtain ⟨_,_,_,e⟩:=x;exact Heap.lt_size e
 | frz ob u=>obtain ⟨e,_⟩:=x;exact Heap.lt_size e
 | tbl ps=>exact Heap.lt_size (show h.get? a=some _ from x)
 | met f y=>exact Heap.lt_size (show h.get? a=some _ from x)
 | ext φ=>obtain ⟨_,⟨_,e⟩,_⟩:=x;exact Heap.lt_size e
theorem Paired.mapP {α β:Type}{F G:α→β→Prop}:∀ {l₁:List α}{l₂:List β},Paired F l₁ l₂→(∀ a b,F a b→G a b)→Paired G l₁ l₂
 | _,_,.nil,_=>.nil
 | _,_,.cons r t,f=>.cons (f _ _ r) (Paired.mapP t f)
theorem yap.stay (x:yap P w H h a o) (k:∀ b u,(b=a∨H b=some (.own a))→h.get? b=some u→h'.get? b=some u)
  (ho:∀ b,H b=some (.own a)→H' b=some (.own a)) (ht:∀ b xs,H b=some (.tup xs)→H' b=some (.tup xs)):yap P w H' h' a o:=by
 induction o with
 | lst xs=>obtain ⟨z,its,n,r,e⟩:=x;exact ⟨z,its,n,r,k _ _ (.inl rfl) e⟩
 | tup xs=>obtain ⟨z,its,r,ob,e,c⟩:=x;exact ⟨z,its,r,ob,k _ _ (.inl rfl) e,c⟩
 | dK kvs=>obtain ⟨z,y,vs,r,ob,es,ep,e,c⟩:=x;exact ⟨z,y,vs,r,ob,es,ep,k _ _ (.inl rfl) e,c⟩
 | dT kvs=>
  obtain ⟨z,y,xs,r,ob,es,ep,e,c⟩:=x
  exact ⟨z,y,xs,Paired.mapP r fun p q z=>⟨z.1,ht _ _ z.2.1,z.2.2⟩,ob,es,ep,k _ _ (.inl rfl) e,c⟩
 | set S n=>obtain ⟨ob,es,ep,t,e,c⟩:=x;exact ⟨ob,es,ep,t,k _ _ (.inl rfl) e,c⟩
 | ins C dx fs=>
  obtain ⟨d,z,ne,e,mA,⟨od,es,ep,e2,c⟩,r⟩:=x
  exact ⟨ho _ d,z,ne,k _ _ (.inl rfl) e,mA,⟨od,es,ep,k _ _ (.inr d) e2,c⟩,r⟩
 | own y=>obtain ⟨ob,e⟩:=x;exact ⟨ob,k _ _ (.inl rfl) e⟩
 | xd fs=>obtain ⟨mA,⟨od,es,ep,e,c⟩,r⟩:=x;exact ⟨mA,⟨od,es,ep,k _ _ (.inl rfl) e,c⟩,r⟩
 | rng lo hi=>obtain ⟨t,u,v,e⟩:=x;exact ⟨t,u,v,k _ _ (.inl rfl) e⟩
 | frz ob u ih=>obtain ⟨e,q⟩:=x;exact ⟨k _ _ (.inl rfl) e,ih q⟩
 | tbl ps=>
  have e:h.get? a=some { cls:=.none,data:=.fields ps }:=x
  show h'.get? a=some { cls:=.none,data:=.fields ps }
  exact k a _ (.inl rfl) e
 | met f y=>
  have e:h.get? a=some (PySem.W.methodObj (.ref f) (.ref y)):=x
  show h'.get? a=some (PySem.W.methodObj (.ref f) (.ref y))
  exact k a _ (.inl rfl) e
 | ext φ=>obtain ⟨p,⟨o,e⟩,st⟩:=x;exact ⟨st _ _ p fun o q=>k _ _ (.inl rfl) q,⟨o,k _ _ (.inl rfl) e⟩,st⟩
theorem HOk.lt (x:HOk P w H h) (e:H a=some o):a<h.objs.size:=(x a o e).lt
theorem HOk.fresh (x:HOk P w H h) (e:h.objs.size≤a):H a=none:=by
 cases q:H a with
 | none=>rfl
 | some u=>exact absurd (Nat.lt_of_lt_of_le (x.lt q) e) (Nat.lt_irrefl _)
theorem HOk.kept (x:HOk P w H h) (k:∀ b u,h.get? b=some u→h'.get? b=some u):HOk P w H h':=fun a o e=>
 (x a o e).stay (fun b u _ q=>k b u q) (fun _ q=>q) fun _ _ q=>q
theorem HOk.laid (x:HOk P w H h) (k:∀ b u,h.get? b=some u→h'.get? b=some u) (hp:h.objs.size≤a) (new:yap P w (upd H a o) h' a o):HOk P w (upd H a o) h':=fun b u e=>by
 have hn:=x.fresh hp
 by_cases hb:b=a
 ·subst hb;rw[yaa] at e;cases e;exact new
 ·rw[qad hb] at e
  exact (x b u e).stay (fun c v _ q=>k c v q) (fun c q=>by rw[qad (yab q hn)];exact q) fun c xs q=>by rw[qad (yab q hn)];exact q
end
def Rd (H:Hp) (a:Addr) (u:HO):Prop:=H a=some u∨∃ o,H a=some (.frz o u)
theorem Rd.ok {P:Program}{w:World}{H:Hp}{h:Heap}{a:Addr}{u:HO} (r:Rd H a u) (x:HOk P w H h):yap P w H h a u:=by
 rcases r with r|⟨o,r⟩
 ·exact x a u r
 ·obtain ⟨_,q⟩:=x a _ r
  exact q
def Mut:Option HO→Prop
 | some (.lst _)=>True
 | some (.dK _)=>True
 | some (.dT _)=>True
 | some (.set _ _)=>True
 | some (.ins _ _ _)=>True
 | some (.ext _)=>True
 | _=>False
section
variable {P:Program}{w:World}{H:Hp}{h h':Heap}{x e:Addr}{o':HO}
theorem HOk.write (ok:HOk P w H h) (mu:Mut (H x)) (he:e=x∨H e=some (.own x)) (k:∀ b u,b≠e→h.get? b=some u→h'.get? b=some u) (heo:∃ u,h'.get? e=some u)
  (new:yap P w (upd H x o') h' x o'):HOk P w (upd H x o') h':=fun b u q=>by
 have nown:∀ c y,H c=some (.own y)→c≠x:=fun c y r z=>by subst z;rw[r] at mu;exact mu
 have ntup:∀ c xs,H c=some (.tup xs)→c≠x:=fun c xs r z=>by subst z;rw[r] at mu;exact mu
 by_cases hb:b=x
 ·subst hb;rw[yaa] at q;cases q;exact new
 ·rw[qad hb] at q
  by_cases hbe:b=e
  ·have q':H b=some (.own x):=by
    rcases he with z|z
    ·exact absurd (hbe.trans z) hb
    ·rw[hbe];exact z
   rw[q] at q';cases q'
   obtain ⟨v,hv⟩:=heo
   exact ⟨v,by rw[hbe];exact hv⟩
  ·refine (ok b u q).stay (fun c v hc r=>k c v ?_ r) (fun c r=>by rw[qad (nown c b r)];exact r) fun c xs r=>by rw[qad (ntup c xs r)];exact r
   rcases hc with rfl|hc
   ·exact hbe
   ·rintro rfl
    rcases he with z|z
    ·exact nown c b hc z
    ·rw[hc] at z;cases z;exact hb rfl
end
structure Un (fs ex:List Addr) (H H':Hp) (h h':Heap):Prop where
 keep:∀ b o,h.get? b=some o→H b=none→b∉fs→b∉ex→h'.get? b=some o
 slot:∀ b o,h.get? b=some o→H b=none→b∈fs→b∉ex→∃ sl,h'.get? b=some { o with slots:=sl }
 free:∀ b o,h.get? b=some o→H b=none→b∉ex→H' b=none
 there:∀ b o,h.get? b=some o→b∉ex→∃ o',h'.get? b=some o'
 tups:∀ b xs,H b=some (.tup xs)→H' b=some (.tup xs)
 frzs:∀ b o u,H b=some (.frz o u)→H' b=some (.frz o u)
 tbls:∀ b ps,H b=some (.tbl ps)→∃ more,H' b=some (.tbl (ps++more))
section
variable {fs fs' ex ex':List Addr}{H H1 H2:Hp}{h h1 h2 h':Heap}{a x e:Addr}{o:HO}
theorem Un.any (u:Un fs ex H H1 h h1) {b:Addr}{ob:Obj} (q:h.get? b=some ob) (n:H b=none) (hx:b∉ex):∃ sl,h1.get? b=some { ob with slots:=sl }:=by
 by_cases hb:b∈fs
 ·exact u.slot b ob q n hb hx
 ·exact ⟨ob.slots,u.keep b ob q n hb hx⟩
theorem Un.kept (k:∀ b u,h.get? b=some u→h'.get? b=some u):Un fs ex H H h h':=
 ⟨fun b ob q _ _ _=>k b ob q,fun b ob q _ _ _=>⟨ob.slots,k b ob q⟩,fun _ _ _ n _=>n,fun b ob q _=>⟨ob,k b ob q⟩,fun _ _ q=>q,fun _ _ _ q=>q,fun _ ps q=>⟨#[],by rw[q];simp⟩⟩
theorem Un.refl:Un fs ex H H h h:=Un.kept fun _ _ q=>q
theorem Un.laid (k:∀ b u,h.get? b=some u→h'.get? b=some u) (hp:h.objs.size≤a) (hn:H a=none):Un fs ex H (upd H a o) h h' where
 keep:=fun b u q _ _ _=>k b u q
 slot:=fun b u q _ _ _=>⟨u.slots,k b u q⟩
 free:=fun b u q n _=>by rw[qad (Nat.ne_of_lt (Nat.lt_of_lt_of_le (Heap.lt_size q) hp))];exact n
 there:=fun b u q _=>⟨u,k b u q⟩
 tups:=fun b xs q=>by rw[qad (yab q hn)];exact q
 frzs:=fun b u xs q=>by rw[qad (yab q hn)];exact q
 tbls:=fun b ps q=>⟨#[],by rw[qad (yab q hn),q];simp⟩
theorem Un.write (mu:Mut (H x)) (he:e=x∨H e=some (.own x)) (k:∀ b u,b≠e→h.get? b=some u→h'.get? b=some u) (heo:∃ u,h'.get? e=some u):Un fs ex H (upd H x o) h h':=by
 have hx:∀ b,H b=none→b≠x:=fun b n z=>by subst z;rw[n] at mu;exact mu
 have hb:∀ b,H b=none→b≠e:=fun b n z=>by
  subst z
  rcases he with r|r
  ·exact hx b n r
  ·rw[n] at r;cases r
 have hm:∀ b u,H b=some u→¬ Mut (some u)→b≠x:=fun b u q nm z=>by subst z;rw[q] at mu;exact nm mu
 refine ⟨fun b u q n _ _=>k b u (hb b n) q,fun b u q n _ _=>⟨u.slots,k b u (hb b n) q⟩,fun b u q n _=>by rw[qad (hx b n)];exact n,fun b u q _=>?_,
  fun b xs q=>by rw[qad (hm b _ q fun z=>z)];exact q,fun b u xs q=>by rw[qad (hm b _ q fun z=>z)];exact q,fun b ps q=>⟨#[],by rw[qad (hm b _ q fun z=>z),q];simp⟩⟩
 by_cases hbe:b=e
 ·subst hbe;exact heo
 ·exact ⟨u,k b u hbe q⟩
end
def trk (h:Heap) (H:Hp):List Addr:=(List.range h.objs.size).filter fun a=>(H a).isSome
def hidT (h:Heap) (H:Hp):Heap:=PySem.W.hideAll h (trk h H)
theorem qf9 (h:Heap) (H:Hp):(hidT h H).objs.size=h.objs.size:=PySem.W.hideAll_size _ _
theorem hidT_get {h:Heap}{H:Hp}{b:Addr}{o:Obj} (e:h.get? b=some o) (n:H b=none):(hidT h H).get? b=some o:=
 PySem.W.hideAll_get _ e fun hm=>by
  have q:(H b).isSome=true:=(List.mem_filter.mp hm).2
  rw[n] at q;simp at q
theorem of_hidT {h:Heap}{H:Hp}{b:Addr}{o:Obj} (e:(hidT h H).get? b=some o):h.get? b=some o∧H b=none:=by
 have e':h.get? b=some o:=PySem.W.of_hideAll (trk h H) e
 refine ⟨e',?_⟩
 cases q:H b with
 | none=>rfl
 | some x=>
  have hm:b∈trk h H:=List.mem_filter.mpr ⟨List.mem_range.mpr (Heap.lt_size e'),by simp[q]⟩
  have z:(hidT h H).get? b=none:=PySem.W.hideAll_none (trk h H) hm
  rw[z] at e;cases e
structure Mod (K:PySem.W.Frag) (mg:Str→Option Value) (base:Heap):Prop where
 kin:K.In base
 glob:base.Ns mainGlobals mg
 blt:∃ mb,base.Ns builtinsNs mb∧∀ x:Str,x≠"__name__"→mb x=bootBuiltins x
 nolimit:base.NoLimit
structure Cx where
 prog:Program
 w:World
 K:PySem.W.Frag
 mg:Str→Option Value
 base:Heap
 A:Around
 N:List Str
 s₀:Shared
 H₀:Hp
 env:Env
 outer:List Env
 stack:List Env
 ex:List Addr
 fn:Str→Bool
 calm:Bool
 pn:List (Addr×Obj)
 xe:Value→Shared→Prop
def frs (l:List Env):List Addr:=l.filterMap (·.frame)
abbrev Cx.fs (X:Cx):List Addr:=frs X.outer
def Vis (sc:Scope) (x:Str):Prop:=sc.names.lookup x=some .local∨sc.names.lookup x=some .cell∨sc.names.lookup x=some .free
def Loc (sc:Scope) (x:Str):Prop:=sc.names.lookup x=some .local∨sc.names.lookup x=some .cell
def Look (env:Env) (h:Heap) (m:Str→Option Value) (x:Str) (u:Value):Prop:=
 (env.kindOf x=some .local∧m x=some u)∨((env.kindOf x=some .cell∨env.kindOf x=some .free)∧∃ c,env.cells.lookup x=some c∧h.IsCell c (some u))
structure Cx.Ok (X:Cx):Prop where
 mod:Mod X.K X.mg X.base
 kind:X.env.scope.kind=.function
 glob:X.env.globals=mainGlobals
 blt:X.env.builtins=builtinsNs
 above:X.s₀.heap.objs.size≤X.env.locals
 inj:∀ x y c,X.env.cells.lookup x=some c→X.env.cells.lookup y=some c→x=y
 has:∀ x,(X.env.kindOf x=some .cell∨X.env.kindOf x=some .free)→∃ c,X.env.cells.lookup x=some c
 cab:∀ x c,X.fn x=true→X.env.cells.lookup x=some c→X.s₀.heap.objs.size≤c
 hd:X.calm=true→X.A.handled=none
 frames:X.A.frames=some X.stack
 stk:X.stack=X.outer∨(X.stack=X.env::X.outer∧X.env.frame=some X.env.locals)
 exf:∀ b∈X.ex,b≠X.env.locals∧∀ x c,X.env.cells.lookup x=some c→c≠b
 bs:∀ b o,X.base.get? b=some o→X.s₀.heap.get? b=some o∧X.H₀ b=none
 bsz:X.base.objs.size≤X.s₀.heap.objs.size
 noex:∀ b o,X.base.get? b=some o→b∉X.ex
 exfs:∀ b∈X.ex,b∉X.fs
 funs:X.s₀.heap.FunFrames X.base X.outer
 frf:∀ b∈X.fs,X.H₀ b=none
structure Inv (X:Cx) (pins:List (Addr×Obj)) (σ:List (Option V)) (H:Hp) (s:Shared):Prop where
 ok:X.Ok
 os:s.os=X.s₀.os
 bare:AllBare s.gens
 base:Un X.fs X.ex X.H₀ H X.s₀.heap s.heap
 loc:∃ m,s.heap.Ns X.env.locals m∧∀ (i:Nat) (x:Str) (v:V),X.N[i]?=some x→σ[i]?=some (some v)→Vis X.env.scope x→∃ u,RelV v u∧Look X.env s.heap m x u
 cell:∀ x c,X.env.cells.lookup x=some c→∃ v,s.heap.IsCell c v
 free:H X.env.locals=none
 freeC:∀ x c,X.env.cells.lookup x=some c→H c=none
 pin:∀ p∈X.pn++pins,s.heap.get? p.1=some p.2∧H p.1=none∧p.1≠X.env.locals∧p.1∉X.fs∧∀ v,p.2.data≠.cell v
 hok:HOk X.prog X.w H s.heap
 len:σ.length=X.N.length
section
variable {X:Cx}{pins:List (Addr×Obj)}{σ:List (Option V)}{H H':Hp}{s:Shared}{h':Heap}
theorem Cx.Ok.nofr (ok:X.Ok) {b:Addr}{o:Obj} (e:X.base.get? b=some o):b∉X.fs:=fun hb=>by
 have:=(ok.funs.mem hb).1
 rw[e] at this;cases this
theorem Inv.bs (I:Inv X pins σ H s):∀ b o,X.base.get? b=some o→s.heap.get? b=some o∧H b=none:=fun b o e=>
 ⟨I.base.keep b o (I.ok.bs b o e).1 (I.ok.bs b o e).2 (I.ok.nofr e) (I.ok.noex b o e),I.base.free b o (I.ok.bs b o e).1 (I.ok.bs b o e).2 (I.ok.noex b o e)⟩
theorem Inv.bk (I:Inv X pins σ H s):∀ b o,X.base.get? b=some o→s.heap.get? b=some o:=fun b o e=>(I.bs b o e).1
theorem Inv.mod (I:Inv X pins σ H s):Mod X.K X.mg X.base:=I.ok.mod
theorem Inv.kIn (I:Inv X pins σ H s):X.K.In s.heap:=I.ok.mod.kin.keeps I.bk
theorem Inv.nolimit (I:Inv X pins σ H s):s.heap.NoLimit:=I.ok.mod.nolimit.keeps I.bk
theorem Inv.lt (I:Inv X pins σ H s):X.env.locals<s.heap.objs.size:=let ⟨_,hn,_⟩:=I.loc;hn.lt
theorem Inv.sz (I:Inv X pins σ H s):X.s₀.heap.objs.size≤s.heap.objs.size:=Nat.le_trans I.ok.above (Nat.le_of_lt I.lt)
theorem Inv.nofs (I:Inv X pins σ H s) {a:Addr} (h:s.heap.objs.size≤a):a∉X.fs:=fun hb=>by
 obtain ⟨_,o,ho,_⟩:=I.ok.funs.mem hb
 exact absurd (Nat.lt_of_lt_of_le (Heap.lt_size ho) (Nat.le_trans I.sz h)) (Nat.lt_irrefl _)
theorem Inv.cne (I:Inv X pins σ H s):∀ x c,X.env.cells.lookup x=some c→c≠X.env.locals:=fun x c e z=>by
 obtain ⟨v,o,ho,hd⟩:=I.cell x c e
 obtain ⟨m,⟨o',es,ep,ho',hd',_⟩,_⟩:=I.loc
 rw[z,ho'] at ho;cases ho;rw[hd'] at hd;cases hd
theorem Inv.funs (I:Inv X pins σ H s):s.heap.FunFrames X.base X.outer:=by
 have all:∀ (l:List Env),(∀ b∈frs l,b∈X.fs)→X.s₀.heap.FunFrames X.base l→s.heap.FunFrames X.base l:=by
  intro l
  induction l with
  | nil=>intro _ _;trivial
  | cons env r ih=>
   intro hs hl
   obtain ⟨hk,⟨L,o,hf,hn,ho,hd⟩,hr⟩:=hl
   have hL:L∈X.fs:=hs L (by unfold frs;rw[List.filterMap_cons,hf];exact List.mem_cons_self)
   obtain ⟨sl,e⟩:=I.base.slot L o ho (I.ok.frf L hL) hL fun z=>I.ok.exfs L z hL
   exact ⟨hk,⟨L,_,hf,hn,e,hd⟩,ih (fun b hb=>hs b (by unfold frs;rw[List.filterMap_cons,hf];exact List.mem_cons_of_mem _ hb)) hr⟩
 exact all X.outer (fun _ hb=>hb) I.ok.funs
theorem Inv.stack (I:Inv X pins σ H s):s.heap.FunFrames X.base X.stack:=by
 rcases I.ok.stk with e|⟨e,hf⟩
 ·rw[e];exact I.funs
 ·rw[e]
  obtain ⟨m,hn,_⟩:=I.loc
  refine .cons (by rw[I.ok.kind];decide) hf hn ?_ I.funs
  exact Heap.get?_none_of_le (Nat.le_trans I.ok.bsz I.ok.above)
theorem Inv.stkSub (I:Inv X pins σ H s):∀ b∈frs X.stack,b∈X.env.locals::X.fs:=fun b hb=>by
 rcases I.ok.stk with e|⟨e,hf⟩
 ·rw[e] at hb;exact List.mem_cons_of_mem _ hb
 ·rw[e] at hb
  unfold frs at hb
  rw[List.filterMap_cons,hf] at hb
  exact hb
theorem Inv.stkFree (I:Inv X pins σ H s):∀ b∈frs X.stack,H b=none:=fun b hb=>by
 rcases List.mem_cons.mp (I.stkSub b hb) with e|hb
 ·rw[e];exact I.free
 ·obtain ⟨_,o,ho,_⟩:=I.ok.funs.mem hb
  exact I.base.free b o ho (I.ok.frf b hb) fun z=>I.ok.exfs b z hb
theorem Inv.step {g':Array GenState}{t':Nat}{d':Drawn}{ch:List Addr} (I:Inv X pins σ H s)
  (hch:∀ b∈ch,(b∈X.ex∨X.s₀.heap.objs.size≤b)∧b≠X.env.locals∧(∀ x c,X.env.cells.lookup x=some c→c≠b)∧∀ p∈X.pn++pins,p.1≠b)
  (keep:∀ b o,b≠X.env.locals→b∉X.fs→b∉ch→s.heap.get? b=some o→H b=none→h'.get? b=some o)
  (slot:∀ b o,b≠X.env.locals→b∈X.fs→b∉ch→s.heap.get? b=some o→H b=none→∃ sl,h'.get? b=some { o with slots:=sl }) (free:∀ b o,b∉ch→s.heap.get? b=some o→H b=none→H' b=none)
  (there:∀ b o,b∉ch→s.heap.get? b=some o→∃ o',h'.get? b=some o')
  (tups:∀ b xs,H b=some (.tup xs)→H' b=some (.tup xs)) (frzs:∀ b o u,H b=some (.frz o u)→H' b=some (.frz o u)) (tbls:∀ b ps,H b=some (.tbl ps)→∃ more,H' b=some (.tbl (ps++more)))
  (ns:∀ m,s.heap.Ns X.env.locals m→h'.Ns X.env.locals m) (hok:HOk X.prog X.w H' h') (hg:AllBare g') :
  Inv X pins σ H' { s with heap:=h',gens:=g',drawn:=d',toks:=t' }:=by
 have neL:∀ b o,X.s₀.heap.get? b=some o→b≠X.env.locals:=fun b o e=>Nat.ne_of_lt (Nat.lt_of_lt_of_le (Heap.lt_size e) I.ok.above)
 have neC:∀ b o,X.s₀.heap.get? b=some o→b∉X.ex→b∉ch:=fun b o e hx hb=>by
  rcases (hch b hb).1 with z|z
  ·exact hx z
  ·exact absurd (Nat.lt_of_lt_of_le (Heap.lt_size e) z) (Nat.lt_irrefl _)
 have cellK:∀ x c,X.env.cells.lookup x=some c→∀ v,s.heap.IsCell c v→h'.IsCell c v:=fun x c e v ⟨o,ho,hd⟩=>by
  have nch:c∉ch:=fun z=>(hch c z).2.2.1 x c e rfl
  by_cases hc:c∈X.fs
  ·obtain ⟨sl,q⟩:=slot c o (I.cne x c e) hc nch ho (I.freeC x c e)
   exact ⟨_,q,hd⟩
  ·exact ⟨o,keep c o (I.cne x c e) hc nch ho (I.freeC x c e),hd⟩
 refine ⟨I.ok,I.os,hg,⟨fun b o e n hb hx=>?_,fun b o e n hb hx=>?_,fun b o e n hx=>?_,fun b o e hx=>?_,fun b xs e=>tups b xs (I.base.tups b xs e),fun b o xs e=>frzs b o xs (I.base.frzs b o xs e),fun b ps e=>?_⟩,?_,fun x c e=>?_,?_,fun x c e=>?_,fun p hp=>?_,hok,I.len⟩
 ·exact keep b o (neL b o e) hb (neC b o e hx) (I.base.keep b o e n hb hx) (I.base.free b o e n hx)
 ·obtain ⟨sl,e1⟩:=I.base.slot b o e n hb hx
  obtain ⟨sl',e2⟩:=slot b _ (neL b o e) hb (neC b o e hx) e1 (I.base.free b o e n hx)
  exact ⟨sl',e2⟩
 ·obtain ⟨o',e1⟩:=I.base.there b o e hx
  exact free b o' (neC b o e hx) e1 (I.base.free b o e n hx)
 ·obtain ⟨o',e1⟩:=I.base.there b o e hx
  exact there b o' (neC b o e hx) e1
 ·obtain ⟨m1,e1⟩:=I.base.tbls b ps e
  obtain ⟨m2,e2⟩:=tbls b _ e1
  exact ⟨m1++m2,by rw[e2,Array.append_assoc]⟩
 ·obtain ⟨m,hn,hl⟩:=I.loc
  refine ⟨m,ns m hn,fun i x v e1 e2 e3=>?_⟩
  obtain ⟨u,r,l⟩:=hl i x v e1 e2 e3
  refine ⟨u,r,?_⟩
  rcases l with l|⟨k,c,e,z⟩
  ·exact .inl l
  ·exact .inr ⟨k,c,e,cellK x c e _ z⟩
 ·obtain ⟨v,z⟩:=I.cell x c e
  exact ⟨v,cellK x c e v z⟩
 ·obtain ⟨m,⟨o,_,_,ho,_⟩,_⟩:=I.loc
  exact free _ o (fun z=>(hch _ z).2.1 rfl) ho I.free
 ·obtain ⟨v,o,ho,hd⟩:=I.cell x c e
  exact free c o (fun z=>(hch c z).2.2.1 x c e rfl) ho (I.freeC x c e)
 ·obtain ⟨e,n,ne,nf,d⟩:=I.pin p hp
  have nch:p.1∉ch:=fun z=>(hch p.1 z).2.2.2 p hp rfl
  exact ⟨keep p.1 p.2 ne nf nch e n,free p.1 p.2 nch e n,ne,nf,d⟩
theorem Inv.un {t':Nat} (I:Inv X pins σ H s) (u:Un X.fs [] H H' s.heap h') (hok:HOk X.prog X.w H' h'):Inv X pins σ H' { s with heap:=h',toks:=t' }:=by
 obtain ⟨m,⟨o,es,ep,ho,r⟩,_⟩:=id I.loc
 obtain ⟨sl,hL⟩:=u.any ho I.free (by simp)
 exact I.step (g':=s.gens) (d':=s.drawn) (ch:=[]) (fun _ z=>nomatch z) (fun b o _ hb _ e n=>u.keep b o e n hb (by simp)) (fun b o _ hb _ e n=>u.slot b o e n hb (by simp)) (fun b o _ e n=>u.free b o e n (by simp)) (fun b o _ e=>u.there b o e (by simp)) u.tups u.frzs u.tbls (fun m' hm=>by
  obtain ⟨o',es',ep',ho',r'⟩:=hm
  rw[ho] at ho';cases ho'
  exact ⟨_,es',ep',hL,r'⟩) hok I.bare
theorem Inv.call {g':Array GenState}{t':Nat}{d':Drawn}{ch:List Addr} (I:Inv X pins σ H s) (u:Un (frs X.stack) ch H H' s.heap h') (hok:HOk X.prog X.w H' h') (hg:AllBare g')
  (hch:∀ b∈ch,(b∈X.ex∨X.s₀.heap.objs.size≤b)∧b≠X.env.locals∧(∀ x c,X.env.cells.lookup x=some c→c≠b)∧∀ p∈X.pn++pins,p.1≠b) :
  Inv X pins σ H' { s with heap:=h',gens:=g',drawn:=d',toks:=t' }:=by
 obtain ⟨m,⟨o,es,ep,ho,r⟩,_⟩:=id I.loc
 obtain ⟨sl,hL⟩:=u.any ho I.free fun z=>(hch _ z).2.1 rfl
 exact I.step (ch:=ch) hch (fun b o hL hb hc e n=>u.keep b o e n (fun z=>(List.mem_cons.mp (I.stkSub b z)).elim hL hb) hc) (fun b o _ _ hc e n=>u.any e n hc) (fun b o hc e n=>u.free b o e n hc) (fun b o hc e=>u.there b o e hc) u.tups u.frzs u.tbls (fun m' hm=>by
  obtain ⟨o',es',ep',ho',r'⟩:=hm
  rw[ho] at ho';cases ho'
  exact ⟨_,es',ep',hL,r'⟩) hok hg
theorem Inv.turned {t':Nat}{it:Addr} (I:Inv X pins σ H s) (k:∀ b o,b≠it→s.heap.get? b=some o→h'.get? b=some o) (hn:H it=none) (hL:it≠X.env.locals)
  (h1:it∈X.ex∨X.s₀.heap.objs.size≤it) (h2:∀ x c,X.env.cells.lookup x=some c→c≠it) (h3:∀ p∈X.pn++pins,p.1≠it):Inv X pins σ H { s with heap:=h',toks:=t' }:=by
 have nit:∀ b u,H b=some u→b≠it:=fun b u e z=>by rw[z,hn] at e;cases e
 refine I.step (g':=s.gens) (d':=s.drawn) (ch:=[it]) (fun b hb=>?_) (fun b o _ _ hc e _=>k b o (fun z=>hc (by simp[z])) e) (fun b o _ _ hc e _=>⟨o.slots,k b o (fun z=>hc (by simp[z])) e⟩) (fun _ _ _ _ n=>n)
  (fun b o hc e=>⟨o,k b o (fun z=>hc (by simp[z])) e⟩) (fun _ _ e=>e) (fun _ _ _ e=>e) (fun b ps e=>⟨#[],by rw[e];simp⟩) (fun m hm=>?_) (fun b u e=>?_) I.bare
 ·have e:b=it:=by simpa using hb
  subst e
  exact ⟨h1,hL,h2,h3⟩
 ·obtain ⟨o,es,ep,ho,r⟩:=hm
  exact ⟨o,es,ep,k _ o (Ne.symm hL) ho,r⟩
 ·refine (I.hok b u e).stay (fun c v hc q=>k c v ?_ q) (fun _ q=>q) fun _ _ q=>q
  rcases hc with z|z
  ·rw[z];exact nit b u e
  ·exact nit c _ z
theorem Inv.tok (I:Inv X pins σ H s) (t:Nat):Inv X pins σ H { s with toks:=t }:=I.un (h':=s.heap) (t':=t) Un.refl I.hok
theorem Inv.kept {t':Nat} (I:Inv X pins σ H s) (k:∀ b u,s.heap.get? b=some u→h'.get? b=some u):Inv X pins σ H { s with heap:=h',toks:=t' }:=I.un (Un.kept k) (I.hok.kept k)
theorem Inv.laid {a:Addr}{o:HO}{t':Nat} (I:Inv X pins σ H s) (k:∀ b u,s.heap.get? b=some u→h'.get? b=some u) (hp:s.heap.objs.size≤a) (new:yap X.prog X.w (upd H a o) h' a o) :
  Inv X pins σ (upd H a o) { s with heap:=h',toks:=t' }:=I.un (Un.laid k hp (I.hok.fresh hp)) (I.hok.laid k hp new)
theorem Inv.write {x e:Addr}{o:HO}{t':Nat} (I:Inv X pins σ H s) (mu:Mut (H x)) (he:e=x∨H e=some (.own x)) (k:∀ b u,b≠e→s.heap.get? b=some u→h'.get? b=some u) (heo:∃ u,h'.get? e=some u)
  (new:yap X.prog X.w (upd H x o) h' x o):Inv X pins σ (upd H x o) { s with heap:=h',toks:=t' }:=I.un (Un.write mu he k heo) (I.hok.write mu he k heo new)
theorem Inv.weak {σ':List (Option V)} (I:Inv X pins σ H s) (hl:σ'.length=σ.length) (w:∀ (i:Nat) v,σ'[i]?=some (some v)→σ[i]?=some (some v)):Inv X pins σ' H s:=
 ⟨I.ok,I.os,I.bare,I.base,let ⟨m,hn,hl'⟩:=I.loc;⟨m,hn,fun i x v e1 e2 e3=>hl' i x v e1 (w i v e2) e3⟩,I.cell,I.free,I.freeC,I.pin,I.hok,hl.trans I.len⟩
theorem Inv.pins_of {pins':List (Addr×Obj)} (I:Inv X pins σ H s) (h:∀ p∈pins',s.heap.get? p.1=some p.2∧H p.1=none∧p.1≠X.env.locals∧p.1∉X.fs∧∀ v,p.2.data≠.cell v):Inv X pins' σ H s:=
 ⟨I.ok,I.os,I.bare,I.base,I.loc,I.cell,I.free,I.freeC,fun p hp=>(List.mem_append.mp hp).elim (fun z=>I.pin p (List.mem_append_left _ z)) (h p),I.hok,I.len⟩
theorem ye8 {N:List Str} (hN:N.Nodup) {i j:Nat}{x:Str} (a:N[i]?=some x) (b:N[j]?=some x):i=j:=by
 obtain ⟨h1,e1⟩:=List.getElem?_eq_some_iff.mp a
 obtain ⟨h2,e2⟩:=List.getElem?_eq_some_iff.mp b
 exact (List.getElem_inj hN).mp (e1.trans e2.symm)
theorem yef {M:Model}{A:Around}{E:Value→Shared→Prop}{i:Nat}{x:Str}{v:V}{u:Value}{Q:Unit→Shared→Prop} (I:Inv X pins σ H s) (hN:X.N.Nodup) (hi:X.N[i]?=some x) (hx:Loc X.env.scope x) (r:RelV v u)
  (h:∀ s',Inv X pins (σ.set i (some v)) H s'→(∃ a,Heap.SameBut a s.heap s'.heap∧(a=X.env.locals∨X.env.cells.lookup x=some a))→Q () s') (hf:X.fn x=true∨X.env.scope.names.lookup x=some .local:=by first|exact .inl rfl|exact .inr rfl|assumption):wpAny M A (storeName X.env x u) Q E s:=by
 obtain ⟨m,hn,hl⟩:=id I.loc
 have hcls:(X.env.scope.kind == .class||(X.env.scope.kind == .module&&X.env.locals != X.env.globals))=false:=by rw[I.ok.kind];rfl
 have hiσ:i<σ.length:=by rw[I.len];exact (List.getElem?_eq_some_iff.mp hi).1
 have cne:=I.cne
 have tracked:∀ {a:Addr}{h':Heap},(∃ o,s.heap.get? a=some o∧H a=none)→Heap.SameBut a s.heap h'→HOk X.prog X.w H h':=fun {a h'} ha hs b ob e=>by
  obtain ⟨_,_,hfree⟩:=ha
  refine (I.hok b ob e).stay (fun c w' hc q=>(hs.2 c ?_).trans q) (fun _ q=>q) fun _ _ q=>q
  rintro rfl
  rcases hc with rfl|hc
  ·rw[hfree] at e;cases e
  ·rw[hfree] at hc;cases hc
 rcases hx with hk|hk
 ·refine wpAny_storeName_local hk hn (fun h' hn' hs=>?_) hcls
  obtain ⟨oL,_,_,hoL,_⟩:=id hn
  refine h _ ⟨I.ok,I.os,I.bare,⟨fun b o e n hb hx=>?_,fun b o e n hb hx=>?_,I.base.free,fun b o e hx=>?_,I.base.tups,I.base.frzs,I.base.tbls⟩,⟨_,hn',fun j y v' e1 e2 e3=>?_⟩,fun y c e=>?_,I.free,I.freeC,fun p hp=>?_,tracked ⟨oL,hoL,I.free⟩ hs,by simpa using I.len⟩ ⟨_,hs,.inl rfl⟩
  ·exact (hs.2 b (Nat.ne_of_lt (Nat.lt_of_lt_of_le (Heap.lt_size e) I.ok.above))).trans (I.base.keep b o e n hb hx)
  ·obtain ⟨sl,e1⟩:=I.base.slot b o e n hb hx
   exact ⟨sl,(hs.2 b (Nat.ne_of_lt (Nat.lt_of_lt_of_le (Heap.lt_size e) I.ok.above))).trans e1⟩
  ·obtain ⟨o',e1⟩:=I.base.there b o e hx
   exact ⟨o',(hs.2 b (Nat.ne_of_lt (Nat.lt_of_lt_of_le (Heap.lt_size e) I.ok.above))).trans e1⟩
  ·by_cases hj:j=i
   ·subst hj
    rw[hi] at e1;cases e1
    rw[List.getElem?_set_self hiσ] at e2
    cases e2
    exact ⟨u,r,.inl ⟨hk,by simp⟩⟩
   ·rw[List.getElem?_set_ne (Ne.symm hj)] at e2
    obtain ⟨u',r',q⟩:=hl j y v' e1 e2 e3
    refine ⟨u',r',?_⟩
    rcases q with ⟨k,e⟩|⟨k,c,e,z⟩
    ·refine .inl ⟨k,?_⟩
     have:y≠x:=fun e=>hj (ye8 hN e1 (e ▸ hi))
     simp[this,e]
    ·exact .inr ⟨k,c,e,z.sameBut hs (cne y c e)⟩
  ·obtain ⟨w',z⟩:=I.cell y c e
   exact ⟨w',z.sameBut hs (cne y c e)⟩
  ·obtain ⟨e,n,ne,nf,d⟩:=I.pin p hp
   exact ⟨(hs.2 p.1 ne).trans e,n,ne,nf,d⟩
 ·have hfn:X.fn x=true:=by
   rcases hf with z|z
   ·exact z
   ·rw[z] at hk;cases hk
  obtain ⟨c,hc⟩:=I.ok.has x (.inl hk)
  obtain ⟨w',z⟩:=I.cell x c hc
  refine wpAny_storeName_cell I.ok.kind hk hc z (fun h' hc' hs=>?_)
  obtain ⟨oc,hoc,hocd⟩:=id z
  refine h { s with heap:=h' } ⟨I.ok,I.os,I.bare,⟨fun b o e n hb hx=>?_,fun b o e n hb hx=>?_,I.base.free,fun b o e hx=>?_,I.base.tups,I.base.frzs,I.base.tbls⟩,⟨m,hn.sameBut hs (Ne.symm (cne x c hc)),fun j y v' e1 e2 e3=>?_⟩,fun y c' e=>?_,I.free,I.freeC,fun p hp=>?_,tracked ⟨oc,hoc,I.freeC x c hc⟩ hs,by simpa using I.len⟩ ⟨c,hs,.inr hc⟩
  ·exact (hs.2 b (Nat.ne_of_lt (Nat.lt_of_lt_of_le (Heap.lt_size e) (I.ok.cab x c hfn hc)))).trans (I.base.keep b o e n hb hx)
  ·obtain ⟨sl,e1⟩:=I.base.slot b o e n hb hx
   exact ⟨sl,(hs.2 b (Nat.ne_of_lt (Nat.lt_of_lt_of_le (Heap.lt_size e) (I.ok.cab x c hfn hc)))).trans e1⟩
  ·obtain ⟨o',e1⟩:=I.base.there b o e hx
   exact ⟨o',(hs.2 b (Nat.ne_of_lt (Nat.lt_of_lt_of_le (Heap.lt_size e) (I.ok.cab x c hfn hc)))).trans e1⟩
  ·by_cases hj:j=i
   ·subst hj
    rw[hi] at e1;cases e1
    rw[List.getElem?_set_self hiσ] at e2
    cases e2
    exact ⟨u,r,.inr ⟨.inl hk,c,hc,hc'⟩⟩
   ·rw[List.getElem?_set_ne (Ne.symm hj)] at e2
    obtain ⟨u',r',q⟩:=hl j y v' e1 e2 e3
    refine ⟨u',r',?_⟩
    rcases q with q|⟨k,c',e,z'⟩
    ·exact .inl q
    ·refine .inr ⟨k,c',e,z'.sameBut hs ?_⟩
     rintro rfl
     exact hj (ye8 hN e1 (I.ok.inj _ _ _ e hc ▸ hi))
  ·by_cases hcc:c'=c
   ·subst hcc;exact ⟨_,hc'⟩
   ·obtain ⟨w2,z2⟩:=I.cell y c' e
    exact ⟨w2,z2.sameBut hs hcc⟩
  ·obtain ⟨e,n,ne,nf,d⟩:=I.pin p hp
   refine ⟨(hs.2 p.1 ?_).trans e,n,ne,nf,d⟩
   intro q
   rw[q,hoc] at e
   have q':oc=p.2:=Option.some.inj e
   exact d w' (by rw[← q'];exact hocd)
theorem yfi {M:Model}{A:Around}{E:Value→Shared→Prop}{i:Nat}{x:Str}{v:V}{u:Value}{Q:Unit→Shared→Prop} (I:Inv X pins σ H s) (hN:X.N.Nodup) (hi:X.N[i]?=some x) (hx:Loc X.env.scope x) (r:RelV v u)
  (h:∀ s',Inv X pins (σ.set i (some v)) H s'→Q () s') (hf:X.fn x=true∨X.env.scope.names.lookup x=some .local:=by first|exact .inl rfl|exact .inr rfl|assumption):wpAny M A (storeName X.env x u) Q E s:=
 yef I hN hi hx r (fun s' I' _=>h s' I') hf
theorem Inv.call' {s':Shared}{ch:List Addr} (I:Inv X pins σ H s) (ho:s'.os=s.os) (u:Un (frs X.stack) ch H H' s.heap s'.heap) (hok:HOk X.prog X.w H' s'.heap) (hg:AllBare s'.gens)
  (hch:∀ b∈ch,(b∈X.ex∨X.s₀.heap.objs.size≤b)∧b≠X.env.locals∧(∀ x c,X.env.cells.lookup x=some c→c≠b)∧∀ p∈X.pn++pins,p.1≠b):Inv X pins σ H' s':=by
 obtain ⟨h',g',d',t',o'⟩:=s'
 have e:o'=s.os:=ho
 subst e
 exact I.call (g':=g') (t':=t') (d':=d') u hok hg hch
end
abbrev XK:=Value→Option Addr→Hp→Prop
abbrev St:=List (Option V)
abbrev VK:=V→Hp→Prop
abbrev TE:=St→Hp→VK→Prop
abbrev TT:=St→Hp→(Bool→Hp→Prop)→Prop
abbrev TA:=St→Hp→(List V→Hp→Prop)→Prop
structure Ends where
 nx:St→Hp→Prop
 rt:VK
 bk:St→Hp→Prop:=fun _ _=>False
 ct:St→Hp→Prop:=fun _ _=>False
abbrev TS:=Ends→St→Hp→Prop
def EP (X:Cx) (pins:List (Addr×Obj)) (σ:St) (Q:VK) (u:Value) (s':Shared):Prop:=∃ v H',Inv X pins σ H' s'∧RelV v u∧Q v H'
def TP (X:Cx) (pins:List (Addr×Obj)) (σ:St) (Q:Bool→Hp→Prop) (b:Bool) (s':Shared):Prop:=∃ H',Inv X pins σ H' s'∧Q b H'
def AP (X:Cx) (pins:List (Addr×Obj)) (σ:St) (Q:List V→Hp→Prop) (us:List Value) (s':Shared):Prop:=∃ vs H',Inv X pins σ H' s'∧Vals vs us∧Q vs H'
def SP (X:Cx) (pins:List (Addr×Obj)) (D:Ends) (f:Flow) (s':Shared):Prop:=
 match f with
 | .next=>∃ σ' H',Inv X pins σ' H' s'∧D.nx σ' H'
 | .brk=>∃ σ' H',Inv X pins σ' H' s'∧D.bk σ' H'
 | .cont=>∃ σ' H',Inv X pins σ' H' s'∧D.ct σ' H'
 | .ret u=>∃ v σ' H',Inv X pins σ' H' s'∧RelV v u∧D.rt v H'
def PE (X:Cx) (e:Expr) (t:TE):Prop:=
 ∀ (pins:List (Addr×Obj)) (s:Shared) (σ:St) (H:Hp) (Q:VK),Inv X pins σ H s→t σ H Q→wpAny (model X.prog X.w) X.A (eval e X.env) (EP X pins σ Q) X.xe s
def PT (X:Cx) (e:Expr) (t:TT):Prop:=
 ∀ (pins:List (Addr×Obj)) (s:Shared) (σ:St) (H:Hp) (Q:Bool→Hp→Prop),Inv X pins σ H s→t σ H Q→wpAny (model X.prog X.w) X.A (isTrue e X.env (eval e X.env)) (TP X pins σ Q) X.xe s
def PW (X:Cx) (e:Expr) (t:TT):Prop:=
 ∀ (whole:Sem Value) (pins:List (Addr×Obj)) (s:Shared) (σ:St) (H:Hp) (Q:Bool→Hp→Prop),Inv X pins σ H s→t σ H Q→wpAny (model X.prog X.w) X.A (isTrue e X.env whole) (TP X pins σ Q) X.xe s
theorem PW.pt {X:Cx}{e:Expr}{t:TT} (h:PW X e t):PT X e t:=h _
def PA (X:Cx) (es:List Expr) (t:TA):Prop:=
 ∀ (pos:Pos) (pins:List (Addr×Obj)) (s:Shared) (σ:St) (H:Hp) (Q:List V→Hp→Prop),Inv X pins σ H s→t σ H Q→wpAny (model X.prog X.w) X.A (spliced (backTo pos (starEach es X.env))) (AP X pins σ Q) X.xe s
def PS (X:Cx) (st:Stmt) (t:TS):Prop:=
 ∀ (pins:List (Addr×Obj)) (s:Shared) (σ:St) (H:Hp) (D:Ends),Inv X pins σ H s→t D σ H→wpAny (model X.prog X.w) X.A (exec st X.env) (SP X pins D) X.xe s
def PSs (X:Cx) (st:List Stmt) (t:TS):Prop:=
 ∀ (pins:List (Addr×Obj)) (s:Shared) (σ:St) (H:Hp) (D:Ends),Inv X pins σ H s→t D σ H→wpAny (model X.prog X.w) X.A (execs st X.env) (SP X pins D) X.xe s
theorem thn {α:Type}{t:Sem α}{Q Q':α→Shared→Prop}{M:Model}{A:Around}{E:Value→Shared→Prop}{s:Shared} (h:wpAny M A t Q E s) (hQ:∀ a s,Q a s→Q' a s):wpAny M A t Q' E s:=wpAny_mono h hQ fun _ _ x=>x
section
variable {X:Cx}
def tVar (i:Nat):TE:=fun σ H Q=>∃ v,σ[i]?=some (some v)∧Q v H
def tC (v:V):TE:=fun _ H Q=>Q v H
theorem pe_var {i:Nat}{x:Str}{pos:Pos} (hN:X.N[i]?=some x) (hv:Vis X.env.scope x) (hd:(x == ("__debug__" : Str))=false:=by decide) (hcd:(x == ("__classdict__" : Str))=false:=by decide):PE X (.Name x pos) (tVar i):=by
 intro pins s σ H Q I h
 obtain ⟨v,e,h⟩:=h
 obtain ⟨m,hn,hl⟩:=I.loc
 obtain ⟨u,r,l⟩:=hl i x v hN e hv
 have fin:EP X pins σ Q u s:=⟨v,H,I,r,h⟩
 rcases l with ⟨hk,hm⟩|⟨hk,c,hc,hcell⟩
 ·exact wpAny_Name (wpAny_loadName_local I.ok.kind hk hn hm fin) hd
 ·rcases hk with hk|hk
  ·exact wpAny_Name (wpAny_loadName_cell I.ok.kind hk hc hcell fin) hd
  ·exact wpAny_Name (wpAny_loadName_free I.ok.kind hk hc hcell fin hcd) hd
theorem qab {i j pos}:PE X (.Constant (.int i) j pos) (tC (.int i)):=fun _ _ _ H _ I h=>wpAny_Constant_int ⟨.int i,H,I.tok _,⟨_,rfl⟩,h⟩
theorem ya9 {b j pos}:PE X (.Constant (.bool b) j pos) (tC (.bl b)):=fun _ _ _ H _ I h=>Constant_bool ⟨.bl b,H,I,rfl,h⟩
theorem qa5 {x j pos}:PE X (.Constant (.str x) j pos) (tC (.str x)):=fun _ _ _ H _ I h=>Calls.Constant_str ⟨.str x,H,I.tok _,⟨_,rfl⟩,h⟩
def Gl (X:Cx) (x:Str):Prop:=X.env.kindOf x=some .globalImplicit
theorem ygl {E:Value→Shared→Prop}{pins:List (Addr×Obj)}{s:Shared}{σ:St}{H:Hp}{x:Str}{u:Value}{pos:Pos}{Q:Value→Shared→Prop} (I:Inv X pins σ H s) (hg:Gl X x) (hm:X.mg x=some u) (h:Q u s)
  (hd:(x == ("__debug__" : Str))=false:=by decide):wpAny (model X.prog X.w) X.A (eval (.Name x pos) X.env) Q E s:=
 Calls.Name_function_global I.ok.kind hg (Calls.loadGlobal_global (by rw[I.ok.glob];exact I.mod.glob.keeps I.bk) hm h) hd
theorem qdw {E:Value→Shared→Prop}{pins:List (Addr×Obj)}{s:Shared}{σ:St}{H:Hp}{x:Str}{u:Value}{pos:Pos}{Q:Value→Shared→Prop} (I:Inv X pins σ H s) (hg:Gl X x) (hm:X.mg x=none) (hv:bootBuiltins x=some u) (h:Q u s)
  (hn:x≠"__name__":=by decide) (hd:(x == ("__debug__" : Str))=false:=by decide):wpAny (model X.prog X.w) X.A (eval (.Name x pos) X.env) Q E s:=by
 obtain ⟨mb,h1,h2⟩:=I.mod.blt
 exact Calls.Name_function_global I.ok.kind hg (Calls.loadGlobal_builtin (by rw[I.ok.glob];exact I.mod.glob.keeps I.bk) hm (by rw[I.ok.blt];exact h1.keeps I.bk) ((h2 x hn).trans hv) h) hd
theorem qa7 {x:Str}{v:V}{u:Value}{pos:Pos} (hg:Gl X x) (hm:X.mg x=none) (hv:bootBuiltins x=some u) (r:RelV v u) (hn:x≠"__name__":=by decide) (hd:(x == ("__debug__" : Str))=false:=by decide):PE X (.Name x pos) (tC v):=
 fun _ _ _ H _ I h=>qdw I hg hm hv ⟨v,H,I,r,h⟩ hn hd
variable {a b:Expr}{ta tb:TE}{pos:Pos}
def PC (X:Cx) (op:CmpOp) (a b:Expr) (t:TE):Prop:=
 ∀ (pins:List (Addr×Obj)) (s:Shared) (σ:St) (H:Hp) (Q:VK),Inv X pins σ H s→t σ H Q→
  wpAny (model X.prog X.w) X.A (eval a X.env) (fun v s₁=>wpAny (model X.prog X.w) X.A (eval b X.env) (fun u s₂=>wpAny (model X.prog X.w) X.A (compareOp op v u) (EP X pins σ Q) X.xe s₂) X.xe s₁) X.xe s
theorem yfd (b:Expr) {op:CmpOp} (h:op≠.In) (h2:op≠.NotIn):behindInMarks op b=false:=by
 have e1:(op == CmpOp.In)=false:=by cases op<;>first|rfl|exact absurd rfl h
 have e2:(op == CmpOp.NotIn)=false:=by cases op<;>first|rfl|exact absurd rfl h2
 cases b<;>simp[behindInMarks,e1,e2]
def tIsN (ta:TE):TE:=fun σ H Q=>ta σ H fun x H1=>Q (.bl (decide (x=.non))) H1
def tNotN (ta:TE):TE:=fun σ H Q=>ta σ H fun x H1=>Q (.bl (!decide (x=.non))) H1
theorem RelV.none_iff {x:V}{v:Value} (r:RelV x v):(v == Value.none)=decide (x=.non):=by
 cases x with
 | non=>cases r;rfl
 | bl _=>cases r;rfl
 | int _=>obtain ⟨t,rfl⟩:=r;rfl
 | str _=>obtain ⟨t,rfl⟩:=r;rfl
 | byt _=>obtain ⟨t,rfl⟩:=r;rfl
 | flt _=>obtain ⟨t,rfl⟩:=r;rfl
 | ref _=>cases r;rfl
 | ty _=>cases r;rfl
theorem ydx {j pos'} (ha:PE X a ta):PC X .Is a (.Constant .none j pos') (tIsN ta):=by
 intro pins s σ H Q I h
 refine thn (ha pins s σ H _ I h) fun v s1 ⟨x,H1,I1,r1,q1⟩=>?_
 exact Constant_none (is_none_gen ⟨.bl _,H1,I1,by rw[r1.none_iff];rfl,q1⟩)
theorem pc_notN {j pos'} (ha:PE X a ta):PC X .IsNot a (.Constant .none j pos') (tNotN ta):=by
 intro pins s σ H Q I h
 refine thn (ha pins s σ H _ I h) fun v s1 ⟨x,H1,I1,r1,q1⟩=>?_
 exact Constant_none (isnot_none_gen ⟨.bl _,H1,I1,by rw[r1.none_iff];rfl,q1⟩)
def tB (t:TE):TT:=fun σ H Q=>t σ H fun x H1=>∃ c,x=.bl c∧Q c H1
theorem yek {op:CmpOp}{t:TE} (h:PC X op a b t) (h1:behindInMarks op b=false:=by first|exact yfd _ (by decide) (by decide)|rfl):PE X (.Compare a [op] [b] pos) t:=fun pins s σ H Q I hw=>wpAny_Compare1 (h pins s σ H Q I hw) h1
theorem yei {op:CmpOp}{t:TE} (h:PC X op a b t) (h1:behindInMarks op b=false:=by first|exact yfd _ (by decide) (by decide)|rfl):PT X (.Compare a [op] [b] pos) (tB t):=by
 intro pins s σ H Q I hw
 refine wpAny_isTrue_Compare1 (thn (h pins s σ H _ I hw) fun v s1 h1=>thn h1 fun u s2 h2=>thn h2 fun c s3 ⟨x,H1,I1,r1,q1⟩=>?_) h1
 obtain ⟨d,rfl,q⟩:=q1
 cases r1
 exact wpAny_truthy_bool ⟨H1,I1,q⟩
theorem qfl {e:Expr}{t:TE} (h:PE X e t) (he:∀ whole,isTrue e X.env whole=(do let v ← whole;standAt e.pos;holding [v] (truthy v)):=by intro _;rfl):PT X e (tB t):=by
 intro pins s σ H Q I hw
 refine isTrue_plain (thn (h pins s σ H _ I hw) fun v s1 ⟨x,H1,I1,r1,q1⟩=>?_) (he _)
 obtain ⟨d,rfl,q⟩:=q1
 cases r1
 exact wpAny_truthy_bool ⟨H1,I1,q⟩
variable {tA tB':TT}{rest:List Expr}
def tAnd (t u:TT):TT:=fun σ H Q=>t σ H fun c H1=>if c=true then u σ H1 Q else Q false H1
def tOr (t u:TT):TT:=fun σ H Q=>t σ H fun c H1=>if c=true then Q true H1 else u σ H1 Q
def tNot (t:TT):TT:=fun σ H Q=>t σ H fun c H1=>Q (!c) H1
theorem qd9 (ha:PT X a tA):PW X (.BoolOp .And [a] pos) tA:=by
 intro wh pins s σ H Q I h
 refine isTrue_and (thn (ha pins s σ H Q I h) fun c s1 e=>?_)
 cases c with
 | true=>exact isTrue_and_nil e
 | false=>exact e
theorem pw_or1 (ha:PT X a tA):PW X (.BoolOp .Or [a] pos) tA:=by
 intro wh pins s σ H Q I h
 refine isTrue_or (thn (ha pins s σ H Q I h) fun c s1 e=>?_)
 cases c with
 | false=>exact isTrue_or_nil e
 | true=>exact e
theorem qfc (ha:PT X a tA) (hb:PW X (.BoolOp .And (b::rest) pos) tB'):PW X (.BoolOp .And (a::b::rest) pos) (tAnd tA tB'):=by
 intro wh pins s σ H Q I h
 refine isTrue_and (thn (ha pins s σ H _ I h) fun c s1 ⟨H1,I1,q1⟩=>?_)
 cases c with
 | true=>exact hb wh pins s1 σ H1 Q I1 q1
 | false=>exact ⟨H1,I1,q1⟩
theorem pw_or (ha:PT X a tA) (hb:PW X (.BoolOp .Or (b::rest) pos) tB'):PW X (.BoolOp .Or (a::b::rest) pos) (tOr tA tB'):=by
 intro wh pins s σ H Q I h
 refine isTrue_or (thn (ha pins s σ H _ I h) fun c s1 ⟨H1,I1,q1⟩=>?_)
 cases c with
 | true=>exact ⟨H1,I1,q1⟩
 | false=>exact hb wh pins s1 σ H1 Q I1 q1
theorem pt_not (ha:PT X a tA):PT X (.UnaryOp .Not a pos) (tNot tA):=by
 intro pins s σ H Q I h
 exact isTrue_not (ha pins s σ H (fun c H1=>Q (!c) H1) I h)
def tAndV (ta tb:TE):TE:=fun σ H Q=>ta σ H fun x H1=>∃ c,x=.bl c∧if c=true then tb σ H1 Q else Q (.bl false) H1
def tNotV (ta:TE):TE:=fun σ H Q=>ta σ H fun x H1=>∃ c,x=.bl c∧Q (.bl (!c)) H1
theorem qb5 {op}{t:TE} (h:PE X a t):PE X (.BoolOp op [a] pos) t:=fun pins s σ H Q I hw=>BoolOp_one (h pins s σ H Q I hw)
theorem ybe (ha:PE X a ta) (hb:PE X (.BoolOp .And (b::rest) pos) tb):PE X (.BoolOp .And (a::b::rest) pos) (tAndV ta tb):=by
 intro pins s σ H Q I h
 refine BoolOp_and (thn (ha pins s σ H _ I h) fun v s1 ⟨x,H1,I1,r1,q1⟩=>?_)
 obtain ⟨c,rfl,q1⟩:=q1
 cases r1
 refine wpAny_truthy_bool ?_
 cases c with
 | true=>exact hb pins s1 σ H1 Q I1 q1
 | false=>exact ⟨.bl false,H1,I1,rfl,q1⟩
theorem pe_not (ha:PE X a ta):PE X (.UnaryOp .Not a pos) (tNotV ta):=by
 intro pins s σ H Q I h
 refine UnaryOp_ (thn (ha pins s σ H _ I h) fun v s1 ⟨x,H1,I1,r1,q1⟩=>?_)
 obtain ⟨c,rfl,q1⟩:=q1
 cases r1
 exact not_of (wpAny_truthy_bool ⟨.bl (!c),H1,I1,rfl,q1⟩)
def tIf (t:TT) (ta tb:TE):TE:=fun σ H Q=>t σ H fun c H1=>if c=true then ta σ H1 Q else tb σ H1 Q
theorem pe_ifExp {c:Expr} (hc:PT X c tA) (ha:PE X a ta) (hb:PE X b tb):PE X (.IfExp c a b pos) (tIf tA ta tb):=by
 intro pins s σ H Q I h
 refine wpAny_IfExp (thn (hc pins s σ H _ I h) fun d s1 ⟨H1,I1,q1⟩=>?_)
 cases d with
 | true=>exact ha pins s1 σ H1 Q I1 q1
 | false=>exact hb pins s1 σ H1 Q I1 q1
end
def SqL (K:PySem.W.Frag) (H:Hp) (a:Addr) (xs:List V):Prop:=
 Rd H a (.lst xs)∨
  ∃ (o:Obj) (its:Array Value) (n:Nat),K.lookup a=some o∧o.cls=.type "list"∧o.dict=none∧o.data=.seq its n∧its.size≤sizeLine∧Vals xs its.toList
def SqT (K:PySem.W.Frag) (H:Hp) (a:Addr) (xs:List V):Prop:=
 Rd H a (.tup xs)∨
  ∃ (o:Obj) (its:Array Value) (n:Nat),K.lookup a=some o∧o.cls=.type "tuple"∧o.data=.seq its n∧its.size≤sizeLine∧Vals xs its.toList
def absV:Value→Option V
 | .none=>some .non
 | .bool b=>some (.bl b)
 | .int i _=>some (.int i)
 | .str x _=>some (.str x)
 | .bytes b _=>some (.byt b)
 | .float b _=>some (.flt b)
 | .ref a=>some (.ref a)
 | .type n=>some (.ty n)
 | _=>none
theorem RelV.abs {x:V}{u:Value} (r:RelV x u):absV u=some x:=by
 cases x with
 | non=>cases r;rfl
 | bl _=>cases r;rfl
 | int _=>obtain ⟨t,rfl⟩:=r;rfl
 | str _=>obtain ⟨t,rfl⟩:=r;rfl
 | byt _=>obtain ⟨t,rfl⟩:=r;rfl
 | flt _=>obtain ⟨t,rfl⟩:=r;rfl
 | ref _=>cases r;rfl
 | ty _=>cases r;rfl
theorem RelV.inj {x y:V}{u:Value} (r:RelV x u) (q:RelV y u):x=y:=Option.some.inj (r.abs.symm.trans q.abs)
theorem Vals.inj:∀ {xs ys:List V}{us:List Value},Vals xs us→Vals ys us→xs=ys
 | _,_,_,.nil,.nil=>rfl
 | _,_,_,.cons r t,.cons r' t'=>by rw[r.inj r',Vals.inj t t']
section
variable {X:Cx}{pins:List (Addr×Obj)}{σ:St}{H:Hp}{s:Shared}{a:Addr}{xs ys:List V}
theorem SqL.of {K:PySem.W.Frag} (h:H a=some (.lst xs)):SqL K H a xs:=.inl (.inl h)
theorem SqT.of {K:PySem.W.Frag} (h:H a=some (.tup xs)):SqT K H a xs:=.inl (.inl h)
theorem Inv.list (I:Inv X pins σ H s) (h:SqL X.K H a xs):∃ its:List Value,Vals xs its∧PlainL s.heap a its.toArray∧xs.length≤sizeLine:=by
 rcases h with h|⟨o,its,n,hk,hc,hd,hs,hz,r⟩
 ·obtain ⟨z,its,n,r,e⟩:=h.ok I.hok
  exact ⟨its,r,⟨_,n,e,rfl,rfl,rfl⟩,z⟩
 ·refine ⟨its.toList,r,⟨o,n,I.kIn a o hk,hc,hd,by simpa using hs⟩,?_⟩
  have e:=r.length
  simp only[Array.length_toList] at e
  omega
theorem Inv.tuple (I:Inv X pins σ H s) (h:SqT X.K H a xs):∃ its:List Value,Vals xs its∧IsTup s.heap a its.toArray∧xs.length≤sizeLine:=by
 rcases h with h|⟨o,its,n,hk,hc,hs,hz,r⟩
 ·obtain ⟨z,its,r,p⟩:=h.ok I.hok
  exact ⟨its,r,p,z⟩
 ·refine ⟨its.toList,r,⟨o,I.kIn a o hk,hc,n,by simpa using hs⟩,?_⟩
  have e:=r.length
  simp only[Array.length_toList] at e
  omega
theorem Inv.list_inj (I:Inv X pins σ H s) (h:SqL X.K H a xs) (h':SqL X.K H a ys):xs=ys:=by
 obtain ⟨its,r,⟨o,n,e,_,_,d⟩,_⟩:=I.list h
 obtain ⟨its',r',⟨o',n',e',_,_,d'⟩,_⟩:=I.list h'
 rw[e] at e';cases e'
 rw[d] at d'
 injection d' with d1 _
 have:its=its':=by simpa using congrArg Array.toList d1
 subst this
 exact r.inj r'
end
abbrev Cx.wish (X:Cx) (E:Value→Shared→Prop):Cx:={ X with xe:=E }
abbrev Cx.nox (X:Cx):Cx:=X.wish fun _ _=>False
theorem Cx.Ok.wish {X:Cx} (ok:X.Ok) (E:Value→Shared→Prop):(X.wish E).Ok:=
 ⟨ok.mod,ok.kind,ok.glob,ok.blt,ok.above,ok.inj,ok.has,ok.cab,ok.hd,ok.frames,ok.stk,ok.exf,ok.bs,ok.bsz,ok.noex,ok.exfs,ok.funs,ok.frf⟩
theorem Cx.Ok.unwish {X:Cx}{E:Value→Shared→Prop} (ok:(X.wish E).Ok):X.Ok:=
 ⟨ok.mod,ok.kind,ok.glob,ok.blt,ok.above,ok.inj,ok.has,ok.cab,ok.hd,ok.frames,ok.stk,ok.exf,ok.bs,ok.bsz,ok.noex,ok.exfs,ok.funs,ok.frf⟩
section
variable {X:Cx}{pins:List (Addr×Obj)}{σ:St}{H:Hp}{s:Shared}{E:Value→Shared→Prop}
theorem Inv.wish (I:Inv X pins σ H s) (E:Value→Shared→Prop):Inv (X.wish E) pins σ H s:=⟨I.ok.wish E,I.os,I.bare,I.base,I.loc,I.cell,I.free,I.freeC,I.pin,I.hok,I.len⟩
theorem Inv.unwish (I:Inv (X.wish E) pins σ H s):Inv X pins σ H s:=⟨I.ok.unwish,I.os,I.bare,I.base,I.loc,I.cell,I.free,I.freeC,I.pin,I.hok,I.len⟩
theorem SP.unwish {D:Ends}{f:Flow}{s':Shared} (h:SP (X.wish E) pins D f s'):SP X pins D f s':=by
 cases f with
 | next=>obtain ⟨σ',H',I,q⟩:=h;exact ⟨σ',H',I.unwish,q⟩
 | brk=>obtain ⟨σ',H',I,q⟩:=h;exact ⟨σ',H',I.unwish,q⟩
 | cont=>obtain ⟨σ',H',I,q⟩:=h;exact ⟨σ',H',I.unwish,q⟩
 | ret u=>obtain ⟨v,σ',H',I,r,q⟩:=h;exact ⟨v,σ',H',I.unwish,r,q⟩
theorem PSs.nox {st:List Stmt}{t:TS} (h:PSs X.nox st t):PSs X st t:=fun pins s σ H D I hw=>
 wpAny_mono (h pins s σ H D (I.wish _) hw) (fun _ _ q=>q.unwish) fun _ _ z=>False.elim z
end
section
variable {X:Cx}{st:Stmt}{rest:List Stmt}{t u:TS}{e:Expr}{te:TE}{pos:Pos}
def tNext:TS:=fun D σ H=>D.nx σ H
def tSeq (t u:TS):TS:=fun D σ H=>t { D with nx:=u D } σ H
theorem pss_nil:PSs X [] tNext:=fun _ _ σ H _ I h=>wpAny_execs_nil ⟨σ,H,I,h⟩
theorem ybr (h1:PS X st t) (h2:PSs X rest u):PSs X (st::rest) (tSeq t u):=by
 intro pins s σ H D I h
 refine wpAny_execs_cons (thn (h1 pins s σ H { D with nx:=u D } I h) fun f s1 q=>?_)
 cases f with
 | next=>
  obtain ⟨σ',H',I',q⟩:=q
  exact h2 pins s1 σ' H' D I' q
 | ret v=>exact q
 | brk=>exact q
 | cont=>exact q
theorem yc2 (h1:PS X st t):PSs X [st] t:=by
 intro pins s σ H D I h
 refine wpAny_execs_cons (thn (h1 pins s σ H D I h) fun f s1 q=>?_)
 cases f with
 | next=>exact wpAny_execs_nil q
 | ret v=>exact q
 | brk=>exact q
 | cont=>exact q
theorem Inv.quiet {pins:List (Addr×Obj)}{σ:St}{H:Hp}{s:Shared} (I:Inv X pins σ H s):interactive X.env=false:=by simp[interactive,I.ok.kind]
def tDrop (te:TE):TS:=fun D σ H=>te σ H fun _ H1=>D.nx σ H1
theorem qe7 (he:PE X e te) (hs:swapsWith e none pos.line X.env=pure false:=by rfl):PS X (.Expr e pos) (tDrop te):=by
 intro pins s σ H D I h
 exact wpAny_Expr_any (thn (he pins s σ H _ I h) fun v s1 ⟨x,H1,I1,r1,q1⟩=>⟨σ,H1,I1,q1⟩) I.quiet hs
def tRet (te:TE):TS:=fun D σ H=>te σ H D.rt
theorem ps_ret (he:PE X e te):PS X (.Return (some e) pos) (tRet te):=by
 intro pins s σ H D I h
 exact wpAny_Return_some (thn (he pins s σ H _ I h) fun v s1 ⟨x,H1,I1,r1,q1⟩=>⟨x,σ,H1,I1,r1,q1⟩)
def tIfS (c:TT) (t u:TS):TS:=fun D σ H=>c σ H fun b H1=>if b=true then t D σ H1 else u D σ H1
theorem ps_if {c:Expr}{a b:List Stmt}{tc:TT} (hc:PT X c tc) (ha:PSs X a t) (hb:PSs X b u):PS X (.If c a b pos) (tIfS tc t u):=by
 intro pins s σ H D I h
 refine wpAny_If (thn (hc pins s σ H _ I h) fun d s1 ⟨H1,I1,q1⟩=>?_)
 cases d with
 | true=>exact ha pins s1 σ H1 D I1 q1
 | false=>exact hb pins s1 σ H1 D I1 q1
end
abbrev TG:=V→St→Hp→(St→Hp→Prop)→Prop
abbrev TGs:=List V→St→Hp→(St→Hp→Prop)→Prop
def PG (X:Cx) (target:Expr) (t:TG):Prop:=
 ∀ (pins:List (Addr×Obj)) (s:Shared) (σ:St) (H:Hp) (v:V) (u:Value) (Q:St→Hp→Prop),Inv X pins σ H s→RelV v u→t v σ H Q→
  wpAny (model X.prog X.w) X.A (assign target X.env u) (fun _ s'=>∃ σ' H',Inv X pins σ' H' s'∧Q σ' H') X.xe s
def PGs (X:Cx) (ts:List Expr) (t:TGs):Prop:=
 ∀ (pins:List (Addr×Obj)) (s:Shared) (σ:St) (H:Hp) (vs:List V) (us:List Value) (Q:St→Hp→Prop),Inv X pins σ H s→Vals vs us→t vs σ H Q→
  wpAny (model X.prog X.w) X.A (assignInOrder ((assignEach ts X.env).map (·.2)) us) (fun _ s'=>∃ σ' H',Inv X pins σ' H' s'∧Q σ' H') X.xe s
section
variable {X:Cx}{pos:Pos}
def yeb (i:Nat):TG:=fun v σ H Q=>Q (σ.set i (some v)) H
theorem yaj {i:Nat}{x:Str} (hN:X.N.Nodup) (hi:X.N[i]?=some x) (hx:Loc X.env.scope x) (hf:X.fn x=true∨X.env.scope.names.lookup x=some .local:=by first|exact .inl rfl|exact .inr rfl|assumption):PG X (.Name x pos) (yeb i):=by
 intro pins s σ H v u Q I r h
 exact wpAny_assign_Name (yfi I hN hi hx r (fun s' I'=>⟨_,H,I',h⟩) hf)
def gNil:TGs:=fun vs σ H Q=>vs=[]∧Q σ H
def gCons (t:TG) (u:TGs):TGs:=fun vs σ H Q=>∃ v r,vs=v::r∧t v σ H fun σ' H'=>u r σ' H' Q
theorem ycj:PGs X [] gNil:=by
 intro pins s σ H vs us Q I r h
 obtain ⟨e,h⟩:=h
 subst e
 cases r
 exact assignInOrder_nil ⟨σ,H,I,h⟩
theorem yau {e:Expr}{es:List Expr}{t:TG}{u:TGs} (h1:PG X e t) (h2:PGs X es u)
  (hs:(assignEach (e::es) X.env).map (·.2)=assign e X.env::(assignEach es X.env).map (·.2):=by rfl):PGs X (e::es) (gCons t u):=by
 intro pins s σ H vs us Q I r h
 obtain ⟨v,vr,e1,h⟩:=h
 subst e1
 cases r with
 | cons r rr=>
  rw[hs]
  refine assignInOrder_cons (thn (h1 pins s σ H _ _ _ I r h) fun _ s1 ⟨σ1,H1,I1,q1⟩=>?_)
  exact h2 pins s1 σ1 H1 _ _ Q I1 rr q1
def gTup (K:PySem.W.Frag) (n:Nat) (t:TGs):TG:=fun v σ H Q=>∃ a xs,v=.ref a∧SqT K H a xs∧xs.length=n∧t xs σ H Q
theorem ydu {es:List Expr}{k:Nat}{t:TGs}{n:Nat} (hc:X.calm=true) (h:PGs X es t)
  (hn:(assignEach es X.env).length=n:=by rfl) (hst:(assignEach es X.env).findIdx? (·.1)=none:=by rfl):PG X (.Tuple es k pos) (gTup X.K n t):=by
 intro pins s σ H v u Q I r hw
 obtain ⟨a,xs,e1,hq,hl,hw⟩:=hw
 subst e1
 cases r
 obtain ⟨its,rv,ht,hz⟩:=I.tuple hq
 refine assign_Tuple_tuple (I.ok.hd hc) ht (by simp[hn,← hl,rv.length]) hst fun h' hx=>?_
 have I1:Inv X pins σ H { s with heap:=h' }:=I.kept (t':=s.toks) fun b o e=>hx b o (Nat.ne_of_lt (Heap.lt_size e)) e
 exact h pins _ σ H xs _ Q I1 (by simpa using rv) hw
def tAsg (te:TE) (g:TG):TS:=fun D σ H=>te σ H fun x H1=>g x σ H1 D.nx
theorem ps_asg {tg e:Expr}{te:TE}{g:TG} (he:PE X e te) (hg:PG X tg g) (hs:swapsWithSole [tg] e pos.line X.env=pure false:=by rfl) (hw:swappedStores [tg] e X.env=pure none:=by rfl)
  (h1:(assignEach [tg] X.env).map (·.2)=[assign tg X.env]:=by rfl):PS X (.Assign [tg] e pos) (tAsg te g):=by
 intro pins s σ H D I h
 refine wpAny_Assign_stores (thn (he pins s σ H _ I h) fun v s1 ⟨x,H1,I1,r1,q1⟩=>?_) hs hw
 rw[h1]
 exact thn (hg pins s1 σ H1 x v _ I1 r1 q1) fun _ s2 q=>q
theorem qcr {i:Nat}{x:Str}{e:Expr}{te:TE}{pos':Pos} (hN:X.N.Nodup) (hi:X.N[i]?=some x) (hx:Loc X.env.scope x) (he:PE X e te) (hs:swapsWith e (some (.Name x pos')) pos.line X.env=pure false:=by rfl) (hf:X.fn x=true∨X.env.scope.names.lookup x=some .local:=by first|exact .inl rfl|exact .inr rfl|assumption) :
  PS X (.Assign [.Name x pos'] e pos) (tAsg te (yeb i)):=by
 intro pins s σ H D I h
 refine wpAny_Assign_Name (thn (he pins s σ H _ I h) fun v s1 ⟨y,H1,I1,r1,q1⟩=>?_) hs
 exact yfi I1 hN hi hx r1 (fun s2 I2=>⟨_,H1,I2,q1⟩) hf
end
section
variable {X:Cx}{pos:Pos}
def tWhile (c:TT) (tb:TS):TS:=fun D σ H=>∃ W:Nat→St→Hp→Prop,(∃ m,W m σ H)∧∀ m σ H,W m σ H→
 c σ H fun b H1=>if b=true then ∃ N:St→Hp→Prop,(∀ σ' H',N σ' H'→∃ m',m' < m∧W m' σ' H')∧tb { D with nx:=N,ct:=N,bk:=D.nx } σ H1 else D.nx σ H1
theorem ps_while {c:Expr}{body:List Stmt}{tc:TT}{tb:TS} (hp:PassesOwn (model X.prog X.w) X.A X.env X.xe) (hc:PT X c tc) (hb:PSs X body tb):PS X (.While c body [] pos) (tWhile tc tb):=by
 intro pins s σ H D I h
 obtain ⟨W,⟨m0,w0⟩,turn⟩:=h
 refine wpAny_While (codeAny_whileLoop (fun n s'=>∃ σ' H',Inv X pins σ' H' s'∧W n σ' H') ?_ m0 ⟨σ,H,I,w0⟩)
 rintro n s1 ⟨σ1,H1,I1,w1⟩
 refine wpAny_passesOwn hp (thn (hc pins s1 σ1 H1 _ I1 (turn n σ1 H1 w1)) fun b s2 ⟨H2,I2,q2⟩=>?_)
 cases b with
 | true=>
  obtain ⟨N,hN,q2⟩:=q2
  rw[if_pos rfl]
  refine wpAny_passesOwn hp (thn (hb pins s2 σ1 H2 _ I2 q2) fun f s3 q3=>?_)
  cases f with
  | next=>
   obtain ⟨σ3,H3,I3,n3⟩:=q3
   obtain ⟨m',hm,w3⟩:=hN σ3 H3 n3
   exact ⟨m',hm,σ3,H3,I3,w3⟩
  | cont=>
   obtain ⟨σ3,H3,I3,n3⟩:=q3
   obtain ⟨m',hm,w3⟩:=hN σ3 H3 n3
   exact ⟨m',hm,σ3,H3,I3,w3⟩
  | brk=>exact q3
  | ret v=>exact q3
 | false=>
  rw[if_neg Bool.false_ne_true]
  exact wpAny_execs_nil ⟨σ1,H2,I2,q2⟩
end
structure It where
 go:Nat→Hp→Prop
 yld:Nat→Hp→V→Hp→Prop
 stop:Nat→Hp→Prop
def FpOk (X:Cx) (pins:List (Addr×Obj)) (H:Hp) (b:Addr):Prop:=
 H b=none∧b≠X.env.locals∧b∉X.fs∧(b∈X.ex∨X.s₀.heap.objs.size≤b)∧(∀ x c,X.env.cells.lookup x=some c→c≠b)∧∀ p∈X.pn++pins,p.1≠b
theorem Inv.fpOk {X:Cx}{pins:List (Addr×Obj)}{σ:St}{H H':Hp}{s:Shared}{b:Addr} (I:Inv X pins σ H s) (hb:s.heap.objs.size≤b) (hn:H' b=none):FpOk X pins H' b:=by
 refine ⟨hn,Nat.ne_of_gt (Nat.lt_of_lt_of_le I.lt hb),I.nofs hb,.inr (Nat.le_trans I.sz hb),fun x c e z=>?_,fun p hp z=>?_⟩
 ·obtain ⟨v,q⟩:=I.cell x c e
  exact absurd (Nat.lt_of_lt_of_le q.lt (by rw[z];exact hb)) (Nat.lt_irrefl _)
 ·exact absurd (Nat.lt_of_lt_of_le (Heap.lt_size (I.pin p hp).1) (by rw[z];exact hb)) (Nat.lt_irrefl _)
structure Turn (P:Program) (w:World) (K:PySem.W.Frag) (tg:Expr) (J:It) (fp:List Addr) (it:Addr) (tn:Nat→Heap→Prop):Prop where
 mem:it∈fp
 obj:∀ i h,tn i h→∀ b∈fp,∃ o,h.get? b=some o∧∀ v,o.data≠.cell v
 keep:∀ i h h',tn i h→(∀ b∈fp,∀ o,h.get? b=some o→h'.get? b=some o)→tn i h'
 item:∀ (X:Cx),X.prog=P→X.w=w→X.K=K→X.calm=true→∀ (i:Nat) (pins:List (Addr×Obj)) (s:Shared) (σ:St) (H:Hp) (E:Value→Shared→Prop),Inv X pins σ H s→(∀ b∈fp,FpOk X pins H b)→tn i s.heap→J.go i H→
  wpAny (model P w) X.A (pyNext (.ref it)) (fun r s1=>∃ u,r=some u∧
   wpAny (model P w) X.A (letOwnedTupleGo tg (.ref it) u) (fun _ s2=>∃ x H',Inv X pins σ H' s2∧RelV x u∧J.yld i H x H'∧tn (i+1) s2.heap∧∀ b∈fp,H' b=none) E s1) E s
 done:∀ (X:Cx),X.prog=P→X.w=w→X.K=K→X.calm=true→∀ (i:Nat) (pins:List (Addr×Obj)) (s:Shared) (σ:St) (H:Hp) (E:Value→Shared→Prop),Inv X pins σ H s→(∀ b∈fp,FpOk X pins H b)→tn i s.heap→J.stop i H→
  wpAny (model P w) X.A (pyNext (.ref it)) (fun r s1=>r=none∧Inv X pins σ H s1) E s
 self:∀ (A:Around) (i:Nat) (s:Shared) (Q:Value→Shared→Prop) (E:Value→Shared→Prop),tn i s.heap→Q (.ref it) s→wpAny (model P w) A (pyIter (.ref it)) Q E s
abbrev TI:=St→Hp→(It→Hp→Prop)→Prop
def PIE (X:Cx) (pins:List (Addr×Obj)) (σ:St) (tg:Expr) (R:It→Hp→Prop) (itv:Value) (s2:Shared):Prop:=
 ∃ (it:Addr) (fp:List Addr) (tn:Nat→Heap→Prop) (J:It) (H':Hp),itv=.ref it∧Inv X pins σ H' s2∧Turn X.prog X.w X.K tg J fp it tn∧tn 0 s2.heap∧(∀ b∈fp,FpOk X pins H' b)∧R J H'
def PI (X:Cx) (tg iter:Expr) (wi:TI):Prop:=
 ∀ (pins:List (Addr×Obj)) (s:Shared) (σ:St) (H:Hp) (R:It→Hp→Prop),Inv X pins σ H s→wi σ H R→
  wpAny (model X.prog X.w) X.A (eval iter X.env) (fun v s1=>wpAny (model X.prog X.w) X.A (pyIter v) (PIE X pins σ tg R) X.xe s1) X.xe s
theorem go_of {M:Model}{A:Around}{E:Value→Shared→Prop}{s:Shared}{tg:Expr}{it:Addr}{u:Value}{o:Obj}{n:String}{vs:Array Value}{Q:Unit→Shared→Prop} (ho:s.heap.get? it=some o) (hc:o.cls=.type n) (hd:o.data=.fields vs)
    (hn:["enumerate","zip","dict_itemiterator","dict_reverseitemiterator","odict_iterator","itertools.zip_longest","itertools.pairwise"].contains n=false) (hQ:Q () s):wpAny M A (letOwnedTupleGo tg (.ref it) u) Q E s:=by
  unfold letOwnedTupleGo
  cases tg<;>first
    | exact wpAny_pure hQ
    | (cases u<;>first
        | exact wpAny_pure hQ
        | (refine wpAny_bind (wpAny_load ho ?_)
           rw[hc,hd]
           show wpAny M A (if (["enumerate","zip","dict_itemiterator","dict_reverseitemiterator","odict_iterator","itertools.zip_longest","itertools.pairwise"].contains n&&vs[0]? == some (rawInt _))=true then _ else _) Q E s
           rw[if_neg (by intro h;rw[hn,Bool.false_and] at h;cases h)]
           exact wpAny_pure hQ))
def Itl (K:PySem.W.Frag) (a:Addr):It:=
 ⟨fun i H=>∃ xs x,SqL K H a xs∧xs[i]?=some x,fun i H x H'=>H'=H∧∀ xs,SqL K H a xs→xs[i]?=some x,fun i H=>∃ xs,SqL K H a xs∧xs.length≤i⟩
def Itr (lo:Int) (n:Nat):It:=⟨fun i _=>i<n,fun i H x H'=>H'=H∧x=.int (lo+i),fun i _=>n≤i⟩
theorem qgo {P:Program}{w:World}{K:PySem.W.Frag}{tg:Expr} (a it:Addr):Turn P w K tg (Itl K a) [it] it (fun i h=>h.IsListIter it a i) where
 mem:=by simp
 obj:=fun i h st b hb=>by
  have e:b=it:=by simpa using hb
  subst e
  obtain ⟨o,e,c,d⟩:=st
  exact ⟨o,e,fun v z=>by rw[d] at z;cases z⟩
 keep:=fun i h h' st k=>st.at fun o e=>k it (by simp) o e
 item:=by
  intro X hP hw hK hc i pins s σ H E I hf st hg
  subst hP hw hK
  obtain ⟨xs,x,hq,hx⟩:=hg
  obtain ⟨its,rv,p,hz⟩:=I.list hq
  obtain ⟨u,hu,ru⟩:=rv.get hx
  obtain ⟨f0,f1,f2,f3,f4,f5⟩:=hf it (by simp)
  refine wpAny_pyNext_list_item st p.isList (x:=u) (by simpa using hu) fun h' st' sb=>?_
  have I1:Inv X pins σ H { s with heap:=h' }:=I.turned (t':=s.toks) (fun b o hb e=>(sb.2 b hb).trans e) f0 f1 f3 f4 f5
  obtain ⟨o,e,c,d⟩:=id st'
  exact ⟨u,rfl,go_of (s:={ s with heap:=h' }) e c d (by decide) ⟨x,H,I1,ru,⟨rfl,fun ys hy=>by rw[I.list_inj hy hq];exact hx⟩,st',fun b hb=>(hf b hb).1⟩⟩
 done:=by
  intro X hP hw hK hc i pins s σ H E I hf st hg
  subst hP hw hK
  obtain ⟨xs,hq,hx⟩:=hg
  obtain ⟨its,rv,p,hz⟩:=I.list hq
  obtain ⟨f0,f1,f2,f3,f4,f5⟩:=hf it (by simp)
  have hl:=rv.length
  exact wpAny_pyNext_list_end (I.ok.hd hc) st p.isList (by simp;omega) fun h' eb=>⟨rfl,I.turned (t':=s.toks) (fun b o hb e=>eb b o hb e) f0 f1 f3 f4 f5⟩
 self:=fun _ _ _ _ _ st h=>wpAny_pyIter_listiter st h
theorem yft {P:Program}{w:World}{K:PySem.W.Frag}{tg:Expr} (it:Addr) (lo:Int) (n:Nat):Turn P w K tg (Itr lo n) [it] it (fun i h=>IsRangeIter h it (lo+(i:Nat)*1) ((n:Int)-(i:Nat)) 1) where
 mem:=by simp
 obj:=fun i h st b hb=>by
  have e:b=it:=by simpa using hb
  subst e
  exact ⟨_,st,fun v z=>by
   have z':Data.fields _=Data.cell v:=z
   cases z'⟩
 keep:=fun i h h' st k=>k it (by simp) _ st
 item:=by
  intro X hP hw hK hc i pins s σ H E I hf st hg
  subst hP hw hK
  obtain ⟨f0,f1,f2,f3,f4,f5⟩:=hf it (by simp)
  have W:=Walks.range (prog:=X.prog) (w:=X.w) (I.ok.hd hc) it lo 1 n
  refine W.item i s _ _ hg st fun v h' tk hv st' kk=>?_
  obtain ⟨t,rfl⟩:=hv
  have I1:Inv X pins σ H { s with heap:=h',toks:=tk }:=I.turned (fun b o hb e=>kk b o (by simpa using hb) e) f0 f1 f3 f4 f5
  refine ⟨_,rfl,go_of (s:={ s with heap:=h',toks:=tk }) (n:="range_iterator") st' rfl rfl (by decide) ⟨.int (lo+i),H,I1,⟨t,?_⟩,⟨rfl,rfl⟩,st',fun b hb=>(hf b hb).1⟩⟩
  rw[Int.mul_one]
 done:=by
  intro X hP hw hK hc i pins s σ H E I hf st hg
  subst hP hw hK
  obtain ⟨f0,f1,f2,f3,f4,f5⟩:=hf it (by simp)
  exact wpAny_pyNext_range_end (I.ok.hd hc) st (by have:n≤i:=hg;omega) fun h' eb=>⟨rfl,I.turned (t':=s.toks) (fun b o hb e=>eb b o hb e) f0 f1 f3 f4 f5⟩
 self:=fun _ _ _ _ _ st h=>wpAny_pyIter_rangeiter st h
section
variable {X:Cx}{tg:Expr}
def iList (K:PySem.W.Frag) (tl:TE):TI:=fun σ H R=>tl σ H fun x H1=>∃ a,x=.ref a∧(∃ xs,SqL K H1 a xs)∧R (Itl K a) H1
theorem qa4 {l:Expr}{tl:TE} (hl:PE X l tl):PI X tg l (iList X.K tl):=by
 intro pins s σ H R I h
 refine thn (hl pins s σ H _ I h) fun v s1 ⟨x,H1,I1,r1,q1⟩=>?_
 obtain ⟨a,e,⟨xs,hq⟩,q⟩:=q1
 subst e
 cases r1
 obtain ⟨its,rv,p,hz⟩:=I1.list hq
 refine wpAny_pyIter_list p.isList ?_
 refine ⟨s1.heap.objs.size,[s1.heap.objs.size],_,_,H1,rfl,I1.kept (t':=s1.toks) fun b o e=>Heap.get?_push_of_some _ e,qgo a _,⟨_,Heap.get?_push_size _ rfl,rfl,rfl⟩,fun b hb=>?_,q⟩
 have e:b=s1.heap.objs.size:=by simpa using hb
 subst e
 exact I1.fpOk (Nat.le_refl _) (I1.hok.fresh (Nat.le_refl _))
theorem range_it {pins:List (Addr×Obj)}{σ:St}{H:Hp}{s:Shared}{R:It→Hp→Prop}{E:Value→Shared→Prop}{lo hi:Int}{t u v:Tok}{tk:Nat} (I:Inv X pins σ H s) (h1:-(2 ^ 62)≤lo) (h2:lo<2 ^ 62) (h3:-(2 ^ 62)≤hi) (h4:hi<2 ^ 62)
  (q:R (Itr lo (hi-lo).toNat) H):wpAny (model X.prog X.w) X.A (pyIter (.ref s.heap.objs.size)) (PIE X pins σ tg R) E { s with heap:=s.heap.push { cls:=.type "range",data:=.fields #[.int lo t,.int hi u,.int 1 v] },toks:=tk }:=by
 refine wpAny_pyIter_range (IsRange.new ..) (small_one h1 h2 h3 h4) ?_
 have I1:Inv X pins σ H { s with heap:=s.heap.push { cls:=.type "range",data:=.fields #[.int lo t,.int hi u,.int 1 v] },toks:=tk }:=I.kept fun b o e=>Heap.get?_push_of_some _ e
 refine ⟨(s.heap.push { cls:=.type "range",data:=.fields #[.int lo t,.int hi u,.int 1 v] }).objs.size,[(s.heap.push { cls:=.type "range",data:=.fields #[.int lo t,.int hi u,.int 1 v] }).objs.size],_,_,H,rfl,
  I1.kept (t':=tk) fun b o e=>Heap.get?_push_of_some _ e,yft _ lo (hi-lo).toNat,?_,fun b hb=>?_,q⟩
 ·have e1:lo+((0:Nat):Int)*1=lo:=by simp
  have e2:(((hi-lo).toNat:Nat):Int)-((0:Nat):Int)=Builtin.Range.rangeSize lo hi 1:=by rw[rangeSize_one];split<;>omega
  show IsRangeIter _ _ (lo+((0:Nat):Int)*1) ((((hi-lo).toNat:Nat):Int)-((0:Nat):Int)) 1
  rw[e1,e2]
  exact Heap.get?_push_size _ rfl
 ·have e:b=(s.heap.push { cls:=.type "range",data:=.fields #[.int lo t,.int hi u,.int 1 v] }).objs.size:=by simpa using hb
  subst e
  exact I1.fpOk (Nat.le_refl _) (I1.hok.fresh (Nat.le_refl _))
def iRng1 (ta:TA):TI:=fun σ H R=>ta σ H fun vs H1=>∃ j:Int,vs=[.int j]∧-(2 ^ 62)≤j∧j<2 ^ 62∧R (Itr 0 j.toNat) H1
theorem ybd {a:Expr}{ta:TA}{p pos:Pos} (hg:Gl X "range") (hm:X.mg "range" = none) (ha:PA X [a] ta) (hs:starEach [a] X.env=[(false,eval a X.env)]:=by rfl):PI X tg (.Call (.Name "range" p) [a] [] pos) (iRng1 ta):=by
 intro pins s σ H R I h
 refine Call_ (qdw I hg hm boot_range (PyProof.Rows.callWith_type1 (thn (ha pos pins s σ H _ I h) fun us s1 ⟨vs,H1,I1,r1,q1⟩=>?_) hs rfl))
 obtain ⟨j,e,q1,q2,q⟩:=q1
 subst e
 cases r1 with
 | cons r rr=>
  cases rr
  obtain ⟨t,rfl⟩:=r
  exact call_range_1 (range_it I1 (by omega) (by omega) q1 q2 (by simpa using q))
def tFor (wi:TI) (g:TG) (tb:TS):TS:=fun D σ H=>wi σ H fun J H1=>∃ W:Nat→Nat→St→Hp→Prop,(∃ m,W 0 m σ H1)∧∀ i m σ H,W i m σ H→
 (J.stop i H∧D.nx σ H)∨(J.go i H∧∃ N:St→Hp→Prop,(∀ σ' H',N σ' H'→∃ m',m' < m∧W (i+1) m' σ' H')∧∀ x H',J.yld i H x H'→g x σ H' fun σ2 H2=>tb { D with nx:=N,ct:=N,bk:=D.nx } σ2 H2)
def qdz (fp:List Addr) (h:Heap):List (Addr×Obj):=fp.filterMap fun b=>(h.get? b).map fun o=>(b,o)
theorem ybx {fp:List Addr}{h:Heap}{b:Addr}{o:Obj} (hb:b∈fp) (e:h.get? b=some o):(b,o)∈qdz fp h:=List.mem_filterMap.mpr ⟨b,hb,by rw[e];rfl⟩
theorem yf7 {fp:List Addr}{h:Heap}{p:Addr×Obj} (hp:p∈qdz fp h):p.1∈fp∧h.get? p.1=some p.2:=by
 obtain ⟨b,hb,e⟩:=List.mem_filterMap.mp hp
 cases q:h.get? b with
 | none=>rw[q] at e;cases e
 | some o=>
  rw[q] at e
  have e':(b,o)=p:=Option.some.inj e
  subst e'
  exact ⟨hb,q⟩
theorem Inv.pinned {pins:List (Addr×Obj)}{σ:St}{H:Hp}{s:Shared}{fp:List Addr} (I:Inv X pins σ H s) (hf:∀ b∈fp,FpOk X pins H b) (ho:∀ b∈fp,∃ o,s.heap.get? b=some o∧∀ v,o.data≠.cell v):Inv X (pins++qdz fp s.heap) σ H s:=
 I.pins_of fun p hp=>(List.mem_append.mp hp).elim (fun z=>I.pin p (List.mem_append_right _ z)) fun z=>by
  obtain ⟨hb,e⟩:=yf7 z
  obtain ⟨f0,f1,f2,_⟩:=hf p.1 hb
  obtain ⟨o,e',d⟩:=ho p.1 hb
  rw[e] at e';cases e'
  exact ⟨e,f0,f1,f2,d⟩
theorem Inv.unpinned {pins pl:List (Addr×Obj)}{σ:St}{H:Hp}{s:Shared} (I:Inv X (pins++pl) σ H s):Inv X pins σ H s:=I.pins_of fun p hp=>I.pin p (List.mem_append_right _ (List.mem_append_left _ hp))
theorem ps_for {iter:Expr}{body:List Stmt}{wi:TI}{g:TG}{tb:TS}{pos:Pos} (hp:PassesOwn (model X.prog X.w) X.A X.env X.xe) (hc:X.calm=true) (hi:PI X tg iter wi) (hg:PG X tg g) (hb:PSs X body tb)
  (hs:∀ x,foldedSetIterable iter X.env x=pure x:=by intro _;rfl):PS X (.For tg iter body [] pos) (tFor wi g tb):=by
 intro pins s σ H D I h
 refine wpAny_For (thn (hi pins s σ H _ I h) fun v s1 h1=>thn h1 fun itv s2 h2=>?_) hs
 obtain ⟨it,fp,tn,J,H2,e,I2,T,st2,f2,W,⟨m0,w0⟩,turn⟩:=h2
 subst e
 -- what stays true of the iterator's objects through the loop
 have stat:∀ {H':Hp},(∀ b∈fp,H' b=none)→∀ b∈fp,FpOk X pins H' b:=fun hn b hb=>⟨hn b hb,(f2 b hb).2⟩
 refine codeAny_forLoop_any (fun n s'=>∃ i σ' H',Inv X pins σ' H' s'∧tn i s'.heap∧(∀ b∈fp,H' b=none)∧W i n σ' H') ?_ m0 ⟨0,σ,H2,I2,st2,fun b hb=>(f2 b hb).1,w0⟩
 rintro n s3 ⟨i,σ3,H3,I3,st3,fr3,w3⟩
 rcases turn i n σ3 H3 w3 with ⟨stop,qn⟩|⟨go,N,hN,step⟩
 ·refine wpAny_passesOwn hp (thn (T.done X rfl rfl rfl hc i pins s3 σ3 H3 X.xe I3 (stat fr3) st3 stop) fun r s4 ⟨hr,I4⟩=>?_)
  subst hr
  exact wpAny_execs_nil ⟨σ3,H3,I4,qn⟩
 ·refine wpAny_passesOwn hp (thn (T.item X rfl rfl rfl hc i pins s3 σ3 H3 X.xe I3 (stat fr3) st3 go) fun r s4 ⟨u,hr,h4⟩=>?_)
  subst hr
  refine wpAny_passesOwn hp (thn h4 fun _ s5 ⟨x,H5,I5,r5,y5,st5,fr5⟩=>?_)
  have I5':=I5.pinned (stat fr5) (T.obj _ _ st5)
  refine wpAny_passesOwn hp (thn (hg _ s5 σ3 H5 x u _ I5' r5 (step x H5 y5)) fun _ s6 ⟨σ6,H6,I6,q6⟩=>?_)
  refine wpAny_passesOwn hp (thn (hb _ s6 σ6 H6 _ I6 q6) fun f s7 q7=>?_)
  have again:∀ {σ7:St}{H7:Hp},Inv X (pins++qdz fp s5.heap) σ7 H7 s7→N σ7 H7→∃ m,m<n∧∃ i σ' H',Inv X pins σ' H' s7∧tn i s7.heap∧(∀ b∈fp,H' b=none)∧W i m σ' H':=fun {σ7 H7} I7 n7=>by
   obtain ⟨m',hm,w7⟩:=hN σ7 H7 n7
   refine ⟨m',hm,i+1,σ7,H7,I7.unpinned,T.keep _ _ _ st5 fun b hb o e=>(I7.pin (b,o) (List.mem_append_right _ (List.mem_append_right _ (ybx hb e)))).1,fun b hb=>?_,w7⟩
   obtain ⟨o,e,d⟩:=T.obj _ _ st5 b hb
   exact (I7.pin (b,o) (List.mem_append_right _ (List.mem_append_right _ (ybx hb e)))).2.1
  cases f with
  | next=>obtain ⟨σ7,H7,I7,n7⟩:=q7;exact again I7 n7
  | cont=>obtain ⟨σ7,H7,I7,n7⟩:=q7;exact again I7 n7
  | brk=>obtain ⟨σ7,H7,I7,q7⟩:=q7;exact ⟨σ7,H7,I7.unpinned,q7⟩
  | ret v=>obtain ⟨x7,σ7,H7,I7,r7,q7⟩:=q7;exact ⟨x7,σ7,H7,I7.unpinned,r7,q7⟩
end
theorem ycb {K:PySem.W.Frag}{a:Addr}{xs:List V}{g:TG}{tb:TS}{D:Ends}{σ:St}{H:Hp} (Pv:Nat→St→Hp→Prop) (h0:Pv 0 σ H) (hl:∀ i σ H,i≤xs.length→Pv i σ H→SqL K H a xs)
  (hs:∀ i x σ H,xs[i]?=some x→Pv i σ H→g x σ H fun σ2 H2=>tb { D with nx:=Pv (i+1),ct:=Pv (i+1),bk:=D.nx } σ2 H2) (hd:∀ σ H,Pv xs.length σ H→D.nx σ H) :
  ∃ W:Nat→Nat→St→Hp→Prop,(∃ m,W 0 m σ H)∧∀ i m σ H,W i m σ H→
   ((Itl K a).stop i H∧D.nx σ H)∨((Itl K a).go i H∧∃ N:St→Hp→Prop,(∀ σ' H',N σ' H'→∃ m',m' < m∧W (i+1) m' σ' H')∧∀ x H',(Itl K a).yld i H x H'→g x σ H' fun σ2 H2=>tb { D with nx:=N,ct:=N,bk:=D.nx } σ2 H2):=by
 refine ⟨fun i m σ H=>m=xs.length-i∧i≤xs.length∧Pv i σ H,⟨xs.length,by simp,Nat.zero_le _,h0⟩,?_⟩
 rintro i m σ H ⟨rfl,hi,p⟩
 have q:=hl i σ H hi p
 by_cases hlt:i<xs.length
 ·refine .inr ⟨⟨xs,xs[i],q,by simp[hlt]⟩,Pv (i+1),fun σ' H' p'=>⟨xs.length-(i+1),by omega,rfl,hlt,p'⟩,fun x H' y=>?_⟩
  obtain ⟨e,y⟩:=y
  subst e
  exact hs i x σ _ (y xs q) p
 ·have e:i=xs.length:=by omega
  subst e
  exact .inl ⟨⟨xs,q,Nat.le_refl _⟩,hd σ H p⟩
theorem qb7 {lo:Int}{n:Nat}{g:TG}{tb:TS}{D:Ends}{σ:St}{H:Hp} (Pv:Nat→St→Hp→Prop) (h0:Pv 0 σ H)
  (hs:∀ i σ H,i<n→Pv i σ H→g (.int (lo+i)) σ H fun σ2 H2=>tb { D with nx:=Pv (i+1),ct:=Pv (i+1),bk:=D.nx } σ2 H2) (hd:∀ σ H,Pv n σ H→D.nx σ H) :
  ∃ W:Nat→Nat→St→Hp→Prop,(∃ m,W 0 m σ H)∧∀ i m σ H,W i m σ H→
   ((Itr lo n).stop i H∧D.nx σ H)∨((Itr lo n).go i H∧∃ N:St→Hp→Prop,(∀ σ' H',N σ' H'→∃ m',m' < m∧W (i+1) m' σ' H')∧∀ x H',(Itr lo n).yld i H x H'→g x σ H' fun σ2 H2=>tb { D with nx:=N,ct:=N,bk:=D.nx } σ2 H2):=by
 refine ⟨fun i m σ H=>m=n-i∧i≤n∧Pv i σ H,⟨n,by simp,Nat.zero_le _,h0⟩,?_⟩
 rintro i m σ H ⟨rfl,hi,p⟩
 by_cases hlt:i<n
 ·refine .inr ⟨hlt,Pv (i+1),fun σ' H' p'=>⟨n-(i+1),by omega,rfl,hlt,p'⟩,fun x H' y=>?_⟩
  obtain ⟨e,y⟩:=y
  subst e y
  exact hs i σ _ hlt p
 ·have e:i=n:=by omega
  subst e
  exact .inl ⟨Nat.le_refl _,hd σ H p⟩
abbrev R2:=V→V→Hp→VK→Prop
def OpR (X:Cx) (f:Value→Value→Sem Value) (r:R2):Prop:=
 ∀ (pins:List (Addr×Obj)) (s:Shared) (σ:St) (H:Hp) (x y:V) (v u:Value) (Q:VK),Inv X pins σ H s→RelV x v→RelV y u→r x y H Q→
  wpAny (model X.prog X.w) X.A (f v u) (EP X pins σ Q) X.xe s
def UnR (X:Cx) (f:Value→Sem Value) (r:V→Hp→VK→Prop):Prop:=
 ∀ (pins:List (Addr×Obj)) (s:Shared) (σ:St) (H:Hp) (x:V) (v:Value) (Q:VK),Inv X pins σ H s→RelV x v→r x H Q→
  wpAny (model X.prog X.w) X.A (f v) (EP X pins σ Q) X.xe s
def ybv (X:Cx) (f:Value) (r:List V→Hp→VK→Prop):Prop:=
 ∀ (pins:List (Addr×Obj)) (s:Shared) (σ:St) (H:Hp) (xs:List V) (us:List Value) (Q:VK),Inv X pins σ H s→Vals xs us→r xs H Q→
  wpAny (model X.prog X.w) X.A (call f us) (EP X pins σ Q) X.xe s
def tOp (r:R2) (ta tb:TE):TE:=fun σ H Q=>ta σ H fun x H1=>tb σ H1 fun y H2=>r x y H2 Q
def tUn (r:V→Hp→VK→Prop) (ta:TE):TE:=fun σ H Q=>ta σ H fun x H1=>r x H1 Q
def rI (C:Int→Int→Prop) (g:Int→Int→V):R2:=fun x y H Q=>∃ i j,x=.int i∧y=.int j∧C i j∧Q (g i j) H
def rI0 (g:Int→Int→V):R2:=fun x y H Q=>∃ i j,x=.int i∧y=.int j∧Q (g i j) H
def rU (g:Int→V):V→Hp→VK→Prop:=fun x H Q=>∃ i,x=.int i∧Q (g i) H
section
variable {X:Cx}{a b c:Expr}{ta tb tc:TE}{pos:Pos}
theorem binT (ha:PE X a ta) (hb:PE X b tb) {pins:List (Addr×Obj)}{s:Shared}{σ:St}{H:Hp}{R:V→V→Hp→Prop} (I:Inv X pins σ H s)
  (h:ta σ H fun x H1=>tb σ H1 fun y H2=>R x y H2) {Q:Value→Shared→Prop}{f:Value→Value→Sem Value}
  (hf:∀ v u s2 x y H2,Inv X pins σ H2 s2→RelV x v→RelV y u→R x y H2→wpAny (model X.prog X.w) X.A (f v u) Q X.xe s2) :
  wpAny (model X.prog X.w) X.A (eval a X.env) (fun v s₁=>wpAny (model X.prog X.w) X.A (eval b X.env) (fun u s₂=>wpAny (model X.prog X.w) X.A (f v u) Q X.xe s₂) X.xe s₁) X.xe s:=by
 refine thn (ha pins s σ H _ I h) fun v s1 ⟨x,H1,I1,r1,q1⟩=>?_
 refine thn (hb pins s1 σ H1 _ I1 q1) fun u s2 ⟨y,H2,I2,r2,q2⟩=>?_
 exact hf v u s2 x y H2 I2 r1 r2 q2
theorem qbo {op:Operator}{r:R2} (ho:OpR X (binaryOp op) r) (ha:PE X a ta) (hb:PE X b tb):PE X (.BinOp a op b pos) (tOp r ta tb):=by
 intro pins s σ H Q I h
 exact wpAny_BinOp (binT ha hb I h fun v u s2 x y H2 I2 rx ry q=>ho pins s2 σ H2 x y v u Q I2 rx ry q)
theorem pe_un {op:UnaryOp}{r:V→Hp→VK→Prop} (ho:UnR X (unaryOp op) r) (ha:PE X a ta):PE X (.UnaryOp op a pos) (tUn r ta):=by
 intro pins s σ H Q I h
 exact UnaryOp_ (thn (ha pins s σ H _ I h) fun v s1 ⟨x,H1,I1,r1,q1⟩=>ho pins s1 σ H1 x v Q I1 r1 q1)
theorem opI {f:Value→Value→Sem Value}{C:Int→Int→Prop}{g:Int→Int→Int}
  (rule:∀ (i j:Int) (t u:Tok) (s:Shared) (Q:Value→Shared→Prop) (E:Value→Shared→Prop),C i j→Q (.int (g i j) s.toks) { s with toks:=s.toks+1 }→wpAny (model X.prog X.w) X.A (f (.int i t) (.int j u)) Q E s) :
  OpR X f (rI C fun i j=>.int (g i j)):=by
 intro pins s σ H x y v u Q I rx ry h
 obtain ⟨i,j,rfl,rfl,hc,q⟩:=h
 obtain ⟨t,rfl⟩:=rx
 obtain ⟨t',rfl⟩:=ry
 exact rule i j t t' s _ _ hc ⟨.int (g i j),H,I.tok _,⟨_,rfl⟩,q⟩
theorem opI0 {f:Value→Value→Sem Value}{g:Int→Int→Int}
  (rule:∀ (i j:Int) (t u:Tok) (s:Shared) (Q:Value→Shared→Prop) (E:Value→Shared→Prop),Q (.int (g i j) s.toks) { s with toks:=s.toks+1 }→wpAny (model X.prog X.w) X.A (f (.int i t) (.int j u)) Q E s) :
  OpR X f (rI0 fun i j=>.int (g i j)):=by
 intro pins s σ H x y v u Q I rx ry h
 obtain ⟨i,j,rfl,rfl,q⟩:=h
 obtain ⟨t,rfl⟩:=rx
 obtain ⟨t',rfl⟩:=ry
 exact rule i j t t' s _ _ ⟨.int (g i j),H,I.tok _,⟨_,rfl⟩,q⟩
theorem opB0 {f:Value→Value→Sem Value}{g:Int→Int→Bool}
  (rule:∀ (i j:Int) (t u:Tok) (s:Shared) (Q:Value→Shared→Prop) (E:Value→Shared→Prop),Q (.bool (g i j)) s→wpAny (model X.prog X.w) X.A (f (.int i t) (.int j u)) Q E s) :
  OpR X f (rI0 fun i j=>.bl (g i j)):=by
 intro pins s σ H x y v u Q I rx ry h
 obtain ⟨i,j,rfl,rfl,q⟩:=h
 obtain ⟨t,rfl⟩:=rx
 obtain ⟨t',rfl⟩:=ry
 exact rule i j t t' s _ _ ⟨.bl (g i j),H,I,rfl,q⟩
def CDiv (i j:Int):Prop:=0<j∧j<1073741824
def CPow (i j:Int):Prop:=0≤j∧j≤1000000∧i.natAbs<2 ^ 64
def CMul (i j:Int):Prop:=(-(2 ^ 64)<i∧i<2 ^ 64)∨(-(2 ^ 64)<j∧j<2 ^ 64)
theorem CMul.ok {i j:Int} (h:CMul i j):IntMulOk i j:=by
 rcases h with ⟨h1,h2⟩|⟨h1,h2⟩
 ·exact .of_left (intBits_le_64 h1 h2)
 ·exact .of_right (intBits_le_64 h1 h2)
theorem ya1:OpR X (binaryOp .Add) (rI0 fun i j=>.int (i+j)):=opI0 fun _ _ _ _ _ _ _ q=>add_int q
theorem yb8:OpR X (binaryOp .Sub) (rI0 fun i j=>.int (i-j)):=opI0 fun _ _ _ _ _ _ _ q=>sub_int q
theorem ydt:OpR X (binaryOp .Mult) (rI CMul fun i j=>.int (i*j)):=opI fun _ _ _ _ _ _ _ hc q=>mul_int q hc.ok
theorem ygd:OpR X (binaryOp .FloorDiv) (rI CDiv fun i j=>.int (i / j)):=opI fun i j _ _ _ _ _ hc q=>by
 have h1:(0:Int)<j:=hc.1
 have h2:j<1073741824:=hc.2
 exact floordiv_int (by omega) (by rw[Int.fdiv_eq_ediv_of_nonneg i (by omega)];exact q) (.inl (PyProof.noPylong_small (by omega)))
theorem ych:OpR X (binaryOp .Mod) (rI (fun _ j=>0<j) fun i j=>.int (i % j)):=opI fun i j _ _ _ _ _ hc q=>by
 have h1:(0:Int)<j:=hc
 exact mod_int' (by omega) (by rw[Int.fmod_eq_emod_of_nonneg i (by omega)];exact q)
theorem op_pow:OpR X (binaryOp .Pow) (rI CPow fun i j=>.int (i ^ j.toNat)):=opI fun _ _ _ _ _ _ _ hc q=>pow_int_small hc.1 hc.2.1 hc.2.2 q
theorem unI {f:Value→Sem Value}{g:Int→Int}
  (rule:∀ (i:Int) (t:Tok) (s:Shared) (Q:Value→Shared→Prop) (E:Value→Shared→Prop),Q (.int (g i) s.toks) { s with toks:=s.toks+1 }→wpAny (model X.prog X.w) X.A (f (.int i t)) Q E s) :
  UnR X f (rU fun i=>.int (g i)):=by
 intro pins s σ H x v Q I rx h
 obtain ⟨i,rfl,q⟩:=h
 obtain ⟨t,rfl⟩:=rx
 exact rule i t s _ _ ⟨.int (g i),H,I.tok _,⟨_,rfl⟩,q⟩
theorem un_neg:UnR X (unaryOp .USub) (rU fun i=>.int (-i)):=unI fun _ _ _ _ _ q=>neg_int q
end
def scal:V→V→Bool
 | .non,.non=>true | .non,.int _=>true | .int _,.non=>true | .non,.bl _=>true | .bl _,.non=>true | .non,.str _=>true | .str _,.non=>true
 | .int _,.int _=>true | .bl _,.bl _=>true | .str _,.str _=>true | .byt _,.byt _=>true
 | .int _,.str _=>true | .str _,.int _=>true | .bl _,.str _=>true | .str _,.bl _=>true
 | _,_=>false
def rEq:R2:=fun x y H Q=>scal x y=true∧Q (.bl (decide (x=y))) H
def rNe:R2:=fun x y H Q=>scal x y=true∧Q (.bl (!decide (x=y))) H
theorem qfx {i j:Int}:decide (V.int i=V.int j)=(i == j):=by
 rw[Bool.eq_iff_iff]
 simp
theorem dec_bl {i j:Bool}:decide (V.bl i=V.bl j)=(i == j):=by
 rw[Bool.eq_iff_iff]
 simp
theorem ygq {i j:Str}:decide (V.str i=V.str j)=(i == j):=by
 rw[Bool.eq_iff_iff]
 simp
theorem qfy {i j:Array UInt8}:decide (V.byt i=V.byt j)=(i.toList == j.toList):=by
 rw[Bool.eq_iff_iff]
 cases i
 cases j
 simp
section
variable {X:Cx}{a b c:Expr}{ta tb tc:TE}{pos:Pos}
theorem qaq {pins:List (Addr×Obj)}{σ:St}{H:Hp}{s:Shared}{Q:VK}{k k':Bool} (I:Inv X pins σ H s) (q:Q (.bl k) H) (e:k=k'):EP X pins σ Q (.bool k') s:=by
 subst e
 exact ⟨.bl k,H,I,rfl,q⟩
theorem qcf:OpR X (compareOp .Eq) rEq:=by
 intro pins s σ H x y v u Q I rx ry h
 obtain ⟨hs,q⟩:=h
 cases x with
 | non=>
  cases rx
  cases y with
  | non=>cases ry;exact PySem.EqNone.eq_none_none (qaq I q (by simp))
  | bl j=>cases ry;exact PySem.EqNone.eq_none_bool (qaq I q (by simp))
  | int j=>obtain ⟨t',rfl⟩:=ry;exact PySem.EqNone.eq_none_int (qaq I q (by simp))
  | str j=>obtain ⟨t',rfl⟩:=ry;exact PySem.EqNone.eq_none_str (qaq I q (by simp))
  | _=>exact absurd (show false=true from hs) Bool.false_ne_true
 | bl i=>
  cases rx
  cases y with
  | non=>cases ry;exact PySem.EqNone.eq_bool_none (qaq I q (by simp))
  | bl j=>cases ry;exact eq_bool (qaq I q dec_bl)
  | str j=>obtain ⟨t',rfl⟩:=ry;exact PySem.EqMixed.eq_bool_str (qaq I q (by simp))
  | _=>exact absurd (show false=true from hs) Bool.false_ne_true
 | int i=>
  obtain ⟨t,rfl⟩:=rx
  cases y with
  | non=>cases ry;exact PySem.EqNone.eq_int_none (qaq I q (by simp))
  | int j=>obtain ⟨t',rfl⟩:=ry;exact eq_int (qaq I q qfx)
  | str j=>obtain ⟨t',rfl⟩:=ry;exact PySem.EqMixed.eq_int_str (qaq I q (by simp))
  | _=>exact absurd (show false=true from hs) Bool.false_ne_true
 | str i=>
  obtain ⟨t,rfl⟩:=rx
  cases y with
  | non=>cases ry;exact PySem.EqNone.eq_str_none (qaq I q (by simp))
  | bl j=>cases ry;exact PySem.EqMixed.eq_str_bool (qaq I q (by simp))
  | int j=>obtain ⟨t',rfl⟩:=ry;exact PySem.EqMixed.eq_str_int (qaq I q (by simp))
  | str j=>obtain ⟨t',rfl⟩:=ry;exact eq_str (qaq I q ygq)
  | _=>exact absurd (show false=true from hs) Bool.false_ne_true
 | byt i=>
  obtain ⟨t,rfl⟩:=rx
  cases y with
  | byt j=>obtain ⟨t',rfl⟩:=ry;exact PySem.W.eq_bytes (qaq I q qfy)
  | _=>exact absurd (show false=true from hs) Bool.false_ne_true
 | _=>cases y<;>exact absurd (show false=true from hs) Bool.false_ne_true
theorem yer:OpR X (compareOp .NotEq) rNe:=by
 intro pins s σ H x y v u Q I rx ry h
 obtain ⟨hs,q⟩:=h
 cases x with
 | non=>
  cases rx
  cases y with
  | non=>cases ry;exact PySem.EqNone.ne_none_none (qaq I q (by simp))
  | bl j=>cases ry;exact PySem.EqNone.ne_none_bool (qaq I q (by simp))
  | int j=>obtain ⟨t',rfl⟩:=ry;exact PySem.EqNone.ne_none_int (qaq I q (by simp))
  | str j=>obtain ⟨t',rfl⟩:=ry;exact PySem.EqNone.ne_none_str (qaq I q (by simp))
  | _=>exact absurd (show false=true from hs) Bool.false_ne_true
 | bl i=>
  cases rx
  cases y with
  | non=>cases ry;exact PySem.EqNone.ne_bool_none (qaq I q (by simp))
  | bl j=>cases ry;exact ne_bool (qaq I q (congrArg not dec_bl))
  | str j=>obtain ⟨t',rfl⟩:=ry;exact PySem.EqMixed.ne_bool_str (qaq I q (by simp))
  | _=>exact absurd (show false=true from hs) Bool.false_ne_true
 | int i=>
  obtain ⟨t,rfl⟩:=rx
  cases y with
  | non=>cases ry;exact PySem.EqNone.ne_int_none (qaq I q (by simp))
  | int j=>obtain ⟨t',rfl⟩:=ry;exact ne_int (qaq I q (congrArg not qfx))
  | str j=>obtain ⟨t',rfl⟩:=ry;exact PySem.EqMixed.ne_int_str (qaq I q (by simp))
  | _=>exact absurd (show false=true from hs) Bool.false_ne_true
 | str i=>
  obtain ⟨t,rfl⟩:=rx
  cases y with
  | non=>cases ry;exact PySem.EqNone.ne_str_none (qaq I q (by simp))
  | bl j=>cases ry;exact PySem.EqMixed.ne_str_bool (qaq I q (by simp))
  | int j=>obtain ⟨t',rfl⟩:=ry;exact PySem.EqMixed.ne_str_int (qaq I q (by simp))
  | str j=>obtain ⟨t',rfl⟩:=ry;exact ne_str (qaq I q (congrArg not ygq))
  | _=>exact absurd (show false=true from hs) Bool.false_ne_true
 | byt i=>
  obtain ⟨t,rfl⟩:=rx
  cases y with
  | byt j=>obtain ⟨t',rfl⟩:=ry;exact PySem.W.ne_bytes (qaq I q (congrArg not qfy))
  | _=>exact absurd (show false=true from hs) Bool.false_ne_true
 | _=>cases y<;>exact absurd (show false=true from hs) Bool.false_ne_true
theorem op_lt:OpR X (compareOp .Lt) (rI0 fun i j=>.bl (decide (i<j))):=opB0 fun _ _ _ _ _ _ _ q=>lt_int q
theorem op_le:OpR X (compareOp .LtE) (rI0 fun i j=>.bl (decide (i≤j))):=opB0 fun _ _ _ _ _ _ _ q=>le_int q
theorem ycf:OpR X (compareOp .Gt) (rI0 fun i j=>.bl (decide (j<i))):=opB0 fun _ _ _ _ _ _ _ q=>gt_int q
theorem op_ge:OpR X (compareOp .GtE) (rI0 fun i j=>.bl (decide (j≤i))):=opB0 fun _ _ _ _ _ _ _ q=>ge_int q
theorem yal (b:Expr) {op:CmpOp} (h:op≠.In:=by decide) (h2:op≠.NotIn:=by decide):behindInMarks op b=false:=by
 have e1:(op == CmpOp.In)=false:=by cases op<;>first|rfl|exact absurd rfl h
 have e2:(op == CmpOp.NotIn)=false:=by cases op<;>first|rfl|exact absurd rfl h2
 cases b<;>simp[behindInMarks,e1,e2]
theorem yb7 {op:CmpOp}{r:R2} (ho:OpR X (compareOp op) r) (ha:PE X a ta) (hb:PE X b tb) (hm:behindInMarks op b=false):PE X (.Compare a [op] [b] pos) (tOp r ta tb):=by
 intro pins s σ H Q I h
 exact wpAny_Compare1 (binT ha hb I h fun v u s2 x y H2 I2 rx ry q=>ho pins s2 σ H2 x y v u Q I2 rx ry q) hm
def tTest (t:TE):TT:=fun σ H Q=>t σ H fun x H'=>∃ k,x=.bl k∧Q k H'
theorem qbt {op:CmpOp}{r:R2} (ho:OpR X (compareOp op) r) (ha:PE X a ta) (hb:PE X b tb) (hm:behindInMarks op b=false):PT X (.Compare a [op] [b] pos) (tTest (tOp r ta tb)):=by
 intro pins s σ H Q I h
 refine wpAny_isTrue_Compare1 (thn (ha pins s σ H _ I h) fun v s1 ⟨x,H1,I1,r1,q1⟩=>thn (hb pins s1 σ H1 _ I1 q1) fun u s2 ⟨y,H2,I2,r2,q2⟩=>
  thn (ho pins s2 σ H2 x y v u _ I2 r1 r2 q2) fun c s3 ⟨z,H3,I3,r3,k,e,q3⟩=>?_) hm
 subst e
 cases r3
 exact wpAny_truthy_bool ⟨H3,I3,q3⟩
def tChain (r r':R2) (ta tb tc:TE):TE:=fun σ H Q=>ta σ H fun x H1=>tb σ H1 fun y H2=>r x y H2 fun z H3=>∃ k,z=.bl k∧
 (if k=true then tc σ H3 fun w' H4=>r' y w' H4 Q else Q (.bl false) H3)
theorem pt_chain {op op':CmpOp}{r r':R2} (ho:OpR X (compareOp op) r) (ho':OpR X (compareOp op') r') (ha:PE X a ta) (hb:PE X b tb) (hc:PE X c tc)
  (hm:lastMarks [op,op'] [b,c]=false:=by with_unfolding_all rfl):PT X (.Compare a [op,op'] [b,c] pos) (tTest (tChain r r' ta tb tc)):=by
 intro pins s σ H Q I h
 refine isTrue_chain (thn (ha pins s σ H _ I h) fun v s1 ⟨x,H1,I1,r1,q1⟩=>test_link (thn (hb pins s1 σ H1 _ I1 q1) fun u s2 ⟨y,H2,I2,r2,q2⟩=>
  thn (ho pins s2 σ H2 x y v u _ I2 r1 r2 q2) fun d s3 ⟨z,H3,I3,r3,k,e,q3⟩=>?_)) hm
 subst e
 cases r3
 refine wpAny_truthy_bool ?_
 cases k with
 | false=>
  obtain ⟨k',e',q'⟩:=q3
  cases e'
  exact ite_ff ⟨H3,I3,q'⟩
 | true=>
  refine ite_tt (test_last (thn (hc pins s3 σ H3 _ I3 q3) fun w' s4 ⟨z',H4,I4,r4,q4⟩=>thn (ho' pins s4 σ H4 y z' u w' _ I4 r2 r4 q4) fun d' s5 ⟨z2,H5,I5,r5,k2,e2,q5⟩=>?_))
  subst e2
  cases r5
  exact wpAny_truthy_bool ⟨H5,I5,q5⟩
theorem ygh:(sizeLine:Nat)<2 ^ 63:=by rw[sizeLine_eq];decide
theorem yfm {x:V}{us:List Value} (r:Vals [x] us):∃ u,us=[u]∧RelV x u:=by
 cases r with
 | cons r1 r2=>cases r2;exact ⟨_,rfl,r1⟩
theorem vals2 {x y:V}{us:List Value} (r:Vals [x,y] us):∃ u w',us=[u,w']∧RelV x u∧RelV y w':=by
 cases r with
 | cons r1 r2=>
  cases r2 with
  | cons r3 r4=>cases r4;exact ⟨_,_,rfl,r1,r3⟩
theorem call_abs:ybv X (.builtin "abs") (fun xs H Q=>∃ i,xs=[.int i]∧Q (.int (if i<0 then -i else i)) H):=by
 intro pins s σ H xs us Q I r h
 obtain ⟨i,rfl,q⟩:=h
 obtain ⟨u,rfl,t,rfl⟩:=yfm r
 exact call_abs_int fun u tk=>⟨.int (if i<0 then -i else i),H,I.tok _,⟨_,rfl⟩,q⟩
theorem qdp (hc:X.calm=true):ybv X (.builtin "max") (fun xs H Q=>∃ i j,xs=[.int i,.int j]∧Q (.int (if j>i then j else i)) H):=by
 intro pins s σ H xs us Q I r h
 obtain ⟨i,j,rfl,q⟩:=h
 obtain ⟨u,w',rfl,⟨t,rfl⟩,⟨t',rfl⟩⟩:=vals2 r
 refine max_two_ints (I.ok.hd hc) fun h' tk k=>⟨_,H,I.kept k,?_,q⟩
 by_cases hj:j>i
 ·rw[if_pos hj,if_pos hj];exact ⟨_,rfl⟩
 ·rw[if_neg hj,if_neg hj];exact ⟨_,rfl⟩
theorem yeh (hc:X.calm=true):ybv X (.builtin "min") (fun xs H Q=>∃ i j,xs=[.int i,.int j]∧Q (.int (if j<i then j else i)) H):=by
 intro pins s σ H xs us Q I r h
 obtain ⟨i,j,rfl,q⟩:=h
 obtain ⟨u,w',rfl,⟨t,rfl⟩,⟨t',rfl⟩⟩:=vals2 r
 refine min_two_ints (I.ok.hd hc) fun h' tk k=>⟨_,H,I.kept k,?_,q⟩
 by_cases hj:j<i
 ·rw[if_pos hj,if_pos hj];exact ⟨_,rfl⟩
 ·rw[if_neg hj,if_neg hj];exact ⟨_,rfl⟩
theorem qfu:ybv X (.type "int") (fun xs H Q=>(∃ i,xs=[.int i]∧Q (.int i) H)∨∃ k,xs=[.bl k]∧Q (.int (if k then 1 else 0)) H):=by
 intro pins s σ H xs us Q I r h
 rcases h with ⟨i,rfl,q⟩|⟨k,rfl,q⟩
 ·obtain ⟨u,rfl,t,rfl⟩:=yfm r
  exact call_int_int ⟨.int i,H,I,⟨_,rfl⟩,q⟩
 ·obtain ⟨u,rfl,r1⟩:=yfm r
  cases r1
  exact call_int_bool ⟨.int (if k then 1 else 0),H,I.tok _,⟨_,rfl⟩,q⟩
end
structure ObjM (h:Heap) (x dx C:Addr) (mA:Str→Option Value):Prop where
 obj:h.get? x=some (PySem.W.instObj C dx)
 ns:h.Ns1 dx mA
 ne:dx≠x
theorem yf3 {h:Heap}{dx:Addr}{mA:Str→Option Value} (n:h.Ns1 dx mA):∃ od,h.get? dx=some od∧∀ name,PySem.W.lookIn name od=some (mA name):=by
 obtain ⟨o,es,ep,ho,hd,hk,_,hm⟩:=n
 refine ⟨o,ho,fun name=>?_⟩
 have e:=hm name
 unfold nsFind findBy at e
 rw[← Array.find?_toList] at e
 unfold PySem.W.lookIn
 rw[hd]
 dsimp only
 split
 ·rename_i y q
  rw[q] at e
  exact congrArg some e
 ·rename_i q
  rw[q] at e
  have a:es.toList.any (·.refKey)=false:=by
   rw[List.any_eq_false]
   intro y hy
   obtain ⟨z,t,hkey⟩:=hk y (Array.mem_toList_iff.mp hy)
   simp[DictEntry.refKey,hkey]
  have a':¬ es.toList.any (·.refKey)=true:=by rw[a];exact Bool.false_ne_true
  rw[if_neg a']
  exact congrArg some e
theorem ObjM.look {h:Heap}{x dx C:Addr}{mA:Str→Option Value} (I:ObjM h x dx C mA):∃ od,PySem.W.InstAt h x (PySem.W.instObj C dx) C (some od)∧∀ name,PySem.W.lookIn name od=some (mA name):=
 let ⟨od,ho,hl⟩:=yf3 I.ns
 ⟨od,⟨I.obj,rfl,rfl,ho⟩,hl⟩
theorem RelO.some_of {v:V}{o:Option Value} (r:RelO (some v) o):∃ u,o=some u∧RelV v u:=by
 cases o with
 | none=>exact (show False from r).elim
 | some u=>exact ⟨u,rfl,r⟩
section
variable {P:Program}{w:World}{H H':Hp}{h h':Heap}{a C dx:Addr}{fs fs':List (Str×V)}
theorem ins_get (hok:HOk P w H h) (e:H a=some (.ins C dx fs)):∃ mA,ObjM h a dx C mA∧(∀ f,RelO (fs.lookup f) (mA f))∧PySem.Within mA (fs.map (·.1))∧fs.length≤1000∧H dx=some (.own a):=by
 obtain ⟨d,z,ne,ob,mA,n,r,q⟩:=(show yap P w H h a (.ins C dx fs) from hok a _ e)
 exact ⟨mA,⟨ob,n,ne⟩,r,q,z,d⟩
end
structure Cls (K:PySem.W.Frag) (C:Addr):Prop where
 pg:PySem.W.plainGet K C Str.empty=true
 hd:PySem.W.hasDictIn K C=true
 po:PySem.W.plainOver K C=true
 sa:PySem.W.findIn K (.ref C) "__setattr__" = some (some (.builtin "object.__setattr__"))
theorem Cls.get {K:PySem.W.Frag}{C:Addr} (c:Cls K C) (f:Str):PySem.W.plainGet K C f=true:=c.pg
section
variable {X:Cx}{pins:List (Addr×Obj)}{σ:St}{H:Hp}{s:Shared}{A:Around}{E:Value→Shared→Prop}{Q:Value→Shared→Prop}{c:Value}{b:Bool}
inductive TyOf (K:PySem.W.Frag) (H:Hp):V→Value→Prop where
 | non:TyOf K H .non (.type "NoneType")
 | bl (x:Bool):TyOf K H (.bl x) (.type "bool")
 | int (i:Int):TyOf K H (.int i) (.type "int")
 | str (x:Str):TyOf K H (.str x) (.type "str")
 | flt (x:UInt64):TyOf K H (.flt x) (.type "float")
 | lst {a:Addr}{xs:List V} (e:H a=some (.lst xs)):TyOf K H (.ref a) (.type "list")
 | frz {a:Addr}{o:Obj}{xs:List V} (e:H a=some (.frz o (.lst xs))):TyOf K H (.ref a) (.type "list")
 | tup {a:Addr}{xs:List V} (e:H a=some (.tup xs)):TyOf K H (.ref a) (.type "tuple")
 | dK {a:Addr}{kvs:List (Key×V)} (e:H a=some (.dK kvs)):TyOf K H (.ref a) (.type "dict")
 | dT {a:Addr}{kvs:List (List Key×V)} (e:H a=some (.dT kvs)):TyOf K H (.ref a) (.type "dict")
 | ins {a C dx:Addr}{fs:List (Str×V)} (e:H a=some (.ins C dx fs)) (cl:Cls K C) (ha:PySem.W.findIn K (.ref C) "__class__" = some (some (.builtin "object.__class__")))
   (hn:PySem.W.specialIn K (.builtin "object.__class__") "__get__" = some (some (.builtin "getset_descriptor.__get__"))) (htk:PySem.W.takesIn K (.builtin "object.__class__")=some true)
   (hm:PySem.W.mroIn K C (.type "object")=some true):TyOf K H (.ref a) (.ref C)
theorem yf5 {x:V}{u t:Value} (I:Inv X pins σ H s) (rx:RelV x u) (ty:TyOf X.K H x t) (e:PySem.W.kitOne X.K t c=some b) (h:∀ tk,Q (.bool b) { s with toks:=tk }) :
  wpAny (model X.prog X.w) A (call (.builtin "isinstance") [u,c]) Q E s:=by
 cases ty with
 | non=>cases (show u=Value.none from rx);exact PySem.W.kia_one PySem.W.kitx_none I.kIn True.intro e (fun z=>nomatch z) h
 | bl y=>cases (show u=Value.bool y from rx);exact PySem.W.kia_one PySem.W.kitx_bool I.kIn True.intro e (fun z=>nomatch z) h
 | int i=>obtain ⟨t,q⟩:=(show ∃ t,u=Value.int i t from rx);cases q;exact PySem.W.kia_one PySem.W.kitx_int I.kIn True.intro e (fun z=>nomatch z) h
 | str y=>obtain ⟨t,q⟩:=(show ∃ t,u=Value.str y t from rx);cases q;exact PySem.W.kia_one PySem.W.kitx_str I.kIn True.intro e (fun z=>nomatch z) h
 | flt y=>obtain ⟨t,q⟩:=(show ∃ t,u=Value.float y t from rx);cases q;exact PySem.W.kia_one PySem.W.kitx_float I.kIn True.intro e (fun z=>nomatch z) h
 | @lst a xs ea=>
  cases (show u=Value.ref a from rx)
  obtain ⟨_,_,n,_,h1⟩:=(show yap X.prog X.w H s.heap a (.lst xs) from I.hok a _ ea)
  exact PySem.W.kia_one PySem.W.kitx_list I.kIn ⟨_,h1,rfl⟩ e (fun z=>nomatch z) h
 | @frz a ob xs ea=>
  cases (show u=Value.ref a from rx)
  obtain ⟨_,_,_,n,_,h1⟩:=(show yap X.prog X.w H s.heap a (.frz ob (.lst xs)) from I.hok a _ ea)
  exact PySem.W.kia_one PySem.W.kitx_list I.kIn ⟨_,h1,rfl⟩ e (fun z=>nomatch z) h
 | @tup a xs ea=>
  cases (show u=Value.ref a from rx)
  obtain ⟨_,_,_,p⟩:=(show yap X.prog X.w H s.heap a (.tup xs) from I.hok a _ ea)
  obtain ⟨o,h1,h2,_⟩:=p
  exact PySem.W.kia_one PySem.W.kitx_tuple I.kIn ⟨o,h1,h2⟩ e (fun z=>nomatch z) h
 | @dK a kvs ea=>
  cases (show u=Value.ref a from rx)
  obtain ⟨_,_,vs,_,p⟩:=(show yap X.prog X.w H s.heap a (.dK kvs) from I.hok a _ ea)
  obtain ⟨o,es,ep,h1,h2,_⟩:=p
  exact PySem.W.kia_one PySem.W.kitx_dict I.kIn ⟨o,h1,h2.1⟩ e (fun z=>nomatch z) h
 | @dT a kvs ea=>
  cases (show u=Value.ref a from rx)
  obtain ⟨_,_,xs,_,o,es,ep,h1,h2,_⟩:=(show yap X.prog X.w H s.heap a (.dT kvs) from I.hok a _ ea)
  exact PySem.W.kia_one PySem.W.kitx_dict I.kIn ⟨o,h1,h2.1⟩ e (fun z=>nomatch z) h
 | @ins a C dx fs ea cl ha hn htk hm=>
  cases (show u=Value.ref a from rx)
  obtain ⟨mA,O,_⟩:=ins_get I.hok ea
  obtain ⟨od,J,_⟩:=O.look
  exact PySem.W.kia_one (PySem.W.kitx_own (cl.get _) cl.hd ha hn htk hm) I.kIn J e (fun z=>nomatch z) h
end
structure Room (k:Nat) (A:Around):Prop where
 hd:A.handled=none
 dp:A.depth+3*k+5<recursionLimit
 un:A.units+16*k+200<cLine
 gd:A.guards=some []
theorem Room.mono {j k:Nat}{A:Around} (r:Room k A) (h:j≤k):Room j A:=⟨r.hd,by have:=r.dp;omega,by have:=r.un;omega,r.gd⟩
theorem Room.deeper {k:Nat}{A:Around} (r:Room (k+1) A) (env:Env):Room k (A.deeper env):=
 ⟨r.hd,by have:=r.dp;show A.depth+1+3*k+5<_;omega,by have:=r.un;show A.units+3+16*k+200<_;omega,r.gd⟩
theorem Room.in1 {k:Nat}{A:Around} (r:Room (k+1) A):Room k A.in1:=
 ⟨r.hd,by have:=r.dp;show A.depth+3*k+5<_;omega,by have:=r.un;show A.units+1+16*k+200<_;omega,r.gd⟩
theorem Room.depth {k:Nat}{A:Around} (r:Room k A):A.depth<recursionLimit:=by have:=r.dp;omega
theorem Room.units {k:Nat}{A:Around} (r:Room k A):A.units+64<cLine:=by have:=r.un;omega
def tNil:TA:=fun _ H Q=>Q [] H
def qce (ta:TE) (tr:TA):TA:=fun σ H Q=>ta σ H fun x H1=>tr σ H1 fun xs H2=>Q (x::xs) H2
section
variable {X:Cx}{e:Expr}{es:List Expr}{te:TE}{t:TA}{pos:Pos}
theorem yah:PA X [] tNil:=fun _ _ _ _ H Q I h=>Calls.spliced_nil ⟨[],H,I,.nil,h⟩
theorem qac (ha:PE X e te) (hr:PA X es t) (hs:starEach (e::es) X.env=(false,eval e X.env)::starEach es X.env:=by rfl):PA X (e::es) (qce te t):=by
 intro pos pins s σ H Q I h
 rw[hs]
 show wpAny _ _ (spliced ((false,eval e X.env)::backTo pos (starEach es X.env))) _ _ s
 refine Calls.spliced_cons (thn (ha pins s σ H _ I h) fun u s1 ⟨x,H1,I1,r1,q1⟩=>?_)
 exact thn (hr pos pins s1 σ H1 _ I1 q1) fun us s2 ⟨xs,H2,I2,r2,q2⟩=>⟨x::xs,H2,I2,.cons r1 r2,q2⟩
def tTup (t:TA):TE:=fun σ H Q=>t σ H fun xs H1=>xs.length≤sizeLine∧∀ p,H1 p=none→Q (.ref p) (upd H1 p (.tup xs))
def tLst (t:TA):TE:=fun σ H Q=>t σ H fun xs H1=>xs.length≤sizeLine∧∀ p,H1 p=none→Q (.ref p) (upd H1 p (.lst xs))
theorem yc7 {x1} (h:PA X es t):PE X (.Tuple es x1 pos) (tTup t):=by
 intro pins s σ H Q I hq
 refine wpAny_Tuple_spliced (thn (h pos pins s σ H _ I hq) fun us s1 ⟨xs,H1,I1,r,z,q⟩=>⟨by rw[← r.length];exact z,?_⟩)
 have hf:H1 s1.heap.objs.size=none:=I1.hok.fresh (Nat.le_refl _)
 refine ⟨.ref s1.heap.objs.size,upd H1 s1.heap.objs.size (.tup xs),I1.laid (t':=s1.toks) (fun b u e=>Heap.get?_push_of_some _ e) (Nat.le_refl _) ?_,rfl,q _ hf⟩
 exact ⟨z,us,r,⟨_,Heap.get?_push_size _ rfl,rfl,_,rfl⟩⟩
theorem qed (h:PA X es t):PE X (.List es pos) (tLst t):=by
 intro pins s σ H Q I hq
 refine wpAny_List_spliced (thn (h pos pins s σ H _ I hq) fun us s1 ⟨xs,H1,I1,r,z,q⟩=>⟨by rw[← r.length];exact z,?_⟩)
 have hf:H1 s1.heap.objs.size=none:=I1.hok.fresh (Nat.le_refl _)
 refine ⟨.ref s1.heap.objs.size,upd H1 s1.heap.objs.size (.lst xs),I1.laid (t':=s1.toks) (fun b u e=>Heap.get?_push_of_some _ e) (Nat.le_refl _) ?_,rfl,q _ hf⟩
 exact ⟨z,us,0,r,Heap.get?_push_size _ rfl⟩
end
abbrev Sp:=List V→Hp→VK→XK→Prop
abbrev CXT:=List Env→Hp→Shared→XK→Value→Shared→Prop
structure Env0 (P:Program) (w:World) (K:PySem.W.Frag) (mg:Str→Option Value) (base:Heap) (A:Around) (outer:List Env) (s:Shared) (H:Hp):Prop where
 frames:A.frames=some outer
 mod:Mod K mg base
 bs:∀ b o,base.get? b=some o→s.heap.get? b=some o∧H b=none
 bsz:base.objs.size≤s.heap.objs.size
 funs:s.heap.FunFrames base outer
 frf:∀ b∈frs outer,H b=none
 hok:HOk P w H s.heap
 bare:AllBare s.gens
def CE (outer:List Env) (P:Program) (w:World) (H:Hp) (s:Shared) (Q:VK) (u:Value) (s':Shared):Prop:=
 ∃ v H',s'.os=s.os∧AllBare s'.gens∧Un (frs outer) [] H H' s.heap s'.heap∧HOk P w H' s'.heap∧RelV v u∧Q v H'
def CR (CX:CXT) (outer:List Env) (P:Program) (w:World) (H:Hp) (s:Shared) (Q:VK) (E:XK) (r:Result) (s':Shared):Prop:=
 match r with
 | .ok (.ret u)=>CE outer P w H s Q u s'
 | .ok _=>False
 | .error e=>CX outer H s E e s'
structure FnOk (P:Program) (w:World) (K:PySem.W.Frag) (mg:Str→Option Value) (base:Heap) (CX:CXT) (k:Nat) (f:Addr) (fd:FuncData) (ps:List Str) (sp:Sp):Prop where
 len:∀ vs H Q E,sp vs H Q E→vs.length=ps.length
 run:∀ (A:Around) (outer:List Env) (s:Shared) (H:Hp) (args:Args) (us:List Value) (vs:List V) (Q:VK) (E:XK),Room k A→Env0 P w K mg base A outer s H→BindsTo s fd args (ps.zip us)→Vals vs us→sp vs H Q E→
  codeAny (model P w) A (.call (.ref f) args) (CR CX outer P w H s Q E) s
theorem FnOk.imp {P:Program}{w:World}{K:PySem.W.Frag}{mg:Str→Option Value}{base:Heap}{CX:CXT}{k:Nat}{f:Addr}{fd:FuncData}{ps:List Str}{sp sp':Sp} (F:FnOk P w K mg base CX k f fd ps sp)
  (h:∀ vs H Q E,sp' vs H Q E→sp vs H Q E):FnOk P w K mg base CX k f fd ps sp':=
 ⟨fun vs H Q E q=>F.len vs H Q E (h _ _ _ _ q),fun A outer s H args us vs Q E hr he hb hv hs=>F.run A outer s H args us vs Q E hr he hb hv (h _ _ _ _ hs)⟩
section
variable {X:Cx}{pins:List (Addr×Obj)}{σ:St}{H:Hp}{s s':Shared}
theorem Inv.env0 (I:Inv X pins σ H s):Env0 X.prog X.w X.K X.mg X.base X.A X.stack s H:=
 ⟨I.ok.frames,I.ok.mod,I.bs,Nat.le_trans I.ok.bsz I.sz,I.stack,I.stkFree,I.hok,I.bare⟩
theorem Inv.after {Q:VK}{u:Value} (I:Inv X pins σ H s) (h:CE X.stack X.prog X.w H s Q u s'):EP X pins σ Q u s':=by
 obtain ⟨v,H',os,bare,un,hok,r,q⟩:=h
 obtain ⟨hh,g,d,t,os'⟩:=s'
 obtain rfl:os'=s.os:=os
 exact ⟨v,H',I.call (h':=hh) (g':=g) (d':=d) (t':=t) (ch:=[]) un hok bare (fun b z=>absurd z (by simp)),r,q⟩
end
def qe8 (sp:Sp) (dvs:List V) (E:XK) (t:TA):TE:=fun σ H Q=>t σ H fun vs H1=>sp (vs++dvs) H1 Q E
def qes (K:PySem.W.Frag) (fd:FuncData) (ps:List Str) (ds:List Value):Prop:=
 ∀ (s:Shared) (us:List Value),K.In s.heap→(us++ds).length=ps.length→BindsTo s fd ⟨us,[]⟩ (ps.zip (us++ds))
theorem qes.all {K:PySem.W.Frag}{fd:FuncData}{ps:List Str} (h:∀ us:List Value,us.length=ps.length→bindArgs fd ⟨us,[]⟩=pure (ps.zip us)):qes K fd ps []:=fun s us _ hl=>by
 rw[List.append_nil] at hl ⊢
 exact .of_eq (h us hl)
def qfb (CX:CXT) (X:Cx) (E:XK):Prop:=∀ (pins:List (Addr×Obj)) (σ:St) (H:Hp) (s:Shared) (e:Value) (s':Shared),Inv X pins σ H s→CX X.stack H s E e s'→X.xe e s'
section
variable {X:Cx}{CX:CXT}{k:Nat}{f C:Addr}{fd:FuncData}{ps:List Str}{sp:Sp}{dvs:List V}{ds:List Value}{E:XK}{x m:Str}{p pos apos:Pos}{e o:Expr}{es:List Expr}{ta:TE}{t:TA}
theorem run_fn {pins:List (Addr×Obj)}{σ:St}{H:Hp}{s:Shared}{Q:VK}{us:List Value}{vs:List V} (F:FnOk X.prog X.w X.K X.mg X.base CX k f fd ps sp) (hr:Room k X.A) (hb:qes X.K fd ps ds) (hd:Vals dvs ds) (hx:qfb CX X E)
  (I:Inv X pins σ H s) (r:Vals vs us) (h:sp (vs++dvs) H Q E):wpAny (model X.prog X.w) X.A (call (.ref f) us) (EP X pins σ Q) X.xe s:=by
 have r2:Vals (vs++dvs) (us++ds):=r.append hd
 have hl:(us++ds).length=ps.length:=by rw[← r2.length];exact F.len _ _ _ _ h
 refine wpAny_call (codeAny_mono (F.run X.A X.stack s H ⟨us,[]⟩ (us++ds) (vs++dvs) Q E hr I.env0 (hb s us I.kIn hl) r2 h) fun r s' hq=>?_)
 cases r with
 | error e=>exact hx pins σ H s e s' I hq
 | ok fl=>
  cases fl with
  | ret u=>exact I.after hq
  | next=>exact False.elim hq
  | brk=>exact False.elim hq
  | cont=>exact False.elim hq
theorem pe_call (F:FnOk X.prog X.w X.K X.mg X.base CX k f fd ps sp) (hr:Room k X.A) (hg:Gl X x) (hm:X.mg x=some (.ref f)) (hk:PySem.W.keepIn X.K (.ref f)=true) (hb:qes X.K fd ps ds) (hd:Vals dvs ds) (hx:qfb CX X E)
  (ha:PA X (e::es) t) (hdb:(x == ("__debug__" : Str))=false:=by decide) (he:starEach (e::es) X.env=(false,eval e X.env)::starEach es X.env:=by rfl) (hpl:(backTo pos (starEach es X.env)).any (·.1)=false:=by rfl) :
  PE X (.Call (.Name x p) (e::es) [] pos) (qe8 sp dvs E t):=by
 intro pins s σ H Q I h
 refine wpAny_Call_Name_kw (ygl I hg hm ?_ hdb)
 refine PySem.W.callWith_K (h₀:=X.base) I.ok.mod.kin hk (thn (ha pos pins s σ H _ I h) fun us s1 ⟨vs,H1,I1,r,q⟩=>⟨I1.kIn,?_⟩) he hpl
 exact run_fn F hr hb hd hx I1 r q
theorem pe_call0 (F:FnOk X.prog X.w X.K X.mg X.base CX k f fd ps sp) (hr:Room k X.A) (hg:Gl X x) (hm:X.mg x=some (.ref f)) (hk:PySem.W.keepIn X.K (.ref f)=true) (hb:qes X.K fd ps ds) (hd:Vals dvs ds) (hx:qfb CX X E)
  (hdb:(x == ("__debug__" : Str))=false:=by decide):PE X (.Call (.Name x p) [] [] pos) (qe8 sp dvs E tNil):=by
 intro pins s σ H Q I h
 refine wpAny_Call_Name_kw (ygl I hg hm ?_ hdb)
 exact PySem.W.callWith_K0 I.kIn hk (run_fn (us:=[]) F hr hb hd hx I .nil h)
end
def PK (X:Cx) (kws:List Keyword) (t:TA):Prop:=
 ∀ (pos:Pos) (pins:List (Addr×Obj)) (s:Shared) (σ:St) (H:Hp) (Q:List V→Hp→Prop),Inv X pins σ H s→t σ H Q→wpAny (model X.prog X.w) X.A (evalAll ((backToKw pos (keywordEach kws X.env)).map (·.2))) (AP X pins σ Q) X.xe s
section
variable {X:Cx}{CX:CXT}{k:Nat}{f C:Addr}{fd:FuncData}{ps ks:List Str}{sp:Sp}{E:XK}{x m:Str}{p pos apos kpos:Pos}{e o:Expr}{es:List Expr}{kws:List Keyword}{te ta:TE}{t tk:TA}{nm:Option Str}
theorem pk_nil:PK X [] tNil:=fun _ _ _ _ H Q I h=>wpAny_evalAll_nil ⟨[],H,I,.nil,h⟩
theorem pk_cons (ha:PE X e te) (hr:PK X kws t):PK X (⟨nm,e,kpos⟩ :: kws) (qce te t):=by
 intro pos pins s σ H Q I h
 show wpAny _ _ (evalAll ((do let v ← eval e X.env;standAt pos;pure v)::(backToKw pos (keywordEach kws X.env)).map (·.2))) _ _ s
 refine wpAny_evalAll_cons (wpAny_bind (thn (ha pins s σ H _ I h) fun u s1 ⟨x,H1,I1,r1,q1⟩=>wpAny_bind (wpAny_standAt (wpAny_pure ?_))))
 exact thn (hr pos pins s1 σ H1 _ I1 q1) fun us s2 ⟨xs,H2,I2,r2,q2⟩=>⟨x::xs,H2,I2,.cons r1 r2,q2⟩
variable {g:List Value→List Value→List Value}{gV:List V→List V→List V}
end
structure FnScope (N P:List Str) (sc:Scope):Prop where
 kind:sc.kind=.function
 co:sc.isCoroutine=false
 gen:sc.isGenerator=false
 nd:N.Nodup
 pre:N.take P.length=P
 par:∀ x∈P,sc.names.lookup x=some .local∨sc.names.lookup x=some .cell
 nofree:∀ y∈sc.names,y.2≠.free
theorem yeo {kindOf:Str→Option NameKind}{x:Str}:∀ {binds:List (Str×Value)}{m:Str→Option Value},(∀ v,(x,v)∉binds)→bindL kindOf binds m x=m x
 | [],_,_=>rfl
 | (n,v)::r,m,h=>by
  unfold bindL
  rw[yeo fun w hw=>h w (List.mem_cons_of_mem _ hw)]
  split
  ·have:x≠n:=by rintro rfl;exact h v List.mem_cons_self
   simp[this]
  ·rfl
theorem qeq {kindOf:Str→Option NameKind}{x:Str}:∀ {binds:List (Str×Value)}{m:Str→Option Value},(∀ v,(x,v)∉binds)→bindC kindOf binds m x=m x
 | [],_,_=>rfl
 | (n,v)::r,m,h=>by
  unfold bindC
  rw[qeq fun w hw=>h w (List.mem_cons_of_mem _ hw)]
  split
  ·rfl
  ·have:x≠n:=by rintro rfl;exact h v List.mem_cons_self
   simp[this]
theorem yen {kindOf:Str→Option NameKind}{x:Str}{v:Value}:∀ {P:List Str}{vs:List Value}{i:Nat}{m:Str→Option Value},P.Nodup→P[i]?=some x→vs[i]?=some v→kindOf x=some .local→
  bindL kindOf (P.zip vs) m x=some v
 | [],_,_,_,_,h,_,_=>by simp at h
 | _::_,[],_,_,_,_,h,_=>by simp at h
 | p::P,w::vs,0,m,nd,h1,h2,hk=>by
  simp at h1 h2;subst h1;subst h2
  show bindL kindOf ((p,w)::P.zip vs) m p=_
  unfold bindL
  rw[yeo fun v hv=>(List.nodup_cons.mp nd).1 (List.of_mem_zip hv).1,if_pos hk]
  simp
 | p::P,w::vs,i+1,m,nd,h1,h2,hk=>by
  show bindL kindOf ((p,w)::P.zip vs) m x=_
  unfold bindL
  exact yen (i:=i) (List.nodup_cons.mp nd).2 (by simpa using h1) (by simpa using h2) hk
theorem qem {kindOf:Str→Option NameKind}{x:Str}{v:Value}:∀ {P:List Str}{vs:List Value}{i:Nat}{m:Str→Option Value},P.Nodup→P[i]?=some x→vs[i]?=some v→kindOf x≠some .local→
  bindC kindOf (P.zip vs) m x=some v
 | [],_,_,_,_,h,_,_=>by simp at h
 | _::_,[],_,_,_,_,h,_=>by simp at h
 | p::P,w::vs,0,m,nd,h1,h2,hk=>by
  simp at h1 h2;subst h1;subst h2
  show bindC kindOf ((p,w)::P.zip vs) m p=_
  unfold bindC
  rw[qeq fun v hv=>(List.nodup_cons.mp nd).1 (List.of_mem_zip hv).1,if_neg hk]
  simp
 | p::P,w::vs,i+1,m,nd,h1,h2,hk=>by
  show bindC kindOf ((p,w)::P.zip vs) m x=_
  unfold bindC
  exact qem (i:=i) (List.nodup_cons.mp nd).2 (by simpa using h1) (by simpa using h2) hk
def start (N:List Str) (vs:List V):St:=vs.map some++List.replicate (N.length-vs.length) none
def cxOf (CX:CXT) (P:Program) (w:World) (K:PySem.W.Frag) (mg:Str→Option Value) (base:Heap) (N:List Str) (qual:Str) (scope:Scope) (f:Addr) (cd:Value) (A:Around) (outer:List Env) (s:Shared) (H:Hp) (E:XK):Cx where
 prog:=P
 w:=w
 K:=K
 mg:=mg
 base:=base
 A:=A.deeper (envOfC qual scope s.heap.objs.size f cd)
 N:=N
 s₀:=s
 H₀:=H
 env:=envOfC qual scope s.heap.objs.size f cd
 outer:=outer
 stack:=envOfC qual scope s.heap.objs.size f cd::outer
 ex:=[]
 calm:=true
 fn:=fun _=>true
 pn:=[]
 xe:=fun e s'=>wpAny (model P w) (A.deeper (envOfC qual scope s.heap.objs.size f cd)) (leaving (envOfC qual scope s.heap.objs.size f cd) e) (fun _ s''=>CX outer H s E e s'') (fun e' s''=>CX outer H s E e' s'') s'
theorem qff {sc:Scope}{n:Nat}{x:Str} (h:sc.names.lookup x=some .cell):∃ c,(cellsFrom n sc.names []).lookup x=some c:=by
 have q:=PySem.W.cellsFrom_some sc.names n [] (.inl h)
 exact Option.isSome_iff_exists.mp q
theorem qgr {CX:CXT}{P:Program}{w:World}{K:PySem.W.Frag}{mg:Str→Option Value}{base:Heap}{N ps:List Str}{qual:Str}{scope:Scope}{f:Addr}{cd:Value}{A:Around}{outer:List Env}{s s1:Shared}{H:Hp}{E:XK}{us:List Value}{vs:List V}
  (S:FnScope N ps scope) (hd:A.handled=none) (e0:Env0 P w K mg base A outer s H) (hl:vs.length=ps.length) (r:Vals vs us)
  (x:InCallC s s.heap.objs.size (bindL (envOfC qual scope s.heap.objs.size f cd).kindOf (ps.zip us) fun _=>none) (cellsFrom (s.heap.objs.size+1) scope.names []) (bindC (envOfC qual scope s.heap.objs.size f cd).kindOf (ps.zip us) fun _=>none) s1) :
  Inv (cxOf CX P w K mg base N qual scope f cd A outer s H E) [] (start N vs) H s1:=by
 have hpl:ps.length≤N.length:=by have:=congrArg List.length S.pre;rw[List.length_take] at this;omega
 obtain ⟨h1,tk,rfl,hk⟩:=x.done
 have noA:∀ b:Addr,b∉(cxOf CX P w K mg base N qual scope f cd A outer s H E).ex:=fun b z=>absurd (show b∈([]:List Addr) from z) (by simp)
 refine ⟨⟨e0.mod,S.kind,rfl,rfl,Nat.le_refl _,fun y z c h1 h2=>?_,fun y hy=>?_,fun y c _ h=>?_,fun _=>hd,Around.frames_deeper e0.frames,.inr ⟨rfl,rfl⟩,fun b z=>absurd z (noA b),e0.bs,e0.bsz,fun b _ _=>noA b,fun b z=>absurd z (noA b),e0.funs,e0.frf⟩,
  rfl,e0.bare,Un.kept hk,⟨_,x.toInCall.ns,fun i y v h1 h2 h3=>?_⟩,fun y c h=>⟨_,x.cell y c h⟩,e0.hok.fresh (Nat.le_refl _),fun y c h=>?_,fun p hp=>absurd (show p∈([]:List (Addr×Obj)) from hp) (by simp),e0.hok.kept hk,?_⟩
 ·exact name_of_addr x.apart (PySem.mem_of_lookup h1) (PySem.mem_of_lookup h2)
 ·have hy:scope.names.lookup y=some .cell∨scope.names.lookup y=some .free:=hy
  rcases hy with hy|hy
  ·exact qff hy
  ·exact absurd rfl (S.nofree _ (PySem.mem_of_lookup hy))
 ·exact Nat.le_of_lt (x.above y c (PySem.mem_of_lookup h))
 ·have hi:i<vs.length:=by
   unfold start at h2
   by_cases hi:i<vs.length
   ·exact hi
   ·rw[List.getElem?_append_right (by simpa using hi)] at h2
    rw[List.getElem?_replicate] at h2
    split at h2<;>cases h2
  have ha:vs[i]?=some v:=by
   unfold start at h2
   rw[List.getElem?_append_left (by simpa using hi),List.getElem?_map] at h2
   cases e:vs[i]? with
   | none=>rw[e] at h2;cases h2
   | some a=>rw[e] at h2;cases h2;rfl
  obtain ⟨u,hu,rv⟩:=r.get ha
  have hp:ps[i]?=some y:=by
   rw[← S.pre,List.getElem?_take_of_lt (by omega)];exact h1
  have ndP:ps.Nodup:=by rw[← S.pre];exact S.nd.sublist (List.take_sublist _ _)
  refine ⟨u,rv,?_⟩
  rcases S.par y (List.mem_of_getElem? hp) with k|k
  ·exact .inl ⟨k,yen ndP hp hu k⟩
  ·obtain ⟨c,e⟩:=qff (n:=s.heap.objs.size+1) k
   refine .inr ⟨.inl k,c,e,?_⟩
   have q:=x.cell y c e
   rw[qem ndP hp hu (by show scope.names.lookup y≠_;rw[k];decide)] at q
   exact q
 ·exact e0.hok.fresh (Nat.le_of_lt (x.above y c (PySem.mem_of_lookup h)))
 ·unfold start
  show _=N.length
  rw[List.length_append,List.length_map,List.length_replicate]
  omega
theorem fn_of {CX:CXT}{P:Program}{w:World}{K:PySem.W.Frag}{mg:Str→Option Value}{base:Heap}{k:Nat}{f:Addr}{name qual:Str}{params:Arguments}{body:List Stmt}{scope:Scope}{dV kV doc pm cdv ct oc:Value}{an od:Option Addr}
  {osl:Array (Option Value)}{N ps:List Str}{sp:Sp} (lk:K.lookup f=some ⟨oc,od,.func (PySem.W.fnOf name qual params body scope dV kV doc pm an cdv ct),osl⟩) (hcd:PySem.W.codeIn K cdv qual=true) (S:FnScope N ps scope)
  (len:∀ vs H Q E,sp vs H Q E→vs.length=ps.length)
  (hbody:∀ (A:Around) (outer:List Env) (s:Shared) (H:Hp) (vs:List V) (Q:VK) (E:XK),Room k (A.deeper (envOfC qual scope s.heap.objs.size f cdv))→sp vs H Q E→
   ∃ t,PSs (cxOf CX P w K mg base N qual scope f cdv A outer s H E) body t∧t { nx:=fun _ H'=>Q .non H',rt:=Q } (start N vs) H) :
  FnOk P w K mg base CX (k+1) f (PySem.W.fnOf name qual params body scope dV kV doc pm an cdv ct) ps sp:=by
 refine ⟨len,fun A outer s H args us vs Q E hr e0 hb r hsp=>?_⟩
 have hl:=len _ _ _ _ hsp
 have KX:K.In s.heap:=e0.mod.kin.keeps fun b o e=>(e0.bs b o e).1
 have lim:s.heap.NoLimit:=e0.mod.nolimit.keeps fun b o e=>(e0.bs b o e).1
 have hkind:∀ y∈ps.zip us,scope.names.lookup y.1=some .local∨(scope.names.lookup y.1=some .cell∧((cellsFrom (s.heap.objs.size+1) scope.names []).lookup y.1).isSome=true):=fun ⟨n,v⟩ hy=>by
  rcases S.par n (List.of_mem_zip hy).1 with q|q
  ·exact .inl q
  ·exact .inr ⟨q,PySem.W.cellsFrom_some _ _ _ (.inl q)⟩
 refine codeAny_call_function hr.depth (KX _ _ lk) rfl S.co S.gen rfl (PySem.W.codeRec_of KX hcd) (hb _ _ _ _ ?_)
 refine wpAny_newFunctionEnv_cells S.kind hkind fun env he s1 x=>?_
 subst he
 refine ⟨lim.keeps x.toInCall.keep,codeAny_func ?_⟩
 obtain ⟨t,ht,hq⟩:=hbody A outer s H vs Q E (hr.deeper _) hsp
 have I:Inv (cxOf CX P w K mg base N qual scope f cdv A outer s H E) [] (start N vs) H s1:=qgr S hr.hd e0 hl r x
 refine wpAny_mono (ht [] s1 (start N vs) H _ I hq) (fun fl s' hs=>?_) fun e s' hs=>hs
 have fin:∀ {σ':St}{H':Hp}{v:V}{u:Value},Inv (cxOf CX P w K mg base N qual scope f cdv A outer s H E) [] σ' H' s'→RelV v u→Q v H'→CE outer P w H s Q u s':=
  fun {σ' H' v u} J rv q=>⟨v,H',J.os,J.bare,J.base,J.hok,rv,q⟩
 cases fl with
 | ret u=>
  obtain ⟨v,σ',H',J,rv,q⟩:=hs
  exact fin J rv q
 | next=>
  obtain ⟨σ',H',J,q⟩:=hs
  exact fin (v:=V.non) (u:=Value.none) J rfl q
 | brk=>
  obtain ⟨_,_,_,q⟩:=hs
  exact False.elim q
 | cont=>
  obtain ⟨_,_,_,q⟩:=hs
  exact False.elim q
section
variable {X:Cx}{x:Str}{p pos:Pos}{e:Expr}{es:List Expr}{t:TA}{id T:String}{r:List V→Hp→VK→Prop}
def tCB (r:List V→Hp→VK→Prop) (t:TA):TE:=fun σ H Q=>t σ H fun vs H1=>r vs H1 Q
theorem qas (hc:ybv X (.builtin id) r) (hg:Gl X x) (hm:X.mg x=none) (hv:bootBuiltins x=some (.builtin id)) (ha:PA X (e::es) t) (hn:x≠"__name__":=by decide) (hdb:(x == ("__debug__" : Str))=false:=by decide)
  (he:starEach (e::es) X.env=(false,eval e X.env)::starEach es X.env:=by rfl) (hpl:(backTo pos (starEach es X.env)).any (·.1)=false:=by rfl):PE X (.Call (.Name x p) (e::es) [] pos) (tCB r t):=by
 intro pins s σ H Q I h
 refine wpAny_Call_Name_kw (qdw I hg hm hv ?_ hn hdb)
 exact PyProof.Rows.callWith_builtin1 (thn (ha pos pins s σ H _ I h) fun us s1 ⟨vs,H1,I1,r1,q1⟩=>hc pins s1 σ H1 vs us Q I1 r1 q1) he hpl
theorem ydj (hc:ybv X (.type T) r) (hg:Gl X x) (hm:X.mg x=none) (hv:bootBuiltins x=some (.type T)) (ha:PA X (e::es) t) (hn:x≠"__name__":=by decide) (hdb:(x == ("__debug__" : Str))=false:=by decide)
  (he:starEach (e::es) X.env=(false,eval e X.env)::starEach es X.env:=by rfl) (hpl:(backTo pos (starEach es X.env)).any (·.1)=false:=by rfl):PE X (.Call (.Name x p) (e::es) [] pos) (tCB r t):=by
 intro pins s σ H Q I h
 refine wpAny_Call_Name_kw (qdw I hg hm hv ?_ hn hdb)
 exact PyProof.Rows.callWith_type1 (thn (ha pos pins s σ H _ I h) fun us s1 ⟨vs,H1,I1,r1,q1⟩=>hc pins s1 σ H1 vs us Q I1 r1 q1) he hpl
end
end L2
namespace HT
open PySem PyProof.Rows
section
variable {prog:Program}{w:World}{A:Around}{E:Value→Shared→Prop}{s:Shared}
def sIx (n d:Nat):Option Int→Nat
 | none=>d
 | some v=>if v<0 then (v+(n:Int)).toNat else min v.toNat n
theorem sIx_none (n d:Nat):sIx n d none=d:=rfl
theorem sIx_nat (n d k:Nat):sIx n d (some (k:Int))=min k n:=by
 show (if (k:Int)<0 then ((k:Int)+(n:Int)).toNat else min (k:Int).toNat n)=min k n
 rw[if_neg (by omega),Int.toNat_natCast]
theorem yc3 {v:Value}{o:Option Int}{Q:Option Int→Shared→Prop} (p:IsPart v o) (h:Q o s):wpAny (model prog w) A (Builtin.Slice.slicePartIndex v) Q E s:=by
 cases p with
 | none=>exact slicePart_none h
 | int i t=>exact slicePart_int h
end
end HT
namespace L2
open PySem PySem.Spec PyProof.Rows
abbrev TO:=St→Hp→(Option Int→Hp→Prop)→Prop
def PO (X:Cx) (e:Option Expr) (t:TO):Prop:=
 ∀ (pins:List (Addr×Obj)) (s:Shared) (σ:St) (H:Hp) (Q:Option Int→Hp→Prop),Inv X pins σ H s→t σ H Q→
  wpAny (model X.prog X.w) X.A (evalPart e X.env) (fun u s'=>∃ o H',Inv X pins σ H' s'∧IsPart u o∧Q o H') X.xe s
def tNoPart:TO:=fun _ H Q=>Q none H
def tPart (t:TE):TO:=fun σ H Q=>t σ H fun x H1=>∃ i,x=.int i∧Q (some i) H1
theorem ybi {ns:List Int}:∀ {us:List Value},Vals (ns.map V.int) us→IntsAre us ns:=by
 induction ns with
 | nil=>intro us r;rw[List.map_nil] at r;cases r;exact .nil
 | cons n ns ih=>
  intro us r
  rw[List.map_cons] at r
  cases r with
  | cons r1 r2=>
   obtain ⟨t,e⟩:=r1
   subst e
   exact .cons n t (ih r2)
section
variable {X:Cx}{e:Expr}{te:TE}{lo hi:Option Expr}{tl th:TO}{pos p2:Pos}
theorem ygo:PO X none tNoPart:=by
 intro pins s σ H Q I h
 rw[evalPart_none]
 exact wpAny_pure ⟨none,H,I,.none,h⟩
theorem qfw (h:PE X e te):PO X (some e) (tPart te):=by
 intro pins s σ H Q I hw
 rw[evalPart_some]
 refine thn (h pins s σ H _ I hw) fun u s1 ⟨x,H1,I1,r1,q1⟩=>?_
 obtain ⟨i,rfl,q⟩:=q1
 obtain ⟨t,rfl⟩:=r1
 exact ⟨some i,H1,I1,.int i t,q⟩
def SlR (X:Cx) (r:V→Option Int→Option Int→Hp→VK→Prop):Prop:=
 ∀ (pins:List (Addr×Obj)) (s:Shared) (σ:St) (H:Hp) (x:V) (v vl vu:Value) (lo hi:Option Int) (sl:Addr) (Q:VK),Inv X pins σ H s→RelV x v→s.heap.IsSliceOf sl vl vu .none→IsPart vl lo→IsPart vu hi→r x lo hi H Q→
  ∃ T id,typeLookup (.type T) "__getitem__" = pure (some (.builtin id))∧s.TypeIs v T∧wpAny (model X.prog X.w) X.A (getItem v (.ref sl)) (EP X pins σ Q) X.xe s
def tSl (r:V→Option Int→Option Int→Hp→VK→Prop) (te:TE) (tl th:TO):TE:=fun σ H Q=>te σ H fun x H1=>tl σ H1 fun l H2=>th σ H2 fun u H3=>r x l u H3 Q
theorem qfi {r:V→Option Int→Option Int→Hp→VK→Prop} (hr:SlR X r) (he:PE X e te) (hl:PO X lo tl) (hu:PO X hi th):PE X (.Subscript e (.Slice lo hi none p2) pos) (tSl r te tl th):=by
 intro pins s σ H Q I h
 refine Subscript_ (thn (he pins s σ H _ I h) fun v s1 ⟨x,H1,I1,r1,q1⟩=>?_)
 refine wpAny_Slice (thn (hl pins s1 σ H1 _ I1 q1) fun vl s2 ⟨l,H2,I2,pl,q2⟩=>thn (hu pins s2 σ H2 _ I2 q2) fun vu s3 ⟨u,H3,I3,pu,q3⟩=>?_)
 rw[evalPart_none]
 refine wpAny_pure ?_
 have I4:Inv X pins σ H3 { s3 with heap:=s3.heap.push { cls:=.type "slice",data:=.fields #[vl,vu,.none] } }:=I3.kept (t':=s3.toks) fun b ob q=>Heap.get?_push_of_some _ q
 obtain ⟨T,id,hT,ht,hg⟩:=hr pins { s3 with heap:=s3.heap.push { cls:=.type "slice",data:=.fields #[vl,vu,.none] } } σ H3 x v vl vu l u s3.heap.objs.size Q I4 r1 (Heap.IsSliceOf.new ..) pl pu q3
 show wpAny (model X.prog X.w) X.A (subscriptTail e (.Slice lo hi none p2) v (.ref s3.heap.objs.size)) (EP X pins σ Q) X.xe { s3 with heap:=s3.heap.push { cls:=.type "slice",data:=.fields #[vl,vu,.none] } }
 exact tail_any (ops:=[.ref s3.heap.objs.size,v]) ht hT hg (by with_unfolding_all rfl)
def cutV (xs:List V) (lo hi:Option Int):List V:=(xs.drop (HT.sIx xs.length 0 lo)).take (HT.sIx xs.length xs.length hi-HT.sIx xs.length 0 lo)
theorem ye1 (xs:List V) (lo hi:Option Int):(cutV xs lo hi).length≤xs.length:=by
 unfold cutV
 rw[List.length_take,List.length_drop]
 omega
end
def ixN (n:Nat) (i:Int):Option Nat:=if 0≤i then (if i<n then some i.toNat else none) else if -(n:Int)≤i then some (i+n).toNat else none
def atI {α:Type} (xs:List α) (i:Int):Option α:=(ixN xs.length i).bind fun j=>xs[j]?
theorem ixN_seq {n:Nat}{i:Int}{j:Nat} (h:ixN n i=some j):seqIndex? i n=some j∧j<n∧-(n:Int)≤i∧i<n:=by
 unfold ixN at h
 by_cases h0:0≤i
 ·rw[if_pos h0] at h
  by_cases h1:i<n
  ·rw[if_pos h1] at h
   have e:i.toNat=j:=Option.some.inj h
   exact ⟨by rw[seqIndex_of h0 h1,e],by omega,by omega,h1⟩
  ·rw[if_neg h1] at h;cases h
 ·rw[if_neg h0] at h
  by_cases h1:-(n:Int)≤i
  ·rw[if_pos h1] at h
   have e:(i+n).toNat=j:=Option.some.inj h
   exact ⟨by rw[seqIndex_neg (by omega) h1,e],by omega,h1,by omega⟩
  ·rw[if_neg h1] at h;cases h
theorem qgb {α:Type}{xs:List α}{i:Int}{v:α} (h:atI xs i=some v):∃ j,seqIndex? i xs.length=some j∧xs[j]?=some v∧j<xs.length∧-(xs.length:Int)≤i∧i<xs.length:=by
 unfold atI at h
 cases e:ixN xs.length i with
 | none=>rw[e] at h;cases h
 | some j=>
  rw[e] at h
  obtain ⟨h1,h2,h3,h4⟩:=ixN_seq e
  exact ⟨j,h1,h,h2,h3,h4⟩
theorem ydn {α:Type}{xs:List α}{j:Nat}{v:α} (h:xs[j]?=some v):atI xs (j:Int)=some v:=by
 have hj:j<xs.length:=(List.getElem?_eq_some_iff.mp h).1
 have e:ixN xs.length (j:Int)=some j:=by
  unfold ixN
  rw[if_pos (by omega),if_pos (by omega)];simp
 unfold atI;rw[e];exact h
def qf3 (b:Expr):Prop:=∀ o i,subscripted b false o i=operate [o,i] (getItem o i)
def IxR (X:Cx) (r:R2):Prop:=
 ∀ (value slice:Expr) (pins:List (Addr×Obj)) (s:Shared) (σ:St) (H:Hp) (x y:V) (v u:Value) (Q:VK),Inv X pins σ H s→RelV x v→RelV y u→r x y H Q→
  subscripted slice false v u=operate [v,u] (getItem v u)→wpAny (model X.prog X.w) X.A (subscriptTail value slice v u) (EP X pins σ Q) X.xe s
def MtR (X:Cx) (id:String) (r:V→List V→Hp→VK→Prop):Prop:=
 ∀ (pins:List (Addr×Obj)) (s:Shared) (σ:St) (H:Hp) (x:V) (xs:List V) (v:Value) (us:List Value) (Q:VK),Inv X pins σ H s→RelV x v→Vals xs us→r x xs H Q→
  wpAny (model X.prog X.w) X.A (call (.builtin id) (v::us)) (EP X pins σ Q) X.xe s
section
variable {X:Cx}{a b:Expr}{ta tb:TE}{pos:Pos}
theorem qav {r:R2} (hr:IxR X r) (ha:PE X a ta) (hb:PE X b tb) (hs:qf3 b):PE X (.Subscript a b pos) (tOp r ta tb):=by
 intro pins s σ H Q I h
 exact Subscript_ (binT ha hb I h fun v u s2 x y H2 I2 rx ry q=>hr a b pins s2 σ H2 x y v u Q I2 rx ry q (hs _ _))
def rIxL (K:PySem.W.Frag):R2:=fun x y H Q=>∃ p xs i v,x=.ref p∧y=.int i∧SqL K H p xs∧atI xs i=some v∧Q v H
def rIxT (K:PySem.W.Frag):R2:=fun x y H Q=>∃ p xs i v,x=.ref p∧y=.int i∧SqT K H p xs∧atI xs i=some v∧Q v H
theorem yaw:IxR X (rIxL X.K):=by
 intro value slice pins s σ H x y v u Q I rx ry h hs
 obtain ⟨p,xs,i,z,rfl,rfl,hq,he,q⟩:=h
 cases rx
 obtain ⟨t,rfl⟩:=ry
 obtain ⟨its,r,pl,hz⟩:=I.list hq
 obtain ⟨j,h1,h2,h3,h4,h5⟩:=qgb he
 obtain ⟨w,ew,rw'⟩:=r.get h2
 have hl:=r.length
 have hn:=ygh
 have fin:EP X pins σ Q w s:=⟨z,H,I,rw',q⟩
 by_cases h0:0≤i
 ·have hj:i.toNat=j:=by
   rw[seqIndex_of h0 h5] at h1
   exact Option.some.inj h1
  exact item_listR pl.isList h0 (by omega) (by rw[hj];simpa using ew) fin hs
 ·have hj:(i+(its.toArray.size:Int)).toNat=j:=by
   rw[seqIndex_neg (by omega) h4] at h1
   rw[List.size_toArray,← hl]
   exact Option.some.inj h1
  exact subscriptTail_builtinR (x:=w) pl.isList.typeIs slot_list_getitem.lookup
   (wpAny_getItem_list_neg (Q:=fun r s'=>r=w∧EP X pins σ Q r s') pl.isList (by omega) (by rw[List.size_toArray]<;>omega) (by omega) (by rw[hj];simpa using ew) ⟨rfl,fin⟩) hs
theorem qaj:IxR X (rIxT X.K):=by
 intro value slice pins s σ H x y v u Q I rx ry h hs
 obtain ⟨p,xs,i,z,rfl,rfl,hq,he,q⟩:=h
 cases rx
 obtain ⟨t,rfl⟩:=ry
 obtain ⟨its,r,pl,hz⟩:=I.tuple hq
 obtain ⟨j,h1,h2,h3,h4,h5⟩:=qgb he
 obtain ⟨w,ew,rw'⟩:=r.get h2
 have hl:=r.length
 have hn:=ygh
 have fin:EP X pins σ Q w s:=⟨z,H,I,rw',q⟩
 exact subscriptTail_builtinR (x:=w) pl.typeIs slot_tuple_getitem.lookup
  (getItem_tuple (j:=j) (Q:=fun r s'=>r=w∧EP X pins σ Q r s') pl (by omega) (by omega) (by rw[List.size_toArray,← hl];exact h1) (by simpa using ew) ⟨rfl,fin⟩) hs
theorem yec (lo hi:Option Int) (n:Nat):(sliceBounds lo hi none n).1=((HT.sIx n 0 lo:Nat):Int)∧(sliceBounds lo hi none n).2.1=((HT.sIx n n hi:Nat):Int)∧(sliceBounds lo hi none n).2.2=1:=by
 refine ⟨?_,?_,rfl⟩
 ·cases lo with
  | none=>simp[sliceBounds,HT.sIx]
  | some i=>
   simp only[sliceBounds,HT.sIx,Option.getD_none,show (1:Int)>0 by decide,if_true]
   by_cases h:i<0
   ·simp only[h,if_true]<;>omega
   ·simp only[h,if_false]<;>omega
 ·cases hi with
  | none=>simp[sliceBounds,HT.sIx]
  | some i=>
   simp only[sliceBounds,HT.sIx,Option.getD_none,show (1:Int)>0 by decide,if_true]
   by_cases h:i<0
   ·simp only[h,if_true]<;>omega
   ·simp only[h,if_false]<;>omega
theorem qd2 (its:List Value) (lo hi:Option Int):slicePick its.toArray lo hi none=((its.drop (HT.sIx its.length 0 lo)).take (HT.sIx its.length its.length hi-HT.sIx its.length 0 lo)).toArray:=by
 obtain ⟨h1,h2,h3⟩:=yec lo hi its.toArray.size
 unfold slicePick
 rw[h1,h2,h3]
 simp only[sliceRange_one,pick_run,List.size_toArray]<;>rfl
def rSlL (K:PySem.W.Frag):V→Option Int→Option Int→Hp→VK→Prop:=fun x lo hi H Q=>∃ a xs,x=.ref a∧SqL K H a xs∧∀ p,H p=none→Q (.ref p) (upd H p (.lst (cutV xs lo hi)))
theorem qgv:SlR X (rSlL X.K):=by
 intro pins s σ H x v vl vu lo hi sl Q I rx hs pl pu h
 obtain ⟨a,xs,rfl,hx,q⟩:=h
 cases rx
 obtain ⟨its,r,ht,hz⟩:=I.list hx
 have hlen:=r.length
 refine ⟨"list",_,slot_list_getitem.lookup,ht.isList.typeIs,?_⟩
 refine wpAny_getItem_list_slice ht.isList hs pl pu .none (by simp) ?_ (by rw[List.size_toArray]<;>omega)
 rw[qd2,← hlen]
 refine ⟨.ref s.heap.objs.size,_,I.laid (t':=s.toks) (o:=.lst (cutV xs lo hi)) (fun b ob q=>Heap.get?_push_of_some _ q) (Nat.le_refl _) ?_,rfl,q _ (I.hok.fresh (Nat.le_refl _))⟩
 exact ⟨Nat.le_trans (ye1 xs lo hi) hz,_,0,(r.drop (HT.sIx xs.length 0 lo)).take (HT.sIx xs.length xs.length hi-HT.sIx xs.length 0 lo),Heap.get?_push_size _ rfl⟩
def yd4:V→Bool
 | .non=>true
 | .bl _=>true
 | .int _=>true
 | .str _=>true
 | _=>false
def eqV:V→V→Bool
 | .non,.non=>true
 | .bl a,.bl b=>a == b
 | .bl a,.int b=>(if a then 1 else 0) == b
 | .int a,.bl b=>a == (if b then 1 else 0)
 | .int a,.int b=>a == b
 | .str a,.str b=>a == b
 | _,_=>false
theorem eqAt_V {A:Around}{s:Shared}{y x:V}{u v:Value} (ry:RelV y u) (rx:RelV x v) (fy:yd4 y=true) (fx:yd4 x=true):SeqAt.EqAt A s u v (eqV y x):=by
 cases y with
 | non=>
  cases ry
  cases x with
  | non=>cases rx;exact SeqAt.EqAt.same _
  | bl b=>cases rx;exact SeqAt.EqAt.none_bool b
  | int b=>obtain ⟨t,rfl⟩:=rx;exact SeqAt.EqAt.none_int b t
  | str b=>obtain ⟨t,rfl⟩:=rx;exact SeqAt.EqAt.none_str b t
  | _=>exact absurd (show false=true from fx) Bool.false_ne_true
 | bl a=>
  cases ry
  cases x with
  | non=>cases rx;exact SeqAt.EqAt.bool_none a
  | bl b=>cases rx;exact SeqAt.EqAt.bool_bool a b
  | int b=>obtain ⟨t,rfl⟩:=rx;exact SeqAt.EqAt.bool_int a b t
  | str b=>obtain ⟨t,rfl⟩:=rx;exact SeqAt.EqAt.bool_str a b t
  | _=>exact absurd (show false=true from fx) Bool.false_ne_true
 | int a=>
  obtain ⟨t',rfl⟩:=ry
  cases x with
  | non=>cases rx;exact SeqAt.EqAt.int_none a t'
  | bl b=>cases rx;exact SeqAt.EqAt.int_bool a t' b
  | int b=>obtain ⟨t,rfl⟩:=rx;exact SeqAt.EqAt.int_int a t' b t
  | str b=>obtain ⟨t,rfl⟩:=rx;exact SeqAt.EqAt.int_str a t' b t
  | _=>exact absurd (show false=true from fx) Bool.false_ne_true
 | str a=>
  obtain ⟨t',rfl⟩:=ry
  cases x with
  | non=>cases rx;exact SeqAt.EqAt.str_none a t'
  | bl b=>cases rx;exact SeqAt.EqAt.str_bool a t' b
  | int b=>obtain ⟨t,rfl⟩:=rx;exact SeqAt.EqAt.str_int a t' b t
  | str b=>obtain ⟨t,rfl⟩:=rx;exact SeqAt.EqAt.str_str a t' b t
  | _=>exact absurd (show false=true from fx) Bool.false_ne_true
 | _=>exact absurd (show false=true from fy) Bool.false_ne_true
def eqU (x:V) (u:Value):Bool:=match u with
 | .none=>eqV .non x
 | .bool b=>eqV (.bl b) x
 | .int i _=>eqV (.int i) x
 | .str z _=>eqV (.str z) x
 | _=>false
theorem eqU_of {x y:V}{u:Value} (r:RelV y u) (f:yd4 y=true):eqU x u=eqV y x:=by
 cases y with
 | non=>cases r;rfl
 | bl b=>cases r;rfl
 | int i=>obtain ⟨t,rfl⟩:=r;rfl
 | str z=>obtain ⟨t,rfl⟩:=r;rfl
 | _=>exact absurd (show false=true from f) Bool.false_ne_true
theorem qdn {x:V}:∀ {xs:List V}{us:List Value},Vals xs us→xs.all yd4=true→us.any (eqU x)=xs.any fun y=>eqV y x
 | _,_,.nil,_=>rfl
 | y::xs,u::us,.cons r t,f=>by
  rw[List.all_cons,Bool.and_eq_true] at f
  rw[List.any_cons,List.any_cons,eqU_of r f.1,qdn t f.2]
theorem qcw {A:Around}{s:Shared}{x:V}{v:Value} (rx:RelV x v) (fx:yd4 x=true):∀ {xs:List V}{us:List Value},Vals xs us→xs.all yd4=true→∀ u∈us,SeqAt.EqAt A s u v (eqU x u)
 | _,_,.nil,_=>fun u hu=>by cases hu
 | y::xs,u::us,.cons r t,f=>fun u' hu=>by
  rw[List.all_cons,Bool.and_eq_true] at f
  rcases List.mem_cons.mp hu with rfl|hu
  ·rw[eqU_of r f.1];exact eqAt_V r rx f.1 fx
  ·exact qcw rx fx t f.2 u' hu
def inV (x:V) (xs:List V):Bool:=xs.any fun y=>eqV y x
def rIn (K:PySem.W.Frag) (neg:Bool):R2:=fun x y H Q=>∃ p xs,y=.ref p∧(SqL K H p xs∨SqT K H p xs)∧yd4 x=true∧xs.all yd4=true∧Q (.bl (if neg then !inV x xs else inV x xs)) H
theorem qgd:OpR X (compareOp .In) (rIn X.K false):=by
 intro pins s σ H x y v u Q I rx ry h
 obtain ⟨p,xs,rfl,hq,fx,fs,q⟩:=h
 cases ry
 rcases hq with hq|hq
 ·obtain ⟨its,r,pl,hz⟩:=I.list hq
  refine SeqAt.in_listAt (eqU x) pl.isList (fun w hw=>qcw rx fx r fs w (by simpa using hw)) ⟨.bl _,H,I,rfl,?_⟩
  rw[show its.toArray.any (eqU x)=its.any (eqU x) by simp,qdn r fs]
  exact q
 ·obtain ⟨its,r,pl,hz⟩:=I.tuple hq
  refine SeqAt.in_tupleAt (eqU x) pl (fun w hw=>qcw rx fx r fs w (by simpa using hw)) ⟨.bl _,H,I,rfl,?_⟩
  rw[show its.toArray.any (eqU x)=its.any (eqU x) by simp,qdn r fs]
  exact q
theorem qca:OpR X (compareOp .NotIn) (rIn X.K true):=by
 intro pins s σ H x y v u Q I rx ry h
 obtain ⟨p,xs,rfl,hq,fx,fs,q⟩:=h
 cases ry
 rcases hq with hq|hq
 ·obtain ⟨its,r,pl,hz⟩:=I.list hq
  refine SeqAt.notIn_listAt (eqU x) pl.isList (fun w hw=>qcw rx fx r fs w (by simpa using hw)) ⟨.bl _,H,I,rfl,?_⟩
  rw[show its.toArray.any (eqU x)=its.any (eqU x) by simp,qdn r fs]
  exact q
 ·obtain ⟨its,r,pl,hz⟩:=I.tuple hq
  refine SeqAt.notIn_tupleAt (eqU x) pl (fun w hw=>qcw rx fx r fs w (by simpa using hw)) ⟨.bl _,H,I,rfl,?_⟩
  rw[show its.toArray.any (eqU x)=its.any (eqU x) by simp,qdn r fs]
  exact q
theorem yai:ybv X (.builtin "len") (fun xs H Q=>∃ p ys,xs=[.ref p]∧(SqL X.K H p ys∨SqT X.K H p ys)∧Q (.int ys.length) H):=by
 intro pins s σ H xs us Q I r h
 obtain ⟨p,ys,rfl,hq,q⟩:=h
 obtain ⟨u,rfl,rx⟩:=yfm r
 cases rx
 have hn:=ygh
 rcases hq with hq|hq
 ·obtain ⟨its,r',pl,hz⟩:=I.list hq
  have hlen:=r'.length
  exact Calls.call_len_list pl.isList (by simp only[List.size_toArray]<;>omega) ⟨.int ys.length,H,I.tok _,⟨s.toks+1,by rw[List.size_toArray,hlen]⟩,q⟩
 ·obtain ⟨its,r',pl,hz⟩:=I.tuple hq
  have hlen:=r'.length
  exact len_tuple pl (by simp only[List.size_toArray]<;>omega) ⟨.int ys.length,H,I.tok _,⟨s.toks+1,by rw[List.size_toArray,hlen]⟩,q⟩
theorem yeg:ybv X (.type "list") (fun xs H Q=>∃ p ys,xs=[.ref p]∧(SqL X.K H p ys∨SqT X.K H p ys)∧∀ l,H l=none→Q (.ref l) (upd H l (.lst ys))):=by
 intro pins s σ H xs us Q I r h
 obtain ⟨p,ys,rfl,hq,q⟩:=h
 obtain ⟨u,rfl,rx⟩:=yfm r
 cases rx
 have fin:∀ (its:List Value),Vals ys its→ys.length≤sizeLine→∀ (h':Heap) (c':Nat),(∀ b o',s.heap.get? b=some o'→h'.get? b=some o')→
   h'.get? s.heap.objs.size=some { cls:=.type "list",dict:=none,data:=.seq its.toArray c',slots:=#[] }→EP X pins σ Q (.ref s.heap.objs.size) { s with heap:=h' }:=fun its r' hz h' c' kp e=>
  ⟨.ref s.heap.objs.size,_,I.laid (t':=s.toks) kp (Nat.le_refl _) (show yap X.prog X.w _ h' _ (.lst ys) from ⟨hz,its,c',r',e⟩),rfl,q _ (I.hok.fresh (Nat.le_refl _))⟩
 rcases hq with hq|hq
 ·obtain ⟨its,r',pl,hz⟩:=I.list hq
  have hlen:=r'.length
  obtain ⟨o,ho,hc,n,hd⟩:=pl.isList
  exact call_list_seq p (.inl rfl) ho hc hd (fun h' c' kp e=>fin its r' hz h' c' kp e) (by simp only[List.size_toArray]<;>omega)
 ·obtain ⟨its,r',pl,hz⟩:=I.tuple hq
  have hlen:=r'.length
  obtain ⟨o,ho,hc,n,hd⟩:=pl
  exact call_list_seq p (.inr rfl) ho hc hd (fun h' c' kp e=>fin its r' hz h' c' kp e) (by simp only[List.size_toArray]<;>omega)
def tyV (K:PySem.W.Frag) (T:String) (x:V) (H:Hp):Prop:=match x with
 | .str _=>T="str"
 | .int _=>T="int"
 | .ref p=>(T="list"∧∃ xs,SqL K H p xs)∨(T="tuple"∧∃ o,K.lookup p=some o∧o.cls=.type "tuple"∧o.dict=none)∨
   (T="dict"∧((∃ kvs,H p=some (.dK kvs))∨∃ kvs,H p=some (.dT kvs)))∨(T="set"∧∃ S n,H p=some (.set S n))
 | _=>False
theorem tyV_is {pins:List (Addr×Obj)}{σ:St}{H:Hp}{s:Shared}{T:String}{x:V}{v:Value} (I:Inv X pins σ H s) (r:RelV x v) (ty:tyV X.K T x H) :
  s.TypeIs v T∧∀ a,v=.ref a→∃ ob,s.heap.get? a=some ob∧ob.dict=none:=by
 cases x with
 | str z=>
  obtain ⟨t,rfl⟩:=r
  cases (show T="str" from ty)
  exact ⟨typeIs_str s z t,fun _ e=>nomatch e⟩
 | int i=>
  obtain ⟨t,rfl⟩:=r
  cases (show T="int" from ty)
  exact ⟨typeIs_int s i t,fun _ e=>nomatch e⟩
 | ref p=>
  cases r
  rcases ty with ⟨rfl,xs,hq⟩|⟨rfl,o,hk,hc,hd⟩|⟨rfl,hk⟩|⟨rfl,S,n,hk⟩
  ·obtain ⟨its,_,pl,_⟩:=I.list hq
   refine ⟨pl.isList.typeIs,fun a e=>?_⟩
   cases e
   obtain ⟨o,n,e,c,hd,_⟩:=pl
   exact ⟨o,e,hd⟩
  ·refine ⟨⟨o,I.kIn p o hk,hc⟩,fun a e=>?_⟩
   cases e
   exact ⟨o,I.kIn _ o hk,hd⟩
  ·have z:∃ o,s.heap.get? p=some o∧o.ExactDict:=by
    rcases hk with ⟨kvs,hk⟩|⟨kvs,hk⟩
    ·obtain ⟨_,_,_,_,o,_,_,e,ex,_⟩:=I.hok p _ hk
     exact ⟨o,e,ex⟩
    ·obtain ⟨_,_,_,_,o,_,_,e,ex,_⟩:=I.hok p _ hk
     exact ⟨o,e,ex⟩
   obtain ⟨o,e,ex⟩:=z
   refine ⟨⟨o,e,ex.1⟩,fun a e2=>?_⟩
   cases e2
   exact ⟨o,e,ex.2.1⟩
  ·obtain ⟨o,_,_,_,e,ex,_⟩:=I.hok p _ hk
   refine ⟨⟨o,e,ex.1⟩,fun a e2=>?_⟩
   cases e2
   exact ⟨o,e,ex.2.1⟩
 | _=>exact False.elim ty
def tBM0 (K:PySem.W.Frag) (T:String) (r:V→List V→Hp→VK→Prop) (to:TE):TE:=fun σ H Q=>to σ H fun x H1=>tyV K T x H1∧r x [] H1 Q
def tBM (K:PySem.W.Frag) (T:String) (r:V→List V→Hp→VK→Prop) (to:TE) (t:TA):TE:=fun σ H Q=>to σ H fun x H1=>tyV K T x H1∧t σ H1 fun xs H2=>r x xs H2 Q
variable {o e:Expr}{es:List Expr}{to:TE}{t:TA}{name:Str}{apos cpos:Pos}{T id:String}{r:V→List V→Hp→VK→Prop}
theorem pe_bm0 (pa:PlainAttrs T) (slot:Slot T name id) (hty:typeOf (.builtin id)=pure (.type "method_descriptor")) (hm:MtR X id r) (ho:PE X o to)
  (hbase:attributeBase o name X.env (eval o X.env)=eval o X.env:=by rfl) (hline:(apos.endLine == cpos.line)=true:=by rfl):PE X (.Call (.Attribute o name apos) [] [] cpos) (tBM0 X.K T r to):=by
 intro pins s σ H Q I h
 refine wpAny_Call_method0_late hbase hline (thn (ho pins s σ H _ I h) fun v s1 ⟨x,H1,I1,r1,ty,q1⟩=>?_)
 obtain ⟨h1,h2⟩:=tyV_is I1 r1 ty
 exact ⟨T,id,pa,slot,hty,h1,h2,Calls.callWith_builtin rfl (PySem.evalArgs_none (hm pins s1 σ H1 x [] v [] Q I1 r1 .nil q1))⟩
theorem qd4 (pa:PlainAttrs T) (slot:Slot T name id) (hty:typeOf (.builtin id)=pure (.type "method_descriptor")) (hm:MtR X id r) (ho:PE X o to) (ha:PA X (e::es) t)
  (hbase:attributeBase o name X.env (eval o X.env)=eval o X.env:=by rfl)
  (hfew:((backTo cpos (starEach (e::es) X.env)).all (fun x=>!x.1)&&(backToKw cpos (keywordEach [] X.env)).all (fun x=>x.1.isSome)
   && decide ((e::es).length+([]:List Keyword).length+(if ([]:List Keyword).isEmpty then 0 else 1)<30))=true:=by rfl)
  (hline:(apos.endLine == cpos.line)=true:=by rfl) (hs:starEach (e::es) X.env=(false,eval e X.env)::starEach es X.env:=by rfl) (hplain:(backTo cpos (starEach es X.env)).any (·.1)=false:=by rfl) :
  PE X (.Call (.Attribute o name apos) (e::es) [] cpos) (tBM X.K T r to t):=by
 intro pins s σ H Q I h
 refine wpAny_Call_method_late hbase hfew hline rfl (thn (ho pins s σ H _ I h) fun v s1 ⟨x,H1,I1,r1,ty,q1⟩=>?_)
 obtain ⟨h1,h2⟩:=tyV_is I1 r1 ty
 refine ⟨T,id,pa,slot,hty,h1,h2,?_⟩
 have hA:=ha cpos pins s1 σ H1 _ I1 q1
 rw[hs] at hA ⊢
 refine Calls.callWith_builtin (by show (false||(backTo cpos (starEach es X.env)).any (·.1))=false;rw[hplain]<;>rfl) (Calls.evalArgs_plain ?_)
 exact thn hA fun us s2 ⟨vs,H2,I2,r2,q2⟩=>hm pins s2 σ H2 x vs v us Q I2 r1 r2 q2
/- xs.append(e),list.index on a module's tuple .. are MtR facts of 06m -/
end
def MtM (X:Cx) (id:String) (r:V→List V→Hp→VK→Prop):Prop:=
 ∀ (pins:List (Addr×Obj)) (s:Shared) (σ:St) (H:Hp) (x:V) (xs:List V) (v:Value) (us:List Value) (Q:VK),Inv X pins σ H s→RelV x v→Vals xs us→r x xs H Q→
  wpAny (model X.prog X.w) X.A (call (.builtin id) (v::us)) (EP X pins σ Q) X.xe s
theorem Vals.one:∀ {x:V}{us:List Value},Vals [x] us→∃ u,us=[u]∧RelV x u
 | _,_,.cons r .nil=>⟨_,rfl,r⟩
theorem Vals.two:∀ {x y:V}{us:List Value},Vals [x,y] us→∃ u v,us=[u,v]∧RelV x u∧RelV y v
 | _,_,_,.cons r (.cons q .nil)=>⟨_,_,rfl,r,q⟩
theorem Vals.zero:∀ {us:List Value},Vals [] us→us=[]
 | _,.nil=>rfl
theorem Vals.rep {xs:List V}{us:List Value} (h:Vals xs us):∀ k:Nat,Vals (List.replicate k xs).flatten (List.replicate k us).flatten
 | 0=>.nil
 | k+1=>by
  rw[List.replicate_succ,List.replicate_succ,List.flatten_cons,List.flatten_cons]
  exact Vals.append h (Vals.rep h k)
theorem erase_last {α:Type} (l:List α):l.eraseIdx (l.length-1)=l.dropLast:=by
 induction l with
 | nil=>rfl
 | cons a r ih=>
  cases r with
  | nil=>rfl
  | cons b r=>
   have e:(a::b::r).length-1=((b::r).length-1)+1:=by
    have h1:(a::b::r).length=r.length+2:=rfl
    have h2:(b::r).length=r.length+1:=rfl
    omega
   rw[e,List.eraseIdx_cons_succ,ih]
   all_goals rfl
theorem qen (its:List Value):∀ (k:Nat) (acc:List Value),
  List.foldl (fun x1 x2=>x1++x2) acc.toArray (List.replicate k its.toArray)=(acc++(List.replicate k its).flatten).toArray
 | 0,acc=>by simp
 | k+1,acc=>by
  have e:acc.toArray++its.toArray=(acc++its).toArray:=by simp
  have e2:(acc++its)++(List.replicate k its).flatten=acc++(List.replicate (k+1) its).flatten:=by
   rw[List.replicate_succ,List.flatten_cons,List.append_assoc]
  rw[← e2,← qen its k (acc++its),← e,List.replicate_succ,List.foldl_cons]
section
variable {X:Cx}{pins:List (Addr×Obj)}{σ:St}{H:Hp}{s:Shared}{l b:Addr}{xs ys zs:List V}
theorem Inv.lset {its its':List Value}{n:Nat}{f:Array Value→Array Value}{t':Nat} (I:Inv X pins σ H s) (hH:H l=some (.lst xs))
  (e:s.heap.get? l=some { cls:=.type "list",data:=.seq its.toArray n }) (hf:f its.toArray=its'.toArray) (hv:Vals ys its') (hz:ys.length≤sizeLine) :
  Inv X pins σ (upd H l (.lst ys)) { s with heap:=s.heap.update l (Obj.mapSeq f),toks:=t' }:=by
 have q:=PySem.IsL.update e f
 rw[hf] at q
 refine I.write (x:=l) (e:=l) (by rw[hH];exact trivial) (.inl rfl) (fun b' u hb hu=>(Heap.get?_update_other s.heap (Obj.mapSeq f) (Ne.symm hb)).trans hu) ⟨_,q⟩ ?_
 exact ⟨hz,its',_,hv,q⟩
theorem Inv.lnew {its:List Value}{t':Nat} (I:Inv X pins σ H s) (hv:Vals ys its) (hz:ys.length≤sizeLine) :
  Inv X pins σ (upd H s.heap.objs.size (.lst ys)) { s with heap:=s.heap.push { cls:=.type "list",data:=.seq its.toArray },toks:=t' }:=
 I.laid (fun _ _ q=>Heap.get?_push_of_some _ q) (Nat.le_refl _) ⟨hz,its,0,hv,Heap.get?_push_size _ rfl⟩
theorem Inv.fresh (I:Inv X pins σ H s):H s.heap.objs.size=none:=I.hok.fresh (Nat.le_refl _)
theorem Inv.lstM (I:Inv X pins σ H s) (hH:H l=some (.lst xs)):xs.length≤sizeLine∧∃ (its:List Value) (n:Nat),Vals xs its∧xs.length=its.length∧s.heap.get? l=some { cls:=.type "list",data:=.seq its.toArray n }:=by
 obtain ⟨z,its,n,r,e⟩:=I.hok l _ hH
 exact ⟨z,its,n,r,r.length,e⟩
theorem notLongL {n:Nat} (h:n≤sizeLine):Builtin.List.listTooLong n=false:=by
 unfold Builtin.List.listTooLong
 exact decide_eq_false (by omega)
end
section
variable {X:Cx}
def rAppend:V→List V→Hp→VK→Prop:=fun x vs H Q=>∃ l xs y,x=.ref l∧vs=[y]∧H l=some (.lst xs)∧xs.length<sizeLine∧Q .non (upd H l (.lst (xs++[y])))
theorem ybk:MtM X "list.append" rAppend:=by
 intro pins s σ H x vs v us Q I rx rv h
 obtain ⟨l,xs,y,rfl,rfl,hH,hz,q⟩:=h
 cases rx
 obtain ⟨u,rfl,ru⟩:=rv.one
 obtain ⟨z,its,n,r,hl,e⟩:=I.lstM hH
 refine call_meets F.slot_list_append ⟨_,e,rfl⟩ F.entry_list_append (F.args_list_append_2 _ _) (PySem.list_append l its.toArray n u (by rw[List.size_toArray];omega)) ⟨e,?_⟩
 refine ⟨.non,_,I.lset (its':=its++[u]) hH e (by simp) (r.append (.cons ru .nil)) ?_,rfl,q⟩
 rw[List.length_append,List.length_singleton]
 omega
def rClear:V→List V→Hp→VK→Prop:=fun x vs H Q=>∃ l xs,x=.ref l∧vs=[]∧H l=some (.lst xs)∧Q .non (upd H l (.lst []))
theorem mt_clear:MtM X "list.clear" rClear:=by
 intro pins s σ H x vs v us Q I rx rv h
 obtain ⟨l,xs,rfl,rfl,hH,q⟩:=h
 cases rx
 have hus:=rv.zero
 subst hus
 obtain ⟨z,its,n,r,hl,e⟩:=I.lstM hH
 refine call_meets F.slot_list_clear ⟨_,e,rfl⟩ F.entry_list_clear (F.args_list_clear_1 _) (AutoSeq1.list_clear_list_0 l its.toArray n (by rw[List.size_toArray];omega)) ⟨e,?_⟩
 exact ⟨.non,_,I.lset (its':=[]) (ys:=[]) hH e rfl .nil (Nat.zero_le _),rfl,q⟩
def rCat:R2:=fun x y H Q=>∃ l b xs zs,x=.ref l∧y=.ref b∧H l=some (.lst xs)∧H b=some (.lst zs)∧xs.length+zs.length≤sizeLine∧∀ p,H p=none→Q (.ref p) (upd H p (.lst (xs++zs)))
theorem qdy:OpR X (binaryOp .Add) rCat:=by
 intro pins s σ H x y v u Q I rx ry h
 obtain ⟨l,b,xs,zs,rfl,rfl,hH,hB,hz,q⟩:=h
 cases rx
 cases ry
 obtain ⟨z,its,n,r,hl,e⟩:=I.lstM hH
 obtain ⟨z2,its2,n2,r2,hl2,e2⟩:=I.lstM hB
 refine PySem.P.add_list e e2 ?_ (by rw[List.size_toArray,List.size_toArray];omega)
 have ea:its.toArray++its2.toArray=(its++its2).toArray:=by simp
 rw[ea]
 exact ⟨.ref _,_,I.lnew (t':=s.toks) (r.append r2) (by rw[List.length_append];omega),rfl,q _ I.fresh⟩
def rRep:R2:=fun x y H Q=>∃ l k xs,x=.ref l∧y=.int k∧H l=some (.lst xs)∧-(2 ^ 63)≤k∧k<2 ^ 63∧xs.length*k.toNat≤sizeLine∧
 ∀ p,H p=none→Q (.ref p) (upd H p (.lst (List.replicate k.toNat xs).flatten))
theorem qex {α:Type} (xs:List α) (k:Nat):(List.replicate k xs).flatten.length=k*xs.length:=by
 induction k with
 | zero=>simp
 | succ k ih=>rw[List.replicate_succ,List.flatten_cons,List.length_append,ih,Nat.succ_mul,Nat.add_comm]
theorem op_rep:OpR X (binaryOp .Mult) rRep:=by
 intro pins s σ H x y v u Q I rx ry h
 obtain ⟨l,k,xs,rfl,rfl,hH,h1,h2,hz,q⟩:=h
 cases rx
 obtain ⟨t,rfl⟩:=ry
 obtain ⟨z,its,n,r,hl,e⟩:=I.lstM hH
 have hlen:its.toArray.size*k.toNat≤sizeLine:=by rw[List.size_toArray,← hl];exact hz
 have hcap:¬ its.toArray.size*k.toNat>(2 ^ 63-1) / 8:=by
  have:(sizeLine:Nat)≤(2 ^ 63-1) / 8:=by decide
  omega
 have hfit:¬ (!Builtin.List.listFitsIndex k)=true:=by
  rw[fitsIndex_both h1 h2]
  exact Bool.false_ne_true
 have hlong:¬ Builtin.List.listTooLong (its.toArray.size*k.toNat)=true:=by
  rw[notLongL hlen]
  exact Bool.false_ne_true
 have hnew:List.foldl (fun x1 x2=>x1++x2) #[] (List.replicate (if its.toArray.isEmpty=true then 0 else k.toNat) its.toArray)=(List.replicate k.toNat its).flatten.toArray:=by
  have f0:∀ m:Nat,List.foldl (fun x1 x2=>x1++x2) #[] (List.replicate m its.toArray)=(List.replicate m its).flatten.toArray:=fun m=>by
   have:=qen its m []
   rw[List.nil_append] at this
   exact this
  rw[f0]
  cases its with
  | nil=>simp
  | cons a r'=>rw[if_neg (by simp)]
 refine wpAny_binaryOp_repeat_ref (T:="list") (U:="int") (by decide) ⟨_,e,rfl⟩ (fun s'=>typeIs_int s' k t) noFill_list_mul F.fills_int_mul F.slot_int_rmul repeat_list F.slot_int_index.lookup
  (call_meets F.slot_int_rmul (typeIs_int s k t) F.entry_int_rmul (F.args_int_rmul_2 _ _) (int___rmul___int_list k t l its.toArray n)
   ⟨e,rfl,⟨_,e,rfl⟩,call_meets F.slot_list_mul ⟨_,e,rfl⟩ F.entry_list_mul (F.args_list_mul_2 _ _) (AutoListH.list___mul___list_int_3 l its.toArray n k t hfit hcap hlong) ⟨e,?_⟩⟩)
 rw[hnew]
 exact ⟨.ref _,_,I.lnew (t':=s.toks) (r.rep k.toNat) (by rw[qex,Nat.mul_comm];exact hz),rfl,q _ I.fresh⟩
end
end L2
namespace Att
open PySem PySem.W PySem.Calls PyProof.Rows
theorem qdg {P:Params}{h:Heap}:∀ (ns:List Int) (vs:List Value),WellAll P h vs (ns.map WData.int)→IntsAre vs ns:=by
 intro ns
 induction ns with
 | nil=>
  intro vs w
  rw[List.map_nil] at w
  cases w
  exact .nil
 | cons n ns ih=>
  intro vs w
  rw[List.map_cons] at w
  cases w with
  | cons a b=>
   cases a
   exact .cons _ _ (ih _ b)
theorem qf8 {l:OpenLaw}{n:Nat} (hn:l.most=some n) {P:Params}{h:Heap}{args:List WData}{vals:List Value}
  (hpre:l.row.toRowW.claim.pre args=true) (hwl:WellAll P h vals args) :
  ∃ a vs ns,vals=[Value.ref a]∧args=[WData.list (ns.map WData.int)]∧h.get? a=some { cls:=.type "list",data:=.seq vs.toArray }∧IntsAre vs ns∧ns.length≤n:=by
 have hsh:WShape.hasAll [] args [.list .int]=true:=(pre_splitW hpre).1
 have hc:l.pre.holds [] { args:=args }=true:=(pre_splitW hpre).2
 obtain ⟨d,r,rfl,h1,h2⟩:=hasAllW_cons hsh
 obtain rfl:=hasAllW_nil h2
 obtain ⟨xs,rfl,h3⟩:=hasW_list h1
 obtain ⟨ns,rfl⟩:=items_int h3
 have hlen:ns.length≤n:=by
  unfold OpenLaw.pre at hc
  have h4:(WTm.not (.lt (.lit (.int (n:Int))) (.len (.arg 0)))).holds [] { args:=[.list (ns.map .int)] }=true:=by
   have h4:=(holds_andW hc).1
   rw[hn] at h4
   exact h4
  have h5:=condW_of h4 (w_not (w_lt w_lit (w_len_list (w_arg rfl))))
  rw[List.length_map] at h5
  refine Nat.le_of_not_lt fun q=>?_
  have q':(n:Int)<((ns.length:Nat):Int):=by omega
  first
   | (rw[decide_eq_true q'] at h5;exact absurd h5 (by decide))
   | (simp at h5;omega)
 cases hwl with
 | cons w1 w2=>
  cases w2
  cases w1 with
  | list ho hall=>exact ⟨_,_,ns,rfl,rfl,ho,qdg ns _ hall,hlen⟩
theorem yfy (l:OpenLaw) (args:List WData):l.row.toRowW.claim.post args (.bool true) args=true:=
 postW_of (r:=l.row.toRowW) (X:=(true == true))
  (show WShape.has [] (.bool true) .bool=true by first|rfl|decide|simp[WShape.has,WShape.arms,WShape.armsAll])
  (show (WTm.eq .res (.lit (.bool true))).value [] { args:=args,res:=some (.bool true),after:=args }=some (.bool (true == true)) from w_eq_bool (w_res rfl) w_lit) rfl
theorem attach_call {l:OpenLaw}{n:Nat}{q:Program}{loose:List Str}{XP:(Str→Option Value)→Heap→Prop}{YP:World→Heap→Prop}{d:DefRec}
  (hn:l.most=some n) (hdf:d.params.defaults=[])
  (call:∀ (w:World) (s₀ s₁:Shared) (mg mb:Str→Option Value) (fa:Addr) (o:Obj) (pm cd doc:Value) (a:Addr) (vs:List Value) (ns:List Int),
   Ground q loose [] XP w s₀ mg mb s₁.heap→YP w s₁.heap→
   s₁.heap.get? fa=some o→o.data=.func (docDef d.name d.params d.body d.scope pm cd doc)→s₁.heap.CodeRec cd d.name→mg d.name=some (.ref fa)→
   s₁.heap.get? a=some { cls:=.type "list",data:=.seq vs.toArray }→IntsAre vs ns→ns.length≤n→s₁.gens=#[]→
   codeAny (model l.prog w) callerA (.call (.ref fa) ⟨[.ref a],[]⟩) (fun r s'=>r=.ok (.ret (.bool true))∧OldK s₁.heap s'.heap∧s'.os=s₁.os∧AllBare s'.gens) s₁) :
  WalkO q loose XP YP l.row.toRowW d [] (fun f vs=>PySem.call f vs):=by
 intro w s₀ s₁ mg mb G Y fa o pm cd doc dV kV ho hd hcd hD hmg hg args vals as hpre hlay hrd hwl hlo
 obtain rfl:dV=.none:=Dflts.none hD hdf
 obtain rfl:kV=.none:=Dflts.noKw hD
 obtain ⟨a,vs,ns,rfl,rfl,hobj,hints,hlen⟩:=qf8 hn hpre hwl
 refine enter_call (codeAny_mono (call w s₀ s₁ mg mb fa o pm cd doc a vs ns G Y ho (fd_plain hd) hcd hmg hobj hints hlen hg) fun r s' hq=>?_)
 obtain ⟨rfl,h2,h3,h4⟩:=hq
 exact ⟨.inl ⟨.bool true,.bool true,[],rfl,fun _=>rfl,.bool true,yfy l _,fun _=>⟨List.Pairwise.nil,fun _ hm=>(nomatch hm)⟩⟩,h2,h3,h4⟩
end Att
namespace L2
open PySem PySem.Spec PyProof.Rows
theorem qeb:∀ {vs:List Value}{ns:List Int},IntsAre vs ns→Vals (ns.map V.int) vs
 | _,_,.nil=>.nil
 | _,_,.cons n t h=>.cons ⟨t,rfl⟩ (qeb h)
def ya4 (s:Stmt):Arguments:=match s with
 | .FunctionDef _ a _ _ _ _ _ _ _ _=>a
 | _=>{ posonlyargs:=[],args:=[],vararg:=none,kwonlyargs:=[],kw_defaults:=[],kwarg:=none,defaults:=[] }
def yar (s:Stmt):List Stmt:=match s with
 | .FunctionDef _ _ b _ _ _ _ _ _ _=>b
 | _=>[]
def qaf (s:Stmt):Scope:=match s with
 | .FunctionDef _ _ _ _ _ _ sc _ _ _=>sc
 | _=>{ kind:=.function,names:=[],isGenerator:=false,isCoroutine:=false }
abbrev CX0:CXT:=fun _ _ _ _ _ _=>False
abbrev E0:XK:=fun _ _ _=>False
theorem pass0 {X:Cx}:qfb CX0 X E0:=fun _ _ _ _ _ _ _ h=>h.elim
structure Fun (K:PySem.W.Frag) (x qual:Str) (st:Stmt) (f:Addr) (fd:FuncData):Prop where
 ex:∃ (oc:Value) (od:Option Addr) (kV doc pm:Value) (an:Option Addr) (cdv ct:Value) (osl:Array (Option Value)),
  fd=PySem.W.fnOf x qual (ya4 st) (yar st) (qaf st) .none kV doc pm an cdv ct∧K.lookup f=some ⟨oc,od,.func fd,osl⟩∧PySem.W.codeIn K cdv qual=true
 kp:PySem.W.keepIn K (.ref f)=true
section
variable {P:Program}{w:World}{K:PySem.W.Frag}{mg:Str→Option Value}{base:Heap}
theorem Fun.ok {x qual:Str}{st:Stmt}{f:Addr}{fd:FuncData}{N ps:List Str}{k:Nat}{sp:Sp} (F:Fun K x qual st f fd) (S:FnScope N ps (qaf st)) (len:∀ vs H Q E,sp vs H Q E→vs.length=ps.length)
  (hbody:∀ (cdv:Value) (A:Around) (outer:List Env) (s:Shared) (H:Hp) (vs:List V) (Q:VK) (E:XK),Room k (A.deeper (envOfC qual (qaf st) s.heap.objs.size f cdv))→sp vs H Q E→
   ∃ t,PSs (cxOf CX0 P w K mg base N qual (qaf st) f cdv A outer s H E).nox (yar st) t∧t { nx:=fun _ H'=>Q .non H',rt:=Q } (start N vs) H):FnOk P w K mg base CX0 (k+1) f fd ps sp:=by
 obtain ⟨oc,od,kV,doc,pm,an,cdv,ct,osl,rfl,lk,hcd⟩:=F.ex
 refine fn_of lk hcd S len fun A outer s H vs Q E hr hsp=>?_
 obtain ⟨t,h,q⟩:=hbody cdv A outer s H vs Q E hr hsp
 exact ⟨t,h.nox,q⟩
theorem Fun.binds {x qual:Str}{st:Stmt}{f:Addr}{fd:FuncData}{ps:List Str} (F:Fun K x qual st f fd)
  (h:∀ (kV doc pm:Value) (an:Option Addr) (cdv ct:Value) (us:List Value),us.length=ps.length→bindArgs (PySem.W.fnOf x qual (ya4 st) (yar st) (qaf st) .none kV doc pm an cdv ct) ⟨us,[]⟩=pure (ps.zip us)):qes K fd ps []:=by
 obtain ⟨oc,od,kV,doc,pm,an,cdv,ct,osl,rfl,lk,hcd⟩:=F.ex
 exact .all (h kV doc pm an cdv ct)
theorem fun_mk {x qual:Str}{st:Stmt}{f:Addr}{oc:Value}{od an:Option Addr}{osl:Array (Option Value)}{kV doc pm cdv ct:Value} (l:K.lookup f=some ⟨oc,od,.func (PySem.W.fnOf x qual (ya4 st) (yar st) (qaf st) .none kV doc pm an cdv ct),osl⟩)
  (c:PySem.W.codeIn K cdv qual=true) (k:PySem.W.keepIn K (.ref f)=true):Fun K x qual st f (PySem.W.fnOf x qual (ya4 st) (yar st) (qaf st) .none kV doc pm an cdv ct):=⟨⟨oc,od,kV,doc,pm,an,cdv,ct,osl,rfl,l,c⟩,k⟩
end
theorem qeh {A:Around}{k:Nat} (hr:Room k A):A.units+1<cLine:=Nat.lt_of_le_of_lt (Nat.add_le_add_left (by decide:1≤64) _) hr.units
section
variable {X:Cx}
theorem pv (i:Nat) {x:Str}{pos:Pos} (hN:X.N[i]?=some x:=by rfl) (hv:Vis X.env.scope x:=by first|exact Or.inl rfl|exact Or.inr (Or.inl rfl)|exact Or.inr (Or.inr rfl)) (hd:(x == ("__debug__" : Str))=false:=by decide)
  (hcd:(x == ("__classdict__" : Str))=false:=by decide):PE X (.Name x pos) (tVar i):=pe_var hN hv hd hcd
end
theorem iteF {A B:Prop} (h:B):if false=true then A else B:=by
 rw[if_neg Bool.false_ne_true]
 exact h
theorem iteT {A B:Prop} (h:A):if true=true then A else B:=by
 rw[if_pos rfl]
 exact h
def Same (H H':Hp):Prop:=∀ b o,H b=some o→H' b=some o
theorem Same.refl (H:Hp):Same H H:=fun _ _ h=>h
theorem Same.trans {H H1 H2:Hp} (a:Same H H1) (b:Same H1 H2):Same H H2:=fun c o h=>b c o (a c o h)
theorem Same.free {H H':Hp} (e:Same H H') {l:Addr} (h:H' l=Option.none):H l=Option.none:=by
 cases q:H l with
 | none=>rfl
 | some o=>
  rw[e l o q] at h
  cases h
theorem Same.seq {K:PySem.W.Frag}{H H':Hp}{a:Addr}{xs:List V} (e:Same H H') (h:SqL K H a xs):SqL K H' a xs:=by
 rcases h with (h|⟨o,h⟩)|h
 ·exact .inl (.inl (e _ _ h))
 ·exact .inl (.inr ⟨o,e _ _ h⟩)
 ·exact .inr h
mutual
inductive At (H:Hp):V→PyData→Prop
 | non:At H .non .none
 | bl (b:Bool):At H (.bl b) (.bool b)
 | int (i:Int):At H (.int i) (.int i)
 | str (x:Str):At H (.str x) (.str x)
 | lst {a:Addr}{vs:List V}{ds:List PyData}:H a=some (.lst vs)→AtAll H vs ds→At H (.ref a) (.list ds)
 | tup {a:Addr}{vs:List V}{ds:List PyData}:H a=some (.tup vs)→AtAll H vs ds→At H (.ref a) (.tuple ds)
inductive AtAll (H:Hp):List V→List PyData→Prop
 | nil:AtAll H [] []
 | cons {v:V}{d:PyData}{vs:List V}{ds:List PyData}:At H v d→AtAll H vs ds→AtAll H (v::vs) (d::ds)
end
mutual
theorem At.reads {P:Program}{w:World}{H:Hp}{h:Heap} (ok:HOk P w H h):∀ {v:V}{d:PyData}{u:Value},At H v d→RelV v u→∃ as,Reads h u d as
 | _,_,_,.non,r=>by cases r;exact ⟨_,.none⟩
 | _,_,_,.bl b,r=>by cases r;exact ⟨_,.bool b⟩
 | _,_,_,.int i,r=>by obtain ⟨t,rfl⟩:=r;exact ⟨_,.int i t⟩
 | _,_,_,.str x,r=>by obtain ⟨t,rfl⟩:=r;exact ⟨_,.str x t⟩
 | _,_,_,.lst e t,r=>by
  cases r
  obtain ⟨z,its,n,rv,ho⟩:=ok _ _ e
  obtain ⟨as,q⟩:=AtAll.reads ok t rv
  exact ⟨_,.list ho rfl rfl (by simpa using q)⟩
 | _,_,_,.tup e t,r=>by
  cases r
  obtain ⟨z,its,rv,o,ho,hc,n,hd⟩:=ok _ _ e
  obtain ⟨as,q⟩:=AtAll.reads ok t rv
  exact ⟨_,.tuple ho hc hd (by simpa using q)⟩
theorem AtAll.reads {P:Program}{w:World}{H:Hp}{h:Heap} (ok:HOk P w H h):∀ {vs:List V}{ds:List PyData}{us:List Value},AtAll H vs ds→Vals vs us→∃ as,ReadsAll h us ds as
 | _,_,_,.nil,.nil=>⟨_,.nil⟩
 | _,_,_,.cons a b,.cons r s=>by
  obtain ⟨as,q⟩:=At.reads ok a r
  obtain ⟨bs,q2⟩:=AtAll.reads ok b s
  exact ⟨_,.cons q q2⟩
end
section
variable {X:Cx}{pins:List (Addr×Obj)}{σ:St}{H:Hp}{s:Shared}{h':Heap}
theorem Inv.turnedL {ch:List Addr}{a:Addr}{o:HO}{t':Nat} (I:Inv X pins σ H s) (k:∀ b u,b∉ch→s.heap.get? b=some u→h'.get? b=some u) (hf:∀ b∈ch,FpOk X pins H b)
  (hp:s.heap.objs.size≤a) (new:yap X.prog X.w (upd H a o) h' a o):Inv X pins σ (upd H a o) { s with heap:=h',toks:=t' }:=by
 have hn:H a=none:=I.hok.fresh hp
 have nit:∀ b u,H b=some u→b∉ch:=fun b u e z=>by rw[(hf b z).1] at e;cases e
 refine I.step (g':=s.gens) (d':=s.drawn) (ch:=ch) (fun b hb=>?_) (fun b u _ _ hc e _=>k b u hc e) (fun b u _ _ hc e _=>⟨u.slots,k b u hc e⟩) (fun b u _ e n=>?_)
  (fun b u hc e=>⟨u,k b u hc e⟩) (fun b xs e=>?_) (fun b u xs e=>?_) (fun b ps e=>⟨#[],?_⟩) (fun m hm=>?_) (fun b u e=>?_) I.bare
 ·obtain ⟨_,f1,_,f3,f4,f5⟩:=hf b hb
  exact ⟨f3,f1,f4,f5⟩
 ·rw[qad (Nat.ne_of_lt (Nat.lt_of_lt_of_le (Heap.lt_size e) hp))];exact n
 ·rw[qad (yab e hn)];exact e
 ·rw[qad (yab e hn)];exact e
 ·rw[qad (yab e hn),e];simp
 ·obtain ⟨ob,es,ep,ho,r⟩:=hm
  exact ⟨ob,es,ep,k _ ob (fun z=>(hf _ z).2.1 rfl) ho,r⟩
 ·by_cases hb:b=a
  ·subst hb;rw[yaa] at e;cases e;exact new
  ·rw[qad hb] at e
   refine (I.hok b u e).stay (fun c v hc q=>k c v ?_ q) (fun c q=>by rw[qad (yab q hn)];exact q) fun c xs q=>by rw[qad (yab q hn)];exact q
   rcases hc with rfl|hc
   ·exact nit _ u e
   ·exact nit c _ hc
end
def Ite (K:PySem.W.Frag) (a:Addr):It:=
 ⟨fun i H=>∃ xs x,SqL K H a xs∧xs[i]?=some x,fun i H x H'=>∃ p y,H p=none∧x=.ref p∧H'=upd H p (.tup [.int i,y])∧∀ xs,SqL K H a xs→xs[i]?=some y,fun i H=>∃ xs,SqL K H a xs∧xs.length≤i⟩
theorem ygn {P:Program}{w:World}{K:PySem.W.Frag}{es:List Expr}{k:Nat}{tp:Pos} (a e it:Addr) (hne:e≠it) :
  Turn P w K (.Tuple es k tp) (Ite K a) [e,it] e (fun i h=>(∃ old,IsEnum h e it i old)∧h.IsListIter it a i) where
 mem:=by simp
 obj:=fun i h st b hb=>by
  obtain ⟨⟨old,he⟩,o,ho,hc,hd⟩:=st
  have hb':b=e∨b=it:=by simpa using hb
  rcases hb' with rfl|rfl
  ·exact ⟨_,he,fun v z=>by
    have z':Data.fields _=Data.cell v:=z
    cases z'⟩
  ·exact ⟨o,ho,fun v z=>by rw[hd] at z;cases z⟩
 keep:=fun i h h' st kk=>⟨st.1.imp fun _ z=>kk e (by simp) _ z,st.2.at fun o z=>kk it (by simp) o z⟩
 item:=by
  intro X hP hw hK hc i pins s σ H E I hf st hg
  subst hP hw hK
  obtain ⟨xs,x,hq,hx⟩:=hg
  obtain ⟨its,rv,p,hz⟩:=I.list hq
  obtain ⟨u,hu,ru⟩:=rv.get hx
  obtain ⟨⟨old,he⟩,hit⟩:=st
  refine wpAny_pyNext_enum_item he hit p.isList (x:=u) (by simpa using hu) hne fun h' ho hit' hT hsz hk=>?_
  have hel:e<s.heap.objs.size:=Heap.lt_size he
  have hil:it<s.heap.objs.size:=by obtain ⟨_,z,_⟩:=hit;exact Heap.lt_size z
  refine ⟨_,rfl,wpAny_letOwnedTupleGo_enum ho fun h2 he2 hs2=>?_⟩
  have keep2:∀ b ob,b∉[e,it]→s.heap.get? b=some ob→h2.get? b=some ob:=fun b ob hb z=>by
   have h1:b≠e:=fun q=>hb (by simp[q])
   have h3:b≠it:=fun q=>hb (by simp[q])
   exact (hs2.2 b h1).trans (hk b ob h1 h3 z)
  have hT2:h2.get? s.heap.objs.size=some { cls:=.type "tuple",data:=.seq #[.int i s.toks,u] }:=(hs2.2 _ (Nat.ne_of_gt hel)).trans hT
  have fresh:H s.heap.objs.size=none:=I.hok.fresh (Nat.le_refl _)
  have new:yap X.prog X.w (upd H s.heap.objs.size (.tup [.int i,x])) h2 s.heap.objs.size (.tup [.int i,x]):=
   ⟨by show 2≤sizeLine;decide,[.int i s.toks,u],.cons ⟨_,rfl⟩ (.cons ru .nil),⟨_,hT2,rfl,_,rfl⟩⟩
  refine ⟨.ref s.heap.objs.size,upd H s.heap.objs.size (.tup [.int i,x]),I.turnedL keep2 hf (Nat.le_refl _) new,rfl,⟨_,x,fresh,rfl,rfl,fun ys hy=>by rw[I.list_inj hy hq];exact hx⟩,⟨⟨_,by simpa using he2⟩,hit'.at fun o z=>(hs2.2 it hne.symm).trans z⟩,fun b hb=>?_⟩
  rw[qad]
  ·exact (hf b hb).1
  ·have hb':b=e∨b=it:=by simpa using hb
   rcases hb' with rfl|rfl
   ·exact Nat.ne_of_lt hel
   ·exact Nat.ne_of_lt hil
 done:=by
  intro X hP hw hK hc i pins s σ H E I hf st hg
  subst hP hw hK
  obtain ⟨xs,hq,hx⟩:=hg
  obtain ⟨its,rv,p,hz⟩:=I.list hq
  obtain ⟨⟨old,he⟩,hit⟩:=st
  have hl:=rv.length
  obtain ⟨f0,f1,f2,f3,f4,f5⟩:=hf it (by simp)
  exact wpAny_pyNext_enum_end (I.ok.hd hc) he hit p.isList (by simp;omega) fun h' eb=>⟨rfl,I.turned (t':=s.toks) (fun b o hb z=>eb b o hb z) f0 f1 f3 f4 f5⟩
 self:=fun _ _ _ _ _ st h=>wpAny_pyIter_enum st.1.choose_spec h
def iEnum (K:PySem.W.Frag) (ta:TA):TI:=fun σ H R=>ta σ H fun vs H1=>∃ a xs,vs=[.ref a]∧SqL K H1 a xs∧R (Ite K a) H1
section
variable {X:Cx}
theorem yg0 {a:Expr}{ta:TA}{p pos tp:Pos}{es:List Expr}{k:Nat} (hg:Gl X "enumerate") (hm:X.mg "enumerate" = none) (ha:PA X [a] ta) (hs:starEach [a] X.env=[(false,eval a X.env)]:=by rfl) :
  PI X (.Tuple es k tp) (.Call (.Name "enumerate" p) [a] [] pos) (iEnum X.K ta):=by
 intro pins s σ H R I h
 refine Call_ (qdw I hg hm boot_enumerate (PyProof.Rows.callWith_type1 (thn (ha pos pins s σ H _ I h) fun us s1 ⟨vs,H1,I1,r1,q1⟩=>?_) hs rfl))
 obtain ⟨l,xs,e,hq,q⟩:=q1
 subst e
 cases r1 with
 | cons r rr=>
  cases rr
  cases r
  obtain ⟨its,rv,pl,hz⟩:=I1.list hq
  refine call_enumerate_list pl.isList fun h' he hit hsz hk=>?_
  refine wpAny_pyIter_enum he ⟨_,[s1.heap.objs.size+1,s1.heap.objs.size],_,Ite X.K l,H1,rfl,I1.kept (t':=s1.toks) hk,ygn l (s1.heap.objs.size+1) s1.heap.objs.size (Nat.succ_ne_self _),⟨⟨_,he⟩,hit⟩,fun b hb=>?_,q⟩
  have hb':b=s1.heap.objs.size+1∨b=s1.heap.objs.size:=by simpa using hb
  rcases hb' with rfl|rfl
  ·exact I1.fpOk (Nat.le_succ _) (I1.hok.fresh (Nat.le_succ _))
  ·exact I1.fpOk (Nat.le_refl _) (I1.hok.fresh (Nat.le_refl _))
end
theorem yfg {K:PySem.W.Frag}{a:Addr}{xs:List V}{g:TG}{tb:TS}{D:Ends}{σ:St}{H:Hp} (Pv:Nat→St→Hp→Prop) (h0:Pv 0 σ H) (hl:∀ i σ H,i≤xs.length→Pv i σ H→SqL K H a xs)
  (hs:∀ i x p σ H,xs[i]?=some x→Pv i σ H→H p=none→g (.ref p) σ (upd H p (.tup [.int i,x])) fun σ2 H2=>tb { D with nx:=Pv (i+1),ct:=Pv (i+1),bk:=D.nx } σ2 H2) (hd:∀ σ H,Pv xs.length σ H→D.nx σ H) :
  ∃ W:Nat→Nat→St→Hp→Prop,(∃ m,W 0 m σ H)∧∀ i m σ H,W i m σ H→
   ((Ite K a).stop i H∧D.nx σ H)∨((Ite K a).go i H∧∃ N:St→Hp→Prop,(∀ σ' H',N σ' H'→∃ m',m' < m∧W (i+1) m' σ' H')∧∀ x H',(Ite K a).yld i H x H'→g x σ H' fun σ2 H2=>tb { D with nx:=N,ct:=N,bk:=D.nx } σ2 H2):=by
 refine ⟨fun i m σ H=>m=xs.length-i∧i≤xs.length∧Pv i σ H,⟨xs.length,by simp,Nat.zero_le _,h0⟩,?_⟩
 rintro i m σ H ⟨rfl,hi,p⟩
 have q:=hl i σ H hi p
 by_cases hlt:i<xs.length
 ·refine .inr ⟨⟨xs,xs[i],q,by simp[hlt]⟩,Pv (i+1),fun σ' H' p'=>⟨xs.length-(i+1),by omega,rfl,hlt,p'⟩,fun x H' y=>?_⟩
  obtain ⟨pp,z,hn,e1,e2,y⟩:=y
  subst e1 e2
  exact hs i z pp σ _ (y xs q) p hn
 ·have e:i=xs.length:=by omega
  subst e
  exact .inl ⟨⟨xs,q,Nat.le_refl _⟩,hd σ H p⟩
def clOf (cells:List (Str×Addr)):List (Str×NameKind)→List (Str×Addr)→List (Str×Addr)
 | [],cs=>cs
 | (n,k)::r,cs=>if k=.free then clOf cells r ((n,(cells.lookup n).getD 0)::cs) else clOf cells r cs
theorem qbm {scope:Scope}{env:Env} (h:∀ x∈scope.names,x.2=.free→∃ c,env.cells.lookup x.1=some c):closureFor scope env=pure (clOf env.cells scope.names []):=by
 unfold closureFor
 generalize hn:scope.names=names at h
 suffices hh:∀ (l:List (Str×NameKind)) (cs:List (Str×Addr)),(∀ x∈l,x.2=.free→∃ c,env.cells.lookup x.1=some c)→
   (forIn l cs (fun (x:Str×NameKind) r=>if (x.2 == NameKind.free)=true then (do let a ← cellOf env x.1;pure (ForInStep.yield ((x.1,a)::r))) else pure (ForInStep.yield r)):Sem (List (Str×Addr)))=pure (clOf env.cells l cs) by
  have:=hh names [] h
  simp only[bind_pure]
  exact this
 intro l
 induction l with
 | nil=>intro cs _;rfl
 | cons x l ih=>
  intro cs hl
  obtain ⟨n,k⟩:=x
  rw[List.forIn_cons]
  by_cases hk:k=.free
  ·subst hk
   obtain ⟨c,hc⟩:=hl (n,.free) List.mem_cons_self rfl
   have e1:cellOf env n=pure c:=by unfold cellOf;rw[hc]
   have ec:clOf env.cells ((n,NameKind.free)::l) cs=clOf env.cells l ((n,c)::cs):=by
    show (if NameKind.free=NameKind.free then _ else _)=_
    rw[if_pos rfl,hc];rfl
   rw[ec]
   simp only[e1,pure_bind,beq_self_eq_true,if_true]
   exact ih _ fun y hy=>hl y (List.mem_cons_of_mem _ hy)
  ·have hb:(k == NameKind.free)=false:=by cases k<;>first|rfl|exact absurd rfl hk
   have ec:clOf env.cells ((n,k)::l) cs=clOf env.cells l cs:=by
    show (if k=NameKind.free then _ else _)=_
    rw[if_neg hk]
   rw[ec]
   simp only[hb,pure_bind,Bool.false_eq_true,if_false]
   exact ih _ fun y hy=>hl y (List.mem_cons_of_mem _ hy)
theorem qbw {cells:List (Str×Addr)}:∀ {l:List (Str×NameKind)}{cs:List (Str×Addr)},(∀ x∈l,x.2=.free→∃ c,cells.lookup x.1=some c)→(∀ p∈cs,cells.lookup p.1=some p.2)→∀ p∈clOf cells l cs,cells.lookup p.1=some p.2
 | [],_,_,h=>h
 | (n,k)::r,cs,hl,h=>by
  unfold clOf
  split
  ·rename_i hk
   refine qbw (fun x hx=>hl x (List.mem_cons_of_mem _ hx)) fun p hp=>?_
   rcases List.mem_cons.mp hp with rfl|hp
   ·obtain ⟨c,hc⟩:=hl (n,k) List.mem_cons_self hk
    show cells.lookup n=some ((cells.lookup n).getD 0)
    have hc':cells.lookup n=some c:=hc
    rw[hc'];rfl
   ·exact h p hp
  ·exact qbw (fun x hx=>hl x (List.mem_cons_of_mem _ hx)) h
theorem qb1 {l:List (Str×Addr)}{x:Str} (h:∃ c,(x,c)∈l):∃ c,l.lookup x=some c:=by
 obtain ⟨c,h⟩:=h
 induction l with
 | nil=>cases h
 | cons p r ih=>
  obtain ⟨y,d⟩:=p
  by_cases e:(x == y)=true
  ·exact ⟨d,by rw[List.lookup_cons,e]⟩
  ·have e':(x == y)=false:=by simpa using e
   rcases List.mem_cons.mp h with q|q
   ·cases q;exact absurd (beq_self_eq_true _) e
   ·obtain ⟨c',z⟩:=ih q
    exact ⟨c',by rw[List.lookup_cons,e'];exact z⟩
theorem qcs {cells:List (Str×Addr)}{x:Str}:∀ {l:List (Str×NameKind)}{cs:List (Str×Addr)},((x,NameKind.free)∈l∨∃ c,(x,c)∈cs)→∃ c,(x,c)∈clOf cells l cs
 | [],_,h=>by
  rcases h with h|h
  ·cases h
  ·exact h
 | (n,k)::r,cs,h=>by
  unfold clOf
  split
  ·rename_i hk
   refine qcs ?_
   rcases h with h|⟨c,h⟩
   ·rcases List.mem_cons.mp h with q|q
    ·cases q;exact .inr ⟨_,List.mem_cons_self⟩
    ·exact .inl q
   ·exact .inr ⟨c,List.mem_cons_of_mem _ h⟩
  ·rename_i hk
   refine qcs ?_
   rcases h with h|h
   ·rcases List.mem_cons.mp h with q|q
    ·cases q;exact absurd rfl hk
    ·exact .inl q
   ·exact .inr h
theorem yc8 {env:Env}{x:Str}:∀ {l:List (Str×NameKind)},l.lookup x=some .free→
  (l.map fun (n,k)=>if (k == NameKind.free&&env.scope.kind == .function&&env.kindOf n == some .cell) then (n,NameKind.cell) else (n,k)).lookup x=some .cell∨
  (l.map fun (n,k)=>if (k == NameKind.free&&env.scope.kind == .function&&env.kindOf n == some .cell) then (n,NameKind.cell) else (n,k)).lookup x=some .free
 | [],h=>by simp at h
 | (n,k)::r,h=>by
  rw[List.map_cons]
  cases hx:x == n with
  | true=>
   rw[List.lookup_cons,hx] at h
   cases h
   by_cases hc:(NameKind.free == NameKind.free&&env.scope.kind == .function&&env.kindOf n == some .cell)=true
   ·left;simp only[hc,if_true,List.lookup_cons,hx]
   ·right;simp only[hc,Bool.false_eq_true,if_false,List.lookup_cons,hx]
  | false=>
   rw[List.lookup_cons,hx] at h
   have ih:=yc8 (env:=env) (l:=r) h
   by_cases hc:(k == NameKind.free&&env.scope.kind == .function&&env.kindOf n == some .cell)=true
   ·simp only[hc,if_true,List.lookup_cons,hx];exact ih
   ·simp only[hc,Bool.false_eq_true,if_false,List.lookup_cons,hx];exact ih
theorem ydk {env:Env}{x:Str}:∀ {l:List (Str×NameKind)},(∀ y∈l,y.2≠.cell)→
  ((l.map fun (n,k)=>if (k == NameKind.free&&env.scope.kind == .function&&env.kindOf n == some .cell) then (n,NameKind.cell) else (n,k)).lookup x=some .cell∨
  (l.map fun (n,k)=>if (k == NameKind.free&&env.scope.kind == .function&&env.kindOf n == some .cell) then (n,NameKind.cell) else (n,k)).lookup x=some .free)→(x,NameKind.free)∈l
 | [],_,h=>by simp at h
 | (n,k)::r,hn,h=>by
  rw[List.map_cons] at h
  cases hx:x == n with
  | true=>
   have e:x=n:=by simpa using hx
   subst e
   by_cases hc:(k == NameKind.free&&env.scope.kind == .function&&env.kindOf x == some .cell)=true
   ·have:k=.free:=by
     simp only[Bool.and_eq_true,beq_iff_eq] at hc
     exact hc.1.1
    subst this
    exact List.mem_cons_self
   ·simp only[hc,Bool.false_eq_true,if_false,List.lookup_cons,hx,Option.some.injEq] at h
    rcases h with h|h
    ·exact absurd h (hn (x,k) List.mem_cons_self)
    ·subst h;exact List.mem_cons_self
  | false=>
   have h':(r.map fun (n,k)=>if (k == NameKind.free&&env.scope.kind == .function&&env.kindOf n == some .cell) then (n,NameKind.cell) else (n,k)).lookup x=some .cell∨
     (r.map fun (n,k)=>if (k == NameKind.free&&env.scope.kind == .function&&env.kindOf n == some .cell) then (n,NameKind.cell) else (n,k)).lookup x=some .free:=by
    by_cases hc:(k == NameKind.free&&env.scope.kind == .function&&env.kindOf n == some .cell)=true
    ·simp only[hc,if_true,List.lookup_cons,hx] at h;exact h
    ·simp only[hc,Bool.false_eq_true,if_false,List.lookup_cons,hx] at h;exact h
   exact List.mem_cons_of_mem _ (ydk (fun y hy=>hn y (List.mem_cons_of_mem _ hy)) h')
def qay (X:Cx) (M:List Str) (scope:Scope) (C:Addr) (fp:List Addr) (s2:Shared) (H2:Hp):Cx:=
 {prog:=X.prog,w:=X.w,K:=X.K,mg:=X.mg,base:=X.base,A:=X.A,N:=M,s₀:=s2,H₀:=H2,env:=compEnvC scope (clOf X.env.cells scope.names []) C X.env,
  outer:=X.stack,stack:=X.stack,ex:=fp,fn:=fun _=>false,calm:=X.calm,pn:=[],xe:=fun _ _=>False }
def capS (ix:List (Option Nat)) (σ:St):St:=ix.map fun o=>match o with
 | none=>none
 | some j=>(σ[j]?).getD none
structure CompOk (N M:List Str) (ix:List (Option Nat)) (sc xs:Scope):Prop where
 kind:sc.kind=.function
 len:M.length=ix.length
 nocell:∀ y∈sc.names,y.2≠.cell
 loc:∀ y∈sc.names,y.2=.local→sc.names.lookup y.1=some .local
 fr:∀ y∈sc.names,y.2=.free→xs.names.lookup y.1=some .cell∨xs.names.lookup y.1=some .free
 cap:∀ (i:Nat) (j:Nat),ix[i]?=some (some j)→∃ x,M[i]?=some x∧N[j]?=some x∧sc.names.lookup x=some .free
def ygk (N M:List Str) (ix:List (Option Nat)) (sc xs:Scope):Bool:=
 decide (sc.kind=.function)&&decide (M.length=ix.length)&&sc.names.all (fun y=>decide (y.2≠.cell))&&sc.names.all (fun y=>decide (y.2≠.local)||decide (sc.names.lookup y.1=some .local)) &&
 sc.names.all (fun y=>decide (y.2≠.free)||decide (xs.names.lookup y.1=some .cell)||decide (xs.names.lookup y.1=some .free)) &&
 (List.range ix.length).all (fun i=>match ix[i]? with
  | some (some j)=>match M[i]? with
   | some x=>decide (N[j]?=some x)&&decide (sc.names.lookup x=some .free)
   | none=>false
  | _=>true)
theorem yam {N M:List Str}{ix:List (Option Nat)}{sc xs:Scope} (h:ygk N M ix sc xs=true):CompOk N M ix sc xs:=by
 unfold ygk at h
 simp only[Bool.and_eq_true,List.all_eq_true,decide_eq_true_eq,Bool.or_eq_true] at h
 obtain ⟨⟨⟨⟨⟨h1,h2⟩,h3⟩,h4⟩,h5⟩,h6⟩:=h
 refine ⟨h1,h2,h3,fun y hy e=>?_,fun y hy e=>?_,fun i j e=>?_⟩
 ·rcases h4 y hy with q|q
  ·exact absurd e q
  ·exact q
 ·rcases h5 y hy with (q|q)|q
  ·exact absurd e q
  ·exact .inl q
  ·exact .inr q
 ·have hi:i<ix.length:=(List.getElem?_eq_some_iff.mp e).1
  have q:=h6 i (List.mem_range.mpr hi)
  rw[e] at q
  cases hm:M[i]? with
  | none=>rw[hm] at q;cases q
  | some x=>
   rw[hm] at q
   simp only[Bool.and_eq_true,decide_eq_true_eq] at q
   exact ⟨x,rfl,q.1,q.2⟩
section
variable {X:Cx}
def PTs (X:Cx) (ifs:List Expr) (t:TT):Prop:=
 ∀ (pins:List (Addr×Obj)) (s:Shared) (σ:St) (H:Hp) (Q:Bool→Hp→Prop),Inv X pins σ H s→t σ H Q→
  wpAny (model X.prog X.w) X.A (forIn ifs true fun c r=>if r=true then do let ok ← isTrue c X.env (eval c X.env);pure (ForInStep.yield ok) else pure (ForInStep.yield r)) (TP X pins σ Q) X.xe s
def tYes:TT:=fun _ H Q=>Q true H
theorem qbe:PTs X [] tYes:=fun _ _ _ H _ I h=>wpAny_tests_nil ⟨H,I,h⟩
theorem ycl {c:Expr}{t:TT} (h:PT X c t):PTs X [c] t:=fun pins s σ H Q I hq=>wpAny_tests_one (h pins s σ H Q I hq)
end
theorem Un.butNew {fs ex:List Addr}{H H':Hp}{h h1 h2:Heap}{C:Addr} (u:Un fs ex H H' h h1) (hC:h.objs.size≤C) (sb:Heap.SameBut C h1 h2):Un fs ex H H' h h2:=by
 have ne:∀ b o,h.get? b=some o→b≠C:=fun b o e=>Nat.ne_of_lt (Nat.lt_of_lt_of_le (Heap.lt_size e) hC)
 refine ⟨fun b o e n h3 h4=>(sb.2 b (ne b o e)).trans (u.keep b o e n h3 h4),fun b o e n h3 h4=>?_,u.free,fun b o e h4=>?_,u.tups,u.frzs,u.tbls⟩
 ·obtain ⟨sl,q⟩:=u.slot b o e n h3 h4
  exact ⟨sl,(sb.2 b (ne b o e)).trans q⟩
 ·obtain ⟨o',q⟩:=u.there b o e h4
  exact ⟨o',(sb.2 b (ne b o e)).trans q⟩
section
variable {X:Cx}{pins:List (Addr×Obj)}{σ:St}{H2:Hp}{s2:Shared}{M:List Str}{ix:List (Option Nat)}{scope:Scope}{fp:List Addr}
theorem comp_ok {C:Addr} (I:Inv X pins σ H2 s2) (ck:CompOk X.N M ix scope X.env.scope) (hC:s2.heap.objs.size≤C) (f2:∀ b∈fp,FpOk X pins H2 b) (hfp:∀ b∈fp,b<s2.heap.objs.size):(qay X M scope C fp s2 H2).Ok:=by
 have hfree:∀ x∈scope.names,x.2=.free→∃ c,X.env.cells.lookup x.1=some c:=fun x hx e=>I.ok.has x.1 (ck.fr x hx e)
 have snd:∀ x c,(clOf X.env.cells scope.names []).lookup x=some c→X.env.cells.lookup x=some c:=fun x c e=>qbw (cs:=[]) hfree (by intro p hp;cases hp) (x,c) (PySem.mem_of_lookup e)
 refine ⟨I.ok.mod,ck.kind,I.ok.glob,I.ok.blt,hC,fun x y c h1 h2=>I.ok.inj x y c (snd x c h1) (snd y c h2),fun x hx=>?_,(by intro x c h;cases h),I.ok.hd,I.ok.frames,.inl rfl,fun b hb=>⟨?_,fun x c e=>?_⟩,fun b o e=>I.bs b o e,
  Nat.le_trans I.ok.bsz I.sz,fun b o e hb=>?_,fun b hb hb2=>?_,I.stack,I.stkFree⟩
 ·exact qb1 (qcs (.inl (ydk ck.nocell hx)))
 ·exact Nat.ne_of_lt (Nat.lt_of_lt_of_le (hfp b hb) hC)
 ·exact (f2 b hb).2.2.2.2.1 x c (snd x c e)
 ·rcases (f2 b hb).2.2.2.1 with z|z
  ·exact I.ok.noex b o e z
  ·exact absurd (Nat.lt_of_lt_of_le (Heap.lt_size e) (Nat.le_trans I.ok.bsz z)) (Nat.lt_irrefl _)
 ·obtain ⟨_,n1,n2,_⟩:=f2 b hb
  rcases List.mem_cons.mp (I.stkSub b hb2) with z|z
  ·exact n1 z
  ·exact n2 z
theorem comp_inv {C D:Addr}{h1:Heap}{tk:Nat} (I:Inv X pins σ H2 s2) (ck:CompOk X.N M ix scope X.env.scope) (hC:s2.heap.objs.size≤C) (hD:s2.heap.objs.size≤D) (hDC:C≠D) (f2:∀ b∈fp,FpOk X pins H2 b) (hfp:∀ b∈fp,b<s2.heap.objs.size)
  (old:∀ b o,s2.heap.get? b=some o→h1.get? b=some o) (hn:h1.Ns C fun _=>none) (hnew:h1.get? D=some { cls:=.type "list",data:=.seq #[] }) :
  Inv (qay X M scope C fp s2 H2) [] (capS ix σ) (upd H2 D (.lst [])) { s2 with heap:=h1,toks:=tk }:=by
 have hfree:∀ x∈scope.names,x.2=.free→∃ c,X.env.cells.lookup x.1=some c:=fun x hx e=>I.ok.has x.1 (ck.fr x hx e)
 have snd:∀ x c,(clOf X.env.cells scope.names []).lookup x=some c→X.env.cells.lookup x=some c:=fun x c e=>qbw (cs:=[]) hfree (by intro p hp;cases hp) (x,c) (PySem.mem_of_lookup e)
 have fD:H2 D=none:=I.hok.fresh hD
 refine ⟨comp_ok I ck hC f2 hfp,rfl,I.bare,Un.laid old hD fD,⟨_,hn,fun i x v e1 e2 e3=>?_⟩,fun x c e=>?_,?_,fun x c e=>?_,(by intro p hp;cases hp),I.hok.laid (o:=.lst []) old hD ⟨Nat.zero_le _,[],0,.nil,hnew⟩,?_⟩
 ·obtain ⟨j,hj,hv⟩:∃ j,ix[i]?=some (some j)∧σ[j]?=some (some v):=by
   unfold capS at e2
   rw[List.getElem?_map] at e2
   cases q:ix[i]? with
   | none=>rw[q] at e2;cases e2
   | some o=>
    rw[q] at e2
    cases o with
    | none=>cases e2
    | some j=>
     refine ⟨j,rfl,?_⟩
     have e2':(σ[j]?).getD none=some v:=Option.some.inj e2
     cases z:σ[j]? with
     | none=>rw[z] at e2';cases e2'
     | some y=>rw[z] at e2';rw[show y=some v from e2']
  obtain ⟨y,hm,hN,hf⟩:=ck.cap i j hj
  have e1':M[i]?=some x:=e1
  rw[hm] at e1';cases e1'
  obtain ⟨m,hnl,hl⟩:=I.loc
  have hmem:(x,NameKind.free)∈scope.names:=PySem.mem_of_lookup hf
  have hk:=ck.fr _ hmem rfl
  obtain ⟨u,ru,lk⟩:=hl j x v hN hv (hk.elim (fun z=>.inr (.inl z)) fun z=>.inr (.inr z))
  refine ⟨u,ru,.inr ⟨yc8 hf,?_⟩⟩
  rcases lk with ⟨kl,_⟩|⟨_,c,hc,hcell⟩
  ·have kl':X.env.scope.names.lookup x=some .local:=kl
   rcases hk with z|z
   ·rw[z] at kl';cases kl'
   ·rw[z] at kl';cases kl'
  ·obtain ⟨c2,h2⟩:=qb1 (qcs (cells:=X.env.cells) (cs:=[]) (.inl hmem))
   have h3:=snd x c2 h2
   rw[hc] at h3;cases h3
   obtain ⟨o,ho,hd⟩:=hcell
   exact ⟨c,h2,o,old c o ho,hd⟩
 ·obtain ⟨v,o,ho,hd⟩:=I.cell x c (snd x c e)
  exact ⟨v,o,old c o ho,hd⟩
 ·show upd H2 D (.lst []) C=none
  rw[qad hDC]
  exact I.hok.fresh hC
 ·show upd H2 D (.lst []) c=none
  obtain ⟨v,z⟩:=I.cell x c (snd x c e)
  rw[qad (Nat.ne_of_lt (Nat.lt_of_lt_of_le z.lt hD))]
  exact I.freeC x c (snd x c e)
 ·show (capS ix σ).length=M.length
  unfold capS
  rw[List.length_map,ck.len]
theorem qgc {C:Addr}{σ':St}{H':Hp}{s':Shared}{h2:Heap}{pl:List (Addr×Obj)} (I:Inv X pins σ H2 s2) (J:Inv (qay X M scope C fp s2 H2) pl σ' H' s') (f2:∀ b∈fp,FpOk X pins H2 b) (sb:Heap.SameBut C s'.heap h2):Inv X pins σ H' { s' with heap:=h2 }:=by
 have hC:s2.heap.objs.size≤C:=J.ok.above
 refine I.call' (s':={ s' with heap:=h2 }) (ch:=fp) J.os (Un.butNew J.base hC sb) (fun a o e=>?_) J.bare fun b hb=>?_
 ·have fr:H' C=none:=J.free
  refine (J.hok a o e).stay (fun c v hc q=>(sb.2 c ?_).trans q) (fun _ q=>q) fun _ _ q=>q
  rintro rfl
  rcases hc with z|z
  ·rw[← z,fr] at e;cases e
  ·rw[fr] at z;cases z
 ·obtain ⟨_,n1,_,n3,n4,n5⟩:=f2 b hb
  exact ⟨n3,n1,n4,n5⟩
end
def qap (l l':St):Prop:=l'.length=l.length∧∀ (i:Nat) (v:V),l[i]?=some (some v)→l'[i]?=some (some v)
theorem qap.refl (l:St):qap l l:=⟨rfl,fun _ _ h=>h⟩
theorem qap.set {l l':St}{i:Nat}{x:Option V} (h:qap l l') (hi:l[i]?=some none):qap l (l'.set i x):=by
 refine ⟨by rw[List.length_set];exact h.1,fun j v e=>?_⟩
 by_cases hj:j=i
 ·subst hj;rw[hi] at e;cases e
 ·rw[List.getElem?_set_ne (Ne.symm hj)];exact h.2 j v e
def tComp (wi:TI) (ix:List (Option Nat)) (g:TG) (tt:TT) (te:TE):TE:=fun σ H Q=>wi σ H fun J H1=>∀ D,H1 D=none→∃ W:Nat→Nat→Hp→Prop,(∃ m,W 0 m (upd H1 D (.lst [])))∧∀ i m H,W i m H→
 (J.stop i H∧Q (.ref D) H)∨(J.go i H∧∃ N:Hp→Prop,(∀ H',N H'→∃ m',m' < m∧W (i+1) m' H')∧∀ x H',J.yld i H x H'→g x (capS ix σ) H' fun σ2 H2=>qap (capS ix σ) σ2∧tt σ2 H2 fun b H3=>
  if b=true then te σ2 H3 fun v H4=>∃ ys,H4 D=some (.lst ys)∧ys.length<sizeLine∧N (upd H4 D (.lst (ys++[v]))) else N H3)
section
variable {X:Cx}{elt tg iter:Expr}{ifs:List Expr}{scope:Scope}{pos:Pos}{wi:TI}{g:TG}{tt:TT}{te:TE}{M:List Str}{ix:List (Option Nat)}
theorem qga {pins:List (Addr×Obj)}{σ:St}{H2 H4:Hp}{s2 s4:Shared}{fp:List Addr}{it C D:Addr}{tn:Nat→Heap→Prop}{J:It}{R:Result→Shared→Prop}{QD:Hp→Prop} (I2:Inv X pins σ H2 s2) (hc:X.calm=true)
  (f2:∀ b∈fp,FpOk X pins H2 b) (T:Turn X.prog X.w X.K tg J fp it tn)
  (hg:PG (qay X M scope C fp s2 H2) tg g) (ht:PTs (qay X M scope C fp s2 H2) ifs tt) (he:PE (qay X M scope C fp s2 H2) elt te)
  (I4:Inv (qay X M scope C fp s2 H2) [] (capS ix σ) H4 s4) (st4:tn 0 s4.heap) (fr4:∀ b∈fp,H4 b=none) (W:Nat→Nat→Hp→Prop) (m0:Nat) (w0:W 0 m0 H4)
  (turn:∀ i m H,W i m H→(J.stop i H∧QD H)∨(J.go i H∧∃ N:Hp→Prop,(∀ H',N H'→∃ m',m' < m∧W (i+1) m' H')∧∀ x H',J.yld i H x H'→g x (capS ix σ) H' fun σ2 H2=>qap (capS ix σ) σ2∧tt σ2 H2 fun b H3=>
   if b=true then te σ2 H3 fun v H4=>∃ ys,H4 D=some (.lst ys)∧ys.length<sizeLine∧N (upd H4 D (.lst (ys++[v]))) else N H3))
  (fin:∀ H' s',Inv (qay X M scope C fp s2 H2) [] (capS ix σ) H' s'→QD H'→R (.ok .next) s') :
  codeAny (model X.prog X.w) X.A (.compLoop (.ListComp elt [⟨tg,iter,ifs,0⟩] scope pos) 0 (.ref it) (.ref D) (compEnvC scope (clOf X.env.cells scope.names []) C X.env)) R s4:=by
 have stat:∀ {H':Hp},(∀ b∈fp,H' b=none)→∀ b∈fp,FpOk (qay X M scope C fp s2 H2) [] H' b:=fun {H'} hn b hb=>
  ⟨hn b hb,(I4.ok.exf b hb).1,I4.ok.exfs b hb,.inl hb,(I4.ok.exf b hb).2,by intro p hp;cases hp⟩
 refine codeAny_loop rfl (fun n s'=>∃ i H',Inv (qay X M scope C fp s2 H2) [] (capS ix σ) H' s'∧tn i s'.heap∧(∀ b∈fp,H' b=none)∧W i n H') ?_ m0 ⟨0,H4,I4,st4,fr4,w0⟩
 rintro n s5 ⟨i,H5,I5,st5,fr5,w5⟩
 show wpAny (model X.prog X.w) X.A ((compTurn (.ListComp elt [⟨tg,iter,ifs,0⟩] scope pos) 0 (.ref it) (.ref D) (compEnvC scope (clOf X.env.cells scope.names []) C X.env)).onRaise (fun x=>do noteFrame x (compEnvC scope (clOf X.env.cells scope.names []) C X.env);theTreesLotGoes x)) _ _ s5
 refine wpAny_noted ?_
 rw[compTurn_list]
 refine wpAny_bind (wpAny_standAt (wpAny_bind ?_))
 rcases turn i n H5 w5 with ⟨stop,qn⟩|⟨go,N,hN,step⟩
 ·refine thn (T.done (qay X M scope C fp s2 H2) rfl rfl rfl hc i [] s5 (capS ix σ) H5 _ I5 (stat fr5) st5 stop) fun r s6 ⟨hr,I6⟩=>?_
  subst hr
  exact wpAny_pure (fin H5 s6 I6 qn)
 ·refine thn (T.item (qay X M scope C fp s2 H2) rfl rfl rfl hc i [] s5 (capS ix σ) H5 _ I5 (stat fr5) st5 go) fun r s6 ⟨u,hr,h6⟩=>?_
  subst hr
  refine wpAny_bind (thn h6 fun _ s7 ⟨x,H7,I7,r7,y7,st7,fr7⟩=>?_)
  have I7':=I7.pinned (stat fr7) (T.obj _ _ st7)
  refine wpAny_bind (wpAny_mono (hg _ s7 (capS ix σ) H7 x u _ I7' r7 (step x H7 y7)) (fun _ s8 ⟨σ8,H8,I8,k8,q8⟩=>?_) fun _ _ z=>False.elim z)
  refine wpAny_bind (wpAny_mono (ht _ s8 σ8 H8 _ I8 q8) (fun ok s9 ⟨H9,I9,q9⟩=>?_) fun _ _ z=>False.elim z)
  have again:∀ {Ha:Hp}{sa:Shared},Inv (qay X M scope C fp s2 H2) ([]++qdz fp s7.heap) σ8 Ha sa→N Ha→∃ m,m<n∧∃ i H',Inv (qay X M scope C fp s2 H2) [] (capS ix σ) H' sa∧tn i sa.heap∧(∀ b∈fp,H' b=none)∧W i m H':=fun {Ha sa} Ia na=>by
   obtain ⟨m',hm,wa⟩:=hN Ha na
   refine ⟨m',hm,i+1,Ha,Ia.unpinned.weak k8.1.symm k8.2,T.keep _ _ _ st7 fun b hb o e=>(Ia.pin (b,o) (List.mem_append_right _ (List.mem_append_right _ (ybx hb e)))).1,fun b hb=>?_,wa⟩
   obtain ⟨o,e,d⟩:=T.obj _ _ st7 b hb
   exact (Ia.pin (b,o) (List.mem_append_right _ (List.mem_append_right _ (ybx hb e)))).2.1
  cases ok with
  | false=>exact wpAny_pure ⟨rfl,again I9 q9⟩
  | true=>
   refine wpAny_bind (wpAny_bind (wpAny_mono (he _ s9 σ8 H9 _ I9 q9) (fun xv s10 ⟨v,H10,I10,r10,ys,hD,hl,q10⟩=>?_) fun _ _ z=>False.elim z))
   refine wpAny_bind (wpAny_mono (ybk (X:=qay X M scope C fp s2 H2) _ s10 σ8 H10 (.ref D) [v] (.ref D) [xv] (fun _ H'=>N H') I10 rfl (.cons r10 .nil) ⟨D,ys,v,rfl,rfl,hD,hl,q10⟩) (fun _ s11 ⟨_,H11,I11,_,q11⟩=>?_) fun _ _ z=>False.elim z)
   exact wpAny_pure (wpAny_pure ⟨rfl,again I11 q11⟩)
theorem qdx {pins:List (Addr×Obj)}{σ:St}{H2:Hp}{s2:Shared}{fp:List Addr}{it:Addr}{tn:Nat→Heap→Prop}{J:It}{E:Value→Shared→Prop}{QD:Addr→Hp→Prop}{RR:Value→Addr→Result→Shared→Prop} (I2:Inv X pins σ H2 s2) (hc:X.calm=true)
  (ck:CompOk X.N M ix scope X.env.scope) (f2:∀ b∈fp,FpOk X pins H2 b) (T:Turn X.prog X.w X.K tg J fp it tn) (st2:tn 0 s2.heap)
  (hg:∀ C fp s2 H2,PG (qay X M scope C fp s2 H2) tg g) (ht:∀ C fp s2 H2,PTs (qay X M scope C fp s2 H2) ifs tt) (he:∀ C fp s2 H2,PE (qay X M scope C fp s2 H2) elt te)
  (rd:∀ D,H2 D=none→∃ W:Nat→Nat→Hp→Prop,(∃ m,W 0 m (upd H2 D (.lst [])))∧∀ i m H,W i m H→
   (J.stop i H∧QD D H)∨(J.go i H∧∃ N:Hp→Prop,(∀ H',N H'→∃ m',m' < m∧W (i+1) m' H')∧∀ x H',J.yld i H x H'→g x (capS ix σ) H' fun σ2 H2=>qap (capS ix σ) σ2∧tt σ2 H2 fun b H3=>
    if b=true then te σ2 H3 fun v H4=>∃ ys,H4 D=some (.lst ys)∧ys.length<sizeLine∧N (upd H4 D (.lst (ys++[v]))) else N H3))
  (fin:∀ D C H' s',QD D H'→(∃ m,s'.heap.Ns C m)→(∀ h2,Heap.SameBut C s'.heap h2→Inv X pins σ H' { s' with heap:=h2 })→FpOk X pins H' C→RR (.ref D) C (.ok .next) s') :
  wpAny (model X.prog X.w) X.A (newList []) (fun acc s3=>wpAny (model X.prog X.w) X.A (newFunctionEnv scope X.env.globals (clOf X.env.cells scope.names []) [] X.env.qual none .none (some X.env)) (fun cenv s4=>
   codeAny (model X.prog X.w) X.A (.compStart (.ListComp elt [⟨tg,iter,ifs,0⟩] scope pos) 0 (.ref it) acc { cenv with scope:=relabel scope X.env }) (RR acc cenv.locals) s4) E s3) E s2:=by
 have hfp:∀ b∈fp,b<s2.heap.objs.size:=fun b hb=>by obtain ⟨o,e,_⟩:=T.obj 0 _ st2 b hb;exact Heap.lt_size e
 refine wpAny_newObj_type (wpAny_newFunctionEnv ck.nocell (by intro y hy;simp at hy) (fun h1 hn1 hsb1=>?_) ck.kind)
 dsimp only at hn1 hsb1 ⊢
 generalize hP:s2.heap.push { cls:=.type "list",dict:=none,data:=.seq ([]:List Value).toArray }=hh at hn1 hsb1 ⊢
 have hCz:hh.objs.size=s2.heap.objs.size+1:=by rw[← hP,Heap.size_push]
 have hCD:hh.objs.size≠s2.heap.objs.size:=by omega
 have old:∀ b o,s2.heap.get? b=some o→h1.get? b=some o:=fun b o e=>by
  have hb:b<s2.heap.objs.size:=Heap.lt_size e
  exact hsb1.extBut b o (Nat.ne_of_lt (by rw[hCz];exact Nat.lt_succ_of_lt hb)) (Heap.get?_push_of_some _ (hP ▸ Heap.get?_push_of_some _ e))
 have hnew:h1.get? s2.heap.objs.size=some { cls:=.type "list",data:=.seq #[] }:=hsb1.extBut _ _ hCD.symm (Heap.get?_push_of_some _ (hP ▸ Heap.get?_push_size _ rfl))
 obtain ⟨W,⟨m0,w0⟩,turn⟩:=rd s2.heap.objs.size (I2.hok.fresh (Nat.le_refl _))
 have I4:=comp_inv (M:=M) (ix:=ix) (scope:=scope) (fp:=fp) (tk:=s2.toks+([]:List (Str×Value)).length) I2 ck (C:=hh.objs.size) (D:=s2.heap.objs.size) (by omega) (Nat.le_refl _) hCD f2 hfp old hn1 hnew
 have st4:tn 0 h1:=T.keep _ _ _ st2 fun b _ o e=>old b o e
 have fr4:∀ b∈fp,upd H2 s2.heap.objs.size (.lst []) b=none:=fun b hb=>by rw[qad (Nat.ne_of_lt (hfp b hb))];exact (f2 b hb).1
 have lp:codeAny (model X.prog X.w) X.A (.compLoop (.ListComp elt [⟨tg,iter,ifs,0⟩] scope pos) 0 (.ref it) (.ref s2.heap.objs.size) (compEnvC scope (clOf X.env.cells scope.names []) hh.objs.size X.env)) (RR (.ref s2.heap.objs.size) hh.objs.size) { s2 with heap:=h1,toks:=s2.toks+([]:List (Str×Value)).length }:=by
  refine qga (QD:=QD s2.heap.objs.size) I2 hc f2 T (hg _ _ _ _) (ht _ _ _ _) (he _ _ _ _) I4 st4 fr4 W m0 w0 turn fun H' s' J' q'=>?_
  obtain ⟨m,hm,_⟩:=J'.loc
  exact fin _ _ H' s' q' ⟨m,hm⟩ (fun h2 sb=>qgc I2 J' f2 sb) (I2.fpOk (by omega) J'.free)
 exact codeAny_compStart_list lp (T.self _ 0 _ _ _ st4 lp)
theorem qa1 (hc:X.calm=true) (ck:CompOk X.N M ix scope X.env.scope) (hi:PI X tg iter wi) (hg:∀ C fp s2 H2,PG (qay X M scope C fp s2 H2) tg g) (ht:∀ C fp s2 H2,PTs (qay X M scope C fp s2 H2) ifs tt) (he:∀ C fp s2 H2,PE (qay X M scope C fp s2 H2) elt te)
  (hs:∀ x,foldedSetIterable iter X.env x=pure x:=by intro _;rfl):PE X (.ListComp elt [⟨tg,iter,ifs,0⟩] scope pos) (tComp wi ix g tt te):=by
 intro pins s σ H Q I h
 have hfree:∀ x∈scope.names,x.2=.free→∃ c,X.env.cells.lookup x.1=some c:=fun x hx e=>I.ok.has x.1 (ck.fr x hx e)
 rw[eval_ListComp]
 refine wpAny_comprehension_free (use:=none) (cl:=clOf X.env.cells scope.names []) rfl hs (qbm hfree) ck.kind ck.loc (thn (hi pins s σ H _ I h) fun v s1 h1=>thn h1 fun itv s2 h2=>?_)
 obtain ⟨it,fp,tn,J,H2,e,I2,T,st2,f2,rd⟩:=h2
 subst e
 refine qdx (QD:=fun D H'=>Q (.ref D) H') I2 hc ck f2 T st2 hg ht he rd fun D C H' s' q hm hb _=>?_
 obtain ⟨m,hm⟩:=hm
 exact ⟨m,hm,fun h2 sb=>⟨.ref D,H',hb h2 sb,rfl,q⟩⟩
def tCompSet (wi:TI) (ix:List (Option Nat)) (g:TG) (tt:TT) (te:TE) (i:Nat):TS:=fun D σ H=>tComp wi ix g tt te σ H fun x H1=>D.nx (σ.set i (some x)) H1
theorem qgs {i:Nat}{x:Str}{pos' spos:Pos} (hsw:swapsWith (.ListComp elt [⟨tg,iter,ifs,0⟩] scope pos) (some (.Name x pos')) spos.line X.env=pure true) (hN:X.N.Nodup) (hix:X.N[i]?=some x) (hx:Loc X.env.scope x)
  (hc:X.calm=true) (ck:CompOk X.N M ix scope X.env.scope) (hi:PI X tg iter wi) (hg:∀ C fp s2 H2,PG (qay X M scope C fp s2 H2) tg g) (ht:∀ C fp s2 H2,PTs (qay X M scope C fp s2 H2) ifs tt) (he:∀ C fp s2 H2,PE (qay X M scope C fp s2 H2) elt te)
  (hs:∀ x,foldedSetIterable iter X.env x=pure x:=by intro _;rfl) (hf:X.fn x=true∨X.env.scope.names.lookup x=some .local:=by first|exact .inl rfl|exact .inr rfl|assumption) :
  PS X (.Assign [.Name x pos'] (.ListComp elt [⟨tg,iter,ifs,0⟩] scope pos) spos) (tCompSet wi ix g tt te i):=by
 intro pins s σ H D0 I h
 have hfree:∀ x∈scope.names,x.2=.free→∃ c,X.env.cells.lookup x.1=some c:=fun x hx e=>I.ok.has x.1 (ck.fr x hx e)
 rw[exec_Assign_Name_used _ _ _ _ hsw]
 refine wpAny_bind (wpAny_standAt (wpAny_bind ?_))
 show wpAny _ X.A (do let _ ← comprehension (.ListComp elt [⟨tg,iter,ifs,0⟩] scope pos) scope X.env _ (newList []) false (eval iter X.env) (some (assign (.Name x pos') X.env))) _ _ s
 refine wpAny_bind (wpAny_mono (wpAny_comprehension_free (use:=some (assign (.Name x pos') X.env)) (Q:=fun _ s'=>SP X pins D0 .next s') (cl:=clOf X.env.cells scope.names []) rfl hs (qbm hfree) ck.kind ck.loc
  (thn (hi pins s σ H _ I h) fun v s1 h1=>thn h1 fun itv s2 h2=>?_)) (fun _ s' hq=>wpAny_pure (wpAny_pure hq)) fun _ _ e=>e)
 obtain ⟨it,fp,tn,J,H2,e,I2,T,st2,f2,rd⟩:=h2
 subst e
 refine qdx (QD:=fun D H'=>D0.nx (σ.set i (some (.ref D))) H') I2 hc ck f2 T st2 hg ht he rd fun D C H' s' q hm hb fpk=>?_
 obtain ⟨m,hm⟩:=hm
 obtain ⟨g0,g1,g2,g3,g4,g5⟩:=fpk
 have I5:Inv X pins σ H' s':=hb s'.heap ⟨rfl,fun _ _=>rfl⟩
 show wpAny (model X.prog X.w) X.A (assign (.Name x pos') X.env (.ref D)) _ _ s'
 refine wpAny_assign_Name (yef (v:=.ref D) I5 hN hix hx rfl (fun s6 I6 ⟨a,sb,ha⟩=>?_) hf)
 have hCa:C≠a:=by
  rcases ha with ha|ha
  ·rw[ha];exact g1
  ·exact (g4 x a ha).symm
 refine ⟨m,hm.sameBut sb hCa,fun h2 sb2=>⟨_,H',I6.turned (t':=s6.toks) (fun b o hb e=>(sb2.2 b hb).trans e) g0 g1 g3 g4 g5,q⟩⟩
end
def FnAt (K:PySem.W.Frag) (mg:Str→Option Value) (x:Str) (st:Stmt) (ps:List Str):Prop:=∃ f fd,mg x=some (.ref f)∧Fun K x x st f fd∧qes K fd ps []
def Has (P:Program) (w:World) (K:PySem.W.Frag) (mg:Str→Option Value) (base:Heap) (k:Nat) (x:Str) (ps:List Str) (sp:Sp):Prop:=
 ∃ f fd,mg x=some (.ref f)∧PySem.W.keepIn K (.ref f)=true∧qes K fd ps []∧FnOk P w K mg base CX0 k f fd ps sp
section
variable {P:Program}{w:World}{K:PySem.W.Frag}{mg:Str→Option Value}{base:Heap}
theorem Has.of {x:Str}{st:Stmt}{ps N:List Str}{k:Nat}{sp:Sp} (F:FnAt K mg x st ps) (S:FnScope N ps (qaf st)) (len:∀ vs H Q E,sp vs H Q E→vs.length=ps.length)
  (hbody:∀ (f:Addr) (cdv:Value) (A:Around) (outer:List Env) (s:Shared) (H:Hp) (vs:List V) (Q:VK) (E:XK),Room k (A.deeper (envOfC x (qaf st) s.heap.objs.size f cdv))→sp vs H Q E→
   ∃ t,PSs (cxOf CX0 P w K mg base N x (qaf st) f cdv A outer s H E).nox (yar st) t∧t { nx:=fun _ H'=>Q .non H',rt:=Q } (start N vs) H):Has P w K mg base (k+1) x ps sp:=by
 obtain ⟨f,fd,h1,h2,h3⟩:=F
 exact ⟨f,fd,h1,h2.kp,h3,h2.ok S len fun cdv A outer s H vs Q E hr h=>hbody f cdv A outer s H vs Q E hr h⟩
theorem Has.imp {x:Str}{ps:List Str}{k:Nat}{sp sp':Sp} (h:Has P w K mg base k x ps sp) (i:∀ vs H Q E,sp' vs H Q E→sp vs H Q E):Has P w K mg base k x ps sp':=by
 obtain ⟨f,fd,h1,h2,h3,h4⟩:=h
 exact ⟨f,fd,h1,h2,h3,h4.imp i⟩
end
section
variable {X:Cx}
theorem qar {k m:Nat}{x:Str}{ps:List Str}{sp:Sp}{e:Expr}{es:List Expr}{t:TA}{p pos:Pos} (h:Has X.prog X.w X.K X.mg X.base k x ps sp) (hr:Room m X.A) (ha:PA X (e::es) t) (hk:k≤m:=by decide) (hg:Gl X x:=by rfl)
  (hdb:(x == ("__debug__" : Str))=false:=by decide) (he:starEach (e::es) X.env=(false,eval e X.env)::starEach es X.env:=by rfl) (hpl:(backTo pos (starEach es X.env)).any (·.1)=false:=by rfl) :
  PE X (.Call (.Name x p) (e::es) [] pos) (qe8 sp [] E0 t):=by
 obtain ⟨f,fd,h1,h2,h3,h4⟩:=h
 exact pe_call h4 (hr.mono hk) hg h1 h2 h3 .nil pass0 ha hdb he hpl
end
def qez:List Str:=["len","abs","max","min","repr","isinstance","int","bool","str","tuple","list","dict","range","enumerate","sorted","sum"]
structure Bl (mg:Str→Option Value):Prop where
 all:∀ x∈qez,mg x=none
theorem Bl.of {mg:Str→Option Value} (B:Bl mg) {x:Str} (h:qez.contains x=true):mg x=none:=B.all x (by simpa using h)
section
variable {X:Cx}
def rIsi (K:PySem.W.Frag):List V→Hp→VK→Prop:=fun xs H Q=>∃ x T t b,xs=[x,.ty T]∧TyOf K H x t∧PySem.W.kitOne K t (.type T)=some b∧Q (.bl b) H
theorem qa0:ybv X (.builtin "isinstance") (rIsi X.K):=by
 intro pins s σ H xs us Q I r h
 obtain ⟨x,T,t,b,rfl,ht,hk,q⟩:=h
 cases r with
 | cons r rr=>
  cases rr with
  | cons r' rr=>
   cases rr
   cases r'
   exact yf5 I r ht hk fun tk=>⟨.bl b,H,I.tok _,rfl,q⟩
end
def tCut (t u:TS):TS:=fun D σ H=>∃ R:St→Hp→Prop,t { D with nx:=R } σ H∧∀ σ' H',R σ' H'→u D σ' H'
theorem pss_cut {X:Cx}{st:Stmt}{rest:List Stmt}{t u:TS} (h1:PS X st t) (h2:PSs X rest u):PSs X (st::rest) (tCut t u):=by
 intro pins s σ H D I h
 obtain ⟨R,h,hR⟩:=h
 refine wpAny_execs_cons (thn (h1 pins s σ H { D with nx:=R } I h) fun f s1 q=>?_)
 cases f with
 | next=>
  obtain ⟨σ',H',I',q⟩:=q
  exact h2 pins s1 σ' H' D I' (hR σ' H' q)
 | ret v=>exact q
 | brk=>exact q
 | cont=>exact q
def tMid (t:TE):TE:=fun σ H Q=>∃ R:VK,t σ H R∧∀ v H',R v H'→Q v H'
theorem pe_mid {X:Cx}{e:Expr}{t:TE} (h:PE X e t):PE X e (tMid t):=by
 intro pins s σ H Q I hw
 obtain ⟨R,h1,h2⟩:=hw
 exact thn (h pins s σ H R I h1) fun u s1 ⟨v,H1,I1,r,q⟩=>⟨v,H1,I1,r,h2 v H1 q⟩
theorem Same.upd {H H1:Hp}{p:Addr}{o:HO} (s:Same H H1) (h:H1 p=none):Same H (upd H1 p o):=fun b u e=>by
 have e1:=s b u e
 rw[qad (yab e1 h)];exact e1
theorem Same.at {H H1:Hp}{p:Addr}{o:HO} (s:Same H H1) (h:H p=none):Same H (L2.upd H1 p o):=fun b u e=>by
 rw[qad (yab e h)];exact s b u e
theorem yco {n:Nat} (h:n≤100000):n≤sizeLine:=Nat.le_trans h (by decide)
theorem qa9 {n:Nat} (h:n≤100000):n<sizeLine:=Nat.lt_of_le_of_lt h (by decide)
theorem qae {α:Type}{xs:List α}{i:Int}{v:α} (j:Nat) (h:xs[j]?=some v) (e:i=(j:Int):=by rfl):atI xs i=some v:=by
 rw[e];exact ydn h
theorem ya2 {J:It}{n:Nat}{g:TG}{tt:TT}{te:TE}{ix:List (Option Nat)}{σ:St}{H:Hp}{QD:Hp→Prop}{D:Addr} (Pv:Nat→Hp→Prop) (h0:Pv 0 (upd H D (.lst []))) (stop:∀ H',Pv n H'→J.stop n H'∧QD H')
  (step:∀ i H',i<n→Pv i H'→J.go i H'∧∀ x H2,J.yld i H' x H2→g x (capS ix σ) H2 fun σ2 H3=>qap (capS ix σ) σ2∧tt σ2 H3 fun b H4=>
   if b=true then te σ2 H4 fun v H5=>∃ ys,H5 D=some (.lst ys)∧ys.length<sizeLine∧Pv (i+1) (upd H5 D (.lst (ys++[v]))) else Pv (i+1) H4) :
  ∃ W:Nat→Nat→Hp→Prop,(∃ m,W 0 m (upd H D (.lst [])))∧∀ i m H,W i m H→
   (J.stop i H∧QD H)∨(J.go i H∧∃ N:Hp→Prop,(∀ H',N H'→∃ m',m' < m∧W (i+1) m' H')∧∀ x H',J.yld i H x H'→g x (capS ix σ) H' fun σ2 H2=>qap (capS ix σ) σ2∧tt σ2 H2 fun b H3=>
    if b=true then te σ2 H3 fun v H4=>∃ ys,H4 D=some (.lst ys)∧ys.length<sizeLine∧N (upd H4 D (.lst (ys++[v]))) else N H3):=by
 refine ⟨fun i m H=>m=n-i∧i≤n∧Pv i H,⟨n,by simp,Nat.zero_le _,h0⟩,?_⟩
 rintro i m H ⟨rfl,hi,p⟩
 by_cases hlt:i<n
 ·obtain ⟨g1,g2⟩:=step i H hlt p
  exact .inr ⟨g1,Pv (i+1),fun H' p'=>⟨n-(i+1),by omega,rfl,hlt,p'⟩,g2⟩
 ·have e:i=n:=by omega
  subst e
  exact .inl (stop H p)
theorem qfk {xs:List V} (k:Nat):cutV xs none (some (k:Int))=xs.take k:=by
 unfold cutV
 rw[HT.sIx_none,HT.sIx_nat,List.drop_zero,Nat.sub_zero]
 by_cases h:k≤xs.length
 ·rw[Nat.min_eq_left h]
 ·rw[Nat.min_eq_right (by omega),List.take_length,List.take_of_length_le (by omega)]
theorem yes {σ:St}{H:Hp}{A B:Hp→Prop} (h:A H):tYes σ H fun b H'=>if b=true then A H' else B H':=iteT (B:=B H) h
section
variable {X:Cx}{K:PySem.W.Frag}
theorem ya7 (h:X.K=K):IxR X (rIxT K):=h ▸ qaj
theorem ycs (h:X.K=K):OpR X (compareOp .NotIn) (rIn K true):=h ▸ qca
theorem ygw {es:List Expr}{k:Nat}{t:TGs}{n:Nat}{pos:Pos} (h:X.K=K) (hc:X.calm=true) (hh:PGs X es t)
  (hn:(assignEach es X.env).length=n:=by rfl) (hst:(assignEach es X.env).findIdx? (·.1)=none:=by rfl):PG X (.Tuple es k pos) (gTup K n t):=by
 subst h;exact ydu hc hh hn hst
end
def rEqD:R2:=fun x y H Q=>∃ dx dy,At H x dx∧At H y dy∧dx.canLay0=true∧dy.canLay0=true∧dx.depth≤60∧Q (.bl (PyData.eqv dx dy)) H
def rNeD:R2:=fun x y H Q=>∃ dx dy,At H x dx∧At H y dy∧dx.canLay0=true∧dy.canLay0=true∧dx.depth≤60∧Q (.bl (!PyData.eqv dx dy)) H
section
variable {X:Cx}
theorem op_eqD {k:Nat} (hr:Room k X.A):OpR X (compareOp .Eq) rEqD:=by
 intro pins s σ H x y v u Q I rx ry h
 obtain ⟨dx,dy,h1,h2,c1,c2,hd,q⟩:=h
 obtain ⟨as,r1⟩:=h1.reads I.hok rx
 obtain ⟨bs,r2⟩:=h2.reads I.hok ry
 have hu:=hr.units
 exact PySem.SeqAt.rcAt_reads r1 r2 c1 c2 (by have:=Nat.min_le_left dx.depth dy.depth;omega) _ _ _ _ ⟨.bl _,H,I,rfl,q⟩
theorem qgk {k:Nat} (hr:Room k X.A):OpR X (compareOp .NotEq) rNeD:=by
 intro pins s σ H x y v u Q I rx ry h
 obtain ⟨dx,dy,h1,h2,c1,c2,hd,q⟩:=h
 obtain ⟨as,r1⟩:=h1.reads I.hok rx
 obtain ⟨bs,r2⟩:=h2.reads I.hok ry
 have hu:=hr.units
 exact PySem.SeqAt.rcNeAt_reads r1 r2 c1 c2 (by have:=Nat.min_le_left dx.depth dy.depth;omega) _ _ _ _ ⟨.bl _,H,I,rfl,q⟩
end
theorem Vals.bls:∀ {bs:List Bool}{us:List Value},Vals (bs.map V.bl) us→us=bs.map Value.bool
 | [],_,.nil=>rfl
 | b::bs,_,.cons r t=>by
  have e:=Vals.bls t
  cases r
  rw[e]
  rfl
end L2
namespace Mx
open PySem L2 PyProof.Rows
section
variable {X:Cx}{es:List Expr}{te:TE}{t:TA}{pos:Pos}
theorem pa_cs {k:Const}{j} (ha:PE X (.Constant k j pos) te) (hr:PA X es t):PA X (.Constant k j pos::es) (qce te t):=qac ha hr rfl
theorem qdo {x:Str} (ha:PE X (.Name x pos) te) (hr:PA X es t):PA X (.Name x pos::es) (qce te t):=qac ha hr rfl
theorem pa_cl {f xs ks} (ha:PE X (.Call f xs ks pos) te) (hr:PA X es t):PA X (.Call f xs ks pos::es) (qce te t):=qac ha hr rfl
end
structure QS (X:Cx) (st:Stmt) (t:TS):Prop where
 of:PS X st t
structure QSs (X:Cx) (ss:List Stmt) (t:TS):Prop where
 of:PSs X ss t
section
variable {X:Cx}{st:Stmt}{rest a b:List Stmt}{t u:TS}{pos:Pos}{e:Expr}{te:TE}
theorem qam:QSs X [] tNext:=⟨pss_nil⟩
theorem yae (h:QS X st t):QSs X [st] t:=⟨yc2 h.of⟩
theorem yac (h:QS X st t) (r:QSs X rest u):QSs X (st::rest) (tSeq t u):=⟨ybr h.of r.of⟩
theorem qdl (h:QS X st t) (r:QSs X rest u):QSs X (st::rest) (tCut t u):=⟨pss_cut h.of r.of⟩
theorem qfp (h:PS X st t):QS X st t:=⟨h⟩
theorem qs_set {i:Nat}{x:Str}{pos':Pos} (hN:X.N.Nodup) (hi:X.N[i]?=some x) (hx:Loc X.env.scope x) (he:PE X e te) (hs:swapsWith e (some (.Name x pos')) pos.line X.env=pure false:=by rfl) (hf:X.fn x=true∨X.env.scope.names.lookup x=some .local:=by first|exact .inl rfl|exact .inr rfl|assumption) :
  QS X (.Assign [.Name x pos'] e pos) (tAsg te (yeb i)):=⟨qcr hN hi hx he hs hf⟩
end
end Mx
namespace L2
open PySem PySem.Spec PyProof.Rows
theorem qau:bootBuiltins "sorted" = some (.builtin "sorted"):=by decide +kernel
theorem qdk:∀ {us:List Value}{ns:List Int},IntsAre us ns→Vals (ns.map V.int) us
 | _,_,.nil=>.nil
 | _,_,.cons n t r=>.cons ⟨t,rfl⟩ (qdk r)
section
variable {X:Cx}
def rSortI:List V→Hp→VK→Prop:=fun xs H Q=>∃ (l:Addr) (ns:List Int),xs=[.ref l]∧H l=some (.lst (ns.map V.int))∧ns.length<64∧∀ (p:Addr) (ns':List Int),H p=none→ns'.Perm ns→ns'.Pairwise (·≤·)→Q (.ref p) (upd H p (.lst (ns'.map V.int)))
theorem qbp:ybv X (.builtin "sorted") rSortI:=by
 intro pins s σ H xs us Q I r h
 obtain ⟨l,ns,rfl,hH,h64,q⟩:=h
 cases r with
 | cons r rr=>
  cases rr
  cases r
  obtain ⟨z,its,n,rv,hl,e⟩:=I.lstM hH
  have hil:its.length=ns.length:=by rw[← hl,List.length_map]
  refine sorted_ints (vs:=its) ⟨_,e,rfl,n,rfl⟩ (ybi rv) (by omega) fun out ns' a1 a2 a3=>?_
  obtain ⟨ep,he⟩:=sortedAll_at s.heap its out
  have hf:H (s.heap.objs.size+1)=none:=I.hok.fresh (Nat.le_succ _)
  refine ⟨.ref (s.heap.objs.size+1),_,I.laid (o:=.lst (ns'.map V.int)) (t':=s.toks) (fun b u g=>sortedAll_old g) (Nat.le_succ _) ?_,rfl,q _ ns' hf a2 a3⟩
  exact ⟨by rw[List.length_map,a2.length_eq];omega,out.toList,ep,qdk a1,by simpa using he⟩
end
theorem qgh:bootBuiltins "all" = some (.builtin "all"):=by decide +kernel
section
variable {X:Cx}
def rAllB:List V→Hp→VK→Prop:=fun xs H Q=>∃ (l:Addr) (bs:List Bool),xs=[.ref l]∧H l=some (.lst (bs.map V.bl))∧Q (.bl (bs.all id)) H
theorem ygt (bs:List Bool):(List.range bs.length).all (fun i=>bs.getD i false)=bs.all id:=by
 rw[Bool.eq_iff_iff,List.all_eq_true,List.all_eq_true]
 constructor
 ·intro h b hb
  obtain ⟨i,hi,e⟩:=List.getElem_of_mem hb
  have:=h i (List.mem_range.mpr hi)
  rw[List.getD_eq_getElem?_getD,List.getElem?_eq_getElem hi] at this
  rw[← e];exact this
 ·intro h i hi
  have hi':=List.mem_range.mp hi
  rw[List.getD_eq_getElem?_getD,List.getElem?_eq_getElem hi']
  exact h _ (List.getElem_mem hi')
theorem truth_bs {P:Program}{w:World}{A:Around} (bs:List Bool):TruthOf P w A (fun i v=>(bs.map Value.bool).toArray[i]?=some v) (fun i=>bs.getD i false):=by
 intro i v s Q E hP hQ
 have hP':(bs.map Value.bool)[i]?=some v:=by simpa using hP
 rw[List.getElem?_map] at hP'
 cases e:bs[i]? with
 | none=>rw[e] at hP';cases hP'
 | some b=>
  rw[e] at hP'
  cases hP'
  have hQ':Q (bs.getD i false) s:=hQ
  rw[List.getD_eq_getElem?_getD,e] at hQ'
  exact wpAny_truthy_bool hQ'
theorem qgp (hc:X.calm=true):ybv X (.builtin "all") rAllB:=by
 intro pins s σ H xs us Q I r h
 obtain ⟨l,bs,rfl,hH,q⟩:=h
 cases r with
 | cons r rr=>
  cases rr
  cases r
  obtain ⟨z,its,n,rv,hl,e⟩:=I.lstM hH
  have hi:=rv.bls
  subst hi
  have hlt:l<s.heap.objs.size:=Heap.lt_size e
  refine call_all_walk (wpAny_pyIter_list (items:=(bs.map Value.bool).toArray) ⟨_,e,rfl,n,rfl⟩ ⟨_,_,_,_,_,_,_,rfl,Walks.list (by simpa using I.ok.hd hc) s.heap.objs.size l (Nat.ne_of_lt hlt) (bs.map Value.bool).toArray,⟨⟨_,Heap.get?_push_size _ rfl,rfl,rfl⟩,⟨_,Heap.get?_push_of_some _ e,rfl,n,rfl⟩⟩,truth_bs bs,fun h' tk hk=>?_⟩)
  rw[List.size_toArray,List.length_map,ygt]
  refine ⟨.bl (bs.all id),H,I.kept fun b o g=>hk b o ?_ (Heap.get?_push_of_some _ g),rfl,q⟩
  intro hb
  rw[List.mem_singleton] at hb
  exact absurd (Heap.lt_size g) (by rw[hb];exact Nat.lt_irrefl _)
end
section
variable {X:Cx}{a b:Expr}{ta tb:TE}{pos:Pos}
def rCatS (K:PySem.W.Frag):R2:=fun x y H Q=>∃ l b xs zs,x=.ref l∧y=.ref b∧SqL K H l xs∧SqL K H b zs∧xs.length+zs.length≤sizeLine∧∀ p,H p=none→Q (.ref p) (upd H p (.lst (xs++zs)))
theorem op_catS:OpR X (binaryOp .Add) (rCatS X.K):=by
 intro pins s σ H x y v u Q I rx ry h
 obtain ⟨l,b,xs,zs,rfl,rfl,hH,hB,hz,q⟩:=h
 cases rx
 cases ry
 obtain ⟨vs,r,pl,_⟩:=I.list hH
 obtain ⟨ws,r2,pl2,_⟩:=I.list hB
 obtain ⟨⟨cls,dd,data,sl⟩,ho,hc,n,hd⟩:=pl.isList
 obtain ⟨⟨cls2,dd2,data2,sl2⟩,ho2,hc2,n2,hd2⟩:=pl2.isList
 simp only at hc hd hc2 hd2
 subst hc hd hc2 hd2
 have l1:=r.length
 have l2:=r2.length
 refine concat_meets ⟨_,ho,rfl⟩ ⟨_,ho2,rfl⟩ noFill_list_add seq_list_add PySem.F.slot_list_add PySem.F.entry_list_add (PySem.F.args_list_add_2 _ _) (list_addW l b vs.toArray ws.toArray n n2 dd dd2 sl sl2 (by simp;omega)) ⟨ho,ho2,?_⟩
 have ea:vs.toArray++ws.toArray=(vs++ws).toArray:=by simp
 rw[ea]
 exact ⟨.ref _,_,I.lnew (t':=s.toks) (r.append r2) (by rw[List.length_append];omega),rfl,q _ I.fresh⟩
end
section
variable {κ:Type} [DecidableEq κ]
def valV (kvs:List (κ×V)) (k:κ):Option V:=(kvs.find? fun kv=>decide (kv.1=k)).map (·.2)
def putK (kvs:List (κ×V)) (k:κ) (v:V):List (κ×V):=
 if (kvs.any fun kv=>decide (kv.1=k))=true then kvs.map (fun kv=>if kv.1=k then (kv.1,v) else kv) else kvs++[(k,v)]
theorem qaz {p:κ×V}{r:List (κ×V)}{k:κ} (e:p.1=k):valV (p::r) k=some p.2:=by simp[valV,List.find?_cons,e]
theorem yax {p:κ×V}{r:List (κ×V)}{k:κ} (e:¬ p.1=k):valV (p::r) k=valV r k:=by simp[valV,List.find?_cons,e]
theorem yby (k:κ):∀ kvs:List (κ×V),(kvs.any fun kv=>decide (kv.1=k))=(valV kvs k).isSome
 | []=>rfl
 | p::r=>by
  rw[List.any_cons]
  by_cases e:p.1=k
  ·simp only[qaz e,decide_eq_true e,Bool.true_or,Option.isSome_some]
  ·rw[yax e,decide_eq_false e,Bool.false_or];exact yby k r
theorem qfh (k j:κ) (y:V):∀ kvs:List (κ×V),valV (kvs.map fun kv=>if kv.1=k then (kv.1,y) else kv) j=(valV kvs j).map fun x=>if j=k then y else x
 | []=>rfl
 | p::r=>by
  have ih:=qfh k j y r
  rw[List.map_cons]
  by_cases h:p.1=k
  ·rw[if_pos h]
   by_cases e:p.1=j
   ·rw[qaz (p:=(p.1,y)) e,qaz e,Option.map_some,if_pos (e.symm.trans h)]
   ·rw[yax (p:=(p.1,y)) e,yax e,ih]
  ·rw[if_neg h]
   by_cases e:p.1=j
   ·rw[qaz (p:=p) e,qaz e,Option.map_some,if_neg (fun z=>h (e.trans z))]
   ·rw[yax (p:=p) e,yax e,ih]
theorem qek (k j:κ) (y:V):∀ kvs:List (κ×V),valV kvs k=none→valV (kvs++[(k,y)]) j=if j=k then some y else valV kvs j
 | [],_=>by
  by_cases e:k=j
  ·rw[if_pos e.symm];exact qaz (p:=(k,y)) e
  ·rw[if_neg (fun z=>e z.symm)];exact yax (p:=(k,y)) e
 | p::r,hn=>by
  rw[List.cons_append]
  have hk:¬ p.1=k:=fun z=>by rw[qaz z] at hn;cases hn
  rw[yax hk] at hn
  have ih:=qek k j y r hn
  by_cases e:p.1=j
  ·rw[qaz e,qaz e,if_neg (fun z=>hk (e.trans z))]
  ·rw[yax e,yax e,ih]
theorem qdb (kvs:List (κ×V)) (k j:κ) (y:V):valV (putK kvs k y) j=if j=k then some y else valV kvs j:=by
 unfold putK
 by_cases a:(kvs.any fun kv=>decide (kv.1=k))=true
 ·rw[if_pos a,qfh]
  rw[yby] at a
  by_cases e:j=k
  ·obtain ⟨x,hx⟩:=Option.isSome_iff_exists.mp a
   rw[if_pos e,e,hx,Option.map_some,if_pos rfl]
  ·rw[if_neg e]
   cases valV kvs j with
   | none=>rfl
   | some x=>rw[Option.map_some,if_neg e]
 ·rw[if_neg a]
  refine qek k j y kvs ?_
  rw[yby] at a
  cases q:valV kvs k with
  | none=>rfl
  | some x=>rw[q] at a;exact (a rfl).elim
theorem yck (kvs:List (κ×V)) (k:κ) (v:V):(putK kvs k v).length≤kvs.length+1:=by
 unfold putK
 split
 ·rw[List.length_map];omega
 ·rw[List.length_append,List.length_cons,List.length_nil];omega
theorem qd8 {kvs:List (κ×V)}{k:κ} (v:V) (h:valV kvs k=none):putK kvs k v=kvs++[(k,v)]:=by
 unfold putK
 rw[yby,h]
 exact if_neg (by decide)
theorem RelO.isSome_eq {o:Option V}{u:Option Value} (r:RelO o u):o.isSome=u.isSome:=by
 cases o with
 | none=>cases u with
  | none=>rfl
  | some _=>exact (show False from r).elim
 | some _=>cases u with
  | none=>exact (show False from r).elim
  | some _=>rfl
theorem KV.val {kvs:List (κ×V)}{vs:List (κ×Value)} (r:KV kvs vs) (k:κ):RelO (valV kvs k) (valueAt vs k):=by
 unfold KV at r
 induction r with
 | nil=>exact True.intro
 | @cons p q ps qs h t ih=>
  obtain ⟨h1,h2⟩:=h
  by_cases e:p.1=k
  ·have e':q.1=k:=h1.symm.trans e
   have b:valueAt (q::qs) k=some q.2:=by simp[valueAt,List.find?_cons,e']
   rw[qaz e,b];exact h2
  ·have e':¬ q.1=k:=fun z=>e (h1.trans z)
   have b:valueAt (q::qs) k=valueAt qs k:=by simp[valueAt,List.find?_cons,e']
   rw[yax e,b];exact ih
theorem KV.any {kvs:List (κ×V)}{vs:List (κ×Value)} (r:KV kvs vs) (k:κ):(kvs.any fun kv=>decide (kv.1=k))=vs.any fun kv=>decide (kv.1=k):=by
 unfold KV at r
 induction r with
 | nil=>rfl
 | cons h t ih=>rw[List.any_cons,List.any_cons,ih,h.1]
theorem KV.repl {kvs:List (κ×V)}{vs:List (κ×Value)} (r:KV kvs vs) (k:κ) {y:V}{u:Value} (ry:RelV y u) :
  KV (kvs.map fun kv=>if kv.1=k then (kv.1,y) else kv) (vs.map fun kv=>if kv.1=k then (kv.1,u) else kv):=by
 unfold KV at r ⊢
 induction r with
 | nil=>exact .nil
 | @cons p q ps qs h t ih=>
  rw[List.map_cons,List.map_cons]
  refine .cons ?_ ih
  obtain ⟨h1,h2⟩:=h
  by_cases e:p.1=k
  ·rw[if_pos e,if_pos (h1.symm.trans e)];exact ⟨h1,ry⟩
  ·rw[if_neg e,if_neg (fun z=>e (h1.trans z))];exact ⟨h1,h2⟩
theorem KV.put {kvs:List (κ×V)}{vs:List (κ×Value)} (r:KV kvs vs) (k:κ) {y:V}{u:Value} (ry:RelV y u):KV (putK kvs k y) (stored vs k u):=by
 unfold putK stored
 rw[r.any k]
 by_cases e:(vs.any fun kv=>decide (kv.1=k))=true
 ·rw[if_pos e,if_pos e];exact r.repl k ry
 ·rw[if_neg e,if_neg e];exact Paired.snoc r ⟨rfl,ry⟩
theorem KV.length {kvs:List (κ×V)}{vs:List (κ×Value)} (r:KV kvs vs):kvs.length=vs.length:=Paired.length r
end
theorem qf7 {P:Program}{w:World}{k:Key}{u:Value} (r:RelV (kV k) u):(yaq P w).is k u=true:=by
 cases k with
 | inl i=>obtain ⟨t,e⟩:=(show ∃ t,u=Value.int i t from r);subst e;exact ye7 P w i t
 | inr x=>obtain ⟨t,e⟩:=(show ∃ t,u=Value.str x t from r);subst e;exact yez P w x t
theorem qeo {P:Program}{w:World}:∀ {ks:List Key}{us:List Value},Vals (ks.map kV) us→ItemsAre (yaq P w) ks us
 | [],_,r=>by rw[List.map_nil] at r;cases r;exact .nil
 | k::ks,_,r=>by
  rw[List.map_cons] at r
  cases r with
  | cons h t=>exact .cons (qf7 h) (qeo t)
abbrev KT (H:Hp):List (List Key×V)→List (List Key×Addr×Value)→Prop:=Paired fun p q=>p.1=q.1∧H q.2.1=some (.tup (p.1.map kV))∧RelV p.2 q.2.2
theorem KT.val {H:Hp}{kvs:List (List Key×V)}{xs:List (List Key×Addr×Value)} (r:KT H kvs xs) (k:List Key):RelO (valV kvs k) ((atKey xs k).map (·.2)):=by
 induction r with
 | nil=>exact True.intro
 | @cons p q ps qs h t ih=>
  obtain ⟨h1,_,h2⟩:=h
  by_cases e:p.1=k
  ·have e':q.1=k:=h1.symm.trans e
   have b:atKey (q::qs) k=some q.2:=by simp[atKey,List.find?_cons,e']
   rw[qaz e,b];exact h2
  ·have e':¬ q.1=k:=fun z=>e (h1.trans z)
   have b:atKey (q::qs) k=atKey qs k:=by simp[atKey,List.find?_cons,e']
   rw[yax e,b];exact ih
theorem KT.repl {H:Hp}{kvs:List (List Key×V)}{xs:List (List Key×Addr×Value)} (r:KT H kvs xs) (k:List Key) {y:V}{u:Value} (ry:RelV y u) :
  KT H (kvs.map fun kv=>if kv.1=k then (kv.1,y) else kv) (xs.map (putAt k u)):=by
 induction r with
 | nil=>exact .nil
 | @cons p q ps qs h t ih=>
  rw[List.map_cons,List.map_cons]
  refine .cons ?_ ih
  obtain ⟨h1,h2,h3⟩:=h
  unfold putAt
  by_cases e:p.1=k
  ·rw[if_pos e,if_pos (h1.symm.trans e)];exact ⟨h1,h2,ry⟩
  ·rw[if_neg e,if_neg (fun z=>e (h1.trans z))];exact ⟨h1,h2,h3⟩
theorem KT.put {H:Hp}{kvs:List (List Key×V)}{xs:List (List Key×Addr×Value)} (r:KT H kvs xs) (k:List Key) {b:Addr}{y:V}{u:Value} (hb:H b=some (.tup (k.map kV))) (ry:RelV y u) :
  KT H (putK kvs k y) (storedH xs k b u):=by
 have e:(kvs.any fun kv=>decide (kv.1=k))=(atKey xs k).isSome:=by
  rw[yby,(r.val k).isSome_eq,Option.isSome_map]
 unfold putK storedH
 rw[e]
 by_cases q:(atKey xs k).isSome=true
 ·rw[if_pos q,if_pos q];exact r.repl k ry
 ·rw[if_neg q,if_neg q];exact Paired.snoc r ⟨rfl,hb,ry⟩
theorem KT.keeps {H H':Hp}{kvs:List (List Key×V)}{xs:List (List Key×Addr×Value)} (r:KT H kvs xs) (ht:∀ b ys,H b=some (.tup ys)→H' b=some (.tup ys)):KT H' kvs xs:=
 Paired.mapP r fun _ _ z=>⟨z.1,ht _ _ z.2.1,z.2.2⟩
section
variable {P:Program}{w:World}{H:Hp}{h:Heap}{a:Addr}
theorem rd_of {u:HO} (ok:HOk P w H h) (e:Rd H a u):yap P w H h a u:=e.ok ok
theorem qds {kvs:List (Key×V)} (ok:HOk P w H h) (e:Rd H a (.dK kvs)):kvs.length≤sizeLine∧(a == sysModules)=false∧∃ vs,KV kvs vs∧h.DictOf (yaq P w) a vs:=
 show yap P w H h a (.dK kvs) from rd_of ok e
theorem dk_of {kvs:List (Key×V)} (ok:HOk P w H h) (e:H a=some (.dK kvs)):kvs.length≤sizeLine∧(a == sysModules)=false∧∃ vs,KV kvs vs∧h.DictOf (yaq P w) a vs:=qds ok (.inl e)
theorem ye9 {ks:List Key} (ok:HOk P w H h) (e:H a=some (.tup (ks.map kV))):(tupleKind (yaq P w)).is h ks a:=by
 obtain ⟨_,its,r,o,h1,h2,n,h3⟩:=(show yap P w H h a (.tup (ks.map kV)) from ok a _ e)
 exact ⟨o,its.toArray,n,h1,h2,h3,by simpa using qeo r⟩
theorem dt_rd {kvs:List (List Key×V)} (ok:HOk P w H h) (e:Rd H a (.dT kvs)):kvs.length≤sizeLine∧(a == sysModules)=false∧
  ∃ xs,KT H kvs xs∧h.DictOfH (tupleKind (yaq P w)) a xs:=by
 obtain ⟨z,y,xs,r,o,es,ep,h1,h2,h3,h4,h5⟩:=(show yap P w H h a (.dT kvs) from rd_of ok e)
 refine ⟨z,y,xs,r,o,es,ep,h1,h2,h3,h4,fun x hx=>?_,h5⟩
 have all:∀ {l:List (List Key×V)}{m:List (List Key×Addr×Value)},KT H l m→∀ x∈m,(tupleKind (yaq P w)).is h x.1 x.2.1:=by
  intro l m q
  induction q with
  | nil=>intro x hx;exact nomatch hx
  | @cons p q ps qs hq t ih=>
   intro x hx
   rcases List.mem_cons.mp hx with e|hx
   ·subst e
    exact ye9 ok (by rw[← hq.1];exact hq.2.1)
   ·exact ih x hx
 exact all r x hx
theorem dt_of {kvs:List (List Key×V)} (ok:HOk P w H h) (e:H a=some (.dT kvs)):kvs.length≤sizeLine∧(a == sysModules)=false∧
  ∃ xs,KT H kvs xs∧h.DictOfH (tupleKind (yaq P w)) a xs:=dt_rd ok (.inl e)
end
def DGet (H:Hp) (a:Addr) (y:V) (r:Option V):Prop:=
 (∃ kvs k,Rd H a (.dK kvs)∧y=kV k∧r=valV kvs k)∨∃ kvs k b,Rd H a (.dT kvs)∧y=.ref b∧H b=some (.tup (k.map kV))∧r=valV kvs k
def DPut (H:Hp) (a:Addr) (y v:V) (H':Hp):Prop:=
 (∃ kvs k,H a=some (.dK kvs)∧y=kV k∧kvs.length<sizeLine∧H'=upd H a (.dK (putK kvs k v)))∨
 ∃ kvs k b,H a=some (.dT kvs)∧y=.ref b∧H b=some (.tup (k.map kV))∧kvs.length<sizeLine∧H'=upd H a (.dT (putK kvs k v))
theorem DGet.k {H:Hp}{a:Addr}{kvs:List (Key×V)}{k:Key} (e:H a=some (.dK kvs)):DGet H a (kV k) (valV kvs k):=.inl ⟨kvs,k,.inl e,rfl,rfl⟩
theorem DPut.k {H:Hp}{a:Addr}{kvs:List (Key×V)}{k:Key}{v:V} (e:H a=some (.dK kvs)) (hl:kvs.length<sizeLine):DPut H a (kV k) v (upd H a (.dK (putK kvs k v))):=.inl ⟨kvs,k,e,rfl,hl,rfl⟩
theorem DPut.t {H:Hp}{a b:Addr}{kvs:List (List Key×V)}{k:List Key}{v:V} (e:H a=some (.dT kvs)) (eb:H b=some (.tup (k.map kV))) (hl:kvs.length<sizeLine) :
  DPut H a (.ref b) v (upd H a (.dT (putK kvs k v))):=.inr ⟨kvs,k,b,e,rfl,eb,hl,rfl⟩
section
variable {X:Cx}{pins:List (Addr×Obj)}{σ:St}{H:Hp}{s:Shared}{a:Addr}{y v:V}{u r:Value}{o:Option V}{A:Around}{E:Value→Shared→Prop}
theorem Inv.big (I:Inv X pins σ H s):sysModules<s.heap.objs.size:=by
 have h:mainGlobals<s.heap.objs.size:=(I.mod.glob.keeps I.bk).lt
 exact Nat.lt_trans (by decide) h
theorem qgz {Q:Value→Shared→Prop} (hu:A.units+1<cLine) (I:Inv X pins σ H s) (g:DGet H a y (some v)) (ry:RelV y u) (h:∀ w' s',Inv X pins σ H s'→RelV v w'→Q w' s') :
  wpAny (model X.prog X.w) A (getItem (.ref a) u) Q E s:=by
 rcases g with ⟨kvs,k,e,ey,l⟩|⟨kvs,k,b,e,ey,eb,l⟩
 ·subst ey
  obtain ⟨z,hd,vs,rel,dd⟩:=qds I.hok e
  obtain ⟨w',hw,rw'⟩:=RelO.some_of (v:=v) (o:=valueAt vs k) (by rw[l];exact rel.val k)
  exact wpAny_getItem_of (qf7 ry) dd.mapOf hw (h w' _ (I.tok _) rw')
 ·subst ey
  cases (show u=Value.ref b from ry)
  obtain ⟨z,hd,xs,rel,dd⟩:=dt_rd I.hok e
  obtain ⟨w',hw,rw'⟩:=RelO.some_of (v:=v) (o:=(atKey xs k).map (·.2)) (by rw[l];exact rel.val k)
  obtain ⟨p,hp,hp2⟩:=Option.map_eq_some_iff.mp hw
  refine wpAny_getItem_heap (tupleKind_room_in1 hu) (ye9 I.hok eb) dd hp ?_
  rw[hp2]
  exact h w' _ (I.tok _) rw'
theorem d_notIn {Q:Value→Shared→Prop} (hu:A.units+1<cLine) (I:Inv X pins σ H s) (g:DGet H a y o) (ry:RelV y u) (h:∀ s',Inv X pins σ H s'→Q (.bool (!o.isSome)) s') :
  wpAny (model X.prog X.w) A (compareOp .NotIn u (.ref a)) Q E s:=by
 rcases g with ⟨kvs,k,e,ey,l⟩|⟨kvs,k,b,e,ey,eb,l⟩
 ·subst ey
  obtain ⟨z,hd,vs,rel,dd⟩:=qds I.hok e
  refine wpAny_notIn_of (qf7 ry) hd dd.mapOf ?_
  rw[← (rel.val k).isSome_eq,← l]
  exact h _ (I.tok _)
 ·subst ey
  cases (show u=Value.ref b from ry)
  obtain ⟨z,hd,xs,rel,dd⟩:=dt_rd I.hok e
  refine wpAny_notIn_heap (tupleKind_room_in1 hu) (ye9 I.hok eb) hd dd ?_
  have q:=(rel.val k).isSome_eq
  rw[Option.isSome_map] at q
  rw[← q,← l]
  exact h _ (I.tok _)
theorem qe6 {h':Heap}{t':Nat}{ob:HO} (I:Inv X pins σ H s) (mu:Mut (H a)) (hs:Heap.SameBut a s.heap h') (he:∃ q,h'.get? a=some q) (new:yap X.prog X.w (upd H a ob) h' a ob) :
  Inv X pins σ (upd H a ob) { s with heap:=h',toks:=t' }:=
 I.write (x:=a) (e:=a) mu (.inl rfl) (fun b q hb z=>(hs.2 b hb).trans z) he new
theorem dk_new {P:Program}{w:World}{H':Hp}{h':Heap}{kvs:List (Key×V)}{vs:List (Key×Value)} (z:kvs.length≤sizeLine) (hd:(a == sysModules)=false) (rel:KV kvs vs) (dd:h'.DictOf (yaq P w) a vs) :
  yap P w H' h' a (.dK kvs):=⟨z,hd,vs,rel,dd⟩
theorem qgu {H':Hp}{Q:Unit→Shared→Prop} (hu:A.units+1<cLine) (I:Inv X pins σ H s) (g:DPut H a y v H') (ry:RelV y u) (rv:RelV v r) (h:∀ s',Inv X pins σ H' s'→Q () s') :
  wpAny (model X.prog X.w) A (setItem (.ref a) u r) Q E s:=by
 rcases g with ⟨kvs,k,e,ey,l,eH⟩|⟨kvs,k,b,e,ey,eb,l,eH⟩
 ·subst ey eH
  obtain ⟨z,hd,vs,rel,dd⟩:=dk_of I.hok e
  have hz:vs.length≤sizeLine:=by rw[← rel.length];exact z
  have hl:(putK kvs k v).length≤sizeLine:=by have:=yck kvs k v;omega
  refine wpAny_setItem_pairs (hsz:=hz) (qf7 ry) dd fun h' dd' hs=>h _ ?_
  have he:∃ q,h'.get? a=some q:=let ⟨q,_,_,hq,_⟩:=dd';⟨q,hq⟩
  exact qe6 I (by rw[e];exact True.intro) hs he (dk_new hl hd (rel.put k rv) dd')
 ·subst ey eH
  cases (show u=Value.ref b from ry)
  obtain ⟨z,hd,xs,rel,dd⟩:=dt_of I.hok e
  have hz:xs.length≤sizeLine:=by rw[← Paired.length rel];exact z
  have hl:(putK kvs k v).length≤sizeLine:=by have:=yck kvs k v;omega
  refine wpAny_setItem_heap (hsz:=hz) (tupleKind_room_in1 hu) (ye9 I.hok eb) dd fun h' dd' hs=>h _ ?_
  obtain ⟨q,es,ep,hq,h2,h3,h4,_,h5⟩:=dd'
  refine qe6 I (by rw[e];exact True.intro) hs ⟨q,hq⟩ ⟨hl,hd,_,(rel.put k eb rv).keeps fun c ys ec=>?_,q,es,ep,hq,h2,h3,h4,h5⟩
  rw[qad (qbi ec e (fun z=>nomatch z))]
  exact ec
end
section
variable {X:Cx}{pins:List (Addr×Obj)}{σ:St}{H:Hp}{s:Shared}{a:Addr}{kvs:List (Key×V)}{k:Key}{u:Value}{A:Around}{E:Value→Shared→Prop}
theorem d_len {Q:Value→Shared→Prop} (I:Inv X pins σ H s) (e:Rd H a (.dK kvs)) (h:∀ t s',Inv X pins σ H s'→Q (.int kvs.length t) s'):wpAny (model X.prog X.w) A (call (.builtin "len") [.ref a]) Q E s:=by
 obtain ⟨z,hd,vs,rel,dd⟩:=qds I.hok e
 refine call_len_dict hd dd (by rw[← rel.length];rw[sizeLine_eq] at z;omega) ?_
 rw[← rel.length]
 exact h _ _ (I.tok _)
end
def NoSl (i:Expr):Prop:=∀ ov iv,subscripted i false ov iv=operate [ov,iv] (getItem ov iv)
theorem subD_of {prog:Program}{w:World}{A:Around}{E:Value→Shared→Prop}{s:Shared}{env:Env}{value slice:Expr}{pos:Pos}{T id:String}{Q:Value→Shared→Prop}
  (hl:typeLookup (.type T) "__getitem__" = pure (some (.builtin id))) (hs:NoSl slice)
  (h:wpAny (model prog w) A (eval value env) (fun o s₁=>wpAny (model prog w) A (eval slice env) (fun i s₂=>s₂.TypeIs o T∧wpAny (model prog w) A (getItem o i) Q E s₂) E s₁) E s) :
  wpAny (model prog w) A (eval (.Subscript value slice pos) env) Q E s:=by
 refine Subscript_ (wpAny_mono h (fun o s₁ h₁=>wpAny_mono h₁ (fun i s₂ h₂=>?_) fun _ _ x=>x) fun _ _ x=>x)
 obtain ⟨hT,h₂⟩:=h₂
 unfold subscriptTail
 refine wpAny_bind ?_
 rw[getitemInPython_of_ne hT.not_modules]
 refine wpAny_bind (wpAny_specialOf hT hl ?_)
 have fin:wpAny (model prog w) A (subscripted slice false o i) (fun r s₃=>wpAny (model prog w) A (letTemporaryGo value o r >>= fun _=>pure r) Q E s₃) E s₂:=by
  rw[hs o i]
  exact wpAny_operating (wpAny_mono h₂ (fun r s₃ h₃=>wpAny_bind (wpAny_letTemporaryGo (wpAny_pure h₃))) fun _ _ x=>x)
 first
  | exact wpAny_pure (wpAny_bind fin)
  | exact wpAny_bind (wpAny_pure (wpAny_bind fin))
  | exact wpAny_bind fin
theorem yex {X:Cx}{pins:List (Addr×Obj)}{σ:St}{H:Hp}{s:Shared}{a:Addr}{y:V}{o:Option V} (I:Inv X pins σ H s) (g:DGet H a y o):s.TypeIs (.ref a) "dict":=by
 rcases g with ⟨kvs,k,e,_,_⟩|⟨kvs,k,b,e,_,_,_⟩
 ·obtain ⟨_,_,vs,_,dd⟩:=qds I.hok e
  exact dd.typeIs
 ·obtain ⟨_,_,xs,_,dd⟩:=dt_rd I.hok e
  exact dd.typeIs
def tDGet (td ty:TE):TE:=fun σ H Q=>td σ H fun x H1=>ty σ H1 fun y H2=>∃ a v,x=.ref a∧DGet H2 a y (some v)∧Q v H2
def tDNotIn (ty td:TE):TE:=fun σ H Q=>ty σ H fun y H1=>td σ H1 fun x H2=>∃ a o,x=.ref a∧DGet H2 a y o∧Q (.bl (!o.isSome)) H2
def sDPut (td ty tv:TE):TS:=fun D σ H=>tv σ H fun v H1=>td σ H1 fun x H2=>ty σ H2 fun y H3=>∃ a H4,x=.ref a∧DPut H3 a y v H4∧D.nx σ H4
section
variable {X:Cx}{o i e value:Expr}{pos pos' tpos:Pos}{td ty tv:TE}
theorem pe_dget (hu:X.A.units+1<cLine) (ho:PE X o td) (hi:PE X i ty) (hs:NoSl i):PE X (.Subscript o i pos) (tDGet td ty):=by
 intro pins s σ H Q I h
 refine subD_of PySem.F.slot_dict_getitem.lookup hs (thn (ho pins s σ H _ I h) fun u s1 ⟨x,H1,I1,rx,q1⟩=>thn (hi pins s1 σ H1 _ I1 q1) fun iv s2 ⟨y,H2,I2,ry,a,v,ex,g,q2⟩=>?_)
 subst ex
 obtain rfl:u=Value.ref a:=rx
 exact ⟨yex I2 g,qgz hu I2 g ry fun w' s3 I3 rw'=>⟨v,H2,I3,rw',q2⟩⟩
theorem qdm (hu:X.A.units+1<cLine) (hi:PE X i ty) (ho:PE X o td):PC X .NotIn i o (tDNotIn ty td):=by
 intro pins s σ H Q I h
 refine thn (hi pins s σ H _ I h) fun iv s1 ⟨y,H1,I1,ry,q1⟩=>thn (ho pins s1 σ H1 _ I1 q1) fun u s2 ⟨x,H2,I2,rx,a,ov,ex,g,q2⟩=>?_
 subst ex
 obtain rfl:u=Value.ref a:=rx
 exact d_notIn hu I2 g ry fun s3 I3=>⟨.bl (!ov.isSome),H2,I3,rfl,q2⟩
theorem qe0 (hu:X.A.units+1<cLine) (ho:PE X o td) (hi:PE X i ty) (hv:PE X value tv) (hs:swapsWith value (some (.Subscript o i pos')) pos.line X.env=pure false) :
  PS X (.Assign [.Subscript o i pos'] value pos) (sDPut td ty tv):=by
 intro pins s σ H D I h
 refine wpAny_Assign_Subscript (thn (hv pins s σ H _ I h) fun r s1 ⟨v,H1,I1,rv,q1⟩=>thn (ho pins s1 σ H1 _ I1 q1) fun u s2 ⟨x,H2,I2,rx,q2⟩=>thn (hi pins s2 σ H2 _ I2 q2) fun iv s3 ⟨y,H3,I3,ry,a,H4,ex,g,q3⟩=>?_) hs
 subst ex
 obtain rfl:u=Value.ref a:=rx
 exact qgu hu I3 g ry rv fun s4 I4=>⟨σ,H4,I4,q3⟩
end
theorem dk_empty {P:Program}{w:World}{H:Hp} (h:Heap) (hb:sysModules<h.objs.size):yap P w H (h.push { cls:=.type "dict",data:=.dict #[] }) h.objs.size (.dK []):=
 ⟨Nat.zero_le _,beq_eq_false_iff_ne.mpr (Ne.symm (Nat.ne_of_lt hb)),[],.nil,Heap.DictOf.new h⟩
theorem dt_empty {P:Program}{w:World}{H:Hp} (h:Heap) (hb:sysModules<h.objs.size):yap P w H (h.push { cls:=.type "dict",data:=.dict #[] }) h.objs.size (.dT []):=
 ⟨Nat.zero_le _,beq_eq_false_iff_ne.mpr (Ne.symm (Nat.ne_of_lt hb)),[],.nil,_,#[],0,Heap.get?_push_size _ rfl,⟨rfl,rfl,rfl⟩,rfl,rfl,List.nodup_nil⟩
def tDNewK:TE:=fun _ H Q=>∀ p,H p=none→Q (.ref p) (upd H p (.dK []))
def tDNewT:TE:=fun _ H Q=>∀ p,H p=none→Q (.ref p) (upd H p (.dT []))
section
variable {X:Cx}{pos:Pos}
theorem qcp:PE X (.Dict [] [] pos) tDNewK:=fun pins s σ H Q I h=>
 wpAny_Dict_empty ⟨.ref s.heap.objs.size,_,I.laid (a:=s.heap.objs.size) (o:=.dK []) (t':=s.toks) (fun _ _ q=>Heap.get?_push_of_some _ q) (Nat.le_refl _) (dk_empty s.heap I.big),rfl,h _ (I.hok.fresh (Nat.le_refl _))⟩
theorem pe_dnewT:PE X (.Dict [] [] pos) tDNewT:=fun pins s σ H Q I h=>
 wpAny_Dict_empty ⟨.ref s.heap.objs.size,_,I.laid (a:=s.heap.objs.size) (o:=.dT []) (t':=s.toks) (fun _ _ q=>Heap.get?_push_of_some _ q) (Nat.le_refl _) (dt_empty s.heap I.big),rfl,h _ (I.hok.fresh (Nat.le_refl _))⟩
end
section
variable {X:Cx}
theorem qge:ybv X (.builtin "len") (fun xs H Q=>∃ a kvs,xs=[V.ref a]∧H a=some (.dK kvs)∧Q (.int kvs.length) H):=by
 intro pins s σ H xs us Q I r h
 obtain ⟨a,kvs,rfl,ha,q⟩:=h
 obtain ⟨u,rfl,ru⟩:=yfm r
 cases ru
 exact d_len I (.inl ha) fun t s' I'=>⟨.int kvs.length,H,I',⟨t,rfl⟩,q⟩
end
section
variable {κ:Type} [DecidableEq κ]
theorem yf2 {kvs:List (κ×V)}{k:κ}{v:V} (h:valV kvs k=some v):k∈kvs.map (·.1):=by
 have q:(kvs.any fun kv=>decide (kv.1=k))=true:=by
  rw[yby,h]
  all_goals rfl
 obtain ⟨p,hp,e⟩:=List.any_eq_true.mp q
 exact List.mem_map.mpr ⟨p,hp,of_decide_eq_true e⟩
theorem ydp:∀ {l:List κ}{k:κ},l.Nodup→¬ k∈l→(l++[k]).Nodup
 | [],k,_,_=>by simp
 | a::r,k,h,hk=>by
  obtain ⟨h1,h2⟩:=List.nodup_cons.mp h
  show (a::(r++[k])).Nodup
  refine List.nodup_cons.mpr ⟨fun m=>?_,ydp h2 fun m=>hk (List.mem_cons.mpr (Or.inr m))⟩
  rcases List.mem_append.mp m with q|q
  ·exact h1 q
  ·exact hk (List.mem_cons.mpr (Or.inl (List.mem_singleton.mp q).symm))
end
end L2
namespace Mx
open PySem L2 PyProof.Rows
structure QE (X:Cx) (e:Expr) (t:TE):Prop where
 of:PE X e t
section
variable {X:Cx}{e o i:Expr}{te td ty:TE}{pos:Pos}
theorem qaa (h:PE X e te):QE X e te:=⟨h⟩
theorem qgg (hu:X.A.units+1<cLine) (ho:QE X o td) (hi:QE X i ty) (hs:NoSl i):QE X (.Subscript o i pos) (tDGet td ty):=⟨pe_dget hu ho.of hi.of hs⟩
theorem qal {i:Nat}{x:Str}{pos':Pos} (hN:X.N.Nodup) (hi:X.N[i]?=some x) (hx:Loc X.env.scope x) (he:QE X e te) (hs:swapsWith e (some (.Name x pos')) pos.line X.env=pure false:=by rfl) (hf:X.fn x=true∨X.env.scope.names.lookup x=some .local:=by first|exact .inl rfl|exact .inr rfl|assumption) :
  QS X (.Assign [.Name x pos'] e pos) (tAsg te (yeb i)):=⟨qcr hN hi hx he.of hs hf⟩
theorem qag (he:QE X e te):QS X (.Return (some e) pos) (tRet te):=⟨ps_ret he.of⟩
structure QT (X:Cx) (e:Expr) (t:TT):Prop where
 of:PT X e t
theorem qgy {t:TT} (h:PT X e t):QT X e t:=⟨h⟩
theorem yan {a b:List Stmt}{t u:TS}{c:Expr}{tc:TT} (hc:QT X c tc) (ha:QSs X a t) (hb:QSs X b u):QS X (.If c a b pos) (tIfS tc t u):=⟨ps_if hc.of ha.of hb.of⟩
theorem yak {a b:Expr}{ta tb:TE}{op:CmpOp}{r:R2} (ho:OpR X (compareOp op) r) (ha:QE X a ta) (hb:QE X b tb) (hm:behindInMarks op b=false):QT X (.Compare a [op] [b] pos) (tTest (tOp r ta tb)):=⟨qbt ho ha.of hb.of hm⟩
theorem qan {a b:Expr}{ta tb:TE}{r:R2} (hr:IxR X r) (ha:QE X a ta) (hb:QE X b tb) (hs:qf3 b):QE X (.Subscript a b pos) (tOp r ta tb):=⟨qav hr ha.of hb.of hs⟩
structure QA (X:Cx) (es:List Expr) (t:TA):Prop where
 of:PA X es t
theorem yad:QA X [] tNil:=⟨yah⟩
theorem qa_cons {es:List Expr}{t:TA} (ha:QE X e te) (hr:QA X es t) (hs:starEach (e::es) X.env=(false,eval e X.env)::starEach es X.env:=by rfl):QA X (e::es) (qce te t):=⟨qac ha.of hr.of hs⟩
theorem qbn {es:List Expr}{t:TA} (h:QA X es t):QE X (.List es pos) (tLst t):=⟨qed h.of⟩
theorem qbd {es:List Expr}{k}{t:TA} (h:QA X es t):QE X (.Tuple es k pos) (tTup t):=⟨yc7 h.of⟩
end
section
variable {X:Cx}{e a b c:Expr}{es:List Expr}{te ta tb:TE}{t:TA}{tA tB':TT}{pos p:Pos}{x:Str}{rest:List Expr}
theorem qaw {k:Const}{j} (ha:QE X (.Constant k j pos) te) (hr:QA X es t):QA X (.Constant k j pos::es) (qce te t):=⟨pa_cs ha.of hr.of⟩
theorem qah {x:Str} (ha:QE X (.Name x pos) te) (hr:QA X es t):QA X (.Name x pos::es) (qce te t):=⟨qdo ha.of hr.of⟩
theorem qb6 {f xs ks} (ha:QE X (.Call f xs ks pos) te) (hr:QA X es t):QA X (.Call f xs ks pos::es) (qce te t):=⟨pa_cl ha.of hr.of⟩
theorem ya0 {o i:Expr} (ha:QE X (.Subscript o i pos) te) (hr:QA X es t):QA X (.Subscript o i pos::es) (qce te t):=⟨qac ha.of hr.of rfl⟩
theorem ycd {o i:Expr}{op} (ha:QE X (.BinOp o op i pos) te) (hr:QA X es t):QA X (.BinOp o op i pos::es) (qce te t):=⟨qac ha.of hr.of rfl⟩
theorem qa_tp {xs k} (ha:QE X (.Tuple xs k pos) te) (hr:QA X es t):QA X (.Tuple xs k pos::es) (qce te t):=⟨qac ha.of hr.of rfl⟩
theorem qa_ls {xs} (ha:QE X (.List xs pos) te) (hr:QA X es t):QA X (.List xs pos::es) (qce te t):=⟨qac ha.of hr.of rfl⟩
theorem ye6 {l o r} (ha:QE X (.ListComp l o r pos) te) (hr:QA X es t):QA X (.ListComp l o r pos::es) (qce te t):=⟨qac ha.of hr.of rfl⟩
theorem yat {op:Operator}{r:R2} (ho:OpR X (binaryOp op) r) (ha:QE X a ta) (hb:QE X b tb):QE X (.BinOp a op b pos) (tOp r ta tb):=⟨qbo ho ha.of hb.of⟩
theorem qd1 {op:CmpOp}{r:R2} (ho:OpR X (compareOp op) r) (ha:QE X a ta) (hb:QE X b tb) (hm:behindInMarks op b=false):QE X (.Compare a [op] [b] pos) (tOp r ta tb):=⟨yb7 ho ha.of hb.of hm⟩
theorem qcx (hc:QT X c tA) (ha:QE X a ta) (hb:QE X b tb):QE X (.IfExp c a b pos) (tIf tA ta tb):=⟨pe_ifExp hc.of ha.of hb.of⟩
theorem ygg (h:QE X e te):QE X e (tMid te):=⟨pe_mid h.of⟩
structure QW (X:Cx) (e:Expr) (t:TT):Prop where
 of:PW X e t
theorem yb1 (ha:QT X a tA):QW X (.BoolOp .And [a] pos) tA:=⟨qd9 ha.of⟩
theorem ybw (ha:QT X a tA):QW X (.BoolOp .Or [a] pos) tA:=⟨pw_or1 ha.of⟩
theorem ycw (ha:QT X a tA) (hb:QW X (.BoolOp .And (b::rest) pos) tB'):QW X (.BoolOp .And (a::b::rest) pos) (tAnd tA tB'):=⟨qfc ha.of hb.of⟩
theorem qb8 (ha:QT X a tA) (hb:QW X (.BoolOp .Or (b::rest) pos) tB'):QW X (.BoolOp .Or (a::b::rest) pos) (tOr tA tB'):=⟨pw_or ha.of hb.of⟩
theorem QW.pt (h:QW X e tA):QT X e tA:=⟨h.of.pt⟩
theorem qa2 (ha:QT X a tA):QT X (.UnaryOp .Not a pos) (tNot tA):=⟨pt_not ha.of⟩
theorem qao {f xs ks} (h:QE X (.Call f xs ks pos) te):QT X (.Call f xs ks pos) (tB te):=⟨qfl h.of⟩
theorem qt_valN {y:Str} (h:QE X (.Name y pos) te):QT X (.Name y pos) (tB te):=⟨qfl h.of⟩
variable {id T:String}{r:List V→Hp→VK→Prop}
theorem qai (hc:ybv X (.builtin id) r) (hg:Gl X x) (hm:X.mg x=none) (hv:bootBuiltins x=some (.builtin id)) (ha:QA X (e::es) t) (hn:x≠"__name__":=by decide) (hdb:(x == ("__debug__" : Str))=false:=by decide)
  (he:starEach (e::es) X.env=(false,eval e X.env)::starEach es X.env:=by rfl) (hpl:(backTo pos (starEach es X.env)).any (·.1)=false:=by rfl):QE X (.Call (.Name x p) (e::es) [] pos) (tCB r t):=⟨qas hc hg hm hv ha.of hn hdb he hpl⟩
theorem qcv (hc:ybv X (.type T) r) (hg:Gl X x) (hm:X.mg x=none) (hv:bootBuiltins x=some (.type T)) (ha:QA X (e::es) t) (hn:x≠"__name__":=by decide) (hdb:(x == ("__debug__" : Str))=false:=by decide)
  (he:starEach (e::es) X.env=(false,eval e X.env)::starEach es X.env:=by rfl) (hpl:(backTo pos (starEach es X.env)).any (·.1)=false:=by rfl):QE X (.Call (.Name x p) (e::es) [] pos) (tCB r t):=⟨ydj hc hg hm hv ha.of hn hdb he hpl⟩
theorem yag {k m:Nat}{ps:List Str}{sp:Sp} (h:Has X.prog X.w X.K X.mg X.base k x ps sp) (hr:Room m X.A) (ha:QA X (e::es) t) (hk:k≤m:=by decide) (hg:Gl X x:=by rfl)
  (hdb:(x == ("__debug__" : Str))=false:=by decide) (he:starEach (e::es) X.env=(false,eval e X.env)::starEach es X.env:=by rfl) (hpl:(backTo pos (starEach es X.env)).any (·.1)=false:=by rfl):QE X (.Call (.Name x p) (e::es) [] pos) (qe8 sp [] E0 t):=⟨qar h hr ha.of hk hg hdb he hpl⟩
structure QI (X:Cx) (tg iter:Expr) (wi:TI):Prop where
 of:PI X tg iter wi
theorem ye4 {tg iter:Expr}{wi:TI} (h:PI X tg iter wi):QI X tg iter wi:=⟨h⟩
theorem yc0 {tg l:Expr}{tl:TE} (h:QE X l tl):QI X tg l (iList X.K tl):=⟨qa4 h.of⟩
theorem qbv {tg iter:Expr}{body:List Stmt}{wi:TI}{g:TG}{tb:TS} (hp:PassesOwn (model X.prog X.w) X.A X.env X.xe) (hc:X.calm=true) (hi:QI X tg iter wi) (hg:PG X tg g) (hb:QSs X body tb) (hs:∀ x,foldedSetIterable iter X.env x=pure x:=by intro _;rfl):QS X (.For tg iter body [] pos) (tFor wi g tb):=⟨ps_for hp hc hi.of hg hb.of hs⟩
theorem qck (he:QE X e te) (hs:swapsWith e none pos.line X.env=pure false:=by rfl):QS X (.Expr e pos) (tDrop te):=⟨qe7 he.of hs⟩
theorem qs_asg {tg:Expr}{g:TG} (he:QE X e te) (hg:PG X tg g) (hs:swapsWithSole [tg] e pos.line X.env=pure false:=by rfl) (hw:swappedStores [tg] e X.env=pure none:=by rfl) (h1:(assignEach [tg] X.env).map (·.2)=[assign tg X.env]:=by rfl):QS X (.Assign [tg] e pos) (tAsg te g):=⟨ps_asg he.of hg hs hw h1⟩
end
theorem qak {X:Cx}{st:Stmt}{rest ss:List Stmt}{t:TS} (h:ss=st::rest) (p:QSs X (st::rest) t):QSs X ss t:=h ▸ p
section
variable {P:Program}{w:World}{K:PySem.W.Frag}{mg:Str→Option Value}{base:Heap}
theorem Has.ofQ {x:Str}{st:Stmt}{ps N:List Str}{k:Nat}{sp:Sp} (F:FnAt K mg x st ps) (S:FnScope N ps (qaf st)) (len:∀ vs H Q E,sp vs H Q E→vs.length=ps.length)
  (hbody:∀ (f:Addr) (cdv:Value) (A:Around) (outer:List Env) (s:Shared) (H:Hp) (vs:List V) (Q:VK) (E:XK),Room k (A.deeper (envOfC x (qaf st) s.heap.objs.size f cdv))→sp vs H Q E→
   ∃ t,QSs (cxOf CX0 P w K mg base N x (qaf st) f cdv A outer s H E).nox (yar st) t∧t { nx:=fun _ H'=>Q .non H',rt:=Q } (start N vs) H):Has P w K mg base (k+1) x ps sp:=
 Has.of F S len fun f cdv A outer s H vs Q E hr h=>by
  obtain ⟨t,h1,h2⟩:=hbody f cdv A outer s H vs Q E hr h
  exact ⟨t,h1.of,h2⟩
theorem Fun.okQ {x qual:Str}{st:Stmt}{f:Addr}{fd:FuncData}{N ps:List Str}{k:Nat}{sp:Sp} (F:Fun K x qual st f fd) (S:FnScope N ps (qaf st)) (len:∀ vs H Q E,sp vs H Q E→vs.length=ps.length)
  (hbody:∀ (cdv:Value) (A:Around) (outer:List Env) (s:Shared) (H:Hp) (vs:List V) (Q:VK) (E:XK),Room k (A.deeper (envOfC qual (qaf st) s.heap.objs.size f cdv))→sp vs H Q E→
   ∃ t,QSs (cxOf CX0 P w K mg base N qual (qaf st) f cdv A outer s H E).nox (yar st) t∧t { nx:=fun _ H'=>Q .non H',rt:=Q } (start N vs) H):FnOk P w K mg base CX0 (k+1) f fd ps sp:=
 F.ok S len fun cdv A outer s H vs Q E hr h=>by
  obtain ⟨t,h1,h2⟩:=hbody cdv A outer s H vs Q E hr h
  exact ⟨t,h1.of,h2⟩
end
end Mx
namespace L2
open PySem PySem.Spec PyProof.Rows PySem.W
section
variable {X:Cx}
def rNotB:R2:=fun x y H Q=>∃ b c:Bool,x=.bl b∧y=.bl c∧Q (.bl (!decide (b=c))) H
theorem qgl:OpR X (compareOp .IsNot) rNotB:=by
 intro pins s σ H x y v u Q I rx ry h
 obtain ⟨b,c,rfl,rfl,q⟩:=h
 cases rx
 cases ry
 unfold compareOp isSame
 refine wpAny_bind (wpAny_pure (wpAny_pure ⟨.bl _,H,I,?_,q⟩))
 cases b<;>cases c<;>rfl
end
section
variable {X:Cx}
theorem pe_bmK {K:PySem.W.Frag}{o e:Expr}{es:List Expr}{to:TE}{t:TA}{name:Str}{apos cpos:Pos}{T id:String}{r:V→List V→Hp→VK→Prop} (hK:X.K=K) (pa:PlainAttrs T) (slot:Slot T name id) (hty:typeOf (.builtin id)=pure (.type "method_descriptor")) (hm:MtR X id r) (ho:PE X o to) (ha:PA X (e::es) t)
  (hbase:attributeBase o name X.env (eval o X.env)=eval o X.env:=by rfl)
  (hfew:((backTo cpos (starEach (e::es) X.env)).all (fun x=>!x.1)&&(backToKw cpos (keywordEach [] X.env)).all (fun x=>x.1.isSome)
   && decide ((e::es).length+([]:List Keyword).length+(if ([]:List Keyword).isEmpty then 0 else 1)<30))=true:=by rfl)
  (hline:(apos.endLine == cpos.line)=true:=by rfl) (hs:starEach (e::es) X.env=(false,eval e X.env)::starEach es X.env:=by rfl) (hplain:(backTo cpos (starEach es X.env)).any (·.1)=false:=by rfl) :
  PE X (.Call (.Attribute o name apos) (e::es) [] cpos) (tBM K T r to t):=by
 subst hK
 exact qd4 pa slot hty hm ho ha hbase hfew hline hs hplain
end
end L2
namespace L2
open PySem PySem.Spec PyProof.Rows
def isI (b:Int):Value→Bool
 | .int c _=>c == b
 | _=>false
theorem isI_at {A:Around}{s:Shared}{b:Int}{t:Tok}{ns:List Int}{us:List Value} (h:IntsAre us ns):∀ y,y∈us.toArray→SeqAt.EqAt A s y (.int b t) (isI b y):=by
 intro y hy
 have hy':y∈us:=by simpa using hy
 clear hy
 induction h with
 | nil=>cases hy'
 | cons c u _ ih=>
  rcases List.mem_cons.mp hy' with rfl|hy'
  ·exact SeqAt.EqAt.int_int c u b t
  ·exact ih hy'
section
variable {X:Cx}
def rSetdef:V→List V→Hp→VK→Prop:=fun x vs H Q=>∃ (a:Addr) (kvs:List (Key×V)) (k:Key) (v:V),x=.ref a∧vs=[kV k,v]∧H a=some (.dK kvs)∧kvs.length<sizeLine∧
 (∀ y,valV kvs k=some y→Q y H)∧(valV kvs k=none→Q v (upd H a (.dK (putK kvs k v))))
theorem yee:MtM X "dict.setdefault" rSetdef:=by
 intro pins s σ H x vs v us Q I rx rv h
 obtain ⟨a,kvs,k,d,rfl,rfl,ha,hl,q1,q2⟩:=h
 cases rx
 cases rv
 rename_i u us' ru rv'
 obtain ⟨r,rfl,rr⟩:=Vals.one rv'
 obtain ⟨z1,m1,vs1,r1,dd1⟩:=dk_of I.hok ha
 have l1:=r1.length
 have rk:=r1.val k
 refine call_meetsIn F.slot_dict_setdefault dd1.typeIs F.entry_dict_setdefault (F.args_dict_setdefault_3 _ _ _) (kt_meets_setdefault (yaq X.prog X.w) a (qf7 ru) m1 r) ⟨vs1,dd1,by omega,fun w' hw=>?_,fun hn h' dd' sb=>?_⟩
 ·rw[hw] at rk
  cases hv:valV kvs k with
  | none=>rw[hv] at rk;exact absurd rk (by intro z;cases z)
  | some y=>
   rw[hv] at rk
   exact ⟨y,_,I.tok _,rk,q1 y hv⟩
 ·rw[hn] at rk
  cases hv:valV kvs k with
  | some y=>rw[hv] at rk;exact absurd rk (by intro z;cases z)
  | none=>
   have he:∃ q,h'.get? a=some q:=let ⟨q,_,_,hq,_⟩:=dd';⟨q,hq⟩
   have hl':(putK kvs k d).length≤sizeLine:=by have:=yck kvs k d;omega
   exact ⟨d,_,qe6 I (by rw[ha];exact True.intro) sb he (dk_new hl' m1 (r1.put k rr) dd'),rr,q2 hv⟩
end
section
variable {X:Cx}{pins:List (Addr×Obj)}{σ:St}{H:Hp}{s:Shared}{a:Addr}{kvs:List (Key×V)}
theorem is_kV {P:Program}{w:World}{k:Key}{u:Value} (h:(yaq P w).is k u=true):RelV (kV k) u:=by
 rcases yao h with ⟨i,t,rfl,rfl⟩|⟨x,t,rfl,rfl⟩<;>exact ⟨t,rfl⟩
theorem Inv.frzD (I:Inv X pins σ H s) (e:H a=some (.dK kvs)):∃ o es ep,o.data=.dict es ep∧s.heap.get? a=some o∧Inv X pins σ (upd H a (.frz o (.dK kvs))) s:=by
 obtain ⟨z,hd,vs,r,ob,es,ep,ho,hx,hda,rest⟩:=(show yap X.prog X.w H s.heap a (.dK kvs) from I.hok a _ e)
 exact ⟨ob,es,ep,hda,ho,I.write (x:=a) (e:=a) (t':=s.toks) (o:=.frz ob (.dK kvs)) (by rw[e];exact True.intro) (.inl rfl) (fun b u _ q=>q) ⟨ob,ho⟩ ⟨ho,z,hd,vs,r,ob,es,ep,ho,hx,hda,rest⟩⟩
theorem Inv.frzAt {o:Obj}{es:Array DictEntry}{ep:Nat} (I:Inv X pins σ H s) (e:H a=some (.frz o (.dK kvs))) (hda:o.data=.dict es ep):kvs.length≤sizeLine∧(a == sysModules)=false∧∃ vs,KV kvs vs∧s.heap.DictAt (yaq X.prog X.w) a vs ep:=by
 obtain ⟨ho,z,hd,vs,r,ob,es',ep',ho',hx,hda',rest⟩:=(show yap X.prog X.w H s.heap a (.frz o (.dK kvs)) from I.hok a _ e)
 rw[ho] at ho';cases ho'
 rw[hda] at hda';cases hda'
 exact ⟨z,hd,vs,r,o,es,ho,hx,hda,rest⟩
theorem KV.at_ {kvs:List (Key×V)}{vs:List (Key×Value)} (r:KV kvs vs):∀ {i:Nat},i<kvs.length→∃ k v u,kvs[i]?=some (k,v)∧vs[i]?=some (k,u)∧RelV v u:=by
 induction r with
 | nil=>intro i h;exact absurd h (Nat.not_lt_zero _)
 | @cons p q l1 l2 h _ ih=>
  intro i hi
  cases i with
  | zero=>exact ⟨p.1,p.2,q.2,rfl,by rw[h.1];rfl,h.2⟩
  | succ i=>exact ih (i:=i) (by simpa using hi)
def Itd (a:Addr) (o:Obj) (kvs:List (Key×V)):It:=
 ⟨fun i H=>H a=some (.frz o (.dK kvs))∧i<kvs.length,fun i H x H'=>H'=H∧∃ k v,kvs[i]?=some (k,v)∧x=kV k,fun i H=>H a=some (.frz o (.dK kvs))∧kvs.length≤i⟩
theorem qgm {P:Program}{w:World}{K:PySem.W.Frag}{tg:Expr} (a it:Addr) (o:Obj) {es:Array DictEntry}{ep:Nat} (hda:o.data=.dict es ep):Turn P w K tg (Itd a o kvs) [it] it (fun i h=>h.IsKeyIter it a i kvs.length ep) where
 mem:=by simp
 obj:=fun i h st b hb=>by
  have e:b=it:=by simpa using hb
  subst e
  obtain ⟨ob,ho,hc,hd⟩:=st
  exact ⟨ob,ho,fun v z=>by rw[hd] at z;cases z⟩
 keep:=fun i h h' st k=>st.at (k it (by simp))
 item:=by
  intro X hP hw hK hc i pins s σ H E I hf st hg
  subst hP hw hK
  obtain ⟨f0,f1,f2,f3,f4,f5⟩:=hf it (by simp)
  obtain ⟨z,hd,vs,r,dd⟩:=I.frzAt hg.1 hda
  obtain ⟨k,v,u,e1,e2,rv⟩:=r.at_ hg.2
  have hl:=r.length
  rw[hl] at st
  refine wpAny_pyNext_dict_item st dd e2 fun key h' hk st' sb=>?_
  have I1:Inv X pins σ H { s with heap:=h',toks:=s.toks }:=I.turned (fun b o hb e=>(sb.2 b hb).trans e) f0 f1 f3 f4 f5
  obtain ⟨ob,ho,hcl,hdat⟩:=id st'
  exact ⟨key,rfl,go_of (s:={ s with heap:=h' }) (n:="dict_keyiterator") ho hcl hdat (by decide) ⟨kV k,H,I1,is_kV hk,⟨rfl,k,v,e1,rfl⟩,by rw[hl];exact st',fun b hb=>(hf b hb).1⟩⟩
 done:=by
  intro X hP hw hK hc i pins s σ H E I hf st hg
  subst hP hw hK
  obtain ⟨f0,f1,f2,f3,f4,f5⟩:=hf it (by simp)
  obtain ⟨z,hd,vs,r,dd⟩:=I.frzAt hg.1 hda
  have hl:=r.length
  rw[hl] at st
  exact wpAny_pyNext_dict_end (I.ok.hd hc) st dd (List.getElem?_eq_none (by have:=hg.2;omega)) fun h' eb=>⟨rfl,I.turned (t':=s.toks) (fun b o hb e=>eb b o hb e) f0 f1 f3 f4 f5⟩
 self:=fun _ _ _ _ _ st h=>wpAny_pyIter_keyiter st h
end
section
variable {X:Cx}{kvs:List (Key×V)}
def vwI (v a:Addr):HO:=.ext fun h=>h.IsItemsView v a
def rItems:V→List V→Hp→VK→Prop:=fun x vs H Q=>∃ (a:Addr) (kvs:List (Key×V)),x=.ref a∧vs=[]∧Rd H a (.dK kvs)∧∀ v,H v=none→Q (.ref v) (upd H v (vwI v a))
theorem vw_ok {P:Program}{w:World}{H:Hp} (h:Heap) (a:Addr):yap P w H (h.push { cls:=.type "dict_items",data:=.fields #[.ref a] }) h.objs.size (vwI h.objs.size a):=
 ⟨⟨_,Heap.get?_push_size _ rfl,rfl,rfl⟩,⟨_,Heap.get?_push_size _ rfl⟩,fun _ _ ⟨o,ho,r⟩ k=>⟨o,k o ho,r⟩⟩
theorem mt_items:MtM X "dict.items" rItems:=by
 intro pins s σ H x vs v us Q I rx rv h
 obtain ⟨a,kvs,rfl,rfl,ha,q⟩:=h
 cases rx
 cases rv
 obtain ⟨z1,m1,vs1,r1,dd1⟩:=qds I.hok ha
 refine call_meetsIn F.slot_dict_items dd1.typeIs F.entry_dict_items (F.args_dict_items_1 _) (meets_dict_items (yaq X.prog X.w) a m1) ⟨⟨vs1,dd1⟩,?_⟩
 exact ⟨.ref s.heap.objs.size,_,I.laid (a:=s.heap.objs.size) (o:=vwI s.heap.objs.size a) (t':=s.toks) (fun _ _ q=>Heap.get?_push_of_some _ q) (Nat.le_refl _) (vw_ok s.heap a),rfl,q _ (I.hok.fresh (Nat.le_refl _))⟩
theorem qef:entryFor table "dict_itemiterator.__iter__" = some Builtin.«dict_keyiterator.__iter__»:=
 entryFor_alias (id':="dict_keyiterator.__iter__") (by kernel_rfl) rfl (by decide +kernel) (by kernel_rfl)
theorem qfr {prog:Program}{w:World}{A:Around}{E:Value→Shared→Prop}{s:Shared}{it d:Addr}{i n ep:Nat}{ok ov:Value}{Q:Value→Shared→Prop} (hit:IsItemIter s.heap it d i n ep ok ov) (h:Q (.ref it) s):wpAny (model prog w) A (pyIter (.ref it)) Q E s:=by
 have hT:s.TypeIs (.ref it) "dict_itemiterator":=⟨_,hit,rfl⟩
 refine wpAny_pyIter_slot hT F.slot_dict_itemiterator_iter (wpAny_call_entry F.slot_dict_itemiterator_iter hT qef ?_ (F.args_dict_itemiterator_iter_1 _))
 show wpAny _ _ (ret (.ref it)) _ _ s
 exact wpAny_pure ⟨_,rfl,"dict_itemiterator",_,hT,F.slot_dict_itemiterator_next.lookup,h⟩
def Iti (a:Addr) (o:Obj) (kvs:List (Key×V)):It:=
 ⟨fun i H=>H a=some (.frz o (.dK kvs))∧i<kvs.length,fun i H x H'=>∃ p k v,H p=none∧x=.ref p∧H'=upd H p (.tup [kV k,v])∧kvs[i]?=some (k,v),fun i H=>H a=some (.frz o (.dK kvs))∧kvs.length≤i⟩
theorem yfo {P:Program}{w:World}{K:PySem.W.Frag}{el:List Expr}{k:Nat}{tp:Pos} (a it:Addr) (o:Obj) {es:Array DictEntry}{ep:Nat} (hda:o.data=.dict es ep) :
  Turn P w K (.Tuple el k tp) (Iti a o kvs) [it] it (fun i h=>∃ ok ov,IsItemIter h it a i kvs.length ep ok ov) where
 mem:=by simp
 obj:=fun i h st b hb=>by
  have e:b=it:=by simpa using hb
  subst e
  obtain ⟨ok,ov,ho⟩:=st
  exact ⟨_,ho,fun v z=>by
   have z':Data.fields _=Data.cell v:=z
   cases z'⟩
 keep:=fun i h h' ⟨ok,ov,st⟩ k=>⟨ok,ov,k it (by simp) _ st⟩
 item:=by
  intro X hP hw hK hc i pins s σ H E I hf st hg
  subst hP hw hK
  obtain ⟨z,hd,vs,r,dd⟩:=I.frzAt hg.1 hda
  obtain ⟨k,v,u,e1,e2,rv⟩:=r.at_ hg.2
  have hl:=r.length
  obtain ⟨ok,ov,st⟩:=st
  rw[hl] at st
  refine wpAny_pyNext_items_item st dd e2 fun key h' hk ho hT hsz kk=>?_
  have hil:it<s.heap.objs.size:=Heap.lt_size st
  refine ⟨_,rfl,wpAny_letOwnedTupleGo_items ho fun h2 he2 hs2=>?_⟩
  have keep2:∀ b ob,b∉[it]→s.heap.get? b=some ob→h2.get? b=some ob:=fun b ob hb z=>by
   have h3:b≠it:=fun q=>hb (by simp[q])
   exact (hs2.2 b h3).trans (kk b ob h3 z)
  have hT2:h2.get? s.heap.objs.size=some { cls:=.type "tuple",data:=.seq #[key,u] }:=(hs2.2 _ (Nat.ne_of_gt hil)).trans hT
  have fresh:H s.heap.objs.size=none:=I.hok.fresh (Nat.le_refl _)
  have new:yap X.prog X.w (upd H s.heap.objs.size (.tup [kV k,v])) h2 s.heap.objs.size (.tup [kV k,v]):=
   ⟨by show 2≤sizeLine;decide,[key,u],.cons (is_kV hk) (.cons rv .nil),⟨_,hT2,rfl,_,rfl⟩⟩
  refine ⟨.ref s.heap.objs.size,upd H s.heap.objs.size (.tup [kV k,v]),I.turnedL keep2 hf (Nat.le_refl _) new,rfl,⟨_,k,v,fresh,rfl,rfl,e1⟩,⟨key,u,by rw[hl];exact he2⟩,fun b hb=>?_⟩
  rw[qad]
  ·exact (hf b hb).1
  ·have hb':b=it:=by simpa using hb
   rw[hb'];exact Nat.ne_of_lt hil
 done:=by
  intro X hP hw hK hc i pins s σ H E I hf st hg
  subst hP hw hK
  obtain ⟨f0,f1,f2,f3,f4,f5⟩:=hf it (by simp)
  obtain ⟨z,hd,vs,r,dd⟩:=I.frzAt hg.1 hda
  have hl:=r.length
  obtain ⟨ok,ov,st⟩:=st
  rw[hl] at st
  exact wpAny_pyNext_items_end (I.ok.hd hc) st dd (List.getElem?_eq_none (by have:=hg.2;omega)) fun h' eb=>⟨rfl,I.turned (t':=s.toks) (fun b o hb e=>eb b o hb e) f0 f1 f3 f4 f5⟩
 self:=fun _ _ _ _ _ ⟨ok,ov,st⟩ h=>qfr st h
end
end L2
namespace L2
open PySem PySem.Spec PyProof.Rows PySem.W
section
variable {cmp:Nat→Nat→(Bool→Shared→Prop)→Shared→Prop}{Ok:Shared→Prop}{g:Nat→Int}{n:Nat}
def Ans (cmp:Nat→Nat→(Bool→Shared→Prop)→Shared→Prop) (Ok:Shared→Prop) (g:Nat→Int) (n:Nat):Prop:=
 ∀ i j C s,i<n→j<n→Ok s→(∀ s',Ok s'→C (decide (g i<g j)) s')→cmp i j C s
def Gk (g:Nat→Int) (p:Array Nat) (k:Nat):Int:=g (p.getD k 0)
def UpTo (g:Nat→Int) (p:Array Nat) (k:Nat):Prop:=∀ i j,i≤j→j<k→Gk g p i≤Gk g p j
def DnTo (g:Nat→Int) (p:Array Nat) (k:Nat):Prop:=∀ i j,i≤j→j<k→Gk g p j≤Gk g p i
def PmN (p:Array Nat) (n:Nat):Prop:=p.Perm (List.toArray (List.range n))
theorem PmN.size {p:Array Nat} (h:PmN p n):p.size=n:=by rw[h.size_eq];simp
theorem PmN.lt {p:Array Nat} (h:PmN p n) {k:Nat} (hk:k<n):p.getD k 0<n:=by
 have hs:k<p.size:=by rw[h.size];exact hk
 have e:p.getD k 0=p[k]:=by simp[Array.getD,hs]
 rw[e]
 have:p[k]∈List.toArray (List.range n):=h.mem_iff.mp (Array.getElem_mem hs)
 simpa using this
theorem ycr {p q:Array Nat}{i j:Nat} (h:p[i]?=q[j]?):Gk g p i=Gk g q j:=by
 unfold Gk;rw[← Array.getD_eq_getD_getElem?.symm,← Array.getD_eq_getD_getElem?.symm];simp[Array.getD_eq_getD_getElem?,h]
theorem qet {p:Array Nat}{src d:Nat} (hs:src<p.size) (hd:d≤src) (k:Nat):Gk g (bubble p src d) k=if k=src-d then Gk g p src else if src-d<k∧k≤src then Gk g p (k-1) else Gk g p k:=by
 have e:=getElem?_bubble hs d hd k
 by_cases h1:k=src-d
 ·rw[if_pos h1] at e ⊢;exact ycr e
 ·rw[if_neg h1] at e ⊢
  by_cases h2:src-d<k∧k≤src
  ·rw[if_pos h2] at e ⊢;exact ycr e
  ·rw[if_neg h2] at e ⊢;exact ycr e
theorem ygc {p:Array Nat}{i j:Nat} (hj:j≤p.size) (k:Nat):Gk g (kas_rev p i j) k=if i≤k∧k<j then Gk g p (i+j-1-k) else Gk g p k:=by
 have e:=getElem?_mirror_all (xs:=p) (i:=i) hj k
 unfold kas_rev
 by_cases h1:i≤k∧k<j
 ·rw[if_pos h1] at e ⊢;exact ycr e
 ·rw[if_neg h1] at e ⊢;exact ycr e
theorem ycy {p:Array Nat}{i j:Nat} (hj:j≤p.size) (heq:∀ k,i≤k→k<j→Gk g p k=Gk g p (j-1)) (k:Nat):Gk g (kas_rev p i j) k=Gk g p k:=by
 rw[ygc hj]
 split
 ·rw[heq _ (by omega) (by omega),heq k (by omega) (by omega)]
 ·rfl
theorem PmN.rev {p:Array Nat} (h:PmN p n) (i j:Nat):PmN (kas_rev p i j) n:=(mirror_perm p i j _).trans h
theorem PmN.bub {p:Array Nat} (h:PmN p n) (i j:Nat):PmN (bubble p i j) n:=(bubble_perm p i j).trans h
theorem t_asc (hc:Ans cmp Ok g n) {p:Array Nat} (hp:PmN p n) {Q:Nat→Shared→Prop}:∀ (f m:Nat) (s:Shared),1≤m→m+f=n→UpTo g p m→Ok s→
  (∀ m' s',Ok s'→m≤m'→m'≤n→UpTo g p m'→(m' < n→Gk g p m' < Gk g p (m' - 1))→Q m' s')→(kas_asc p f m).kasWp cmp Q s
 | 0,m,s,h1,hf,hu,ok,q=>q m s ok (Nat.le_refl _) (by omega) hu (by omega)
 | f+1,m,s,h1,hf,hu,ok,q=>by
  refine hc _ _ _ s (hp.lt (by omega)) (hp.lt (by omega)) ok fun s' ok'=>?_
  by_cases hl:Gk g p m<Gk g p (m-1)
  ·rw[show decide (g (p.getD m 0)<g (p.getD (m-1) 0))=true from decide_eq_true hl]
   exact q m s' ok' (Nat.le_refl _) (by omega) hu fun _=>hl
  ·rw[show decide (g (p.getD m 0)<g (p.getD (m-1) 0))=false from decide_eq_false hl]
   refine t_asc hc hp f (m+1) s' (by omega) (by omega) (fun i j hij hj=>?_) ok' fun m' s'' o1 o2 o3 o4 o5=>q m' s'' o1 (by omega) o3 o4 o5
   by_cases hjm:j<m
   ·exact hu i j hij hjm
   ·have e:j=m:=by omega
    subst e
    by_cases hi:i=j
    ·subst hi;exact Int.le_refl _
    ·exact Int.le_trans (hu i (j-1) (by omega) (by omega)) (Int.not_lt.mp hl)
theorem yfu (hc:Ans cmp Ok g n) {Q:Array Nat×Nat×Nat→Shared→Prop}:∀ (f:Nat) (p:Array Nat) (m q:Nat) (s:Shared),PmN p n→1≤m→m+f=n→DnTo g p m→q+1≤m→(∀ i,m-(q+1)≤i→i<m→Gk g p i=Gk g p (m-1))→Ok s→
  (∀ p' m' q' s',Ok s'→PmN p' n→m≤m'→m'≤n→DnTo g p' m'→q' + 1≤m'→(∀ i,m' - (q' + 1)≤i→i<m'→Gk g p' i=Gk g p' (m' - 1))→Q (p',m',q') s')→(kas_desc f p m q).kasWp cmp Q s
 | 0,p,m,q,s,hp,h1,hf,hd,hq,he,ok,k=>k p m q s ok hp (Nat.le_refl _) (by omega) hd hq he
 | f+1,p,m,q,s,hp,h1,hf,hd,hq,he,ok,k=>by
  refine hc _ _ _ s (hp.lt (by omega)) (hp.lt (by omega)) ok fun s' ok'=>?_
  have hsz:m≤p.size:=by rw[hp.size];omega
  by_cases hl:Gk g p m<Gk g p (m-1)
  ·rw[show decide (g (p.getD m 0)<g (p.getD (m-1) 0))=true from decide_eq_true hl]
   have step1:∀ xs:Array Nat,(∀ k,Gk g xs k=Gk g p k)→DnTo g xs (m+1):=by
    intro xs hk i j hij hj
    rw[hk,hk]
    by_cases hjx:j<m
    ·exact hd i j hij hjx
    ·have hj':j=m:=by omega
     subst hj'
     by_cases hi':i=j
     ·subst hi';exact Int.le_refl _
     ·exact Int.le_trans (Int.le_of_lt hl) (hd i (j-1) (by omega) (by omega))
   have fin:∀ xs:Array Nat,PmN xs n→(∀ k,Gk g xs k=Gk g p k)→(kas_desc f xs (m+1) 0).kasWp cmp Q s':=fun xs hx hk=>
    yfu hc f xs (m+1) 0 s' hx (by omega) (by omega) (step1 xs hk) (by omega) (fun i h1 h2=>by congr 1;omega) ok' fun p' m' q' s'' o1 o2 o3=>k p' m' q' s'' o1 o2 (by omega)
   show (if q>0 then _ else _:KasT _).kasWp cmp Q s'
   by_cases hneq:q>0
   ·rw[if_pos hneq]
    exact fin _ (hp.rev _ _) (ycy hsz he)
   ·rw[if_neg hneq]
    exact fin _ hp fun _=>rfl
  ·rw[show decide (g (p.getD m 0)<g (p.getD (m-1) 0))=false from decide_eq_false hl]
   refine hc _ _ _ s' (hp.lt (by omega)) (hp.lt (by omega)) ok' fun s2 ok2=>?_
   by_cases hl2:Gk g p (m-1)<Gk g p m
   ·rw[show decide (g (p.getD (m-1) 0)<g (p.getD m 0))=true from decide_eq_true hl2]
    exact k p m q s2 ok2 hp (Nat.le_refl _) (by omega) hd hq he
   ·rw[show decide (g (p.getD (m-1) 0)<g (p.getD m 0))=false from decide_eq_false hl2]
    have heqx:Gk g p m=Gk g p (m-1):=by omega
    refine yfu hc f p (m+1) (q+1) s2 hp (by omega) (by omega) (fun i j hij hj=>?_) (by omega) (fun i h1 h2=>?_) ok2 fun p' m' q' s'' o1 o2 o3=>k p' m' q' s'' o1 o2 (by omega)
    ·by_cases hjx:j<m
     ·exact hd i j hij hjx
     ·have hj':j=m:=by omega
      subst hj'
      by_cases hi':i=j
      ·subst hi';exact Int.le_refl _
      ·rw[heqx];exact hd i (j-1) (by omega) (by omega)
    ·rw[show m+1-1=m by omega]
     by_cases hix:i=m
     ·subst hix;rfl
     ·rw[heqx];exact he i (by omega) (by omega)
end
section
variable {cmp:Nat→Nat→(Bool→Shared→Prop)→Shared→Prop}{Ok:Shared→Prop}{g:Nat→Int}{n:Nat}
theorem ygz (hc:Ans cmp Ok g n) {p:Array Nat} (hp:PmN p n) {Q:Nat×Array Nat→Shared→Prop}{m:Nat}{s:Shared} (h1:1≤m) (hm:m≤n) (hd:DnTo g p m) (ok:Ok s)
  (q:∀ m' p' s',Ok s'→PmN p' n→1≤m'→m'≤n→UpTo g p' m'→Q (m',p') s'):(kas_tail3 m n p).kasWp cmp Q s:=by
 unfold kas_tail3
 rw[KasT.kasWp_bind]
 have hsz:m≤p.size:=by rw[hp.size];exact hm
 refine t_asc hc (hp.rev 0 m) (n-m) m s h1 (by omega) (fun i j hij hj=>?_) ok fun m' s' o1 o2 o3 o4 _=>q m' _ s' o1 (hp.rev 0 m) (by omega) o3 o4
 rw[ygc hsz,ygc hsz,if_pos ⟨Nat.zero_le _,by omega⟩,if_pos ⟨Nat.zero_le _,hj⟩]
 exact hd _ _ (by omega) (by omega)
theorem yds (hc:Ans cmp Ok g n) {p:Array Nat} (hp:PmN p n) {Q:Nat×Array Nat→Shared→Prop}{m:Nat}{s:Shared} (hm:m+1≤n) (hd:DnTo g p (m+1)) (ok:Ok s)
  (q:∀ m' p' s',Ok s'→PmN p' n→1≤m'→m'≤n→UpTo g p' m'→Q (m',p') s'):(kas_descPart m n p).kasWp cmp Q s:=by
 unfold kas_descPart
 rw[KasT.kasWp_bind]
 refine yfu hc (n-(m+1)) p (m+1) 0 s hp (by omega) (by omega) hd (by omega) (fun i h1 h2=>by congr 1;omega) ok fun p' m' q' s' o1 o2 o3 o4 o5 o6 o7=>?_
 have hsz:m'≤p'.size:=by rw[o2.size];exact o4
 show (if q' > 0 then _ else _:KasT _).kasWp cmp Q s'
 by_cases hq:q' > 0
 ·rw[if_pos hq]
  refine ygz (m:=m') hc (o2.rev _ _) (by omega) o4 (fun i j hij hj=>?_) o1 q
  show Gk g (kas_rev p' (m' - (q' + 1)) m') j≤Gk g (kas_rev p' (m' - (q' + 1)) m') i
  rw[ycy hsz o7,ycy hsz o7]
  exact o5 i j hij hj
 ·rw[if_neg hq]
  exact ygz (m:=m') hc o2 (by omega) o4 o5 o1 q
theorem t_count (hc:Ans cmp Ok g n) {p:Array Nat} (hp:PmN p n) {Q:Nat×Array Nat→Shared→Prop}{s:Shared} (h1:1≤n) (ok:Ok s)
  (q:∀ m' p' s',Ok s'→PmN p' n→1≤m'→m'≤n→UpTo g p' m'→Q (m',p') s'):(kas_count n p).kasWp cmp Q s:=by
 unfold kas_count
 rw[KasT.kasWp_bind]
 refine t_asc hc hp (n-1) 1 s (Nat.le_refl _) (by omega) (fun i j hij hj=>by rw[show i=j by omega];exact Int.le_refl _) ok fun m s' o1 o2 o3 o4 o5=>?_
 by_cases hm:m=n
 ·rw[if_pos (by simp[hm])]
  exact q m p s' o1 hp o2 o3 o4
 ·rw[if_neg (by simp[hm])]
  have hlt:=o5 (by omega)
  by_cases h2:m>1
  ·rw[if_pos h2]
   refine hc _ _ _ s' (hp.lt (by omega)) (hp.lt (by omega)) o1 fun s2 ok2=>?_
   by_cases hl:Gk g p 0<Gk g p (m-1)
   ·rw[show decide (g (p.getD 0 0)<g (p.getD (m-1) 0))=true from decide_eq_true hl]
    exact q m p s2 ok2 hp o2 o3 o4
   ·rw[show decide (g (p.getD 0 0)<g (p.getD (m-1) 0))=false from decide_eq_false hl]
    have hsz:m≤p.size:=by rw[hp.size];exact o3
    have all:∀ k,0≤k→k<m→Gk g p k=Gk g p (m-1):=fun k _ hk=>by
     have a:=o4 0 k (Nat.zero_le _) hk
     have b:=o4 k (m-1) (by omega) (by omega)
     omega
    refine yds hc (hp.rev 0 m) (by omega) (fun i j hij hj=>?_) ok2 q
    rw[ycy hsz all,ycy hsz all]
    by_cases hj':j<m
    ·rw[all i (Nat.zero_le _) (by omega),all j (Nat.zero_le _) hj'];exact Int.le_refl _
    ·have e:j=m:=by omega
     subst e
     by_cases hi:i=j
     ·subst hi;exact Int.le_refl _
     ·rw[all i (Nat.zero_le _) (by omega)];omega
  ·rw[if_neg h2]
   have e:m=1:=by omega
   subst e
   refine yds hc hp (by omega) (fun i j hij hj=>?_) o1 q
   by_cases hi:i=j
   ·subst hi;exact Int.le_refl _
   ·rw[show i=0 by omega,show j=1 by omega];exact Int.le_of_lt hlt
theorem ye0 (hc:Ans cmp Ok g n) {p:Array Nat} (hp:PmN p n) {k:Nat} (hk:k<n) (hu:UpTo g p k) {Q:Nat→Shared→Prop}:∀ (f l r:Nat) (s:Shared),l≤r→r≤k→r-l≤f→(∀ i,i<l→Gk g p i≤Gk g p k)→(∀ i,r≤i→i<k→Gk g p k<Gk g p i)→Ok s→
  (∀ l s',Ok s'→l≤k→(∀ i,i<l→Gk g p i≤Gk g p k)→(∀ i,l≤i→i<k→Gk g p k<Gk g p i)→Q l s')→(kas_place p k f l r).kasWp cmp Q s
 | 0,l,r,s,h1,h2,h3,hlo,hhi,ok,q=>q l s ok (by omega) hlo fun i a b=>hhi i (by omega) b
 | f+1,l,r,s,h1,h2,h3,hlo,hhi,ok,q=>by
  show (if l≥r then _ else _:KasT _).kasWp cmp Q s
  by_cases hge:l≥r
  ·rw[if_pos hge]
   exact q l s ok (by omega) hlo fun i a b=>hhi i (by omega) b
  ·rw[if_neg hge]
   refine hc _ _ _ s (hp.lt hk) (hp.lt (by omega)) ok fun s' ok'=>?_
   by_cases hl:Gk g p k<Gk g p ((l+r) / 2)
   ·rw[show decide (g (p.getD k 0)<g (p.getD ((l+r) / 2) 0))=true from decide_eq_true hl]
    exact ye0 hc hp hk hu f l ((l+r) / 2) s' (by omega) (by omega) (by omega) hlo (fun i a b=>Int.lt_of_lt_of_le hl (hu _ _ a b)) ok' q
   ·rw[show decide (g (p.getD k 0)<g (p.getD ((l+r) / 2) 0))=false from decide_eq_false hl]
    exact ye0 hc hp hk hu f ((l+r) / 2+1) r s' (by omega) (by omega) (by omega) (fun i a=>Int.le_trans (hu i ((l+r) / 2) (by omega) (by omega)) (Int.not_lt.mp hl)) hhi ok' q
theorem t_bin (hc:Ans cmp Ok g n) {Q:Array Nat→Shared→Prop}:∀ (f:Nat) (p:Array Nat) (k:Nat) (s:Shared),PmN p n→k+f=n→UpTo g p k→Ok s→(∀ p' s',Ok s'→PmN p' n→UpTo g p' n→Q p' s')→(kas_bin f p k).kasWp cmp Q s
 | 0,p,k,s,hp,hf,hu,ok,q=>q p s ok hp (by rw[← hf];exact hu)
 | f+1,p,k,s,hp,hf,hu,ok,q=>by
  unfold kas_bin
  rw[KasT.kasWp_bind]
  refine ye0 hc hp (by omega) hu k 0 k s (Nat.zero_le _) (Nat.le_refl _) (by omega) (fun i h=>by omega) (fun i a b=>by omega) ok fun l s' ok' hl hlo hhi=>?_
  have hs:k<p.size:=by rw[hp.size];omega
  refine t_bin hc f _ (k+1) s' (hp.bub k (k-l)) (by omega) (fun i j hij hj=>?_) ok' q
  rw[qet hs (by omega),qet hs (by omega),show k-(k-l)=l by omega]
  by_cases ei:i=l
  ·rw[if_pos ei]
   by_cases ej:j=l
   ·rw[if_pos ej];exact Int.le_refl _
   ·rw[if_neg ej,if_pos (by omega)];exact Int.le_of_lt (hhi _ (by omega) (by omega))
  ·rw[if_neg ei]
   by_cases i2:l<i∧i≤k
   ·rw[if_pos i2,if_neg (by omega),if_pos (by omega)];exact hu _ _ (by omega) (by omega)
   ·rw[if_neg i2]
    by_cases ej:j=l
    ·rw[if_pos ej];exact hlo i (by omega)
    ·rw[if_neg ej]
     by_cases j2:l<j∧j≤k
     ·rw[if_pos j2];exact hu _ _ (by omega) (by omega)
     ·rw[if_neg j2];exact hu _ _ hij (by omega)
theorem t_sort (hc:Ans cmp Ok g n) (h1:1≤n) {Q:Array Nat→Shared→Prop}{s:Shared} (ok:Ok s) (q:∀ p s',Ok s'→PmN p n→UpTo g p n→Q p s'):(kas_sort n).kasWp cmp Q s:=by
 unfold kas_sort
 rw[KasT.kasWp_bind]
 refine t_count hc (p:=List.toArray (List.range n)) (Array.Perm.refl _) h1 ok fun m p s' o1 o2 o3 o4 o5=>?_
 show (if m<n then _ else _:KasT _).kasWp cmp Q s'
 by_cases hm:m<n
 ·rw[if_pos hm]
  exact t_bin hc _ p (max m 1) s' o2 (by omega) (by rw[show max m 1=m by omega];exact o5) o1 q
 ·rw[if_neg hm]
  exact q p s' o1 o2 (by rw[show n=m by omega];exact o5)
end
def numL:List Int→Int
 | []=>0
 | x::xs=>x*4096 ^ xs.length+numL xs
def Sml (xs:List Int):Prop:=∀ x∈xs,0≤x∧x<4096
theorem ye5:∀ {xs:List Int},Sml xs→0≤numL xs∧numL xs<4096 ^ xs.length
 | [],_=>⟨Int.le_refl _,by show (0:Int)<4096 ^ 0;decide⟩
 | x::xs,h=>by
  obtain ⟨a,b⟩:=ye5 (xs:=xs) fun y hy=>h y (List.mem_cons_of_mem _ hy)
  obtain ⟨c,d⟩:=h x (List.mem_cons_self ..)
  have hp:(0:Int)<4096 ^ xs.length:=Int.pow_pos (by decide)
  have e:(4096:Int) ^ (x::xs).length=4096*4096 ^ xs.length:=by rw[List.length_cons,Int.pow_succ,Int.mul_comm]
  have m1:0≤x*4096 ^ xs.length:=Int.mul_nonneg c (Int.le_of_lt hp)
  have m2:x*4096 ^ xs.length≤4095*4096 ^ xs.length:=Int.mul_le_mul_of_nonneg_right (by omega) (Int.le_of_lt hp)
  unfold numL
  rw[e]
  generalize x*4096 ^ xs.length=z at *
  generalize (4096:Int) ^ xs.length=u at *
  constructor<;>omega
theorem qgn {x y:Int}{xs ys:List Int} (hl:xs.length=ys.length) (hx:Sml (x::xs)) (hy:Sml (y::ys)) (h:x<y):numL (x::xs)<numL (y::ys):=by
 obtain ⟨a,b⟩:=ye5 (xs:=xs) fun z hz=>hx z (List.mem_cons_of_mem _ hz)
 obtain ⟨c,d⟩:=ye5 (xs:=ys) fun z hz=>hy z (List.mem_cons_of_mem _ hz)
 have hp:(0:Int)<4096 ^ ys.length:=Int.pow_pos (by decide)
 rw[hl] at b
 unfold numL
 rw[hl]
 have m:(x+1)*4096 ^ ys.length≤y*4096 ^ ys.length:=Int.mul_le_mul_of_nonneg_right (by omega) (Int.le_of_lt hp)
 rw[Int.add_mul] at m
 generalize x*4096 ^ ys.length=u at *
 generalize y*4096 ^ ys.length=v at *
 generalize (4096:Int) ^ ys.length=q at *
 omega
section
variable {prog:Program}{w:World}{A:Around}{E:Value→Shared→Prop}{s:Shared}{Q:Bool→Shared→Prop}
theorem yfk:∀ {us vs:List Value}{ns ms:List Int} (i:Nat),IntsAre us ns→IntsAre vs ms→ns.length=ms.length→Sml ns→Sml ms→Q (decide (numL ns<numL ms)) s→KatLex prog w A true false Q (us.zip vs) i s
 | _,_,_,_,i,.nil,.nil,_,_,_,h=>kat_nil h
 | _,_,_,_,i,.nil,.cons _ _ _,hl,_,_,_=>by simp at hl
 | _,_,_,_,i,.cons _ _ _,.nil,hl,_,_,_=>by simp at hl
 | _,_,_,_,i,.cons (ns:=ns) n t r,.cons (ns:=ms) m u q,hl,h1,h2,h=>by
  have hl':ns.length=ms.length:=by simpa using hl
  refine kat_cons (wpAny_eqBool_int ?_)
  refine kat_go (fun e=>kat_yes ?_) (fun e=>kat_no ?_)
  ·have e':n=m:=by simpa using e
   subst e'
   refine yfk (i+1) r q hl' (fun y hy=>h1 y (List.mem_cons_of_mem _ hy)) (fun y hy=>h2 y (List.mem_cons_of_mem _ hy)) ?_
   rw[show decide (numL ns<numL ms)=decide (numL (n::ns)<numL (n::ms)) from decide_eq_decide.mpr (by show _↔n*4096 ^ ns.length+numL ns<n*4096 ^ ms.length+numL ms;rw[hl'];omega)]
   exact h
  ·have e':¬ n=m:=by simpa using e
   have hd:decide (numL (n::ns)<numL (m::ms))=decide (n<m):=by
    refine decide_eq_decide.mpr ⟨fun z=>?_,fun z=>qgn hl' h1 h2 z⟩
    rcases Int.lt_trichotomy n m with a|a|a
    ·exact a
    ·exact absurd a e'
    ·have:=qgn hl'.symm h2 h1 a
     omega
   rw[hd] at h
   cases i with
   | zero=>exact kat_lt_int h
   | succ i=>exact kat_one _ _ (PyProof.Rows.lt_int h)
theorem lt_ints {x y:Addr}{ox oy:Obj}{n k:Nat}{us vs:List Value}{ns ms:List Int} (hx:s.heap.get? x=some ox) (dx:ox.data=.seq us.toArray n) (hy:s.heap.get? y=some oy) (dy:oy.data=.seq vs.toArray k)
  (r:IntsAre us ns) (q:IntsAre vs ms) (hl:ns.length=ms.length) (h1:Sml ns) (h2:Sml ms) (h:Q (decide (numL ns<numL ms)) s):wpAny (model prog w) A (keyLt' (tuples' true) (.ref x) (.ref y)) Q E s:=by
 refine kat_lt hx dx hy dy ?_
 have e1:=r.length
 have e2:=q.length
 have ef:decide (us.toArray.size<vs.toArray.size)=false:=decide_eq_false (by rw[List.size_toArray,List.size_toArray];omega)
 rw[ef]
 exact yfk 0 r q hl h1 h2 h
end
section
variable {prog:Program}{w:World}{A:Around}{E:Value→Shared→Prop}{s:Shared}
theorem sort_by {a:Addr}{vs:List Value}{n:Nat}{κ:SortKind}{g:Nat→Int}{P:PySem.Fin→Shared→Prop} (ho:s.heap.get? a=some (seqObj "list" vs.toArray n)) (h64:vs.length<64)
  (hk:2≤vs.length→∀ s1:Shared,(∀ b o,b≠a→s.heap.get? b=some o→s1.heap.get? b=some o)→∀ (Q:SortKind→Shared→Prop),Q κ s1→wpAny (model prog w) A (keyKind' vs.toArray) Q (fun _ _=>False) s1)
  (hq:∀ s1:Shared,(∀ b o,b≠a→s.heap.get? b=some o→s1.heap.get? b=some o)→∀ i j,i<vs.length→j<vs.length→∀ (C:Bool→Shared→Prop),C (decide (g i<g j)) s1→wpAny (model prog w) A (keyLt' κ (vs.getD i Value.none) (vs.getD j Value.none)) C (fun _ _=>False) s1)
  (h:∀ p:Array Nat,PmN p vs.length→UpTo g p vs.length→P (.done (.ret .none)) { s with heap:=sortedHeap s.heap a vs (List.toArray (p.toList.map fun i=>vs.getD i Value.none)) }) :
  wpAny (model prog w) A (Builtin.«list.sort» ⟨[.ref a],[]⟩) P E s:=by
 rw[list_sort_plain]
 have ha:a<s.heap.objs.size:=Heap.lt_size ho
 refine wpAny_bind (listItems_at ho rfl ?_)
 refine wpAny_bind (listUpdate_at ho rfl ?_)
 obtain ⟨e1,ho1⟩:∃ e1,(s.heap.update a (Obj.mapSeq fun _=>#[])).get? a=some (seqObj "list" #[] e1):=⟨_,get?_update_seq ho (fun _=>#[])⟩
 refine wpAny_bind (seqEpoch_at ho1 rfl ?_)
 refine wpAny_bind (wpAny_newTuple ?_)
 refine wpAny_bind (wpAny_newList ?_)
 refine wpAny_holding ?_
 have ho6:(((s.heap.update a (Obj.mapSeq fun _=>#[])).push (seqObj "tuple" vs.toArray 0)).push (seqObj "list" #[] 0)).get? a=some (seqObj "list" #[] e1):=by
  rw[Heap.get?_push_ne _ _ _ (by rw[size_push',Heap.size_update];exact Nat.ne_of_lt (Nat.lt_succ_of_lt ha)),Heap.get?_push_ne _ _ _ (by rw[Heap.size_update];exact Nat.ne_of_lt ha)]
  exact ho1
 have kp:∀ b o,b≠a→s.heap.get? b=some o→(((s.heap.update a (Obj.mapSeq fun _=>#[])).push (seqObj "tuple" vs.toArray 0)).push (seqObj "list" #[] 0)).get? b=some o:=fun b o hb e=>
  Heap.get?_push_of_some _ (Heap.get?_push_of_some _ ((Heap.get?_update_other _ _ (Ne.symm hb)).trans e))
 show wpAny (model prog w) A _ P E { s with heap:=((s.heap.update a (Obj.mapSeq fun _=>#[])).push (seqObj "tuple" vs.toArray 0)).push (seqObj "list" #[] 0) }
 dsimp only
 have hsz:vs.toArray.size=vs.length:=by simp
 by_cases h2:vs.toArray.size<2
 ·rw[if_pos h2,if_pos h2]
  refine wpAny_bind (wpAny_pure ?_)
  rw[StateT.run_pure]
  refine wpAny_bind (wpAny_pure ?_)
  dsimp only
  refine wpAny_bind (seqEpoch_at ho6 rfl ?_)
  have eo:(arrOf (SortSt.mk' general' (vs.toArray.zip vs.toArray) #[] 7 none)).map (·.2)=List.toArray ((List.toArray (List.range vs.length)).toList.map fun i=>vs.getD i Value.none):=by
   refine kat_snds (ks:=vs) (vs:=vs) rfl (p:=List.toArray (List.range vs.length)) ?_
   have e:=kas_range (vs.toArray.zip vs.toArray)
   rw[show (vs.toArray.zip vs.toArray).size=vs.length by simp] at e
   exact e.symm
  rw[eo]
  refine wpAny_bind (listUpdate_at ho6 rfl ?_ (hsz2:=by rw[List.size_toArray,List.length_map,Array.length_toList,List.size_toArray,List.length_range,sizeLine_eq];omega))
  simp only[bne_self_eq_false,Bool.false_eq_true,if_false]
  refine wpAny_pure (h _ (Array.Perm.refl _) fun i j hij hj=>?_)
  have:i=j:=by omega
  subst this;exact Int.le_refl _
 ·rw[if_neg h2,if_neg h2]
  have h2':2≤vs.length:=by omega
  generalize hs1:({ s with heap:=((s.heap.update a (Obj.mapSeq fun _=>#[])).push (seqObj "tuple" vs.toArray 0)).push (seqObj "list" #[] 0) }:Shared)=s1
  have kp1:∀ b o,b≠a→s.heap.get? b=some o→s1.heap.get? b=some o:=by rw[← hs1];exact kp
  have ho7:s1.heap.get? a=some (seqObj "list" #[] e1):=by rw[← hs1];exact ho6
  refine wpAny_bind (wpAny_mono (hk h2' s1 kp1 (fun κ' s'=>κ'=κ∧s'=s1) ⟨rfl,rfl⟩) ?_ fun _ _ x=>x.elim)
  rintro _ _ ⟨rfl,rfl⟩
  rename_i κ s1
  have ans:Ans (kas_ask prog w A κ vs) (fun s'=>s'=s1) g vs.length:=fun i j C s2 hi hj e k=>by
   have e':s2=s1:=e
   subst e'
   exact hq s2 kp1 i j hi hj C (k s2 rfl)
  refine wpAny_bind (wpAny_mono (kat_run (Q:=fun st' s'=>∃ p:Array Nat,p.size=vs.length∧arrOf st'=p.map (kas_item (vs.toArray.zip vs.toArray))∧failedOf st'=none∧PmN p vs.length∧UpTo g p vs.length∧s'=s1)
   rfl h2' h64 (fun p' st' s' a1 a2 a3 a4=>⟨p',a1,a2,a3,a4⟩) (t_sort ans (by omega) rfl fun p s' ok pm up=>⟨pm,up,ok⟩)) ?_ fun _ _ e=>e)
  rintro ⟨⟨⟩,st'⟩ s' ⟨p,hp,har,hf,pm,up,rfl⟩
  dsimp only
  refine wpAny_bind (seqEpoch_at ho7 rfl ?_)
  rw[kat_snds rfl har]
  refine wpAny_bind (listUpdate_at ho7 rfl ?_ (hsz2:=by rw[List.size_toArray,List.length_map,Array.length_toList,hp,sizeLine_eq];omega))
  rw[hf]
  simp only[bne_self_eq_false,Bool.false_eq_true,if_false]
  refine wpAny_pure ?_
  rw[← hs1]
  exact h p pm up
end
abbrev TL:=Addr×List Int
def TIs (h:Heap) (ts:List TL):Prop:=∀ t∈ts,∃ (o:Obj) (us:List Value) (n:Nat),h.get? t.1=some o∧o.cls=.type "tuple"∧o.data=.seq us.toArray n∧IntsAre us t.2
def qa3 (ts:List TL):List Value:=ts.map fun t=>Value.ref t.1
def yaf (ts:List TL):List V:=ts.map fun t=>V.ref t.1
def OkT (m:Nat) (ts:List TL):Prop:=∀ t∈ts,t.2.length=m+1∧Sml t.2
def RiseT (ts:List TL):Prop:=ts.Pairwise fun t u=>numL t.2≤numL u.2
theorem qg1:∀ {h:Heap}{ts:List TL}{m:Nat},TIs h ts→OkT m ts→∃ fs:List Value,KatTups h (qa3 ts) fs∧fs.length=ts.length∧∀ v∈fs,∃ i t,v=Value.int i t
 | h,[],m,_,_=>⟨[],.nil,rfl,fun v hv=>by simp at hv⟩
 | h,t::ts,m,x,y=>by
  obtain ⟨fs,k1,k2,k3⟩:=qg1 (ts:=ts) (fun u hu=>x u (List.mem_cons_of_mem _ hu)) (fun u hu=>y u (List.mem_cons_of_mem _ hu))
  obtain ⟨o,us,n,e1,e2,e3,e4⟩:=x t (List.mem_cons_self ..)
  obtain ⟨y1,_⟩:=y t (List.mem_cons_self ..)
  generalize ht:t.2=ns at *
  cases e4 with
  | nil=>simp at y1
  | cons i tk r=>exact ⟨.int i tk::fs,.cons e1 e2 e3 rfl k1,by simp[k2],fun v hv=>by
    rcases List.mem_cons.mp hv with rfl|hv
    ·exact ⟨i,tk,rfl⟩
    ·exact k3 v hv⟩
theorem qd7:∀ {ts:List TL}{us:List Value},Vals (yaf ts) us→us=qa3 ts
 | [],_,.nil=>rfl
 | t::ts,_,.cons r q=>by
  rw[qd7 q]
  cases r
  rfl
theorem qee:∀ (ts:List TL),Vals (yaf ts) (qa3 ts)
 | []=>.nil
 | t::ts=>.cons rfl (qee ts)
theorem qfs {α:Type} (d:α) (l:List α):(List.range l.length).map (fun i=>l.getD i d)=l:=by
 refine List.ext_getElem? fun i=>?_
 rw[List.getElem?_map]
 by_cases h:i<l.length
 ·rw[List.getElem?_range h,List.getElem?_eq_getElem h]
  simp[List.getD_eq_getElem?_getD,h]
 ·rw[List.getElem?_eq_none (by omega:l.length≤i),List.getElem?_eq_none (by simpa using h)]
  rfl
theorem perm_out {α:Type} (d:α) (l:List α) {p:Array Nat} (h:PmN p l.length):(p.toList.map fun i=>l.getD i d).Perm l:=by
 have:=(Array.perm_iff_toList_perm.mp h).map (fun i=>l.getD i d)
 rw[List.toList_toArray,qfs] at this
 exact this
theorem rise_out {g:Nat→Int}{p:Array Nat}{n:Nat}{α:Type} (f:Nat→α) (key:α→Int) (hs:p.size=n) (hk:∀ i,key (f i)=g i) (h:UpTo g p n):(p.toList.map f).Pairwise fun a b=>key a≤key b:=by
 rw[List.pairwise_iff_getElem]
 intro i j hi hj hij
 rw[List.length_map,Array.length_toList] at hi hj
 have:=h i j (Nat.le_of_lt hij) (by omega)
 rw[List.getElem_map,List.getElem_map,hk,hk]
 unfold Gk at this
 simpa [Array.getD,hi,hj] using this
section
variable {prog:Program}{w:World}{A:Around}{E:Value→Shared→Prop}{s:Shared}
theorem ygm {a:Addr}{ts:List TL}{n m:Nat}{P:PySem.Fin→Shared→Prop} (ho:s.heap.get? a=some (seqObj "list" (qa3 ts).toArray n)) (h64:ts.length<64) (hT:TIs s.heap ts) (hO:OkT m ts)
  (h:∀ ts':List TL,ts'.Perm ts→RiseT ts'→P (.done (.ret .none)) { s with heap:=sortedHeap s.heap a (qa3 ts) (qa3 ts').toArray }) :
  wpAny (model prog w) A (Builtin.«list.sort» ⟨[.ref a],[]⟩) P E s:=by
 have hl:(qa3 ts).length=ts.length:=List.length_map _
 have kT:∀ s1:Shared,(∀ b o,b≠a→s.heap.get? b=some o→s1.heap.get? b=some o)→TIs s1.heap ts:=fun s1 k t ht=>by
  obtain ⟨o,us,k2,e1,e2,e3,r⟩:=hT t ht
  refine ⟨o,us,k2,k _ _ (fun z=>?_) e1,e2,e3,r⟩
  rw[z,ho] at e1
  cases e1
  exact absurd (Value.type.inj (show Value.type "list" = Value.type "tuple" from e2)) (by decide)
 have hv:∀ i,(qa3 ts).getD i Value.none=if h:i<ts.length then Value.ref (ts[i]).1 else Value.none:=fun i=>by
  unfold qa3
  rw[List.getD_eq_getElem?_getD,List.getElem?_map]
  by_cases h:i<ts.length
  ·rw[dif_pos h,List.getElem?_eq_getElem h];rfl
  ·rw[dif_neg h,List.getElem?_eq_none (by omega)];rfl
 refine sort_by (κ:=tuples' true) (g:=fun i=>numL (ts.getD i (0,[])).2) ho (by omega) (fun h2 s1 k Q q=>?_) (fun s1 k i j hi hj C c=>?_) fun p pm up=>?_
 ·obtain ⟨fs,k1,k2,k3⟩:=qg1 (kT s1 k) hO
  refine kat_kind (T:=.type "int") k1 (by omega) (fun v hv=>?_) (by decide) ?_
  ·obtain ⟨i,t,rfl⟩:=k3 v hv
   exact Looks.of_pure rfl
  ·exact q
 ·rw[hl] at hi hj
  rw[hv,hv,dif_pos hi,dif_pos hj]
  obtain ⟨o1,u1,n1,a1,a2,a3,a4⟩:=kT s1 k ts[i] (List.getElem_mem hi)
  obtain ⟨o2,u2,n2,b1,b2,b3,b4⟩:=kT s1 k ts[j] (List.getElem_mem hj)
  obtain ⟨l1,m1⟩:=hO ts[i] (List.getElem_mem hi)
  obtain ⟨l2,m2⟩:=hO ts[j] (List.getElem_mem hj)
  have e1:ts.getD i (0,[])=ts[i]:=by simp[List.getD_eq_getElem?_getD,hi]
  have e2:ts.getD j (0,[])=ts[j]:=by simp[List.getD_eq_getElem?_getD,hj]
  rw[e1,e2] at c
  exact lt_ints a1 a3 b1 b3 a4 b4 (by omega) m1 m2 c
 ·rw[hl] at pm up
  have:=h (p.toList.map fun i=>ts.getD i (0,[])) (perm_out _ _ pm) (rise_out _ (fun t:TL=>numL t.2) pm.size (fun i=>rfl) up)
  have e:(qa3 (p.toList.map fun i=>ts.getD i (0,[])))=p.toList.map fun i=>(qa3 ts).getD i Value.none:=by
   unfold qa3
   rw[List.map_map]
   refine List.map_congr_left fun i hi=>?_
   have hi':i<ts.length:=by
    have:=(Array.perm_iff_toList_perm.mp pm).mem_iff.mp hi
    simpa using this
   show Value.ref (ts.getD i (0,[])).1=_
   rw[List.getD_eq_getElem?_getD,List.getD_eq_getElem?_getD,List.getElem?_map,List.getElem?_eq_getElem hi']
   rfl
  rw[e] at this
  exact this
theorem ydm {v:Value}{Q:Value→Shared→Prop}
  (h:wpAny (model prog w) A.in1 (collect v) (fun vs s1=>vs.length<64∧(∀ (s2:Shared),s2={ s1 with heap:=s1.heap.push (seqObj "list" vs.toArray 0) }→
   wpAny (model prog w) A.in1.in1 (Builtin.«list.sort» ⟨[.ref s1.heap.objs.size],[]⟩) (fun f s3=>f=.done (.ret .none)∧Q (.ref s1.heap.objs.size) s3) (fun _ _=>False) s2)) E s) :
  wpAny (model prog w) A (call (.builtin "sorted") [v]) Q E s:=by
 refine Calls.call_function_entry kind_sorted plain_sorted entry_sorted (args_sorted1 v) ?_
 unfold Builtin.«sorted»
 refine wpAny_bind (m:=checkCount "sorted" 1 1 _) ?_
 refine wpAny_pure ?_
 refine wpAny_bind (wpAny_mono h (fun vs s1 hq=>?_) fun _ _ x=>x)
 obtain ⟨h64,k⟩:=hq
 refine wpAny_bind (wpAny_newList ?_ (yco (by omega)))
 have gL:(s1.heap.push (seqObj "list" vs.toArray 0)).get? s1.heap.objs.size=some (seqObj "list" vs.toArray 0):=Heap.get?_push_size _ rfl
 refine wpAny_bind (wpAny_holding (wpAny_call_entry slot_list_sort ⟨_,gL,rfl⟩ entry_list_sort (wpAny_mono (k _ rfl) (fun f s3 hf=>?_) fun _ _ x=>x.elim) (args_list_sort _)))
 obtain ⟨rfl,q⟩:=hf
 exact ⟨_,rfl,wpAny_pure ⟨_,rfl,q⟩⟩
theorem qf5 {R:Result→Shared→Prop}{T:String}{r d:Addr}{n:Nat}{P:Nat→Value→Prop}{OK:Heap→Prop} (K:KdlSrc prog w T r d n P OK) (hh:A.handled=none) (hok:OK s.heap) (hn:n≤sizeLine)
  (k:∀ h' tk acc c,h'.get? s.heap.objs.size=some { cls:=.type "list",dict:=none,data:=.seq acc c,slots:=#[] }→ItemsOf P acc n→(∀ b o,s.heap.get? b=some o→h'.get? b=some o)→R (.ok (.ret (.ref s.heap.objs.size))) { s with heap:=h',toks:=tk }) :
  codeAny (model prog w) A (.builtin "proto.collect" ⟨[.ref r],[]⟩) R s:=by
 have hlt:=K.there _ hok
 refine codeAny_builtin F.entry_proto_collect ?_
 rw[Around.under_plainId F.plain_proto_collect _]
 show wpAny _ A.in1 (newList [] >>= fun l=>again (.builtin "list.__iadd__" ⟨[l,.ref r],[]⟩)) _ _ s
 refine wpAny_bind (wpAny_newObj_type ?_)
 refine wpAny_pure ⟨plainId_quiet F.plain_list_iadd _,?_⟩
 refine codeAny_builtin F.entry_list_iadd ?_
 rw[Around.under_plainId F.plain_list_iadd _]
 show wpAny _ A.in1 (Builtin.List.listExtendWith (.ref s.heap.objs.size) (.ref r) (.ref s.heap.objs.size)) _ _ _
 have g0:(s.heap.push { cls:=.type "list",data:=.seq ([]:List Value).toArray }).get? s.heap.objs.size=some { cls:=.type "list",data:=.seq #[] }:=Heap.get?_push_size _ rfl
 refine kdl_extend (R:=R) (s:={ s with heap:=s.heap.push { cls:=.type "list",data:=.seq ([]:List Value).toArray } }) K hh (K.keep _ _ hok fun b _ o e=>Heap.get?_push_of_some _ e) _ (Nat.ne_of_gt hlt.1) (Nat.ne_of_gt hlt.2) _ 0 g0 (fun h' tk acc c kp g it=>?_) hn
 exact k h' tk acc c g it fun b o e=>kp b o (Nat.ne_of_lt (Heap.lt_size e)) (Heap.get?_push_of_some _ e)
theorem yfh {Q:List Value→Shared→Prop}{T:String}{r d:Addr}{n:Nat}{P:Nat→Value→Prop}{OK:Heap→Prop} (K:KdlSrc prog w T r d n P OK) (hh:A.handled=none) (hok:OK s.heap) (hn:n≤sizeLine)
  (k:∀ vs h' tk,vs.length=n→(∀ (j:Nat) v,vs[j]?=some v→P j v)→s.heap.objs.size<h'.objs.size→(∀ b o,s.heap.get? b=some o→h'.get? b=some o)→Q vs { s with heap:=h',toks:=tk }) :
  wpAny (model prog w) A (collect (.ref r)) Q E s:=by
 unfold collect
 refine wpAny_bind (wpAny_runValue (qf5 K hh hok hn fun h' tk acc c g it kp=>?_))
 refine wpAny_bind (wpAny_load g ?_)
 exact wpAny_pure (k acc.toList h' tk (by rw[Array.length_toList];exact it.1) (fun j v e=>it.2 j v (by rw[← Array.getElem?_toList];exact e)) (Heap.lt_size g) kp)
end
section
variable {prog:Program}{w:World}{A:Around}{E:Value→Shared→Prop}{s:Shared}{it d:Addr}{es:Array DictEntry}{ep i:Nat}
def qdq (h:Heap) (d:Addr) (es:Array DictEntry) (ep:Nat):Prop:=∃ o,h.get? d=some o∧o.ExactDict∧o.data=.dict es ep
theorem qdq.ty (x:qdq s.heap d es ep):s.TypeIs (.ref d) "dict":=let ⟨o,ho,hc,_⟩:=x;⟨o,ho,hc.1⟩
theorem qdq.at_ {h h':Heap} (x:qdq h d es ep) (k:∀ o,h.get? d=some o→h'.get? d=some o):qdq h' d es ep:=let ⟨o,ho,r⟩:=x;⟨o,k _ ho,r⟩
theorem iterE {Q:Value→Shared→Prop} (hd:(d == sysModules)=false) (hm:qdq s.heap d es ep)
  (hQ:Q (.ref s.heap.objs.size) { s with heap:=s.heap.push { cls:=.type "dict_keyiterator",data:=.fields #[.ref d,.int 0 0,.int es.size 0,.int ep 0] } }):wpAny (model prog w) A (pyIter (.ref d)) Q E s:=by
 obtain ⟨o,ho,hc,hdat⟩:=id hm
 refine wpAny_pyIter_slot hm.ty F.slot_dict_iter (wpAny_call_entry F.slot_dict_iter hm.ty F.entry_dict_iter ?_ (F.args_dict_iter_1 _))
 unfold Builtin.«dict.__iter__»
 refine wpAny_bind ?_
 unfold Builtin.Dict.dictSlotNone
 refine wpAny_bind (wpAny_notOrdered_dict hm.ty ?_)
 show wpAny _ _ (pure (Value.ref d)) _ _ s
 refine wpAny_pure ?_
 show wpAny _ _ (Builtin.Dict.showsAll d >>= _) _ _ s
 unfold Builtin.Dict.showsAll
 rw[if_neg (by rw[hd];exact Bool.false_ne_true)]
 refine wpAny_bind (wpAny_pure (wpAny_bind (wpAny_dictEntries ho hdat (wpAny_bind (wpAny_dictEpoch ho hdat ?_)))))
 exact wpAny_bind (wpAny_newObj_type (wpAny_pure ⟨_,rfl,"dict_keyiterator",_,⟨_,Heap.get?_push_size _ rfl,rfl⟩,F.slot_dict_keyiterator_next.lookup,hQ⟩))
theorem nextE {Q:Option Value→Shared→Prop} (hit:s.heap.IsKeyIter it d i es.size ep) (hm:qdq s.heap d es ep) (hi:i<es.size)
  (hQ:∀ h',h'.IsKeyIter it d (i+1) es.size ep→Heap.SameBut it s.heap h'→Q (some es[i].key) { s with heap:=h' }):wpAny (model prog w) A (pyNext (.ref it)) Q E s:=by
 obtain ⟨o,ho,hc,hd⟩:=id hit
 obtain ⟨od,hod,hcd,hdd⟩:=id hm
 unfold pyNext
 refine wpAny_bind (wpAny_attempt (wpAny_callSpecial?_slot (name:=Str.ofString "__next__") hit.typeIs F.slot_dict_keyiterator_next
  (wpAny_call_entry F.slot_dict_keyiterator_next hit.typeIs F.entry_dict_keyiterator_next ?_ (F.args_dict_keyiterator_next_1 _))))
 refine wpAny_bind (wpAny_pure (wpAny_bind (wpAny_bind ?_)))
 first|refine wpAny_bind (wpAny_typeNameOfWhole_keyiter hit.typeIs (wpAny_pure ?_))|refine wpAny_bind (wpAny_typeNameOf_keyiter hit.typeIs (wpAny_pure ?_))
 refine wpAny_bind (wpAny_fieldsOf ho hd ?_)
 simp only[show Builtin.Dict_items.ownsTuple "dict_keyiterator" = false by decide,Bool.false_eq_true,if_false]
 show wpAny _ _ (if (Value.ref d == Value.none)=true then _ else _) _ _ s
 rw[if_neg (show ¬ ((Value.ref d == Value.none)=true) from Bool.false_ne_true)]
 refine wpAny_bind (wpAny_pure (wpAny_bind (wpAny_dictEntries hod hdd ?_)))
 rw[if_neg (by simp)]
 refine wpAny_bind (wpAny_pure (wpAny_bind (wpAny_dictEpoch hod hdd ?_)))
 rw[if_neg (by simp)]
 refine wpAny_pure ?_
 simp only[show ¬ ((i:Int)<0) from by omega,if_false,Int.toNat_natCast,Array.getElem?_eq_getElem hi]
 refine wpAny_bind ?_
 first|refine wpAny_bind (wpAny_typeNameOfWhole_keyiter hit.typeIs (wpAny_pure ?_))|refine wpAny_bind (wpAny_typeNameOf_keyiter hit.typeIs (wpAny_pure ?_))
 refine wpAny_bind (wpAny_isOneOf_keyiter hit.typeIs ?_)
 show wpAny _ _ (setField (.ref it) 1 (rawInt ((i:Int)+1)) >>= _) _ _ s
 refine wpAny_bind (wpAny_setField ho hd (by simp) ?_)
 have hit':(s.heap.update it (Obj.mapFields (·.setIfInBounds 1 (rawInt ((i:Int)+1))))).IsKeyIter it d (i+1) es.size ep:=
  ⟨_,Heap.get?_update_self _ ho (Obj.isFreed_of_fields (Obj.data_mapFields hd _)),(Obj.cls_mapFields ..).trans hc,by rw[Obj.data_mapFields hd];simp[rawInt]⟩
 refine wpAny_bind (wpAny_holding ?_)
 refine wpAny_bind (wpAny_isOneOf_keyiter (s:={ s with heap:=s.heap.update it (Obj.mapFields (·.setIfInBounds 1 (rawInt ((i:Int)+1)))) }) hit'.typeIs ?_)
 show wpAny _ _ (pure es[i].key) _ _ _
 exact wpAny_pure (wpAny_pure ⟨_,rfl,wpAny_pure (hQ _ hit' (Heap.SameBut.update ..))⟩)
theorem endE {Q:Option Value→Shared→Prop} (hh:A.handled=none) (hit:s.heap.IsKeyIter it d i es.size ep) (hm:qdq s.heap d es ep) (hi:es.size≤i)
  (hQ:∀ h',Heap.ExtBut it s.heap h'→Q none { s with heap:=h' }):wpAny (model prog w) A (pyNext (.ref it)) Q E s:=by
 obtain ⟨o,ho,hc,hd⟩:=id hit
 obtain ⟨od,hod,hcd,hdd⟩:=id hm
 unfold pyNext
 refine wpAny_bind (wpAny_attempt (wpAny_callSpecial?_slot (name:=Str.ofString "__next__") hit.typeIs F.slot_dict_keyiterator_next
  (wpAny_call_entry F.slot_dict_keyiterator_next hit.typeIs F.entry_dict_keyiterator_next ?_ (F.args_dict_keyiterator_next_1 _))))
 refine wpAny_bind (wpAny_pure (wpAny_bind (wpAny_bind ?_)))
 first|refine wpAny_bind (wpAny_typeNameOfWhole_keyiter hit.typeIs (wpAny_pure ?_))|refine wpAny_bind (wpAny_typeNameOf_keyiter hit.typeIs (wpAny_pure ?_))
 refine wpAny_bind (wpAny_fieldsOf ho hd ?_)
 simp only[show Builtin.Dict_items.ownsTuple "dict_keyiterator" = false by decide,Bool.false_eq_true,if_false]
 show wpAny _ _ (if (Value.ref d == Value.none)=true then _ else _) _ _ s
 rw[if_neg (show ¬ ((Value.ref d == Value.none)=true) from Bool.false_ne_true)]
 refine wpAny_bind (wpAny_pure (wpAny_bind (wpAny_dictEntries hod hdd ?_)))
 rw[if_neg (by simp)]
 refine wpAny_bind (wpAny_pure (wpAny_bind (wpAny_dictEpoch hod hdd ?_)))
 rw[if_neg (by simp)]
 refine wpAny_pure ?_
 simp only[show ¬ ((i:Int)<0) from by omega,if_false,Int.toNat_natCast,Array.getElem?_eq_none hi]
 refine wpAny_bind ?_
 first|refine wpAny_bind (wpAny_typeNameOfWhole_keyiter hit.typeIs (wpAny_pure ?_))|refine wpAny_bind (wpAny_typeNameOf_keyiter hit.typeIs (wpAny_pure ?_))
 show wpAny _ _ (setField (.ref it) 0 .none >>= _) _ _ s
 refine wpAny_bind (wpAny_setField ho hd (by simp) ?_)
 show wpAny _ _ (newExc (.type "StopIteration") [] >>= _) _ _ _
 refine wpAny_bind ?_
 simp only[newExc,newTuple]
 refine wpAny_bind (wpAny_newObj_type ?_ (by size_fits))
 refine wpAny_bind (m:=firstArgMember _ _) (wpAny_of_eq (a:=Value.none) (by first|rfl|(simp only[firstArgMember];rfl)) ?_)
 refine wpAny_newObj_type ?_ (by size_fits)
 simp only[raiseNew]
 refine wpAny_bind (wpAny_handled ?_)
 rw[show A.in1.handled=none from hh]
 refine wpAny_bind (wpAny_pure (wpAny_throw ?_))
 refine wpAny_bind (wpAny_isInstance (T:="StopIteration") (b:=true) ⟨_,Heap.get?_push_size _ rfl,rfl⟩ isSubtype_stop ?_)
 exact wpAny_pure (hQ _ (((Heap.SameBut.update ..).extBut.push _).push _))
theorem walksE (hh:A.handled=none) (I d:Addr) (hne:d≠I) (es:Array DictEntry) (ep:Nat) :
  Walks prog w A I [I,d] [I] es.size (fun i v=>∃ e,es[i]?=some e∧v=e.key) (fun i h=>h.IsKeyIter I d i es.size ep∧qdq h d es ep) where
 sub:=fun b hb=>by simp at hb;simp[hb]
 frame:=fun _ _ _ st hk=>⟨st.1.at fun o e=>hk I (by simp) o e,st.2.at_ fun o e=>hk d (by simp) o e⟩
 item:=fun i s Q E hi st hQ=>by
  refine nextE st.1 st.2 hi fun h' hit' hs'=>?_
  exact hQ _ h' s.toks ⟨es[i],by simp[hi],rfl⟩ ⟨hit',st.2.at_ fun o e=>hs'.extBut d o hne e⟩ fun b o hb e=>hs'.extBut b o (fun h=>hb (by simp[h])) e
 done:=fun s Q E st hQ=>endE hh st.1 st.2 (Nat.le_refl _) fun h' he'=>hQ h' s.toks fun b o hb e=>he' b o (fun h=>hb (by simp[h])) e
 self:=fun _ _ _ _ st hQ=>wpAny_pyIter_keyiter st.1 hQ
theorem srcE (lo:(d == sysModules)=false):KdlSrc prog w "dict" d d es.size (fun i v=>∃ e,es[i]?=some e∧v=e.key) (fun h=>qdq h d es ep) where
 type:=fun _ hm=>hm.ty
 there:=fun _ ⟨o,ho,_⟩=>⟨Heap.lt_size ho,Heap.lt_size ho⟩
 keep:=fun _ _ hm hk=>hm.at_ fun o e=>hk d (.inl rfl) o e
 notList:=by decide
 notTuple:=by decide
 hint:=fun _ _ _ _ hm hq=>kdl_hint_dict hm.ty hq
 iter:=fun _ _ hh hm=>⟨_,_,(fun _ _ hq=>iterE lo hm hq),walksE hh _ d (let ⟨_,ho,_⟩:=hm;Nat.ne_of_lt (Heap.lt_size ho)) es ep,⟨⟨_,Heap.get?_push_size _ rfl,rfl,rfl⟩,hm.at_ fun o e=>Heap.get?_push_of_some _ e⟩⟩
end
section
variable {X:Cx}
def rSortT:List V→Hp→VK→Prop:=fun xs H Q=>∃ (l:Addr) (ts:List TL) (m:Nat),xs=[.ref l]∧H l=some (.lst (yaf ts))∧(∀ t∈ts,H t.1=some (.tup (t.2.map V.int)))∧OkT m ts∧ts.length<64∧
 ∀ (p:Addr) (ts':List TL),H p=none→ts'.Perm ts→RiseT ts'→Q (.ref p) (upd H p (.lst (yaf ts')))
theorem tis_of {P:Program}{w:World}{H:Hp}{h:Heap} (ok:HOk P w H h) {ts:List TL} (hT:∀ t∈ts,H t.1=some (.tup (t.2.map V.int))):TIs h ts:=fun t ht=>by
 obtain ⟨_,its,r,o,h1,h2,n,h3⟩:=(show yap P w H h t.1 (.tup (t.2.map V.int)) from ok t.1 _ (hT t ht))
 exact ⟨o,its,n,h1,h2,h3,ybi r⟩
theorem TIs.keep {h h':Heap}{ts:List TL} (x:TIs h ts) (k:∀ b o,h.get? b=some o→h'.get? b=some o):TIs h' ts:=fun t ht=>by
 obtain ⟨o,us,n,e1,r⟩:=x t ht
 exact ⟨o,us,n,k _ _ e1,r⟩
theorem yeu {pins:List (Addr×Obj)}{σ:St}{H:Hp}{s s1:Shared}{ts:List TL}{m:Nat}{Q:VK}{A:Around}{E:Value→Shared→Prop} (I:Inv X pins σ H s) (hh:∃ h' tk,s1={ s with heap:=h',toks:=tk }∧∀ b o,s.heap.get? b=some o→h'.get? b=some o) (hz:s.heap.objs.size≤s1.heap.objs.size)
  (hT:∀ t∈ts,H t.1=some (.tup (t.2.map V.int))) (hO:OkT m ts) (h64:ts.length<64) (q:∀ (p:Addr) (ts':List TL),H p=none→ts'.Perm ts→RiseT ts'→Q (.ref p) (upd H p (.lst (yaf ts')))) :
  wpAny (model X.prog X.w) A (Builtin.«list.sort» ⟨[.ref s1.heap.objs.size],[]⟩) (fun f s3=>f=.done (.ret .none)∧EP X pins σ Q (.ref s1.heap.objs.size) s3) E { s1 with heap:=s1.heap.push (seqObj "list" (qa3 ts).toArray 0) }:=by
 obtain ⟨h',tk,rfl,kp⟩:=hh
 have gL:(h'.push (seqObj "list" (qa3 ts).toArray 0)).get? h'.objs.size=some (seqObj "list" (qa3 ts).toArray 0):=Heap.get?_push_size _ rfl
 refine ygm (s:={ s with heap:=h'.push (seqObj "list" (qa3 ts).toArray 0),toks:=tk }) gL h64 ((tis_of I.hok hT).keep fun b o e=>Heap.get?_push_of_some _ (kp b o e)) hO fun ts' hp hr=>⟨rfl,?_⟩
 obtain ⟨ep,ge⟩:=sortedHeap_at (out:=(qa3 ts').toArray) gL
 have hf:H h'.objs.size=none:=I.hok.fresh hz
 refine ⟨.ref h'.objs.size,_,I.laid (o:=.lst (yaf ts')) (t':=tk) (fun b o g=>?_) hz ?_,rfl,q _ ts' hf hp hr⟩
 ·have hb:b<h'.objs.size:=Heap.lt_size (kp b o g)
  rw[sortedHeap_old (Nat.ne_of_lt hb) (by rw[show (h'.push (seqObj "list" (qa3 ts).toArray 0)).objs.size=h'.objs.size+1 from Heap.size_push ..];exact Nat.lt_succ_of_lt hb)]
  exact Heap.get?_push_of_some _ (kp b o g)
 ·exact ⟨yco (by unfold yaf;rw[List.length_map,hp.length_eq];omega),qa3 ts',ep,qee ts',ge⟩
theorem yfq:ybv X (.builtin "sorted") rSortT:=by
 intro pins s σ H xs us Q I r h
 obtain ⟨l,ts,m,rfl,hH,hT,hO,h64,q⟩:=h
 cases r with
 | cons r rr=>
  cases rr
  cases r
  obtain ⟨z,its,n,rv,hl,e⟩:=I.lstM hH
  have ei:=qd7 rv
  subst ei
  have hlt:(qa3 ts).length=ts.length:=List.length_map _
  refine ydm (collect_list (vs:=qa3 ts) ⟨_,e,rfl,n,rfl⟩ ⟨by omega,fun s2 hs=>?_⟩ (yco (by omega)))
  subst hs
  have kp:∀ b o,s.heap.get? b=some o→((s.heap.push (seqObj "list" #[] 0)).update s.heap.objs.size (Obj.mapSeq (·++(qa3 ts).toArray))).get? b=some o:=fun b o g=>
   (Heap.get?_update_other _ _ (Ne.symm (Nat.ne_of_lt (Heap.lt_size g)))).trans (Heap.get?_push_of_some _ g)
  exact yeu (s1:={ s with heap:=(s.heap.push (seqObj "list" #[] 0)).update s.heap.objs.size (Obj.mapSeq (·++(qa3 ts).toArray)) }) I ⟨_,_,rfl,kp⟩ (by show _≤Array.size _;rw[Heap.size_update,Heap.size_push];exact Nat.le_succ _) hT hO h64 q
def rSortDI:List V→Hp→VK→Prop:=fun xs H Q=>∃ (a:Addr) (kvs:List (Key×V)) (ns:List Int),xs=[.ref a]∧Rd H a (.dK kvs)∧kvs.map (·.1)=ns.map Sum.inl∧ns.length<64∧
 ∀ (p:Addr) (ns':List Int),H p=none→ns'.Perm ns→ns'.Pairwise (·≤·)→Q (.ref p) (upd H p (.lst (ns'.map V.int)))
theorem qc5 {P:Program}{w:World}:∀ {vs:List Value}{ns:List Int},vs.length=ns.length→(∀ (j:Nat) v n,vs[j]?=some v→ns[j]?=some n→(yaq P w).is (Sum.inl n) v=true)→IntsAre vs ns
 | [],[],_,_=>.nil
 | [],_::_,h,_=>by simp at h
 | _::_,[],h,_=>by simp at h
 | v::vs,n::ns,h,k=>by
  have h0:=k 0 v n rfl rfl
  rcases yao (k:=Sum.inl n) (v:=v) h0 with ⟨i,t,e,rfl⟩|⟨x,t,e,_⟩
  ·cases e
   exact .cons _ t (qc5 (by simpa using h) fun j v n a b=>k (j+1) v n (by simpa using a) (by simpa using b))
  ·cases e
theorem qdf (hc:X.calm=true):ybv X (.builtin "sorted") rSortDI:=by
 intro pins s σ H xs us Q I r h
 obtain ⟨a,kvs,ns,rfl,hH,hk,h64,q⟩:=h
 cases r with
 | cons r rr=>
  cases rr
  cases r
  obtain ⟨z1,m1,vs1,r1,dd1⟩:=qds I.hok hH
  obtain ⟨ep,dat⟩:=dd1.dictAt
  have hl:=r1.length
  have hl2:kvs.length=ns.length:=by have:=congrArg List.length hk;simpa using this
  refine ydm (yfh (kdl_dict (knd:=yaq X.prog X.w) (kvs:=vs1) (ep:=ep) m1) (by simpa using I.ok.hd hc) dat (yco (by omega)) fun vs h' tk hvl hP hz kp=>⟨by omega,fun s2 hs=>?_⟩)
  subst hs
  have i1:IntsAre vs ns:=qc5 (P:=X.prog) (w:=X.w) (by omega) fun j v n e1 e2=>by
   obtain ⟨k,x,e3,e4⟩:=hP j v e1
   obtain ⟨k',v',u',e5,e6,_⟩:=r1.at_ (i:=j) (by rw[hl2];exact (List.getElem?_eq_some_iff.mp e2).1)
   rw[e6] at e3;cases e3
   have:=congrArg (·[j]?) hk
   simp only[List.getElem?_map,e5,e2,Option.map_some,Option.some.injEq] at this
   rw[this] at e4
   exact e4
  have gL:(h'.push (seqObj "list" vs.toArray 0)).get? h'.objs.size=some (seqObj "list" vs.toArray 0):=Heap.get?_push_size _ rfl
  refine list_sort_tree gL i1 (by omega) fun out n2 a1 a2 a3=>⟨rfl,?_⟩
  obtain ⟨ep,ge⟩:=sortedHeap_at (out:=out) gL
  have hf:H h'.objs.size=none:=I.hok.fresh (Nat.le_of_lt hz)
  refine ⟨.ref h'.objs.size,_,I.laid (o:=.lst (n2.map V.int)) (t':=tk) (fun b o g=>?_) (Nat.le_of_lt hz) ?_,rfl,q _ n2 hf a2 a3⟩
  ·have hb:b<h'.objs.size:=Heap.lt_size (kp b o g)
   rw[sortedHeap_old (Nat.ne_of_lt hb) (by rw[show (h'.push (seqObj "list" vs.toArray 0)).objs.size=h'.objs.size+1 from Heap.size_push ..];exact Nat.lt_succ_of_lt hb)]
   exact Heap.get?_push_of_some _ (kp b o g)
  ·exact ⟨yco (by rw[List.length_map,a2.length_eq];omega),out.toList,ep,qdk a1,by simpa using ge⟩
def rSortDT:List V→Hp→VK→Prop:=fun xs H Q=>∃ (a:Addr) (kvs:List (List Key×V)) (ks:List (List Int)) (m:Nat),xs=[.ref a]∧H a=some (.dT kvs)∧kvs.map (·.1)=ks.map (List.map Sum.inl)∧(∀ k∈ks,k.length=m+1∧Sml k)∧ks.length<64∧
 ∀ (p:Addr) (ts:List TL),H p=none→(∀ t∈ts,H t.1=some (.tup (t.2.map V.int)))→(ts.map (·.2)).Perm ks→RiseT ts→Q (.ref p) (upd H p (.lst (yaf ts)))
theorem qf6 {H:Hp}:∀ {kvs:List (List Key×V)}{xs:List (List Key×Addr×Value)}{ks:List (List Int)},KT H kvs xs→kvs.map (·.1)=ks.map (List.map Sum.inl)→
  ∃ ts:List TL,ts.map (·.2)=ks∧ts.map (·.1)=xs.map (·.2.1)∧∀ t∈ts,H t.1=some (.tup (t.2.map V.int))
 | [],[],[],_,_=>⟨[],rfl,rfl,fun t h=>by simp at h⟩
 | [],[],_::_,_,h=>by simp at h
 | _::_,_,[],_,h=>by simp at h
 | p::kvs,x::xs,k::ks,.cons r q,h=>by
  simp only[List.map_cons,List.cons.injEq] at h
  obtain ⟨ts,a,b,c⟩:=qf6 q h.2
  refine ⟨(x.2.1,k)::ts,by rw[List.map_cons,a],by rw[List.map_cons,b];rfl,fun t ht=>?_⟩
  rcases List.mem_cons.mp ht with rfl|ht
  ·have:=r.2.1
   rw[h.1,List.map_map] at this
   exact this
  ·exact c t ht
theorem qe1 (hc:X.calm=true):ybv X (.builtin "sorted") rSortDT:=by
 intro pins s σ H xs us Q I r h
 obtain ⟨a,kvs,ks,m,rfl,hH,hk,hK,h64,q⟩:=h
 cases r with
 | cons r rr=>
  cases rr
  cases r
  obtain ⟨z1,m1,ys,r1,o,es,ep,e1,e2,e3,e4,e5⟩:=(show yap X.prog X.w H s.heap a (.dT kvs) from I.hok a _ hH)
  obtain ⟨ts,t1,t2,t3⟩:=qf6 (H:=H) r1 hk
  have htl:ts.length=ks.length:=by have:=congrArg List.length t1;simpa using this
  have hyl:ys.length=ts.length:=by have:=congrArg List.length t2;simpa using this.symm
  have hes:es.size=ys.length:=by rw[← Array.length_toList,e4,List.length_map]
  refine ydm (yfh (srcE (es:=es) (ep:=ep) m1) (by simpa using I.ok.hd hc) ⟨o,e1,e2,e3⟩ (yco (by omega)) fun vs h' tk hvl hP hz kp=>⟨by omega,fun s2 hs=>?_⟩)
  subst hs
  have ev:vs=qa3 ts:=by
   refine List.ext_getElem? fun j=>?_
   by_cases hj:j<ts.length
   ·have hv:j<vs.length:=by omega
    obtain ⟨e,g1,g2⟩:=hP j vs[j] (by simp[hv])
    rw[← Array.getElem?_toList,e4,List.getElem?_map,List.getElem?_eq_getElem (show j<ys.length by omega)] at g1
    have g3:e=entryOfKey (tupleKind (yaq X.prog X.w)) ys[j]:=by simpa using g1.symm
    have g4:=congrArg (·[j]?) t2
    simp only[List.getElem?_map,List.getElem?_eq_getElem hj,List.getElem?_eq_getElem (show j<ys.length by omega),Option.map_some,Option.some.injEq] at g4
    unfold qa3
    rw[List.getElem?_eq_getElem hv,List.getElem?_map,List.getElem?_eq_getElem hj,g2,g3]
    show some (Value.ref (ys[j].2.1))=some (Value.ref (ts[j].1))
    rw[g4]
   ·rw[List.getElem?_eq_none (by omega),List.getElem?_eq_none (by unfold qa3;rw[List.length_map];omega)]
  subst ev
  have hO:OkT m ts:=fun t ht=>hK t.2 (by rw[← t1];exact List.mem_map_of_mem ht)
  refine yeu (s1:={ s with heap:=h',toks:=tk }) I ⟨_,_,rfl,kp⟩ (Nat.le_of_lt hz) t3 hO (by omega) fun p ts' hp pm ri=>q p ts' hp (fun t ht=>t3 t (pm.mem_iff.mp ht)) ?_ ri
  rw[← t1]
  exact pm.map _
end
end L2
namespace L2
open PySem PySem.Spec PyProof.Rows
theorem for_by {J:It}{n:Nat}{g:TG}{tb:TS}{D:Ends}{σ:St}{H:Hp} (Pv:Nat→St→Hp→Prop) (h0:Pv 0 σ H) (hd:∀ σ H,Pv n σ H→J.stop n H∧D.nx σ H)
  (hs:∀ i σ H,i<n→Pv i σ H→J.go i H∧∀ x H',J.yld i H x H'→g x σ H' fun σ2 H2=>tb { D with nx:=Pv (i+1),ct:=Pv (i+1),bk:=D.nx } σ2 H2) :
  ∃ W:Nat→Nat→St→Hp→Prop,(∃ m,W 0 m σ H)∧∀ i m σ H,W i m σ H→
   (J.stop i H∧D.nx σ H)∨(J.go i H∧∃ N:St→Hp→Prop,(∀ σ' H',N σ' H'→∃ m',m' < m∧W (i+1) m' σ' H')∧∀ x H',J.yld i H x H'→g x σ H' fun σ2 H2=>tb { D with nx:=N,ct:=N,bk:=D.nx } σ2 H2):=by
 refine ⟨fun i m σ H=>m=n-i∧i≤n∧Pv i σ H,⟨n,by simp,Nat.zero_le _,h0⟩,?_⟩
 rintro i m σ H ⟨rfl,hi,p⟩
 by_cases hlt:i<n
 ·obtain ⟨g1,g2⟩:=hs i σ H hlt p
  exact .inr ⟨g1,Pv (i+1),fun σ' H' p'=>⟨n-(i+1),by omega,rfl,hlt,p'⟩,g2⟩
 ·have e:i=n:=by omega
  subst e
  exact .inl (hd σ H p)
section
variable {X:Cx}{kvs:List (Key×V)}{a:Addr}{H:Hp}{pins:List (Addr×Obj)}{σ:St}{s:Shared}
structure Frz (H:Hp) (a:Addr) (o:Obj) (kvs:List (Key×V)) (H2:Hp):Prop where
 at_:H2 a=some (.frz o (.dK kvs))
 st:∀ b,b≠a→H2 b=H b
theorem Inv.frzR (I:Inv X pins σ H s) (e:Rd H a (.dK kvs)):∃ o es ep H2,o.data=.dict es ep∧Inv X pins σ H2 s∧Frz H a o kvs H2:=by
 rcases e with e|⟨o,e⟩
 ·obtain ⟨o,es,ep,hda,ho,I2⟩:=I.frzD e
  exact ⟨o,es,ep,_,hda,I2,yaa,fun b h=>qad h⟩
 ·obtain ⟨ho,z,hd,vs,r,ob,es',ep',ho',hx,hda',rest⟩:=(show yap X.prog X.w H s.heap a (.frz o (.dK kvs)) from I.hok a _ e)
  rw[ho] at ho';cases ho'
  exact ⟨o,es',ep',H,hda',I,e,fun b h=>rfl⟩
def tItems (to:TE):TE:=fun σ H Q=>to σ H fun x H1=>∃ a kvs,x=.ref a∧Rd H1 a (.dK kvs)∧∀ v,H1 v=none→Q (.ref v) (upd H1 v (vwI v a))
theorem yfj {o:Expr}{to:TE}{apos cpos:Pos} (ho:PE X o to) (hbase:attributeBase o "items" X.env (eval o X.env)=eval o X.env:=by rfl) (hline:(apos.endLine == cpos.line)=true:=by rfl) :
  PE X (.Call (.Attribute o "items" apos) [] [] cpos) (tItems to):=by
 intro pins s σ H Q I h
 refine wpAny_Call_method0_late hbase hline (thn (ho pins s σ H _ I h) fun v s1 ⟨x,H1,I1,r1,a,kvs,e,hr,q⟩=>?_)
 subst e
 cases r1
 obtain ⟨z1,m1,vs1,r2,dd1⟩:=qds I1.hok hr
 refine ⟨"dict","dict.items",PySem.F.plainAttrs_dict,PySem.F.slot_dict_items,PySem.F.type_dict_items,dd1.typeIs,fun b eb=>?_,?_⟩
 ·cases eb
  obtain ⟨ob,es,ep,e1,e2,_⟩:=dd1
  exact ⟨ob,e1,e2.2.1⟩
 ·exact Calls.callWith_builtin rfl (PySem.evalArgs_none (mt_items pins s1 σ H1 (.ref a) [] (.ref a) [] Q I1 rfl .nil ⟨a,kvs,rfl,rfl,hr,q⟩))
def iItemsR (tl:TE):TI:=fun σ H R=>tl σ H fun x H1=>∃ v a kvs,x=.ref v∧H1 v=some (vwI v a)∧Rd H1 a (.dK kvs)∧∀ o H2,Frz H1 a o kvs H2→R (Iti a o kvs) H2
theorem yeq {el:List Expr}{k:Nat}{tp:Pos}{l:Expr}{tl:TE} (hl:PE X l tl):PI X (.Tuple el k tp) l (iItemsR tl):=by
 intro pins s σ H R I h
 refine thn (hl pins s σ H _ I h) fun v s1 ⟨x,H1,I1,r1,q1⟩=>?_
 obtain ⟨v',a,kvs,e,hv,hq,q⟩:=q1
 subst e
 cases r1
 obtain ⟨iv,_⟩:=(show yap X.prog X.w H1 s1.heap v' (vwI v' a) from I1.hok v' _ hv)
 obtain ⟨o,es,ep,H2,hda,I2,fz⟩:=I1.frzR hq
 obtain ⟨z,hd,vs,r,dd⟩:=I2.frzAt fz.at_ hda
 refine wpAny_pyIter_items iv dd ?_
 refine ⟨s1.heap.objs.size,[s1.heap.objs.size],_,_,_,rfl,I2.kept (t':=s1.toks) fun b o e=>Heap.get?_push_of_some _ e,yfo a _ o hda,⟨.none,.none,by rw[r.length];exact Heap.get?_push_size _ rfl⟩,fun b hb=>?_,q o H2 fz⟩
 have e:b=s1.heap.objs.size:=by simpa using hb
 subst e
 exact I2.fpOk (Nat.le_refl _) (I2.hok.fresh (Nat.le_refl _))
def iDictR (tl:TE):TI:=fun σ H R=>tl σ H fun x H1=>∃ a kvs,x=.ref a∧Rd H1 a (.dK kvs)∧∀ o H2,Frz H1 a o kvs H2→R (Itd a o kvs) H2
theorem pi_dictR {tg l:Expr}{tl:TE} (hl:PE X l tl):PI X tg l (iDictR tl):=by
 intro pins s σ H R I h
 refine thn (hl pins s σ H _ I h) fun v s1 ⟨x,H1,I1,r1,q1⟩=>?_
 obtain ⟨a,kvs,e,hq,q⟩:=q1
 subst e
 cases r1
 obtain ⟨o,es,ep,H2,hda,I2,fz⟩:=I1.frzR hq
 obtain ⟨z,hd,vs,r,dd⟩:=I2.frzAt fz.at_ hda
 refine wpAny_pyIter_dict hd dd ?_
 refine ⟨s1.heap.objs.size,[s1.heap.objs.size],_,_,_,rfl,I2.kept (t':=s1.toks) fun b o e=>Heap.get?_push_of_some _ e,qgm a _ o hda,⟨_,Heap.get?_push_size _ rfl,rfl,by rw[r.length];rfl⟩,fun b hb=>?_,q o H2 fz⟩
 have e:b=s1.heap.objs.size:=by simpa using hb
 subst e
 exact I2.fpOk (Nat.le_refl _) (I2.hok.fresh (Nat.le_refl _))
end
def Srt (xs:Array Nat):Prop:=∀ (i j:Nat) (x y:Nat),i<j→xs[i]?=some x→xs[j]?=some y→x<y
theorem qd5 (xs:Array Nat) (j:Nat) (hs:Srt xs):∀ (fuel lo hi:Nat),hi-lo≤fuel→lo≤hi→hi≤xs.size→(∀ k x,k<lo→xs[k]?=some x→x<j)→(∀ k x,hi≤k→xs[k]?=some x→j≤x)→
  (∀ k x,k<SetTable.below.go xs j fuel lo hi→xs[k]?=some x→x<j)∧(∀ k x,SetTable.below.go xs j fuel lo hi≤k→xs[k]?=some x→j≤x)∧SetTable.below.go xs j fuel lo hi≤xs.size
 | 0,lo,hi,hf,h1,h2,ha,hb=>by
  have e:lo=hi:=by omega
  subst e
  exact ⟨ha,hb,h2⟩
 | fuel+1,lo,hi,hf,h1,h2,ha,hb=>by
  unfold SetTable.below.go
  by_cases hlt:lo<hi
  ·rw[if_pos hlt]
   have hm:(lo+hi) / 2<xs.size:=by omega
   have hg:xs[(lo+hi) / 2]?=some (xs.getD ((lo+hi) / 2) j):=by
    rw[Array.getD_eq_getD_getElem?,Array.getElem?_eq_getElem hm];rfl
   dsimp only
   by_cases hc:xs.getD ((lo+hi) / 2) j<j
   ·rw[if_pos hc]
    refine qd5 xs j hs fuel _ hi (by omega) (by omega) h2 (fun k x hk hx=>?_) hb
    by_cases he:k=(lo+hi) / 2
    ·subst he;rw[hg] at hx;cases hx;exact hc
    ·have:=hs k ((lo+hi) / 2) x _ (by omega) hx hg
     omega
   ·rw[if_neg hc]
    refine qd5 xs j hs fuel lo _ (by omega) (by omega) (by omega) ha (fun k x hk hx=>?_)
    by_cases he:k=(lo+hi) / 2
    ·subst he;rw[hg] at hx;cases hx;omega
    ·have:=hs ((lo+hi) / 2) k _ x (by omega) hg hx
     omega
  ·rw[if_neg hlt]
   have e:lo=hi:=by omega
   subst e
   exact ⟨ha,hb,h2⟩
theorem below_is {xs:Array Nat} (j:Nat) (hs:Srt xs):(∀ k x,k<SetTable.below xs j→xs[k]?=some x→x<j)∧(∀ k x,SetTable.below xs j≤k→xs[k]?=some x→j≤x)∧SetTable.below xs j≤xs.size:=by
 unfold SetTable.below
 refine qd5 xs j hs xs.size 0 xs.size (by omega) (Nat.zero_le _) (Nat.le_refl _) (fun k x h=>absurd h (Nat.not_lt_zero _)) (fun k x h hx=>?_)
 rw[Array.getElem?_eq_none h] at hx;cases hx
theorem yev {α:Type} (xs:Array α) (p:Nat) (x:α) (hp:p≤xs.size) (i:Nat):(SetTable.insertAt xs p x)[i]?=if i<p then xs[i]? else if i=p then some x else xs[i-1]?:=by
 unfold SetTable.insertAt
 have e1:((xs.extract 0 p).push x++xs.extract p xs.size).toList=xs.toList.take p++x::xs.toList.drop p:=by
  simp
  exact List.take_of_length_le (by simp)
 rw[← Array.getElem?_toList,e1]
 have hl:(xs.toList.take p).length=p:=by rw[List.length_take,Array.length_toList];omega
 by_cases h1:i<p
 ·rw[if_pos h1,List.getElem?_append_left (by omega),List.getElem?_take_of_lt h1,Array.getElem?_toList]
 ·rw[if_neg h1,List.getElem?_append_right (by omega),hl]
  by_cases h2:i=p
  ·rw[if_pos h2,h2,Nat.sub_self];rfl
  ·rw[if_neg h2]
   obtain ⟨d,hd⟩:∃ d,i-p=d+1:=⟨i-p-1,by omega⟩
   rw[hd,List.getElem?_cons_succ,List.getElem?_drop,Array.getElem?_toList]
   congr 1
   omega
theorem qfn {xs:Array Nat}{j:Nat} (hs:Srt xs) (hj:xs[SetTable.below xs j]?≠some j):Srt (SetTable.insertAt xs (SetTable.below xs j) j):=by
 obtain ⟨b1,b2,b3⟩:=below_is j hs
 have hgt:∀ k x,SetTable.below xs j≤k→xs[k]?=some x→j<x:=fun k x hk hx=>by
  have h1:=b2 k x hk hx
  by_cases he:x=j
  ·subst he
   by_cases hk2:k=SetTable.below xs x
   ·subst hk2;exact absurd hx hj
   ·have hlt:SetTable.below xs x<xs.size:=by
     have:=(Array.getElem?_eq_some_iff.mp hx).1
     omega
    have g:=Array.getElem?_eq_getElem hlt
    have h2:=hs _ k _ x (by omega) g hx
    have h3:=b2 _ _ (Nat.le_refl _) g
    omega
  ·omega
 intro a b x y hab hx hy
 rw[yev _ _ _ b3] at hx hy
 by_cases ha:a<SetTable.below xs j
 ·rw[if_pos ha] at hx
  by_cases hb:b<SetTable.below xs j
  ·rw[if_pos hb] at hy
   exact hs a b x y hab hx hy
  ·rw[if_neg hb] at hy
   have hxj:=b1 a x ha hx
   by_cases hb2:b=SetTable.below xs j
   ·rw[if_pos hb2] at hy;cases hy;exact hxj
   ·rw[if_neg hb2] at hy
    have:=hgt (b-1) y (by omega) hy
    omega
 ·rw[if_neg ha] at hx
  have hb:¬ b<SetTable.below xs j:=by omega
  rw[if_neg hb] at hy
  by_cases ha2:a=SetTable.below xs j
  ·rw[if_pos ha2] at hx
   cases hx
   rw[if_neg (by omega)] at hy
   exact hgt (b-1) y (by omega) hy
  ·rw[if_neg ha2] at hx
   rw[if_neg (by omega)] at hy
   exact hs (a-1) (b-1) x y (by omega) hx hy
theorem ygu (n:Nat):Srt (Array.range n):=by
 intro i j x y hij hx hy
 have h1:=(Array.getElem?_eq_some_iff.mp hx).2
 have h2:=(Array.getElem?_eq_some_iff.mp hy).2
 simp at h1 h2
 omega
theorem srt_of {l:List Nat} (h:l.Pairwise (· < ·)):Srt l.toArray:=by
 intro i j x y hij hx hy
 have hx':l[i]?=some x:=by simpa using hx
 have hy':l[j]?=some y:=by simpa using hy
 obtain ⟨hi,e1⟩:=List.getElem?_eq_some_iff.mp hx'
 obtain ⟨hj,e2⟩:=List.getElem?_eq_some_iff.mp hy'
 have:=List.pairwise_iff_getElem.mp h i j hi hj hij
 rw[e1,e2] at this
 exact this
def TOk (t:SetTable):Prop:=Srt t.place∧t.dummies=#[]
theorem qe9 (j:Nat):SetTable.has #[] j=false:=by
 unfold SetTable.has
 simp
theorem slot_no {t:SetTable} (h:TOk t) (j:Nat):t.slot j≠.dummy:=by
 unfold SetTable.slot
 rw[h.2,qe9]
 dsimp only
 split
 ·intro z;cases z
 ·simp
theorem yfl {t:SetTable}{j:Nat} (h:t.slot j=.empty):t.place[SetTable.below t.place j]?≠some j:=by
 intro e
 unfold SetTable.slot at h
 dsimp only at h
 rw[if_pos (by rw[e];simp)] at h
 cases h
theorem qd6 (t:SetTable) (p:SetTable.Probe):(t.advance p).dummy=p.dummy:=by
 unfold SetTable.advance
 split<;>rfl
theorem ydd {t:SetTable} (ht:TOk t) (f:Nat→Int) (h:Int):∀ (fuel:Nat) (p:SetTable.Probe) (j:Nat) (d:Option Nat),p.dummy=none→SetTable.probe.go t f h fuel p=some (.empty j d)→t.slot j=.empty∧d=none
 | 0,p,j,d,hp,e=>by
  unfold SetTable.probe.go at e
  cases e
 | fuel+1,p,j,d,hp,e=>by
  unfold SetTable.probe.go at e
  split at e
  ·rename_i hs
   cases e
   exact ⟨hs,hp⟩
  ·rename_i hs
   exact absurd hs (slot_no ht _)
  ·split at e
   ·cases e
   ·exact ydd ht f h fuel _ j d (by rw[qd6];exact hp) e
theorem qe3 {t:SetTable} (ht:TOk t) {h:Int}{j:Nat}{b:Bool} (e:t.freeSlot h=some (j,b)):t.slot j=.empty:=by
 unfold SetTable.freeSlot at e
 split at e
 ·rename_i j' d hp
  have hq:SetTable.probe.go t (fun _=>h+1) h (10*SetTable.turns t.mask) (t.probeStart h)=some (.empty j' d):=hp
  obtain ⟨h1,h2⟩:=ydd ht _ _ _ _ _ _ rfl hq
  subst h2
  cases e
  exact h1
 ·cases e
theorem put_ok {t:SetTable} (ht:TOk t) {j:Nat} (h:t.slot j=.empty):TOk (t.put j).1∧(t.put j).1.led=t.led:=by
 refine ⟨⟨qfn ht.1 (yfl h),?_⟩,rfl⟩
 show (if SetTable.has t.dummies j then SetTable.eraseAt t.dummies (SetTable.below t.dummies j) else t.dummies)=#[]
 rw[ht.2,qe9]
 rfl
theorem qcc (t:SetTable) (n:Nat):TOk (t.standIn n)∧(t.standIn n).led=t.led:=⟨⟨ygu n,rfl⟩,rfl⟩
theorem qep {t:SetTable} (ht:TOk t) (n:Nat):TOk (t.orStandIn n)∧(t.orStandIn n).led=t.led:=by
 unfold SetTable.orStandIn
 split
 ·exact ⟨ht,rfl⟩
 ·exact qcc t n
theorem qf4 {t:SetTable} (ht:TOk t) (es:Array (Int×Value)) (h:Int) (x:Value):TOk (layNew t es h x).2.1∧(layNew t es h x).2.1.led=t.led:=by
 unfold layNew
 split
 ·rename_i j b e
  have hp:=put_ok ht (qe3 ht e)
  have ho:=qep hp.1 (SetTable.insertAt es (t.put j).2 (h,x)).size
  exact ⟨ho.1,ho.2.trans hp.2⟩
 ·exact qcc t _
theorem qcy {α:Type} (f:Nat→Option α):∀ (l:List Nat),l.Pairwise (· < ·)→((l.filterMap fun j=>(f j).map (j,·)).map (·.1)).Pairwise (· < ·):=by
 intro l hl
 have hsub:((l.filterMap fun j=>(f j).map (j,·)).map (·.1)).Sublist l:=by
  induction l with
  | nil=>exact .slnil
  | cons a l ih=>
   rw[List.filterMap_cons]
   have:=ih (List.pairwise_cons.mp hl).2
   cases f a with
   | none=>exact .cons _ this
   | some b=>exact .cons₂ _ this
 exact hl.sublist hsub
theorem qf1 {t t':SetTable}{hs:Array Int}{n:Nat}{o:Array Nat} (e:t.relaid hs n=some (t',o)):TOk t'∧t'.led=t.led:=by
 unfold SetTable.relaid SetTable.laid at e
 cases ho:SetTable.layClean (SetTable.sizeAbove n-1) hs with
 | none=>rw[ho] at e;cases e
 | some owner=>
  rw[ho] at e
  cases e
  refine ⟨⟨srt_of ?_,rfl⟩,rfl⟩
  exact qcy (fun j=>owner.getD j none) _ List.pairwise_lt_range
theorem ye2 {t:SetTable} (es:Array (Int×Value)) (n:Nat):TOk (relayAll t es n).2.1∧(relayAll t es n).2.1.led=t.led:=by
 unfold relayAll
 split
 ·rename_i t' o e
  dsimp only
  split
  ·exact qf1 e
  ·exact qcc t _
 ·exact qcc t _
def byTx (w:World):Bool:=w.params.followText "set-order"
def SetL (P:Program) (w:World) (h:Heap) (a:Addr) (ks:List Int):Prop:=
 ∃ o es ep t,h.get? a=some o∧o.ExactSet∧o.data=.set es ep t∧ElemsOf (intKind P w) es.toList∧(∃ ns,IntsAre (es.toList.map (·.2)) ns∧ns.Perm ks)∧es.size<scanBound∧t.fits es.size=true∧TOk t∧(byTx w=true∨t.led=true)
theorem qer {vs' vs:List Value} (p:vs'.Perm vs):∀ {ns:List Int},IntsAre vs ns→∃ ns',IntsAre vs' ns'∧ns'.Perm ns:=by
 induction p with
 | nil=>intro ns h;exact ⟨ns,h,List.Perm.refl _⟩
 | cons x _ ih=>
  intro ns h
  cases h with
  | cons n t r=>
   obtain ⟨ns',h1,h2⟩:=ih r
   exact ⟨n::ns',.cons n t h1,h2.cons n⟩
 | swap x y l=>
  intro ns h
  cases h with
  | cons n t r=>
   cases r with
   | cons m u r=>exact ⟨m::n::_,.cons m u (.cons n t r),List.Perm.swap ..⟩
 | trans _ _ ih1 ih2=>
  intro ns h
  obtain ⟨n1,a1,b1⟩:=ih2 h
  obtain ⟨n2,a2,b2⟩:=ih1 a1
  exact ⟨n2,a2,b2.trans b1⟩
theorem ycn:∀ {vs:List Value}{ns:List Int},IntsAre vs ns→(∀ v∈vs,∃ n t,v=.int n t∧n∈ns)∧∀ n∈ns,∃ t,Value.int n t∈vs
 | _,_,.nil=>⟨fun v h=>by simp at h,fun n h=>by simp at h⟩
 | _,_,.cons n t r=>by
  obtain ⟨h1,h2⟩:=ycn r
  refine ⟨fun v hv=>?_,fun m hm=>?_⟩
  ·rcases List.mem_cons.mp hv with rfl|hv
   ·exact ⟨n,t,rfl,List.mem_cons_self ..⟩
   ·obtain ⟨m,u,e,hm⟩:=h1 v hv
    exact ⟨m,u,e,List.mem_cons_of_mem _ hm⟩
  ·rcases List.mem_cons.mp hm with rfl|hm
   ·exact ⟨t,List.mem_cons_self ..⟩
   ·obtain ⟨u,hu⟩:=h2 m hm
    exact ⟨u,List.mem_cons_of_mem _ hu⟩
theorem qec:∀ {vs:List Value}{ns:List Int} (k:Int) (t:Tok),IntsAre vs ns→IntsAre (vs++[.int k t]) (ns++[k])
 | _,_,k,t,.nil=>.cons k t .nil
 | _,_,k,t,.cons n u r=>.cons n u (qec k t r)
section
variable {P:Program}{w:World}{A:Around}{E:Value→Shared→Prop}{s:Shared}{a:Addr}{ks:List Int}
theorem storeL {o:Obj}{es:Array (Int×Value)}{ep:Nat}{t:SetTable}{es':Array (Int×Value)}{t':SetTable}{ks':List Int}{h:Heap} (g:h.get? a=some o) (gx:o.ExactSet) (gd:o.data=.set es ep t)
  (el:ElemsOf (intKind P w) es'.toList) (hv:∃ ns,IntsAre (es'.toList.map (·.2)) ns∧ns.Perm ks') (hb:es'.size<scanBound) (hf:t'.fits es'.size=true) (ht:TOk t') (hl:byTx w=true∨t'.led=true) :
  (h.update a (Obj.putSet es' t')).get? a=some { o with data:=.set es' (ep+1) t' }∧SetL P w (h.update a (Obj.putSet es' t')) a ks':=by
 have hg:(h.update a (Obj.putSet es' t')).get? a=some { o with data:=.set es' (ep+1) t' }:=by
  have z:=Heap.get?_update_self (Obj.putSet es' t') g (by rw[putSet_of es' t' gd];rfl)
  rw[putSet_of es' t' gd] at z
  exact z
 exact ⟨hg,_,es',ep+1,t',hg,gx,rfl,el,hv,hb,hf,ht,hl⟩
theorem addL {k:Int}{tk:Tok}{Q:Bool→Shared→Prop} (hS:SetL P w s.heap a ks) (hroom:ks.length+1<scanBound)
  (h:∀ b h',Heap.SameBut a s.heap h'→SetL P w h' a (if k∈ks then ks else ks++[k])→Q b { s with heap:=h' }) :
  wpAny (model P w) A (setAddHashed a (.int k tk) ((intKind P w).hash k)) Q E s:=by
 obtain ⟨o,es,ep,t,g,gx,gd,el,⟨ns,hi,hp⟩,hb,hf,ht,hl⟩:=hS
 have hlen:es.size=ks.length:=by
  have h1:=IntsAre.length hi
  rw[List.length_map,Array.length_toList] at h1
  rw[h1,hp.length_eq]
 have kk:(intKind P w).is k (.int k tk)=true:=intKind_is _ _ _ _
 unfold setAddHashed setAddHashedIn
 refine wpAny_holding (wpAny_bind (wpAny_setState_of g gd hf ?_))
 dsimp only
 rw[byScan_of (knd:=intKind P w) rfl hb el]
 simp only[↓reduceIte]
 unfold setAddByScan
 refine wpAny_bind ?_
 refine wpAny_bind (wpAny_rule ?_)
 refine wpAny_bind (wpAny_setScan_of kk g gd hf el ?_)
 have same:∀ m u,(intKind P w).is k (.int m u)=true→m=k:=fun m u z=>(intKind P w).inj _ m k (intKind_is _ _ _ _) z
 cases hr:List.findIdx? (fun e=>(intKind P w).is k e.2) es.toList with
 | some j=>
  dsimp only
  obtain ⟨hj,hpj,_⟩:=List.findIdx?_eq_some_iff_getElem.mp hr
  have hin:k∈ks:=by
   obtain ⟨m,u,e,hm⟩:=(ycn hi).1 (es.toList[j]).2 (List.mem_map.mpr ⟨_,List.getElem_mem hj,rfl⟩)
   rw[e] at hpj
   have:=same m u hpj
   subst this
   exact hp.mem_iff.mp hm
  refine wpAny_pure (wpAny_pure ?_)
  have e:s={ s with heap:=s.heap }:=by cases s;rfl
  have z:=h false s.heap (Heap.SameBut.refl a s.heap) (by rw[if_pos hin];exact ⟨o,es,ep,t,g,gx,gd,el,⟨ns,hi,hp⟩,hb,hf,ht,hl⟩)
  rw[e]
  exact z
 | none=>
  dsimp only
  have hout:k∉ks:=fun hin=>by
   obtain ⟨u,hu⟩:=(ycn hi).2 k (hp.mem_iff.mpr hin)
   obtain ⟨e,he,e2⟩:=List.mem_map.mp hu
   have z:=List.findIdx?_eq_none_iff.mp hr e he
   rw[e2] at z
   rw[show (intKind P w).is k (.int k u)=true from intKind_is _ _ _ _] at z
   cases z
  rw[if_neg hout] at h
  have gw:∀ (b:Bool) {s1:Shared}{Q':Unit→Shared→Prop},Q' () s1→wpAny (model P w) A (match b with|true=>rule "set.scan.the-table-gave-way" | false=>pure ()) Q' E s1:=fun b s1 Q' z=>by cases b<;>first|exact wpAny_pure z|exact wpAny_rule z
  have pm:=layNew_perm t es ((intKind P w).hash k) (.int k tk)
  have fm:=layNew_fits t es ((intKind P w).hash k) (.int k tk)
  have tm:=qf4 ht es ((intKind P w).hash k) (.int k tk)
  generalize hL:layNew t es ((intKind P w).hash k) (.int k tk)=L at pm fm tm ⊢
  obtain ⟨es1,t1,wasDummy,gave⟩:=L
  dsimp only at pm fm tm ⊢
  rw[Array.toList_push] at pm
  have el1:ElemsOf (intKind P w) es1.toList:=(el.push kk rfl).perm pm
  have hv1:∃ ns,IntsAre (es1.toList.map (·.2)) ns∧ns.Perm (ks++[k]):=by
   have q:=pm.map (·.2)
   rw[List.map_append] at q
   obtain ⟨n1,i1,p1⟩:=qer q (qec k tk hi)
   exact ⟨n1,i1,p1.trans (hp.append_right [k])⟩
  have sz1:es1.size=ks.length+1:=by
   rw[← Array.length_toList,pm.length_eq,List.length_append,Array.length_toList,hlen];rfl
  have hb1:es1.size<scanBound:=by rw[sz1];exact hroom
  refine wpAny_bind (gw _ ?_)
  have tail:∀ (t2:SetTable),t2.fits es1.size=true→TOk t2→(byTx w=true∨t2.led=true)→wpAny (model P w) A (do
    storeSet a es1 t2
    if (!wasDummy&&t2.tooFull)=true then do
      (match (relayAll t2 es1 (SetTable.grown es1.size)).2.2 with|true=>rule "set.scan.the-table-gave-way" | false=>pure ())
      storeSet a (relayAll t2 es1 (SetTable.grown es1.size)).1 (relayAll t2 es1 (SetTable.grown es1.size)).2.1
      pure (some true)
     else pure (some true)) (fun r s1=>wpAny (model P w) A (match r with|some added=>pure added|none=>setAddHashedIn a (.int k tk) ((intKind P w).hash k) 99999) Q E s1) E s:=by
   intro t2 f2 k2 l2
   refine wpAny_bind (wpAny_storeSet_of g gd ?_ (fits_of_scanBound hb1))
   obtain ⟨g1,S1⟩:=storeL (P:=P) (w:=w) g gx gd el1 hv1 hb1 f2 k2 l2
   have sb1:=Heap.SameBut.update s.heap a (Obj.putSet es1 t2)
   split
   ·have pr:=relayAll_perm t2 es1 (SetTable.grown es1.size)
    have fr:=relayAll_fits t2 es1 (SetTable.grown es1.size)
    have tr:=ye2 (t:=t2) es1 (SetTable.grown es1.size)
    generalize hR:relayAll t2 es1 (SetTable.grown es1.size)=R at pr fr tr ⊢
    obtain ⟨es2,t3,gave2⟩:=R
    dsimp only at pr fr tr ⊢
    have sz2:es2.size=es1.size:=by rw[← Array.length_toList,pr.length_eq,Array.length_toList]
    have hb2:es2.size<scanBound:=by rw[sz2];exact hb1
    refine wpAny_bind (gw _ ?_)
    refine wpAny_bind (wpAny_storeSet_of g1 rfl ?_ (fits_of_scanBound hb2))
    have hv2:∃ ns,IntsAre (es2.toList.map (·.2)) ns∧ns.Perm (ks++[k]):=by
     obtain ⟨n1,i1,p1⟩:=hv1
     obtain ⟨n2,i2,p2⟩:=qer (pr.map (·.2)) i1
     exact ⟨n2,i2,p2.trans p1⟩
    obtain ⟨_,S2⟩:=storeL (P:=P) (w:=w) g1 gx rfl (el1.perm pr) hv2 hb2 fr tr.1 (l2.imp id fun z=>tr.2.trans z)
    exact wpAny_pure (wpAny_pure (h true _ (sb1.trans (Heap.SameBut.update _ a _)) S2))
   ·exact wpAny_pure (wpAny_pure (h true _ sb1 S1))
  have l1:byTx w=true∨t1.led=true:=hl.imp id fun z=>tm.2.trans z
  split
  ·refine wpAny_bind ?_
   rw[hashByValue_scannable 8 (rfl:(Value.int k tk).scannable=true)]
   refine wpAny_pure ?_
   split
   ·exact tail t1 fm tm.1 l1
   ·exact tail { t1 with plain:=false } (SetTable.fits_plain_off fm) tm.1 l1
  ·refine wpAny_bind (wpAny_pure ?_)
   simp only[↓reduceIte]
   exact tail t1 fm tm.1 l1
end
def yay (f:Nat→Int):Nat→List Int
 | 0=>[]
 | i+1=>if f i∈yay f i then yay f i else yay f i++[f i]
theorem yc4 (f:Nat→Int):∀ i,(yay f i).length≤i
 | 0=>Nat.le_refl _
 | i+1=>by
  have ih:=yc4 f i
  unfold yay
  split
  ·omega
  ·rw[List.length_append];show _+1≤_;omega
theorem SetL.at {P:Program}{w:World}{h h':Heap}{a:Addr}{ks:List Int} (x:SetL P w h a ks) (k:∀ o,h.get? a=some o→h'.get? a=some o):SetL P w h' a ks:=by
 obtain ⟨o,es,ep,t,g,r⟩:=x
 exact ⟨o,es,ep,t,k o g,r⟩
section
variable {P:Program}{w:World}{A:Around}{R:Result→Shared→Prop}{I:Addr}{fp wr:List Addr}{G:Array GenState→Array GenState→Prop}{n:Nat}{Pv:Nat→Value→Prop}{St:Nat→Shared→Prop}
theorem loopL (W:WalksS P w A.in1 I fp wr G n Pv St) (d:Addr) (hd:d∉fp) (f:Nat→Int) (hf:∀ i v,Pv i v→∃ t,v=.int (f i) t) (hb:n+1<scanBound):∀ (k i:Nat) (s:Shared),n-i=k→i≤n→St i s→SetL P w s.heap d (yay f i)→
   (∀ s',Moved (d::wr) G s s'→SetL P w s'.heap d (yay f n)→R (.ok (.ret .none)) s')→codeAny (model P w) A (.builtin "set.update.loop" ⟨[.ref d,.ref I],[]⟩) R s:=by
 have hw:d∉wr:=fun z=>hd (W.sub _ z)
 have up:∀ b∈wr,b∈d::wr:=fun b z=>List.mem_cons_of_mem _ z
 intro k
 induction k with
 | zero=>
  intro i s hk hi st hS hR
  have e:i=n:=by omega
  subst e
  refine codeAny_builtin F.entry_set_update_loop ?_
  rw[Around.under_plainId F.plain_set_update_loop _]
  show wpAny _ A.in1 (pyNext (.ref I) >>= _) _ _ _
  refine wpAny_bind (W.done s _ _ st fun s' m=>?_)
  show wpAny _ A.in1 (ret Value.none) _ _ _
  exact wpAny_pure (hR s' (m.mono up) (hS.at fun o g=>m.heap d o hw g))
 | succ k ih=>
  intro i s hk hi st hS hR
  have hlt:i<n:=by omega
  refine codeAny_builtin F.entry_set_update_loop ?_
  rw[Around.under_plainId F.plain_set_update_loop _]
  show wpAny _ A.in1 (pyNext (.ref I) >>= _) _ _ _
  refine wpAny_bind (W.item i s _ _ hlt st fun v s' hP st' m=>?_)
  obtain ⟨t,rfl⟩:=hf i v hP
  have hS':SetL P w s'.heap d (yay f i):=hS.at fun o g=>m.heap d o hw g
  show wpAny _ A.in1 (holding [Value.int (f i) t] (setAdd d (.int (f i) t)) >>= _) _ _ _
  refine wpAny_bind (wpAny_holding ?_)
  unfold setAdd
  refine wpAny_holding ?_
  refine wpAny_bind ((intKind P w).pyHash (k:=f i) (intKind_is _ _ _ _) ?_)
  have room:(yay f i).length+1<scanBound:=by have:=yc4 f i;omega
  refine addL (s:={ s' with toks:=s'.toks+1 }) hS' room fun b h' sb S2=>?_
  have S3:SetL P w h' d (yay f (i+1)):=S2
  refine wpAny_pure ⟨plainId_quiet F.plain_set_update_loop _,?_⟩
  refine ih (i+1) _ (by omega) hlt (W.frame _ s' _ _ st' (Nat.le_succ _) fun b hb o g=>?_) S3 fun s2 m2 S4=>?_
  ·rw[sb.2 b (fun z:b=d=>hd (by rw[← z];exact hb))];exact g
  ·refine hR s2 (Moved.trans W.gtrans ((m.mono up).then_heap (Nat.le_succ _) fun b o hb g=>?_) m2) S4
   rw[sb.2 b (fun z:b=d=>hb (by rw[z];exact List.mem_cons_self))];exact g
end
section
variable {P:Program}{w:World}{A:Around}{E:Value→Shared→Prop}{s:Shared}
theorem newL (v:Value) {Q1:Value→Shared→Prop} (h:Q1 (.ref s.heap.objs.size) { s with heap:=s.heap.push { cls:=.type "set",dict:=none,data:=.set #[] 0 (.fresh 0 0 (!byTx w)) } }) :
  codeAny (model P w) A (.call (.builtin "set.__new__") ⟨[.type "set",v],[]⟩) (wants Q1 E) s:=by
 refine codeAny_of_tree ?_
 show wpAny _ A.in1 (do checkBuiltinCall "set.__new__" ⟨[.type "set",v],[]⟩;again (.builtin "set.__new__" ⟨[.type "set",v],[]⟩)) _ _ s
 refine wpAny_bind (wpAny_of_eq (F.newCall_set_1 v) (wpAny_pure ⟨plainId_quiet F.plain_set_new _,?_⟩))
 refine codeAny_builtin F.entry_set_new ?_
 rw[Around.under_plainId F.plain_set_new _]
 unfold Builtin.«set.__new__» Builtin.Frozenset.newClass
 have hsub:=sub_set_self
 obtain ⟨hp,g,d,tk,os⟩:=s
 dsimp only
 wp_walk
 refine wpAny_askSetting ?_
 refine wpAny_pure ?_
 dsimp only
 simp only[newObj]
 refine wpAny_bind (wpAny_alloc ?_)
 exact wpAny_pure (wpAny_pure h)
theorem SetL.new {h:Heap}{a:Addr} (g:h.get? a=some { cls:=.type "set",dict:=none,data:=.set #[] 0 (.fresh 0 0 (!byTx w)) }):SetL P w h a []:=by
 refine ⟨_,#[],0,_,g,⟨rfl,rfl,rfl⟩,rfl,fun e he=>by simp at he,⟨[],.nil,List.Perm.refl _⟩,by decide,rfl,⟨fun i j x y _ hx=>by simp[SetTable.fresh] at hx,rfl⟩,?_⟩
 cases byTx w
 ·exact .inr rfl
 ·exact .inl rfl
set_option maxHeartbeats 6400000 in
theorem yf6 {l:Addr}{its:Array Value}{ns:List Int}{Q:Value→Shared→Prop} (hh:A.handled=none) (hl:s.heap.IsList l its) (hi:IntsAre its.toList ns) (hb:its.size+1<scanBound)
  (k:∀ (h':Heap) (tk:Nat),SetL P w h' s.heap.objs.size (yay (fun i=>ns.getD i 0) its.size)→(∀ b o,b<s.heap.objs.size→s.heap.get? b=some o→h'.get? b=some o)→Q (.ref s.heap.objs.size) { s with heap:=h',toks:=tk }) :
  wpAny (model P w) A (call (.type "set") [.ref l]) Q E s:=by
 obtain ⟨c0,tl0,c1⟩:=F.called_set.mro
 have c2:=F.called_set.made
 have c3:=F.called_set.sub
 refine wpAny_call (codeAny_of_tree ?_)
 show wpAny _ _ (callAny (.type "set") _) _ _ s
 refine wpAny_pure ⟨?_,?_⟩
 ·exact Code.quiet_builtin _ (by decide +kernel)
 refine codeAny_builtin F.entry_type_call ?_
 rw[Around.under_plain (weight_type_call_type "set" [.ref l] []) rfl]
 have c4:=F.called_set.notType
 have c5:=F.called_set.canCreate
 have c6:=F.typeCall_set_1 (.ref l)
 repeat (any_goals first|assumption|wp_step)
 refine codeAny_mono (newL (.ref l) (E:=E) (Q1:=fun v s1=>v=.ref s.heap.objs.size∧s1={ s with heap:=s.heap.push { cls:=.type "set",dict:=none,data:=.set #[] 0 (.fresh 0 0 (!byTx w)) } }) ⟨rfl,rfl⟩) fun r s1 hr=>?_
 cases r with
 | error e=>exact hr
 | ok fl=>
  cases fl with
  | ret v=>
   obtain ⟨rfl,rfl⟩:=hr
   have g1:(s.heap.push { cls:=.type "set",dict:=none,data:=.set #[] 0 (.fresh 0 0 (!byTx w)) }).get? s.heap.objs.size=some { cls:=.type "set",dict:=none,data:=.set #[] 0 (.fresh 0 0 (!byTx w)) }:=Heap.get?_push_size _ rfl
   have c7:Shared.TypeIs { s with heap:=s.heap.push { cls:=.type "set",dict:=none,data:=.set #[] 0 (.fresh 0 0 (!byTx w)) } } (.ref s.heap.objs.size) "set":=⟨_,g1,rfl⟩
   have c8:=F.called_set.init.lookup
   have c9:=F.called_set.init.bind (.ref s.heap.objs.size)
   repeat (any_goals first|assumption|wp_step)
   refine codeAny_mono (codeAny_call_builtin (R:=wants (fun r s2=>r=.none∧∃ h' tk,s2={ s with heap:=h',toks:=tk }∧SetL P w h' s.heap.objs.size (yay (fun i=>ns.getD i 0) its.size)∧
     (∀ b o,b<s.heap.objs.size→s.heap.get? b=some o→h'.get? b=some o)) E) F.called_set.init.plain F.entry_set_init (check_set_init_1 c7 ?_)) fun r2 s2 hr2=>?_
   ·obtain ⟨ol,gl,cl,nl,dl⟩:=hl
    obtain ⟨qc,qd,qa,qs⟩:=ol
    simp only at cl dl
    subst cl
    subst dl
    have gl':(s.heap.push { cls:=.type "set",dict:=none,data:=.set #[] 0 (.fresh 0 0 (!byTx w)) }).get? l=some { cls:=.type "list",dict:=qd,data:=.seq its nl,slots:=qs }:=Heap.get?_push_of_some _ gl
    have d1:=F.sub_list_set
    have d2:=F.sub_list_frozenset
    have d3:(Value.type "list" == Value.type "dict")=false:=by decide
    have hl1:(s.heap.push { cls:=.type "set",dict:=none,data:=.set #[] 0 (.fresh 0 0 (!byTx w)) }).IsList l its:=⟨_,gl',rfl,nl,rfl⟩
    unfold Builtin.«set.__init__» noKeywords Builtin.Frozenset.updateFrom
    generalize hPI:pyIter=PI
    wp_walk
    subst hPI
    refine wpAny_pyIter_list hl1 ?_
    refine wpAny_bind (wpAny_runValue ?_)
    have lt:l<s.heap.objs.size:=Heap.lt_size gl
    have h3:A.in1.in1.in1.handled=none:=by simp[hh]
    have nI:l≠(s.heap.push { cls:=.type "set",dict:=none,data:=.set #[] 0 (.fresh 0 0 (!byTx w)) }).objs.size:=by
     rw[Heap.size_push];exact Nat.ne_of_lt (Nat.lt_succ_of_lt lt)
    have nf:s.heap.objs.size∉[(s.heap.push { cls:=.type "set",dict:=none,data:=.set #[] 0 (.fresh 0 0 (!byTx w)) }).objs.size,l]:=by
     rw[Heap.size_push];simp only[List.mem_cons,List.mem_singleton,List.not_mem_nil,or_false,not_or]
     exact ⟨Nat.ne_of_lt (Nat.lt_succ_self _),Nat.ne_of_gt lt⟩
    have hv:∀ (i:Nat) (v:Value),its[i]?=some v→∃ t,v=.int ((fun i=>ns.getD i 0) i) t:=fun i v z=>PyProof.Rows.IntsAre.int_at hi i v (by rw[Array.getElem?_toList];exact z)
    refine loopL ((Walks.list h3 _ l nI its).toS) s.heap.objs.size nf (fun i=>ns.getD i 0) hv hb (its.size-0) 0 _ (by omega) (Nat.zero_le _) ⟨⟨_,Heap.get?_push_size _ rfl,rfl,rfl⟩,(hl1.push _)⟩ ?S0 ?R0
    case S0=>exact SetL.new (Heap.get?_push_of_some _ g1)
    case R0=>
     intro s' m S'
     obtain ⟨h',g',d',tk',os'⟩:=s'
     have eg:g'=s.gens:=m.gens
     have ed:d'=s.drawn:=m.drawn
     have eo:os'=s.os:=m.os
     subst eg
     subst ed
     subst eo
     show wpAny _ _ _ _ _ _
     refine wpAny_pure ?_
     show wpAny _ _ (ret Value.none) _ _ _
     refine wpAny_pure ⟨rfl,h',tk',rfl,S',fun b o lb g=>?_⟩
     have b1:b≠s.heap.objs.size:=Nat.ne_of_lt lb
     have b2:b≠(s.heap.push { cls:=.type "set",dict:=none,data:=.set #[] 0 (.fresh 0 0 (!byTx w)) }).objs.size:=by
      rw[Heap.size_push];exact Nat.ne_of_lt (Nat.lt_succ_of_lt lb)
     exact m.heap b o (by simp only[List.mem_cons,List.mem_singleton,List.not_mem_nil,or_false,not_or];exact ⟨b1,b2⟩) (Heap.get?_push_of_some _ (Heap.get?_push_of_some _ g))
   ·cases r2 with
    | error e=>exact hr2
    | ok fl2=>
     cases fl2 with
     | ret r=>
      obtain ⟨rfl,h',tk,rfl,S',kp⟩:=hr2
      repeat (any_goals first|assumption|wp_step)
      exact k _ _ S' kp
     | _=>exact hr2.elim
  | _=>exact hr.elim
end
theorem qdu (f:Nat→Int) (k:Int):∀ n,k∈yay f n↔∃ i,i<n∧f i=k
 | 0=>by
  unfold yay
  constructor
  ·intro h;simp at h
  ·rintro ⟨i,h,_⟩;omega
 | n+1=>by
  have ih:=qdu f k n
  have e:k∈yay f (n+1)↔k∈yay f n∨k=f n:=by
   show k∈(if f n∈yay f n then yay f n else yay f n++[f n])↔_
   split
   ·rename_i h
    exact ⟨.inl,fun z=>z.elim id fun z=>z ▸ h⟩
   ·rw[List.mem_append,List.mem_singleton]
  rw[e,ih]
  constructor
  ·rintro (⟨i,h,z⟩|z)
   ·exact ⟨i,by omega,z⟩
   ·exact ⟨n,by omega,z.symm⟩
  ·rintro ⟨i,h,z⟩
   by_cases hi:i=n
   ·subst hi;exact .inr z.symm
   ·exact .inl ⟨i,by omega,z⟩
theorem qda (f:Nat→Int):∀ n,(yay f n).Nodup
 | 0=>List.nodup_nil
 | n+1=>by
  have ih:=qda f n
  show (if f n∈yay f n then yay f n else yay f n++[f n]).Nodup
  split
  ·exact ih
  ·rename_i h
   rw[List.nodup_append]
   exact ⟨ih,by simp,fun x hx y hy z=>h (by rw[← List.mem_singleton.mp hy,← z];exact hx)⟩
def uniq (ns:List Int):List Int:=yay (fun i=>ns.getD i 0) ns.length
theorem qfg (ns:List Int) (k:Int):k∈uniq ns↔k∈ns:=by
 unfold uniq
 rw[qdu]
 constructor
 ·rintro ⟨i,h,z⟩
  rw[List.getD_eq_getElem?_getD,List.getElem?_eq_getElem h] at z
  rw[← z]
  exact List.getElem_mem h
 ·intro h
  obtain ⟨i,hi,e⟩:=List.getElem_of_mem h
  exact ⟨i,hi,by rw[List.getD_eq_getElem?_getD,List.getElem?_eq_getElem hi,e];rfl⟩
theorem yfp (ns:List Int):(uniq ns).Nodup:=qda _ _
theorem yfa (ns:List Int):(uniq ns).length≤ns.length:=yc4 _ _
def SetO (P:Program) (w:World) (a:Addr) (ks:List Int):HO:=.ext fun h=>SetL P w h a ks
section
variable {X:Cx}{pins:List (Addr×Obj)}{σ:St}{H:Hp}{s:Shared}
def rSet (P:Program) (w:World):List V→Hp→VK→Prop:=fun xs H Q=>∃ (l:Addr) (ns:List Int),xs=[.ref l]∧H l=some (.lst (ns.map V.int))∧ns.length≤4000∧∀ p,H p=none→Q (.ref p) (upd H p (SetO P w p (uniq ns)))
theorem ydh (hc:X.calm=true):ybv X (.type "set") (rSet X.prog X.w):=by
 intro pins s σ H xs us Q I r h
 obtain ⟨l,ns,rfl,hH,h4,q⟩:=h
 cases r with
 | cons r rr=>
  cases rr
  cases r
  obtain ⟨z,its,n,rv,hl,e⟩:=I.lstM hH
  have hil:its.length=ns.length:=by rw[← hl,List.length_map]
  have hf:H s.heap.objs.size=none:=I.hok.fresh (Nat.le_refl _)
  refine yf6 (by simpa using I.ok.hd hc) (its:=its.toArray) (ns:=ns) ⟨_,e,rfl,n,rfl⟩ (by simpa using ybi rv) (by rw[List.size_toArray,hil];unfold scanBound;omega) fun h' tk S kp=>?_
  have ez:its.toArray.size=ns.length:=by rw[List.size_toArray,hil]
  rw[ez] at S
  refine ⟨.ref s.heap.objs.size,_,I.laid (o:=SetO X.prog X.w s.heap.objs.size (uniq ns)) (t':=tk) (fun b o g=>kp b o (Heap.lt_size g) g) (Nat.le_refl _) ?_,rfl,q _ hf⟩
  refine ⟨S,?_,fun h1 h2 x y=>SetL.at x y⟩
  obtain ⟨o,es,ep,t,g,_⟩:=S
  exact ⟨o,g⟩
def rLenSet (P:Program) (w:World):List V→Hp→VK→Prop:=fun xs H Q=>∃ (p:Addr) (ks:List Int),xs=[.ref p]∧H p=some (SetO P w p ks)∧Q (.int ks.length) H
theorem ycm:ybv X (.builtin "len") (rLenSet X.prog X.w):=by
 intro pins s σ H xs us Q I r h
 obtain ⟨p,ks,rfl,hH,q⟩:=h
 cases r with
 | cons r rr=>
  cases rr
  cases r
  obtain ⟨⟨o,es,ep,t,g,gx,gd,el,⟨ns,hi,hp⟩,hb,hf,ht,hl⟩,_⟩:=I.hok p _ hH
  have hlen:es.size=ks.length:=by
   have h1:=IntsAre.length hi
   rw[List.length_map,Array.length_toList] at h1
   rw[h1,hp.length_eq]
  refine call_len_set g gx gd hf (by unfold scanBound at hb;omega) ?_
  rw[hlen]
  exact ⟨.int ks.length,H,I.tok _,⟨_,rfl⟩,q⟩
end
theorem ydi:bootBuiltins "set" = some (.type "set"):=by decide +kernel
theorem eqI:∀ (a b:List Int),PyData.eqvAll (a.map PyData.int) (b.map PyData.int)=decide (a=b)
 | [],[]=>rfl
 | [],_::_=>rfl
 | _::_,[]=>rfl
 | x::a,y::b=>by
  show ((PyData.int x).eqv (.int y)&&PyData.eqvAll (a.map PyData.int) (b.map PyData.int))=_
  rw[eqI a b]
  have:(PyData.int x).eqv (.int y)=decide (x=y):=by simp[PyData.eqv];rfl
  rw[this,Bool.eq_iff_iff]
  simp
theorem qc1 {H:Hp}:∀ (cs:List Int),AtAll H (cs.map V.int) (cs.map PyData.int)
 | []=>.nil
 | c::cs=>.cons (.int c) (qc1 cs)
theorem layI:∀ (cs:List Int),PyData.canLayAll0 (cs.map PyData.int)=true
 | []=>rfl
 | c::cs=>by
  have:=layI cs
  simp only[List.map_cons,PyData.canLayAll0,this,Bool.and_true]
  rfl
theorem depI:∀ (cs:List Int),PyData.depthAll (cs.map PyData.int)≤1
 | []=>by simp[PyData.depthAll]
 | c::cs=>by
  have:=depI cs
  simp only[List.map_cons,PyData.depthAll,PyData.depth]
  omega
def tupD (ks:List (List Int)):List PyData:=ks.map fun k=>PyData.tuple (k.map PyData.int)
theorem eqTs:∀ (a b:List (List Int)),PyData.eqvAll (tupD a) (tupD b)=decide (a=b)
 | [],[]=>rfl
 | [],_::_=>rfl
 | _::_,[]=>rfl
 | x::a,y::b=>by
  show ((PyData.tuple (x.map PyData.int)).eqv (.tuple (y.map PyData.int))&&PyData.eqvAll (tupD a) (tupD b))=_
  rw[eqTs a b]
  have:(PyData.tuple (x.map PyData.int)).eqv (.tuple (y.map PyData.int))=decide (x=y):=by rw[PyData.eqv];exact eqI x y
  rw[this,Bool.eq_iff_iff]
  simp
theorem atTs {H:Hp}:∀ {ts:List TL},(∀ t∈ts,H t.1=some (.tup (t.2.map V.int)))→AtAll H (yaf ts) (tupD (ts.map (·.2)))
 | [],_=>.nil
 | t::ts,h=>.cons (.tup (h t (List.mem_cons_self ..)) (qc1 _)) (atTs fun u hu=>h u (List.mem_cons_of_mem _ hu))
theorem yfx:∀ (ks:List (List Int)),PyData.canLayAll0 (tupD ks)=true
 | []=>rfl
 | k::ks=>by
  show (PyData.canLay0 (.tuple (k.map PyData.int))&&PyData.canLayAll0 (tupD ks))=true
  rw[yfx ks,Bool.and_true]
  exact layI k
theorem depTs:∀ (ks:List (List Int)),PyData.depthAll (tupD ks)≤2
 | []=>by simp[tupD,PyData.depthAll]
 | k::ks=>by
  have h1:=depTs ks
  have h2:=depI k
  unfold tupD at h1 ⊢
  simp only[List.map_cons,PyData.depthAll,PyData.depth]
  omega
section
variable {X:Cx}
def rInP (neg:Bool):R2:=fun x y H Q=>∃ (q p:Addr) (k:List Int) (ts:List TL),x=.ref q∧y=.ref p∧H q=some (.tup (k.map V.int))∧H p=some (.lst (yaf ts))∧(∀ t∈ts,H t.1=some (.tup (t.2.map V.int)))∧Q (.bl (if neg then !decide (k∈ts.map (·.2)) else decide (k∈ts.map (·.2)))) H
def eUP (H:Hp) (k:List Int):Value→Bool
 | .ref a=>match H a with|some (.tup xs)=>decide (xs=k.map V.int)|_=>false
 | _=>false
theorem qe5 {a b:List Int}:a.map V.int=b.map V.int↔a=b:=by
 constructor
 ·intro h
  have:=congrArg (List.map fun v:V=>match v with | .int i=>i|_=>0) h
  rw[List.map_map,List.map_map] at this
  have e:((fun v:V=>match v with | .int i=>i|_=>(0:Int)) ∘ V.int)=id:=rfl
  rw[e,List.map_id,List.map_id] at this
  exact this
 ·intro h;rw[h]
theorem eUP_at {H:Hp}{k m:List Int}{a:Addr} (ha:H a=some (.tup (m.map V.int))):eUP H k (.ref a)=decide (m=k):=by
 unfold eUP
 dsimp only
 rw[ha]
 dsimp only
 exact decide_eq_decide.mpr qe5
theorem yf1 {H:Hp}{k:List Int}:∀ {ts:List TL},(∀ t∈ts,H t.1=some (.tup (t.2.map V.int)))→(qa3 ts).any (eUP H k)=decide (k∈ts.map (·.2))
 | [],_=>rfl
 | t::ts,h=>by
  show (eUP H k (.ref t.1)||(qa3 ts).any (eUP H k))=_
  rw[yf1 fun u hu=>h u (List.mem_cons_of_mem _ hu),eUP_at (h t (List.mem_cons_self ..)),← Bool.decide_or]
  refine decide_eq_decide.mpr ?_
  rw[List.map_cons,List.mem_cons]
  exact ⟨fun z=>z.imp Eq.symm id,fun z=>z.imp Eq.symm id⟩
theorem eUP_eq {pins:List (Addr×Obj)}{σ:St}{H:Hp}{s:Shared}{n:Nat} (hr:Room n X.A) (I:Inv X pins σ H s) {q:Addr}{k:List Int}{ts:List TL} (hq:H q=some (.tup (k.map V.int))) (hT:∀ t∈ts,H t.1=some (.tup (t.2.map V.int))) :
  ∀ y,y∈qa3 ts→SeqAt.EqAt X.A.in1 s y (.ref q) (eUP H k y):=fun y hy=>by
 obtain ⟨t,ht,rfl⟩:=List.mem_map.mp hy
 have ha:=hT t ht
 have hu:=hr.units
 obtain ⟨as,rx⟩:=(At.tup hq (qc1 k)).reads I.hok (u:=.ref q) rfl
 obtain ⟨bs,ry⟩:=(At.tup ha (qc1 t.2)).reads I.hok (u:=.ref t.1) rfl
 have e:eUP H k (.ref t.1)=PyData.eqv (.tuple (t.2.map PyData.int)) (.tuple (k.map PyData.int)):=by rw[eUP_at ha,PyData.eqv];exact (eqI _ _).symm
 rw[e]
 refine PySem.SeqAt.eqAt_reads _ _ _ _ _ _ _ _ ry rx (layI _) (layI _) ?_
 have h1:=depI t.2
 have h2:=Nat.min_le_left (PyData.tuple (t.2.map PyData.int)).depth (PyData.tuple (k.map PyData.int)).depth
 have h3:(PyData.tuple (t.2.map PyData.int)).depth≤2:=by
  simp only[PyData.depth]
  omega
 show X.A.units+1+_<_
 omega
theorem op_inP {n:Nat} (hr:Room n X.A):OpR X (compareOp .In) (rInP false):=by
 intro pins s σ H x y v u Q I rx ry h
 obtain ⟨q,p,k,ts,rfl,rfl,hq,hp,hT,kk⟩:=h
 cases rx
 cases ry
 obtain ⟨its,r,pl,hz⟩:=I.list (SqL.of hp)
 have ei:=qd7 r
 subst ei
 refine SeqAt.in_listAt (eUP H k) pl.isList (fun w hw=>eUP_eq hr I hq hT w (by simpa using hw)) ⟨.bl _,H,I,rfl,?_⟩
 rw[show (qa3 ts).toArray.any (eUP H k)=(qa3 ts).any (eUP H k) by simp,yf1 hT]
 exact kk
end
end L2
namespace L2
open PySem PySem.Spec PyProof.Rows PySem.W
def yd2 (mg:Str→Option Value) (h:Heap):Prop:=∃ bm ob,mg "__builtins__" = some (.ref bm)∧bm≠builtinsNs∧h.get? bm=some ob∧ob.cls=.type "module"∧ob.dict=some builtinsNs∧ob.data=.plain
theorem qgw {P:Program}{w:World}{K:PySem.W.Frag}{mg mb:Str→Option Value}{CX:CXT}{k:Nat}{fa a:Addr}{fd:FuncData}{x:Str}{sp:Sp}{s₁:Shared}{vs:List Value}{ns:List Int}{ts:List Addr}
  (KX:K.In s₁.heap) (hns:s₁.heap.Ns mainGlobals mg) (hb:s₁.heap.Ns builtinsNs mb) (hbb:∀ x:Str,x≠"__name__"→mb x=bootBuiltins x) (hlim:s₁.heap.NoLimit) (hg:s₁.gens=#[]) (hbm:yd2 mg s₁.heap)
  (htb:∀ p∈ts,s₁.heap.get? p=some (tabObj #[])) (hcd:∀ p∈ts,∃ c,CodeHd s₁.heap c p) (hKt:∀ p∈ts,K.lookup p=none)
  (ha:s₁.heap.get? a=some { cls:=.type "list",data:=.seq vs.toArray }) (hi:IntsAre vs ns) (hl:ns.length≤sizeLine) (hr:Room k callerA)
  (F:∀ base:Heap,K.In base→base.Ns mainGlobals mg→yd2 mg base→FnOk P w K mg base CX k fa fd [x] sp) (hbind:∀ (s:Shared) (u:Value),BindsTo s fd ⟨[u],[]⟩ [(x,u)])
  (hsp:∀ H:Hp,SqL K H a (ns.map V.int)→(∀ p∈ts,H p=some (.tbl #[]))→sp [.ref a] H (fun v _=>v=.bl true) fun _ _ _=>False)
  (hCX:∀ H e s',CX [] H s₁ (fun _ _ _=>False) e s'→False) :
  codeAny (model P w) callerA (.call (.ref fa) ⟨[.ref a],[]⟩) (fun r s'=>r=.ok (.ret (.bool true))∧OldK s₁.heap s'.heap∧s'.os=s₁.os∧AllBare s'.gens) s₁:=by
 have rv:=qeb hi
 have lenV:=hi.length
 have nat_:a∉ts:=fun z=>by
  have:=htb a z
  rw[ha] at this
  cases this
 have core:∀ H:Hp,(∀ b,H b=none∨(∃ o xs,H b=some (.frz o (.lst xs)))∨(b∈ts∧H b=some (.tbl #[])))→SqL K H a (ns.map V.int)→(∀ p∈ts,H p=some (.tbl #[]))→HOk P w H s₁.heap→(∀ b,H b≠none→b=a∨b∈ts)→(H a≠none→K.lookup a=none)→
   codeAny (model P w) callerA (.call (.ref fa) ⟨[.ref a],[]⟩) (fun r s'=>r=.ok (.ret (.bool true))∧OldK s₁.heap s'.heap∧s'.os=s₁.os∧AllBare s'.gens) s₁:=by
  intro H hO hS hT hok hA hK
  have base_of:∀ {b:Addr}{o:Obj},s₁.heap.get? b=some o→H b=none→(hidT s₁.heap H).get? b=some o:=fun e n=>hidT_get e n
  have noL:∀ {b:Addr}{o:Obj},s₁.heap.get? b=some o→(∀ vs n,o.data≠.seq vs n)→(∀ vs,o.data≠.fields vs)→H b=none:=fun {b o} e d d2=>by
   cases q:H b with
   | none=>rfl
   | some u=>
    rcases hA b (by rw[q];simp) with e' | e'
    ·subst e'
     rw[ha] at e;cases e
     exact absurd rfl (d _ _)
    ·rw[htb b e'] at e;cases e
     exact absurd rfl (d2 _)
  have nsK:∀ {b:Addr}{m:Str→Option Value},s₁.heap.Ns b m→(hidT s₁.heap H).Ns b m:=fun {b m} ⟨o,es,ep,e,d,r⟩=>⟨o,es,ep,base_of e (noL e (fun _ _ z=>by rw[d] at z;cases z) fun _ z=>by rw[d] at z;cases z),d,r⟩
  have hKb:K.In (hidT s₁.heap H):=fun b o e=>base_of (KX b o e) (by
   cases q:H b with
   | none=>rfl
   | some u=>
    rcases hA b (by rw[q];simp) with e' | e'
    ·subst e'
     rw[hK (by rw[q];simp)] at e;cases e
    ·rw[hKt b e'] at e;cases e)
  have hM:Mod K mg (hidT s₁.heap H):=⟨hKb,nsK hns,⟨mb,nsK hb,hbb⟩,let ⟨mc,h1,h2⟩:=hlim;⟨mc,nsK h1,h2⟩⟩
  have hBm:yd2 mg (hidT s₁.heap H):=by
   obtain ⟨bm,ob,q1,q2,q3,q4,q5,q6⟩:=hbm
   exact ⟨bm,ob,q1,q2,base_of q3 (noL q3 (fun _ _ z=>by rw[q6] at z;cases z) fun _ z=>by rw[q6] at z;cases z),q4,q5,q6⟩
  have e0:Env0 P w K mg (hidT s₁.heap H) callerA [] s₁ H:=⟨rfl,hM,fun b o e=>of_hidT e,Nat.le_of_eq (qf9 _ _),trivial,fun b hb=>absurd (show b∈([]:List Addr) from hb) (by simp),hok,.of_eq hg⟩
  refine codeAny_mono ((F _ hKb (nsK hns) hBm).run callerA [] s₁ H ⟨[.ref a],[]⟩ [.ref a] [.ref a] _ _ hr e0 (hbind s₁ (.ref a)) (.cons rfl .nil) (hsp H hS hT)) fun r s' h=>?_
  cases r with
  | error e=>exact (hCX H e s' h).elim
  | ok fl=>
   cases fl with
   | next=>exact False.elim h
   | brk=>exact False.elim h
   | cont=>exact False.elim h
   | ret u=>
    obtain ⟨v,H',os,bare,un,hok',r',q⟩:=h
    have q':v=.bl true:=q
    subst q'
    obtain rfl:u=Value.bool true:=r'
    have kept:∀ b o,s₁.heap.get? b=some o→b∉ts→s'.heap.get? b=some o:=fun b o e hbt=>by
     cases q:H b with
     | none=>exact un.keep b o e q (by intro z;exact absurd (show b∈([]:List Addr) from z) (by simp)) (by simp)
     | some u=>
      rcases hO b with z|⟨ob,xs,z⟩|⟨z,_⟩
      ·rw[q] at z;cases z
      ·have z2:=un.frzs b ob _ z
       obtain ⟨e1,_⟩:=hok b _ z
       obtain ⟨e2,_⟩:=hok' b _ z2
       rw[e] at e1;cases e1
       exact e2
      ·exact absurd z hbt
    have tabs:∀ b∈ts,∃ more,s'.heap.get? b=some { cls:=.none,data:=.fields (#[]++more) }:=fun b hbt=>by
     obtain ⟨more,z⟩:=un.tbls b #[] (hT b hbt)
     exact ⟨more,hok' b _ z⟩
    refine ⟨rfl,⟨fun b o e=>?_,fun b o e=>?_⟩,os,bare⟩
    ·by_cases hbt:b∈ts
     ·obtain ⟨more,z⟩:=tabs b hbt
      rw[htb b hbt] at e;cases e
      obtain ⟨c,hc⟩:=hcd b hbt
      exact .inr (.inl ⟨(hc.tab (htb b hbt)).isCodeTable,rfl,#[],more,rfl,z⟩)
     ·exact .inl (kept b o e hbt)
    ·by_cases hbt:b∈ts
     ·obtain ⟨more,z⟩:=tabs b hbt
      exact ⟨_,z⟩
     ·exact ⟨o,kept b o e hbt⟩
 cases hk:K.lookup a with
 | some o=>
  have e:=KX a o hk
  rw[ha] at e
  cases e
  refine core (fun b=>if b∈ts then some (.tbl #[]) else none) (fun b=>?_) (.inr ⟨_,vs.toArray,_,hk,rfl,rfl,rfl,by rw[List.size_toArray,lenV];exact hl,by simpa using rv⟩) (fun p hp=>if_pos hp) (fun b u z=>?_) (fun b z=>?_) fun z=>absurd (if_neg nat_) z
  ·by_cases hbt:b∈ts
   ·exact .inr (.inr ⟨hbt,if_pos hbt⟩)
   ·exact .inl (if_neg hbt)
  ·by_cases hbt:b∈ts
   ·have z':=(if_pos hbt).symm.trans z
    cases z'
    exact htb b hbt
   ·have z':=(if_neg hbt).symm.trans z
    cases z'
  ·by_cases hbt:b∈ts
   ·exact .inr hbt
   ·exact absurd (if_neg hbt) z
 | none=>
  refine core (fun b=>if b=a then some (.frz { cls:=.type "list",data:=.seq vs.toArray } (.lst (ns.map V.int))) else if b∈ts then some (.tbl #[]) else none) (fun b=>?_) (.inl (.inr ⟨{ cls:=.type "list",data:=.seq vs.toArray },if_pos rfl⟩)) (fun p hp=>?_) (fun b u z=>?_) (fun b z=>?_) fun _=>hk
  ·by_cases hb:b=a
   ·exact .inr (.inl ⟨_,_,if_pos hb⟩)
   ·by_cases hbt:b∈ts
    ·exact .inr (.inr ⟨hbt,by rw[if_neg hb,if_pos hbt]⟩)
    ·exact .inl (by rw[if_neg hb,if_neg hbt])
  ·have hpa:p≠a:=fun z=>nat_ (z ▸ hp)
   show (if p=a then _ else _)=_
   rw[if_neg hpa,if_pos hp]
  ·by_cases hb:b=a
   ·have z':=(if_pos hb).symm.trans z
    cases z'
    subst hb
    exact ⟨ha,by rw[List.length_map];exact hl,vs,_,rv,ha⟩
   ·have z':=(if_neg hb).symm.trans z
    by_cases hbt:b∈ts
    ·have z2:=(if_pos hbt).symm.trans z'
     cases z2
     exact htb b hbt
    ·have z2:=(if_neg hbt).symm.trans z'
     cases z2
  ·by_cases hb:b=a
   ·exact .inl hb
   ·by_cases hbt:b∈ts
    ·exact .inr hbt
    ·exact absurd (show (if b=a then _ else if b∈ts then _ else none)=none by rw[if_neg hb,if_neg hbt]) z
theorem walk_ofT {l:PySem.W.OpenLaw}{n k:Nat}{q:Program}{loose:List Str}{XP:(Str→Option Value)→Heap→Prop}{YP:World→Heap→Prop}{d:DefRec}{K:Params→PySem.W.Frag}{CX:World→CXT}{sp:World→Sp}{x:Str}{ts:List Addr}
  (hn:l.most=some n) (hn2:n≤sizeLine) (hdf:d.params.defaults=[]) (hr:Room k callerA)
  (hY:∀ (w:World) (h:Heap),YP w h→(K w.params).In h∧∀ p∈ts,h.get? p=some (tabObj #[])) (hcd:∀ (w:World) (h:Heap),(K w.params).In h→∀ p∈ts,∃ c,CodeHd h c p) (hKt:∀ (w:World),∀ p∈ts,(K w.params).lookup p=none)
  (F:∀ (w:World) (mg:Str→Option Value) (fa:Addr) (h:Heap),(K w.params).In h→h.Ns mainGlobals mg→mg d.name=some (.ref fa)→
   ∃ fd:FuncData,(∀ (s:Shared) (u:Value),BindsTo s fd ⟨[u],[]⟩ [(x,u)])∧
    ∀ base:Heap,(K w.params).In base→base.Ns mainGlobals mg→yd2 mg base→FnOk l.prog w (K w.params) mg base (CX w) k fa fd [x] (sp w))
  (hsp:∀ (w:World) (H:Hp) (a:Addr) (ns:List Int),ns.length≤n→SqL (K w.params) H a (ns.map V.int)→(∀ p∈ts,H p=some (.tbl #[]))→sp w [.ref a] H (fun v _=>v=.bl true) fun _ _ _=>False)
  (hCX:∀ (w:World) (H:Hp) (s:Shared) (e:Value) (s':Shared),CX w [] H s (fun _ _ _=>False) e s'→False) :
  PySem.W.WalkO q loose XP YP l.row.toRowW d [] (fun f vs=>PySem.call f vs):=by
 refine Att.attach_call hn hdf fun w s₀ s₁ mg mb fa o pm cd doc a vs ns G Y ho hd hcd' hmg hobj hints hlen hg=>?_
 obtain ⟨KX,TB⟩:=hY w _ Y
 obtain ⟨fd,hb,hF⟩:=F w mg fa _ KX G.T.g hmg
 exact qgw KX G.T.g G.T.b G.T.builtins G.T.nolimit hg G.T.bmain TB (hcd w _ KX) (hKt w) hobj hints (Nat.le_trans hlen hn2) hr hF hb (fun H hS hT=>hsp w H a ns hlen hS hT) fun H e s'=>hCX w H s₁ e s'
def yet (c:Addr) (q:Str):HO:=.ext fun h=>h.CodeRec (.ref c) q
def lamO (f:Addr) (fd:FuncData):HO:=.ext fun h=>h.get? f=some { cls:=.type "function",data:=.func fd }
def TabY (P c:Addr) (q:Str) (pos:Pos) (H:Hp):Prop:=H P=some (.tbl #[rawInt pos.line,rawInt pos.col,.ref c])∧H c=some (yet c q)
def TabS (P:Addr) (q:Str) (pos:Pos) (H:Hp):Prop:=H P=some (.tbl #[])∨∃ c,TabY P c q pos H
theorem codeO_ok {P:Program}{w:World}{H:Hp}{h:Heap}{c:Addr}{q:Str} (x:h.CodeRec (.ref c) q):yap P w H h c (yet c q):=by
 refine ⟨x,?_,fun h1 h2 y k=>?_⟩
 ·obtain ⟨c',o,vs,t,e,ho,_⟩:=x
  cases e
  exact ⟨o,ho⟩
 ·obtain ⟨c',o,vs,t,e,ho,r⟩:=y
  cases e
  exact ⟨c,o,vs,t,rfl,k o ho,r⟩
theorem qfv {P:Program}{w:World}{H:Hp}{h:Heap}{f:Addr}{fd:FuncData} (x:h.get? f=some { cls:=.type "function",data:=.func fd }):yap P w H h f (lamO f fd):=⟨x,⟨_,x⟩,fun h1 h2 y k=>k _ y⟩
section
variable {X:Cx}{pins:List (Addr×Obj)}{σ:St}{H:Hp}{s:Shared}
theorem Inv.grown {P c f:Addr}{q:Str}{pos:Pos}{fd:FuncData}{h1:Heap}{tk:Nat} (I:Inv X pins σ H s) (hP:H P=some (.tbl #[])) (hx:Heap.ExtBut P s.heap h1) (hc:s.heap.objs.size≤c) (hcl:c<h1.objs.size) (hcr:h1.CodeRec (.ref c) q)
  (ht:h1.get? P=some (tabObj (#[]++#[rawInt pos.line,rawInt pos.col,.ref c]))) (hf:f=h1.objs.size) :
  Inv X pins σ (upd (upd (upd H P (.tbl #[rawInt pos.line,rawInt pos.col,.ref c])) c (yet c q)) f (lamO f fd)) { s with heap:=h1.push { cls:=.type "function",data:=.func fd },toks:=tk }:=by
 subst hf
 have hs1:s.heap.objs.size≤h1.objs.size:=Nat.le_of_lt (Nat.lt_of_le_of_lt hc hcl)
 have nc:H c=none:=I.hok.fresh hc
 have nf:H h1.objs.size=none:=I.hok.fresh hs1
 have hcP:c≠P:=fun z=>by rw[z,hP] at nc;cases nc
 have hfP:h1.objs.size≠P:=fun z=>by rw[z,hP] at nf;cases nf
 have hfc:h1.objs.size≠c:=Nat.ne_of_gt hcl
 have kp:∀ b o,b≠P→s.heap.get? b=some o→(h1.push { cls:=.type "function",data:=.func fd }).get? b=some o:=fun b o hb e=>Heap.get?_push_of_some _ (hx b o hb e)
 have hPsz:P<s.heap.objs.size:=I.hok.lt hP
 have oth:∀ b,b≠P→b≠c→b≠h1.objs.size→upd (upd (upd H P (.tbl #[rawInt pos.line,rawInt pos.col,.ref c])) c (yet c q)) h1.objs.size (lamO h1.objs.size fd) b=H b:=fun b h1' h2 h3=>by rw[qad h3,qad h2,qad h1']
 have old:∀ b o,H b=some o→b≠P→upd (upd (upd H P (.tbl #[rawInt pos.line,rawInt pos.col,.ref c])) c (yet c q)) h1.objs.size (lamO h1.objs.size fd) b=some o:=fun b o e hb=>by
  rw[oth b hb (yab e nc) (yab e nf)];exact e
 have eP:upd (upd (upd H P (.tbl #[rawInt pos.line,rawInt pos.col,.ref c])) c (yet c q)) h1.objs.size (lamO h1.objs.size fd) P=some (.tbl #[rawInt pos.line,rawInt pos.col,.ref c]):=by
  rw[qad hfP.symm,qad hcP.symm];exact yaa
 refine I.un ⟨fun b o e n hb he=>?_,fun b o e n hb he=>⟨o.slots,?_⟩,fun b o e n he=>?_,fun b o e he=>?_,fun b xs e=>old b _ e fun z=>?_,fun b o u e=>old b _ e fun z=>?_,fun b ps e=>?_⟩ fun b u e=>?_
 ·exact kp b o (fun z=>by rw[z,hP] at n;cases n) e
 ·exact kp b o (fun z=>by rw[z,hP] at n;cases n) e
 ·have hlt:b<s.heap.objs.size:=Heap.lt_size e
  rw[oth b (fun z=>by rw[z,hP] at n;cases n) (Nat.ne_of_lt (Nat.lt_of_lt_of_le hlt hc)) (Nat.ne_of_lt (Nat.lt_of_lt_of_le hlt hs1))]
  exact n
 ·by_cases hb:b=P
  ·exact ⟨_,by rw[hb];exact Heap.get?_push_of_some _ ht⟩
  ·exact ⟨o,kp b o hb e⟩
 ·rw[z,hP] at e;cases e
 ·rw[z,hP] at e;cases e
 ·by_cases hb:b=P
  ·subst hb
   rw[hP] at e;cases e
   exact ⟨#[rawInt pos.line,rawInt pos.col,.ref c],by rw[eP];simp⟩
  ·exact ⟨#[],by rw[old b _ e hb];simp⟩
 ·by_cases hbf:b=h1.objs.size
  ·subst hbf
   rw[yaa] at e;cases e
   exact qfv (Heap.get?_push_size _ rfl)
  ·rw[qad hbf] at e
   by_cases hbc:b=c
   ·subst hbc
    rw[yaa] at e;cases e
    obtain ⟨c',o,vs,t,e1,ho,r⟩:=hcr
    exact codeO_ok ⟨c',o,vs,t,e1,Heap.get?_push_of_some _ ho,r⟩
   ·rw[qad hbc] at e
    by_cases hbP:b=P
    ·subst hbP
     rw[yaa] at e;cases e
     have z:(h1.push { cls:=.type "function",data:=.func fd }).get? b=some (tabObj #[rawInt pos.line,rawInt pos.col,.ref c]):=by simpa using Heap.get?_push_of_some { cls:=.type "function",data:=.func fd } ht
     exact z
    ·rw[qad hbP] at e
     refine (I.hok b u e).stay (fun c' v hc' g=>kp c' v (fun z=>?_) g) (fun c' e'=>old c' _ e' fun z=>?_) fun c' xs e'=>old c' _ e' fun z=>?_
     ·rcases hc' with z2|z2
      ·exact hbP (z2.symm.trans z)
      ·rw[z,hP] at z2;cases z2
     ·rw[z,hP] at e';cases e'
     ·rw[z,hP] at e';cases e'
def tLam (P:Addr) (q:Str) (pos:Pos) (fd:Value→Value→FuncData):TE:=fun σ H Q=>TabS P q pos H∧∀ f c ctv H',H f=none→H' f=some (lamO f (fd (.ref c) ctv))→TabY P c q pos H'→(∀ b u,b≠P→H b=some u→H' b=some u)→Q (.ref f) H'
abbrev lamF (X:Cx) (q:Str) (params:Arguments) (body:Expr) (scope:Scope) (cd ct:Value):FuncData:=kla_fn "<lambda>" q params body scope (clOf X.env.cells scope.names []) ((X.mg "__name__").getD .none) cd ct
theorem pe_lam {P c:Addr}{params:Arguments}{body:Expr}{scope:Scope}{pos:Pos}{q:Str} (hd:defaultsOf params X.env=([],[])) (hq:X.env.qual++"<lambda>" = q) (hc:X.env.code=.ref c) (C:CodeHd X.base c P) (bm:yd2 X.mg X.base)
  (hfr:∀ x∈scope.names,x.2=.free→X.env.kindOf x.1=some .cell∨X.env.kindOf x.1=some .free) :
  PE X (.Lambda params body scope pos) (tLam P q pos (lamF X q params body scope)):=by
 intro pins s σ H Q I h
 obtain ⟨ts,k⟩:=h
 refine kla_eval hd ?_
 rw[hq]
 have hcl:closureFor scope X.env=pure (clOf X.env.cells scope.names []):=qbm fun x hx e=>I.ok.has x.1 (hfr x hx e)
 have hg:s.heap.Ns mainGlobals X.mg:=I.ok.mod.glob.keeps I.bk
 have C':CodeHd s.heap c P:=C.keeps I.bk
 obtain ⟨bmA,ob,b1,b2,b3,b4,b5,b6⟩:=bm
 have b3':=(I.bs _ _ b3).1
 have hgP:∀ {ps:Array Value},s.heap.get? P=some (tabObj ps)→mainGlobals≠P:=fun hp z=>by
  obtain ⟨o,es,ep,e,hdd,_⟩:=id hg
  rw[z,hp] at e;cases e;cases hdd
 have hbA:∀ {ps:Array Value},s.heap.get? P=some (tabObj ps)→s.heap.BuiltinsAt X.mg P:=fun hp=>by
  refine ⟨bmA,ob,b1,b2,fun z=>?_,fun z=>?_,b3',b4,b5,b6⟩
  ·obtain ⟨o,es,ep,e,hdd,_⟩:=id hg
   rw[z,e] at b3';cases b3';rw[hdd] at b6;cases b6
  ·rw[z,hp] at b3';cases b3';cases b4
 rcases ts with hP|⟨cc,hP,hcc⟩
 ·have hp:s.heap.get? P=some (tabObj #[]):=I.hok P _ hP
  refine kla_makeFunction hcl I.ok.glob hg hc C' hp trivial rfl (hgP hp) (hbA hp) fun c' ctv h' tk hx hge hlt hrec htb=>?_
  refine ⟨.ref h'.objs.size,_,I.grown (P:=P) (c:=c') (q:=q) (pos:=pos) hP hx hge hlt hrec htb rfl,rfl,k _ c' ctv _ (I.hok.fresh (Nat.le_of_lt (Nat.lt_of_le_of_lt hge hlt))) yaa ⟨?_,?_⟩ fun b u hb e=>?_⟩
  ·have nc:H c'=none:=I.hok.fresh hge
   rw[qad (fun z=>?_),qad (fun z=>?_)]
   ·exact yaa
   ·rw[← z,hP] at nc;cases nc
   ·have nf:H h'.objs.size=none:=I.hok.fresh (Nat.le_of_lt (Nat.lt_of_le_of_lt hge hlt))
    rw[← z,hP] at nf;cases nf
  ·rw[qad (Nat.ne_of_lt hlt)];exact yaa
  ·rw[qad (yab e (I.hok.fresh (Nat.le_of_lt (Nat.lt_of_le_of_lt hge hlt)))),qad (yab e (I.hok.fresh hge)),qad hb]
   exact e
 ·have hp:s.heap.get? P=some (tabObj #[rawInt pos.line,rawInt pos.col,.ref cc]):=I.hok P _ hP
  refine kla_makeFunctionHit (cv:=.ref cc) hcl I.ok.glob hg hc C' hp (by exact trivial) (by show (if ((pos.line:Int) == pos.line&&(pos.col:Int) == pos.col)=true then _ else _)=_;rw[if_pos (by simp)]) (hbA hp) fun ctv h' tk kp hz=>?_
  have nf:H h'.objs.size=none:=I.hok.fresh hz
  have I1:Inv X pins σ (upd H h'.objs.size (lamO h'.objs.size (lamF X q params body scope (.ref cc) ctv))) { s with heap:=h'.push { cls:=.type "function",data:=.func (lamF X q params body scope (.ref cc) ctv) },toks:=tk }:=
   I.laid (fun b u g=>Heap.get?_push_of_some _ (kp b u g)) hz (qfv (Heap.get?_push_size _ rfl))
  exact ⟨.ref h'.objs.size,_,I1,rfl,k _ cc ctv _ nf yaa ⟨by rw[qad (yab hP nf)];exact hP,by rw[qad (yab hcc nf)];exact hcc⟩ fun b u hb e=>by rw[qad (yab e nf)];exact e⟩
end
section
def cxLam (X:Cx) (N:List Str) (q:Str) (scope:Scope) (f:Addr) (cd:Value) (A:Around) (s:Shared) (H:Hp):Cx where
 prog:=X.prog
 w:=X.w
 K:=X.K
 mg:=X.mg
 base:=X.base
 A:=A.deeper (newEnv scope s.heap.objs.size mainGlobals (clOf X.env.cells scope.names []) (q++".<locals>.") (some f) cd none builtinsNs)
 N:=N
 s₀:=s
 H₀:=H
 env:=newEnv scope s.heap.objs.size mainGlobals (clOf X.env.cells scope.names []) (q++".<locals>.") (some f) cd none builtinsNs
 outer:=X.stack
 stack:=newEnv scope s.heap.objs.size mainGlobals (clOf X.env.cells scope.names []) (q++".<locals>.") (some f) cd none builtinsNs::X.stack
 ex:=[]
 fn:=fun _=>false
 calm:=true
 pn:=[]
 xe:=fun _ _=>False
structure LamScope (X:Cx) (N ps:List Str) (ix:List Nat) (sc:Scope):Prop where
 kind:sc.kind=.function
 co:sc.isCoroutine=false
 gen:sc.isGenerator=false
 nd:N.Nodup
 ndn:(sc.names.map (·.1)).Nodup
 eq:N.length=ps.length+ix.length
 pre:N.take ps.length=ps
 par:∀ x∈ps,sc.names.lookup x=some .local
 fr:∀ (j i:Nat) (x:Str),ix[j]?=some i→N[ps.length+j]?=some x→X.N[i]?=some x∧sc.names.lookup x=some .free∧X.env.kindOf x=some .cell
 only:∀ x∈sc.names,x.2≠.cell
 out:∀ x∈sc.names,x.2=.free→X.env.kindOf x.1=some .cell
variable {X:Cx}{pins:List (Addr×Obj)}{σ:St}{H:Hp}{s:Shared}
def yel (σ:St) (vs:List V) (ix:List Nat):St:=vs.map some++ix.map fun i=>(σ[i]?).getD none
theorem inv_lam {N ps:List Str}{ix:List Nat}{q:Str}{scope:Scope}{f:Addr}{cd:Value}{A:Around}{us:List Value}{vs:List V}{h1:Heap} (S:LamScope X N ps ix scope) (I:Inv X pins σ H s) (hfr:A.frames=some X.stack) (hhd:A.handled=none) (hl:vs.length=ps.length) (r:Vals vs us)
  (hns:h1.Ns s.heap.objs.size (fun x=>(ps.zip us).reverse.lookup x)) (sb:Heap.SameBut s.heap.objs.size (s.heap.push { cls:=.type "frame",data:=.dict #[] }) h1) (tk:Nat) :
  Inv (cxLam X N q scope f cd A s H) [] (yel σ vs ix) H { s with heap:=h1,toks:=tk }:=by
 have hfree:∀ x∈scope.names,x.2=.free→∃ c,X.env.cells.lookup x.1=some c:=fun x hx e=>I.ok.has x.1 (.inl (S.out x hx e))
 have snd:∀ {x:Str}{c:Addr},(clOf X.env.cells scope.names []).lookup x=some c→X.env.cells.lookup x=some c:=fun {x c} h=>qbw hfree (fun p hp=>by simp at hp) (x,c) (PySem.mem_of_lookup h)
 have has:∀ {x:Str},scope.names.lookup x=some .free→∃ c,(clOf X.env.cells scope.names []).lookup x=some c:=fun {x} h=>qb1 (qcs (.inl (PySem.mem_of_lookup h)))
 have kp:∀ b o,s.heap.get? b=some o→h1.get? b=some o:=fun b o e=>(sb.2 b (Nat.ne_of_lt (Heap.lt_size e))).trans (Heap.get?_push_of_some _ e)
 have noA:∀ b:Addr,b∉(cxLam X N q scope f cd A s H).ex:=fun b z=>absurd (show b∈([]:List Addr) from z) (by simp)
 have e0:=I.env0
 refine ⟨⟨I.ok.mod,S.kind,rfl,rfl,Nat.le_refl _,fun y z c h1 h2=>I.ok.inj y z c (snd h1) (snd h2),fun y hy=>?_,fun y c h=>(by cases h),fun _=>hhd,Around.frames_deeper hfr,.inr ⟨rfl,rfl⟩,fun b z=>absurd z (noA b),e0.bs,e0.bsz,fun b _ _=>noA b,fun b z=>absurd z (noA b),e0.funs,e0.frf⟩,
  rfl,I.bare,Un.kept kp,⟨_,hns,fun i y v h1' h2 h3=>?_⟩,fun y c h=>?_,I.hok.fresh (Nat.le_refl _),fun y c h=>I.freeC y c (snd h),fun p hp=>absurd (show p∈([]:List (Addr×Obj)) from hp) (by simp),I.hok.kept kp,?_⟩
 ·have hy:scope.names.lookup y=some .cell∨scope.names.lookup y=some .free:=hy
  rcases hy with hy|hy
  ·exact absurd rfl (S.only _ (PySem.mem_of_lookup hy))
  ·exact has hy
 ·have hvl:(vs.map some).length=ps.length:=by rw[List.length_map];exact hl
  by_cases hi:i<ps.length
  ·have ha:vs[i]?=some v:=by
    unfold yel at h2
    rw[List.getElem?_append_left (by omega),List.getElem?_map] at h2
    cases e:vs[i]? with
    | none=>rw[e] at h2;cases h2
    | some a=>rw[e] at h2;cases h2;rfl
   obtain ⟨u,hu,rv⟩:=r.get ha
   have hp:ps[i]?=some y:=by rw[← S.pre,List.getElem?_take_of_lt hi];exact h1'
   have ndP:ps.Nodup:=by rw[← S.pre];exact S.nd.sublist (List.take_sublist _ _)
   refine ⟨u,rv,.inl ⟨S.par y (List.mem_of_getElem? hp),?_⟩⟩
   have hul:us.length=ps.length:=by rw[← r.length];exact hl
   have hz:(ps.zip us)[i]?=some (y,u):=by rw[List.getElem?_zip_eq_some];exact ⟨hp,hu⟩
   have hm:(y,u)∈(ps.zip us).reverse:=List.mem_reverse.mpr (List.mem_of_getElem? hz)
   have ndz:((ps.zip us).reverse.map (·.1)).Nodup:=by
    rw[List.map_reverse,List.map_fst_zip (by omega)]
    exact List.pairwise_reverse.mpr (List.Pairwise.imp (fun h=>Ne.symm h) ndP)
   show (ps.zip us).reverse.lookup y=some u
   generalize (ps.zip us).reverse=l at hm ndz
   induction l with
   | nil=>cases hm
   | cons p l ih=>
    rw[List.map_cons,List.nodup_cons] at ndz
    rw[List.lookup_cons]
    rcases List.mem_cons.mp hm with z|z
    ·rw[← z];simp
    ·have:(y == p.1)=false:=by
      refine beq_eq_false_iff_ne.mpr fun e=>ndz.1 ?_
      rw[← e]
      exact List.mem_map_of_mem (f:=(·.1)) z
     rw[this]
     exact ih z ndz.2
  ·obtain ⟨j,hj⟩:∃ j,i=ps.length+j:=⟨i-ps.length,by omega⟩
   subst hj
   unfold yel at h2
   rw[List.getElem?_append_right (by omega),hvl,Nat.add_sub_cancel_left,List.getElem?_map] at h2
   cases e:ix[j]? with
   | none=>rw[e] at h2;cases h2
   | some i'=>
    rw[e] at h2
    have h2':(σ[i']?).getD none=some v:=Option.some.inj h2
    have hσ:σ[i']?=some (some v):=by
     cases e2:σ[i']? with
     | none=>rw[e2] at h2';cases h2'
     | some z=>rw[e2] at h2';simp at h2';rw[h2']
    obtain ⟨f1,f2,f3⟩:=S.fr j i' y e h1'
    obtain ⟨m,hm,hall⟩:=I.loc
    obtain ⟨u,ru,lk⟩:=hall i' y v f1 hσ (.inr (.inl f3))
    refine ⟨u,ru,.inr ⟨.inr f2,?_⟩⟩
    rcases lk with ⟨z,_⟩|⟨_,c,hc,ic⟩
    ·rw[f3] at z;cases z
    ·obtain ⟨c',hc'⟩:=has f2
     have:=snd hc'
     rw[hc] at this;cases this
     refine ⟨c,hc',?_⟩
     obtain ⟨o,ho,r⟩:=ic
     exact ⟨o,kp _ _ ho,r⟩
 ·obtain ⟨v,o,ho,r⟩:=I.cell y c (snd h)
  exact ⟨v,o,kp _ _ ho,r⟩
 ·show (yel σ vs ix).length=N.length
  unfold yel
  rw[List.length_append,List.length_map,List.length_map,hl,S.eq]
theorem lam_call {N ps:List Str}{ix:List Nat}{q:Str}{params:Arguments}{body:Expr}{scope:Scope}{f c:Addr}{ctv:Value}{A:Around}{us:List Value}{vs:List V}{k:Nat}{t:TE}{Q:VK}{E:Value→Shared→Prop} (S:LamScope X N ps ix scope) (I:Inv X pins σ H s)
  (hf:H f=some (lamO f (lamF X q params body scope (.ref c) ctv))) (hc:H c=some (yet c q)) (hfr:A.frames=some X.stack) (hr:Room k A) (hl:vs.length=ps.length) (r:Vals vs us)
  (hb:bindArgs (lamF X q params body scope (.ref c) ctv) ⟨us,[]⟩=pure (ps.zip us))
  (hbody:PE (cxLam X N q scope f (.ref c) A s H) body t) (hq:t (yel σ vs ix) H Q) :
  wpAny (model X.prog X.w) A (call (.ref f) us) (EP X pins σ Q) E s:=by
 obtain ⟨of,_⟩:=(show yap X.prog X.w H s.heap f (lamO f (lamF X q params body scope (.ref c) ctv)) from I.hok f _ hf)
 obtain ⟨oc,_⟩:=(show yap X.prog X.w H s.heap c (yet c q) from I.hok c _ hc)
 refine wpAny_call (kla_callFunE (body:=body) hr.depth of rfl S.co S.gen rfl oc ?_)
 rw[hb]
 refine wpAny_pure (wpAny_newFunctionEnv S.only (fun x hx=>S.par x.1 (List.of_mem_zip hx).1) (fun h1 hns sb=>⟨?_,?_⟩) S.kind)
 ·have kp:∀ b o,s.heap.get? b=some o→h1.get? b=some o:=fun b o e=>(sb.2 b (Nat.ne_of_lt (Heap.lt_size e))).trans (Heap.get?_push_of_some _ e)
  exact I.nolimit.keeps kp
 ·refine kla_codeExpr ?_
  have J:=inv_lam (q:=q) (f:=f) (cd:=.ref c) S I hfr hr.hd hl r hns sb (s.toks+(ps.zip us).length)
  refine wpAny_mono (hbody [] _ (yel σ vs ix) H Q J hq) (fun v s' hv=>?_) fun _ _ x=>x.elim
  obtain ⟨v',H',J',rv,q'⟩:=hv
  exact I.after ⟨v',H',J'.os,J'.bare,J'.base,J'.hok,rv,q'⟩
end
def GtAt (A:Around) (s:Shared) (x y:Value):Prop:=∃ e,SeqAt.EqAt A s x y e∧(e=false→∀ (prog:Program) (w:World) (E Q:Value→Shared→Prop),(∀ c,Q (.bool c) s)→wpAny (model prog w) A (richCompare .Gt x y) Q E s)
theorem qfd (A:Around) (s:Shared) (a b:Int) (t u:Tok):GtAt A s (.int a t) (.int b u):=
 ⟨(a == b),SeqAt.EqAt.int_int a t b u,fun _ prog w E Q h=>(PyProof.Rows.gt_int (h _):wpAny (model prog w) A (compareOp .Gt (.int a t) (.int b u)) Q E s)⟩
section
open PySem.SeqAt
open PySem.AutoSeq1 (wpAny_loadPart')
open PySem.MeetsSeq PySem.MeetsSeq2 PySem.MeetsSeq3
theorem qeg (l b:Addr) (items items2:Array Value) (n n2:Nat) (dd dd2:Option Addr) (sl sl2:Array (Option Value)) :
  Meets (Builtin.«tuple.__gt__» ⟨[.ref l,.ref b],[]⟩)
   (fun A R s=>s.heap.get? l=some { cls:=.type "tuple",dict:=dd,data:=.seq items n,slots:=sl }∧s.heap.get? b=some { cls:=.type "tuple",dict:=dd2,data:=.seq items2 n2,slots:=sl2 }∧
    (∀ p∈items.toList.zip items2.toList,GtAt A.in1 s p.1 p.2)∧∀ c:Bool,R (.ok (.ret (.bool c))) s):=
 .of_wp fun prog w A R s h=>by
  obtain ⟨hp,g,d,tk,os⟩:=s;obtain ⟨hl,hb,hg,h⟩:=h
  have f2:=AutoSeq1.sub_tuple_tuple
  wp_walk using wpAny_loadPart' hl,wpAny_loadPart' hb,wpAny_forIn_list _ (fun rest b s'=>b.1=none∧s'=⟨hp,g,d,tk,os⟩∧∀ p∈rest,GtAt A.in1 ⟨hp,g,d,tk,os⟩ p.1 p.2) _
  case turn=>
   rintro ⟨y,x⟩ rest b s' ⟨hb',rfl,hall⟩
   obtain ⟨e,he,hgt⟩:=hall (y,x) (List.mem_cons_self ..)
   refine wpAny_bind (he prog w _ _ ?_)
   cases e with
   | true=>
    wp_walk
    exact ⟨rfl,rfl,fun p hp=>hall p (List.mem_cons_of_mem _ hp)⟩
   | false=>
    have hri:=hgt rfl prog w
    wp_walk using hri
    intro c
    wp_walk
    exact ⟨_,rfl,h c⟩
  case fin=>
   rintro ⟨b1,b2⟩ s' ⟨hb',rfl,hall⟩
   simp only at hb'
   subst hb'
   wp_walk
   exact ⟨_,rfl,h _⟩
  case h=>
   exact ⟨rfl,rfl,hg⟩
end
section
variable {A:Around}{s:Shared}
theorem gt_tup {l b:Addr}{items items2:Array Value} (hl:IsTup s.heap l items) (hb:IsTup s.heap b items2) (hu:A.units<cLine) (hg:∀ p∈items.toList.zip items2.toList,GtAt A.in1 s p.1 p.2) {prog:Program}{w:World}{E Q:Value→Shared→Prop}
  (h:∀ c,Q (.bool c) s):wpAny (model prog w) A (richCompare .Gt (.ref l) (.ref b)) Q E s:=by
 obtain ⟨⟨cls,dd,data,sl⟩,ho,hc,n,hd⟩:=id hl
 obtain ⟨⟨cls2,dd2,data2,sl2⟩,ho2,hc2,n2,hd2⟩:=id hb
 simp only at hc hd hc2 hd2
 subst hc hd hc2 hd2
 exact richCompare_meets_room (op:=.Gt) ⟨_,ho,rfl⟩ ⟨_,ho2,rfl⟩ PySem.F.slot_tuple_gt PySem.F.entry_tuple_gt (PySem.F.args_tuple_gt_2 _ _) (qeg l b items items2 n n2 dd dd2 sl sl2)
  ⟨ho,ho2,hg,fun c=>show Value.bool c≠Value.notImplemented∧Q (.bool c) s from ⟨(fun x=>nomatch x),h c⟩⟩ hu
end
section
variable {X:Cx}{σ:St}
def Best (H:Hp) (ts:List TL) (B:List V):Prop:=∃ (t:TL) (q:Addr) (n:Int),t∈ts∧B=[.ref t.1,.ref q]∧H q=some (.tup [.int n,.ref t.1])
theorem gt_keys {pins:List (Addr×Obj)}{H:Hp}{s:Shared}{A:Around}{m:Nat} (I:Inv X pins σ H s) (hr:Room m A) {q q' a a':Addr}{n n':Int}{k k':List Int} (h1:H q=some (.tup [.int n,.ref a])) (h2:H q'=some (.tup [.int n',.ref a'])) (h3:H a=some (.tup (k.map V.int))) (h4:H a'=some (.tup (k'.map V.int)))
  {E Q:Value→Shared→Prop} (h:∀ c,Q (.bool c) s):wpAny (model X.prog X.w) A (richCompare .Gt (.ref q) (.ref q')) Q E s:=by
 have hu:=hr.units
 obtain ⟨_,i1,r1,p1⟩:=(show yap X.prog X.w H s.heap q (.tup [.int n,.ref a]) from I.hok q _ h1)
 obtain ⟨_,i2,r2,p2⟩:=(show yap X.prog X.w H s.heap q' (.tup [.int n',.ref a']) from I.hok q' _ h2)
 obtain ⟨_,i3,r3,p3⟩:=(show yap X.prog X.w H s.heap a (.tup (k.map V.int)) from I.hok a _ h3)
 obtain ⟨_,i4,r4,p4⟩:=(show yap X.prog X.w H s.heap a' (.tup (k'.map V.int)) from I.hok a' _ h4)
 obtain ⟨u1,u2,rfl,e1,e2⟩:=r1.two
 obtain ⟨w1,w2,rfl,f1,f2⟩:=r2.two
 obtain ⟨tk1,rfl⟩:=e1
 obtain ⟨tk2,rfl⟩:=f1
 cases e2
 cases f2
 refine gt_tup p1 p2 (by omega) (fun p hp=>?_) h
 simp only[List.zip_cons_cons,List.mem_cons,List.not_mem_nil,or_false,List.zip_nil_left] at hp
 rcases hp with rfl|rfl
 ·exact qfd _ _ _ _ _ _
 ·have g3:=ybi r3
  have g4:=ybi r4
  obtain ⟨as,rx⟩:=(At.tup h3 (qc1 k)).reads I.hok (u:=.ref a) rfl
  obtain ⟨bs,ry⟩:=(At.tup h4 (qc1 k')).reads I.hok (u:=.ref a') rfl
  refine ⟨PyData.eqv (.tuple (k.map PyData.int)) (.tuple (k'.map PyData.int)),PySem.SeqAt.eqAt_reads _ _ _ _ _ _ _ _ rx ry (layI _) (layI _) ?_,fun _ prog w E Q h=>gt_tup p3 p4 (by show A.units+1<_;omega) (fun p hp=>?_) h⟩
  ·have d1:=depI k
   have d2:=Nat.min_le_left (PyData.tuple (k.map PyData.int)).depth (PyData.tuple (k'.map PyData.int)).depth
   have d3:(PyData.tuple (k.map PyData.int)).depth≤2:=by
    simp only[PyData.depth]
    omega
   show A.units+1+_<_
   omega
  ·obtain ⟨x,y⟩:=p
   have hx:=(List.of_mem_zip hp).1
   have hy:=(List.of_mem_zip hp).2
   obtain ⟨a1,t1,rfl,_⟩:=(ycn g3).1 x (by simpa using hx)
   obtain ⟨a2,t2,rfl,_⟩:=(ycn g4).1 y (by simpa using hy)
   exact qfd _ _ _ _ _ _
theorem max_loop {pins:List (Addr×Obj)}{l it S f:Addr}{H0:Hp}{ts:List TL}{m:Nat}{R:Result→Shared→Prop} (hr:Room (m+1) X.A) (hl:H0 l=some (.lst (yaf ts))) (hT:∀ t∈ts,H0 t.1=some (.tup (t.2.map V.int))) (hS0:H0 S=none) (hSI:S≠it)
  (key:∀ (t:TL),t∈ts→∀ (ps:List (Addr×Obj)) (H:Hp) (s:Shared),Same H0 H→Inv X ps σ H s→wpAny (model X.prog X.w) X.A.in1 (call (.ref f) [.ref t.1]) (EP X ps σ fun v H'=>Same H H'∧∃ q n,v=.ref q∧H' q=some (.tup [.int n,.ref t.1])) (fun _ _=>False) s)
  (hR:∀ t∈ts,∀ H s,Same H0 H→Inv X pins σ H s→R (.ok (.ret (.ref t.1))) s) :
  ∀ (r j:Nat) (H:Hp) (s:Shared) (B:List V),ts.length-j=r→j≤ts.length→Same H0 H→Inv X pins σ H s→FpOk X pins H it→s.heap.IsListIter it l j→H S=some (.lst B)→(Best H ts B∨(B=[]∧j<ts.length))→
   codeAny (model X.prog X.w) X.A (.builtin "max.loop" ⟨[.ref it,.ref f,.ref S],[]⟩) R s:=by
 have hname:(toString "max"++toString ".loop" : String)="max.loop":=by decide
 have hh:X.A.in1.handled=none:=by simpa using hr.hd
 intro r
 induction r with
 | zero=>
  intro j H s B hrj hj s0 I fp hit hS hB
  have hje:j=ts.length:=by omega
  obtain ⟨t,q,n,ht,rfl,hq⟩:Best H ts B:=hB.elim id fun z=>by omega
  obtain ⟨_,its,c,rv,_,eS⟩:=I.lstM hS
  obtain ⟨u1,u2,rfl,e1,e2⟩:=rv.two
  cases e1
  cases e2
  obtain ⟨itl,rl,pl,hz⟩:=I.list (SqL.of (K:=X.K) (s0 _ _ hl))
  refine codeAny_builtin PySem.F.entry_max_loop ?_
  rw[Around.under_plainId PySem.F.plain_max_loop _]
  show wpAny _ X.A.in1 (seqItems? (.ref S) >>= _) _ _ _
  refine wpAny_bind (wpAny_seqItems eS rfl ?_)
  show wpAny _ X.A.in1 (tryCatch (pyNext (.ref it)) _ >>= _) _ _ _
  have hrl:=rl.length
  refine wpAny_bind (wpAny_tryCatch (wpAny_pyNext_list_end hh hit pl.isList (by unfold yaf at hrl;rw[List.length_map] at hrl;simp;omega) fun h' eb=>?_))
  obtain ⟨f0,f1,f2,f3,f4,f5⟩:=id fp
  have I1:Inv X pins σ H { s with heap:=h' }:=I.turned (t':=s.toks) (fun b o hb e=>eb b o hb e) f0 f1 f3 f4 f5
  have eS1:=eb S _ hSI eS
  show wpAny _ X.A.in1 (updateSeq S (fun _=>#[]) >>= _) _ _ _
  refine wpAny_bind (wpAny_updateSeq eS1 rfl (wpAny_bind (wpAny_letGo (wpAny_pure ?_))))
  exact hR t ht _ _ (s0.at hS0) (I1.lset (its':=[]) (ys:=[]) hS eS1 rfl .nil (Nat.zero_le _))
 | succ r ih=>
  intro j H s B hrj hj s0 I fp hit hS hB
  have hlt:j<ts.length:=by omega
  obtain ⟨_,its,c,rv,hvl,eS⟩:=I.lstM hS
  obtain ⟨itl,rl,pl,hz⟩:=I.list (SqL.of (K:=X.K) (s0 _ _ hl))
  have el:=qd7 rl
  subst el
  refine codeAny_builtin PySem.F.entry_max_loop ?_
  rw[Around.under_plainId PySem.F.plain_max_loop _]
  show wpAny _ X.A.in1 (seqItems? (.ref S) >>= _) _ _ _
  refine wpAny_bind (wpAny_seqItems eS rfl ?_)
  show wpAny _ X.A.in1 (tryCatch (pyNext (.ref it)) _ >>= _) _ _ _
  refine wpAny_bind (wpAny_tryCatch (wpAny_pyNext_list_item hit pl.isList (x:=.ref ts[j].1) (by unfold qa3;simp[hlt]) fun h' hit' sb=>?_))
  obtain ⟨f0,f1,f2,f3,f4,f5⟩:=id fp
  have I1:Inv X pins σ H { s with heap:=h' }:=I.turned (t':=s.toks) (fun b o hb e=>(sb.2 b hb).trans e) f0 f1 f3 f4 f5
  obtain ⟨oI,ho,hoc,hod⟩:=id hit'
  have hmem:ts[j]∈ts:=List.getElem_mem hlt
  generalize ts[j]=t at hmem
  have I2:Inv X (pins++qdz [it] h') σ H { s with heap:=h' }:=I1.pinned (fun b hb=>by rw[List.mem_singleton.mp hb];exact fp) fun b hb=>by rw[List.mem_singleton.mp hb];exact ⟨oI,ho,fun v z=>by rw[hod] at z;cases z⟩
  show wpAny _ X.A.in1 (tryCatch (holding [Value.ref t.1] (call (.ref f) [Value.ref t.1])) _ >>= _) _ _ _
  refine wpAny_bind (wpAny_tryCatch (wpAny_holding (wpAny_mono (key t hmem _ H _ s0 I2) (fun v s2 hv=>?_) fun _ _ z=>z.elim)))
  obtain ⟨v',H2,I3,rv2,sH,q,n,rfl,hq⟩:=hv
  cases rv2
  have hp3:=I3.pin (it,oI) (List.mem_append_right _ (List.mem_append_right _ (ybx (by simp) ho)))
  have hit3:s2.heap.IsListIter it l (j+1):=⟨oI,hp3.1,hoc,hod⟩
  have fp3:FpOk X pins H2 it:=⟨hp3.2.1,fp.2⟩
  have I4:=I3.unpinned
  have s02:=s0.trans sH
  have hS2:=sH _ _ hS
  obtain ⟨_,its2,c2,rv3,_,eS2⟩:=I4.lstM hS2
  have take:∀ (B':List V) (us:List Value) (s3:Shared) (h3:Heap) (xs:Array Value),s3={ s2 with heap:=h3 }→Inv X pins σ (upd H2 S (.lst [.ref t.1,.ref q])) s3→h3.IsListIter it l (j+1)→codeAny (model X.prog X.w) X.A (.builtin "max.loop" ⟨[.ref it,.ref f,.ref S],[]⟩) R s3:=fun B' us s3 h3 xs e J hit4=>by
   have hqS:q≠S:=fun z=>by rw[z,hS2] at hq;cases hq
   subst e
   exact ih (j+1) _ _ [.ref t.1,.ref q] (by omega) (by omega) (s02.at hS0) J ⟨by rw[qad hSI.symm];exact fp3.1,fp3.2⟩ hit4 yaa (.inl ⟨t,q,n,hmem,rfl,by rw[qad hqS];exact hq⟩)
  have put:Inv X pins σ (upd H2 S (.lst [.ref t.1,.ref q])) { s2 with heap:=s2.heap.update S (Obj.mapSeq fun _=>#[Value.ref t.1,Value.ref q]) }:=I4.lset (its':=[.ref t.1,.ref q]) (ys:=[.ref t.1,.ref q]) hS2 eS2 rfl (.cons rfl (.cons rfl .nil)) (by show 2≤sizeLine;decide)
  have hit5:(s2.heap.update S (Obj.mapSeq fun _=>#[Value.ref t.1,Value.ref q])).IsListIter it l (j+1):=⟨oI,(Heap.get?_update_other _ _ hSI).trans hp3.1,hoc,hod⟩
  rcases hB with ⟨t0,q0,n0,ht0,rfl,hq0⟩|⟨rfl,_⟩
  ·obtain ⟨u1,u2,rfl,e1,e2⟩:=rv.two
   cases e1
   cases e2
   show wpAny _ X.A.in1 (tryCatch (holding [Value.ref t.1,Value.ref q] (richCompare .Gt (Value.ref q) (Value.ref q0) >>= _)) _ >>= _) _ _ _
   refine wpAny_bind (wpAny_tryCatch (wpAny_holding (wpAny_bind (gt_keys I4 (A:=X.A.in1) (hr.in1) hq (sH _ _ hq0) (s02 _ _ (hT t hmem)) (s02 _ _ (hT t0 ht0)) fun b=>?_))))
   refine wpAny_bind (wpAny_holding (wpAny_truthy_bool ?_))
   refine wpAny_bind (wpAny_letGo (wpAny_pure ?_))
   cases b with
   | true=>
    simp only[if_true]
    refine wpAny_bind (wpAny_updateSeq eS2 rfl (wpAny_bind (wpAny_letGo ?_)))
    rw[hname]
    exact wpAny_pure ⟨plainId_quiet PySem.F.plain_max_loop _,take [] [] _ _ #[] rfl put hit5⟩
   | false=>
    simp only[Bool.false_eq_true,if_false]
    refine wpAny_bind (wpAny_letGo ?_)
    rw[hname]
    exact wpAny_pure ⟨plainId_quiet PySem.F.plain_max_loop _,ih (j+1) H2 s2 _ (by omega) (by omega) s02 I4 fp3 hit3 hS2 (.inl ⟨t0,q0,n0,ht0,rfl,sH _ _ hq0⟩)⟩
  ·cases rv
   refine wpAny_bind (wpAny_updateSeq eS2 rfl ?_)
   rw[hname]
   exact wpAny_pure ⟨plainId_quiet PySem.F.plain_max_loop _,take [] [] _ _ #[] rfl put hit5⟩
end
section
variable {X:Cx}
theorem yge {pins:List (Addr×Obj)}{σ:St}{H:Hp}{s:Shared}{l f:Addr}{ts:List TL}{m:Nat}{Q:VK}{E:Value→Shared→Prop} (I:Inv X pins σ H s) (hr:Room (m+1) X.A) (hl:H l=some (.lst (yaf ts))) (hT:∀ t∈ts,H t.1=some (.tup (t.2.map V.int))) (hne:ts≠[])
  (key:∀ (t:TL),t∈ts→∀ (ps:List (Addr×Obj)) (H':Hp) (s:Shared),Same H H'→Inv X ps σ H' s→wpAny (model X.prog X.w) X.A.in1 (call (.ref f) [.ref t.1]) (EP X ps σ fun v H''=>Same H' H''∧∃ q n,v=.ref q∧H'' q=some (.tup [.int n,.ref t.1])) (fun _ _=>False) s)
  (hQ:∀ t∈ts,∀ H',Same H H'→Q (.ref t.1) H'):wpAny (model X.prog X.w) X.A (call (.builtin "max") [.ref l] [(Str.ofString "key",.ref f)]) (EP X pins σ Q) E s:=by
 have hname:(toString "max"++toString ".loop" : String)="max.loop":=by decide
 obtain ⟨itl,rl,pl,hz⟩:=I.list (SqL.of (K:=X.K) hl)
 refine kmk_tree PySem.F.kind_max PySem.F.plain_max PySem.F.entry_max (kmk_max_key _ _) ?_
 show wpAny _ X.A.in1 (Builtin.Builtins.bindParams "max" ["key","default"] 0 ⟨[],[(Str.ofString "key",.ref f)]⟩ >>= _) _ _ s
 refine wpAny_bind (wpAny_of_eq (show Builtin.Builtins.bindParams "max" ["key","default"] 0 ⟨[],[(Str.ofString "key",.ref f)]⟩=pure [some (.ref f),none] from rfl) ?_)
 refine wpAny_bind (wpAny_pure ?_)
 refine wpAny_bind (wpAny_pyIter_list pl.isList ?_)
 have I1:Inv X pins σ H { s with heap:=s.heap.push { cls:=.type "list_iterator",data:=.fields #[.ref l,.int 0 0] } }:=I.kept (t':=s.toks) fun b o e=>Heap.get?_push_of_some _ e
 refine wpAny_bind (wpAny_newList ?_ (Nat.zero_le _))
 rw[hname]
 have hsz:(s.heap.push { cls:=.type "list_iterator",data:=.fields #[.ref l,.int 0 0] }).objs.size=s.heap.objs.size+1:=size_push' ..
 have hSI:(s.heap.push { cls:=.type "list_iterator",data:=.fields #[.ref l,.int 0 0] }).objs.size≠s.heap.objs.size:=by rw[hsz];exact Nat.ne_of_gt (Nat.lt_succ_self _)
 have nS:H (s.heap.push { cls:=.type "list_iterator",data:=.fields #[.ref l,.int 0 0] }).objs.size=none:=I1.hok.fresh (Nat.le_refl _)
 have I2:Inv X pins σ (upd H (s.heap.push { cls:=.type "list_iterator",data:=.fields #[.ref l,.int 0 0] }).objs.size (.lst [])) { s with heap:=(s.heap.push { cls:=.type "list_iterator",data:=.fields #[.ref l,.int 0 0] }).push (seqObj "list" #[] 0) }:=
  I1.laid (t':=s.toks) (fun b o e=>Heap.get?_push_of_some _ e) (Nat.le_refl _) ⟨Nat.zero_le _,[],0,.nil,Heap.get?_push_size _ rfl⟩
 refine wpAny_pure ⟨plainId_quiet PySem.F.plain_max_loop _,?_⟩
 refine max_loop (m:=m) hr hl hT nS hSI key (fun t ht H' s' s0 J=>⟨.ref t.1,H',J,rfl,hQ t ht H' s0⟩) ts.length 0 _ _ [] (by omega) (Nat.zero_le _) ((Same.refl H).upd nS) I2 (I.fpOk (Nat.le_refl _) ?_) ⟨_,Heap.get?_push_of_some _ (Heap.get?_push_size _ rfl),rfl,rfl⟩ yaa (.inr ⟨rfl,List.length_pos_iff.mpr hne⟩)
 rw[qad hSI.symm]
 exact I.hok.fresh (Nat.le_refl _)
def MaxB (P:Addr) (q:Str) (pos:Pos) (tb:TE) (ix:List Nat) (σ:St) (Q:VK) (x:V) (H1:Hp):Prop:=∃ (l:Addr) (ts:List TL),x=.ref l∧H1 l=some (.lst (yaf ts))∧(∀ t∈ts,H1 t.1=some (.tup (t.2.map V.int)))∧ts≠[]∧TabS P q pos H1∧
 (∀ H2,(∀ b u,b≠P→H1 b=some u→H2 b=some u)→∀ t∈ts,tb (yel σ [.ref t.1] ix) H2 (fun v H'=>Same H2 H'∧∃ q n,v=.ref q∧H' q=some (.tup [.int n,.ref t.1])))∧
 ∀ t∈ts,∀ H2,(∀ b u,b≠P→H1 b=some u→H2 b=some u)→(∃ c,TabY P c q pos H2)→Q (.ref t.1) H2
def tMaxK (P:Addr) (q:Str) (pos:Pos) (te tb:TE) (ix:List Nat):TE:=fun σ H Q=>te σ H (MaxB P q pos tb ix σ Q)
theorem pe_maxK {P c:Addr}{e:Expr}{te tb:TE}{params:Arguments}{body:Expr}{scope:Scope}{lpos p pos kpos:Pos}{q:Str}{N ps:List Str}{ix:List Nat}{m:Nat} (he:PE X e te) (hd:defaultsOf params X.env=([],[])) (hq:X.env.qual++"<lambda>" = q) (hc:X.env.code=.ref c) (C:CodeHd X.base c P) (bm:yd2 X.mg X.base)
  (S:LamScope X N ps ix scope) (hps:ps.length=1) (hb:∀ (cc ctv u:Value),bindArgs (lamF X q params body scope cc ctv) ⟨[u],[]⟩=pure (ps.zip [u])) (hr:Room (m+1) X.A)
  (hbody:∀ f cc s H,PE (cxLam X N q scope f (.ref cc) X.A.in1 s H) body tb) (hg:Gl X "max") (hm:X.mg "max" = none)
  (hall:(backToKw pos (keywordEach [⟨some "key",.Lambda params body scope lpos,kpos⟩] X.env)).all (·.1.isSome)=true:=by rfl) (hno:(backToKw pos (keywordEach [⟨some "key",.Lambda params body scope lpos,kpos⟩] X.env)).any (·.1.isNone)=false:=by rfl) (hks:(backToKw pos (keywordEach [⟨some "key",.Lambda params body scope lpos,kpos⟩] X.env)).filterMap (·.1)=[Str.ofString "key"]:=by rfl)
  (hst:starEach [e] X.env=(false,eval e X.env)::starEach [] X.env:=by rfl) (hpl:(backTo pos (starEach ([]:List Expr) X.env)).any (·.1)=false:=by rfl) :
  PE X (.Call (.Name "max" p) [e] [⟨some "key",.Lambda params body scope lpos,kpos⟩] pos) (tMaxK P q lpos te tb ix):=by
 intro pins s σ H Q I h
 refine wpAny_Call_Name_kw (qdw I hg hm (show bootBuiltins "max" = some (.builtin "max") from boot_max) ?_ (by decide) (by decide))
 refine callWith_kw (thn ((qac he yah hst) pos pins s σ H (fun vs H1=>match vs with | [x]=>MaxB P q lpos tb ix σ Q x H1|_=>False) I h) fun us s1 ⟨vs,H1,I1,r,q1⟩=>?_) (by rw[hst];rfl) (by rw[hst];exact hpl) hall hno
 match vs,r,q1 with
 | [x],.cons rx .nil,q1=>
  obtain ⟨l,ts,e1,hl,hT,hne,tS,hk,hQ⟩:=q1
  subst e1
  cases rx
  have kwv:=(pk_cons (nm:=some (Str.ofString "key")) (kpos:=kpos) (pe_lam (pos:=lpos) hd hq hc C bm fun x hx e=>.inl (S.out x hx e)) pk_nil) pos pins s1 σ H1 (fun zs H2=>∃ f cc ctv,zs=[.ref f]∧H1 f=none∧H2 f=some (lamO f (lamF X q params body scope (.ref cc) ctv))∧TabY P cc q lpos H2∧∀ b u,b≠P→H1 b=some u→H2 b=some u) I1
   ⟨tS,fun f cc ctv H' n1 n2 n3 n4=>⟨f,cc,ctv,rfl,n1,n2,n3,n4⟩⟩
  refine thn kwv fun ws s2 ⟨zs,H2,I2,rz,f,cc,ctv,ez,nf,hf,tY,kp⟩=>?_
  subst ez
  obtain ⟨w',rfl,rw'⟩:=rz.one
  cases rw'
  rw[hks]
  have hlP:l≠P:=fun z=>by
   rcases tS with y|⟨_,y,_⟩<;>(rw[z,y] at hl;cases hl)
  have hTP:∀ t∈ts,H2 t.1=some (.tup (t.2.map V.int)):=fun t ht=>kp _ _ (fun z=>by
   have:=hT t ht
   rcases tS with y|⟨_,y,_⟩<;>(rw[z,y] at this;cases this)) (hT t ht)
  refine yge (m:=m) I2 hr (kp _ _ hlP hl) hTP hne (fun t ht pl H3 s3 s23 I3=>?_) fun t ht H3 s23=>?_
  ·refine lam_call (A:=X.A.in1) (vs:=[.ref t.1]) S I3 (s23 _ _ hf) (s23 _ _ tY.2) I.ok.frames hr.in1 (by rw[hps];rfl) (.cons rfl .nil) (hb _ _ _) (hbody f cc s3 H3) (hk H3 (fun b u hbP e=>s23 _ _ (kp b u hbP e)) t ht)
  ·exact hQ t ht H3 (fun b u hbP e=>s23 _ _ (kp b u hbP e)) ⟨cc,s23 _ _ tY.1,s23 _ _ tY.2⟩
end
section
variable {X:Cx}
def rCountI:V→List V→Hp→VK→Prop:=fun x vs H Q=>∃ (l:Addr) (ns:List Int) (b:Int),x=.ref l∧vs=[.int b]∧H l=some (.lst (ns.map V.int))∧∀ n:Nat,Q (.int n) H
theorem qev:MtM X "list.count" rCountI:=by
 intro pins s σ H x vs v us Q I rx rv h
 obtain ⟨l,ns,b,rfl,rfl,hH,q⟩:=h
 cases rx
 obtain ⟨u,rfl,ru⟩:=rv.one
 obtain ⟨t,rfl⟩:=ru
 obtain ⟨z,its,n,r,hl,e⟩:=I.lstM hH
 refine call_meets F.slot_list_count ⟨_,e,rfl⟩ F.entry_list_count (F.args_list_count_2 _ _) (SeqAt.list_countAt l _ n _ _ (.int b t) (isI b)) ⟨e,isI_at (ybi r),?_⟩
 exact ⟨.int _,_,I.tok _,⟨_,rfl⟩,q _⟩
def vwV (v a:Addr):HO:=.ext fun h=>h.IsValuesView v a
def tVals (to:TE):TE:=fun σ H Q=>to σ H fun x H1=>∃ a kvs,x=.ref a∧Rd H1 a (.dK kvs)∧∀ v,H1 v=none→Q (.ref v) (upd H1 v (vwV v a))
theorem ygv {o:Expr}{to:TE}{apos cpos:Pos} (ho:PE X o to) (hbase:attributeBase o "values" X.env (eval o X.env)=eval o X.env:=by rfl) (hline:(apos.endLine == cpos.line)=true:=by rfl) :
  PE X (.Call (.Attribute o "values" apos) [] [] cpos) (tVals to):=by
 intro pins s σ H Q I h
 refine wpAny_Call_method0_late hbase hline (thn (ho pins s σ H _ I h) fun v s1 ⟨x,H1,I1,r1,a,kvs,e,hr,q⟩=>?_)
 subst e
 cases r1
 obtain ⟨z1,m1,vs1,r2,dd1⟩:=qds I1.hok hr
 refine ⟨"dict","dict.values",PySem.F.plainAttrs_dict,PySem.F.slot_dict_values,PySem.F.type_dict_values,dd1.typeIs,fun b eb=>?_,?_⟩
 ·cases eb
  obtain ⟨ob,es,ep,e1,e2,_⟩:=dd1
  exact ⟨ob,e1,e2.2.1⟩
 ·refine Calls.callWith_builtin rfl (PySem.evalArgs_none (call_meetsIn F.slot_dict_values dd1.typeIs F.entry_dict_values (F.args_dict_values_1 _) (meets_dict_values (yaq X.prog X.w) a m1) ⟨⟨vs1,dd1⟩,?_⟩))
  exact ⟨.ref s1.heap.objs.size,_,I1.laid (a:=s1.heap.objs.size) (o:=vwV s1.heap.objs.size a) (t':=s1.toks) (fun _ _ q=>Heap.get?_push_of_some _ q) (Nat.le_refl _) ⟨⟨_,Heap.get?_push_size _ rfl,rfl,rfl⟩,⟨_,Heap.get?_push_size _ rfl⟩,fun _ _ ⟨o,ho,r⟩ k=>⟨o,k o ho,r⟩⟩,rfl,q _ (I1.hok.fresh (Nat.le_refl _))⟩
theorem KV.vals:∀ {kvs:List (Key×V)}{vs:List (Key×Value)},KV kvs vs→Vals (kvs.map (·.2)) (vs.map (·.2))
 | _,_,.nil=>.nil
 | _,_,.cons r t=>.cons r.2 (KV.vals t)
def rListV:List V→Hp→VK→Prop:=fun xs H Q=>∃ (v a:Addr) (kvs:List (Key×V)),xs=[.ref v]∧H v=some (vwV v a)∧Rd H a (.dK kvs)∧∀ p,H p=none→Q (.ref p) (upd H p (.lst (kvs.map (·.2))))
theorem yfn (hc:X.calm=true):ybv X (.type "list") rListV:=by
 intro pins s σ H xs us Q I r h
 obtain ⟨v,a,kvs,rfl,hv,ha,q⟩:=h
 cases r with
 | cons r rr=>
  cases rr
  cases r
  obtain ⟨z1,m1,vs1,r1,dd1⟩:=qds I.hok ha
  obtain ⟨ep,dat⟩:=dd1.dictAt
  obtain ⟨iv,_⟩:=(show yap X.prog X.w H s.heap v (vwV v a) from I.hok v _ hv)
  have hl:=r1.length
  refine kdl_call (kdl_values (knd:=yaq X.prog X.w) (kvs:=vs1) (ep:=ep)) (I.ok.hd hc) ⟨iv,dat⟩ (by omega) fun h' tk acc c kp hD hacc=>?_
  have ev:acc.toList=vs1.map (·.2):=kdl_vals_eq acc.toList (by rw[Array.length_toList];exact hacc.1) fun j v e=>hacc.2 j v (by rw[← Array.getElem?_toList];exact e)
  have ea:acc=(vs1.map (·.2)).toArray:=by rw[← ev]
  subst ea
  exact ⟨.ref s.heap.objs.size,_,I.laid (o:=.lst (kvs.map (·.2))) (t':=tk) kp (Nat.le_refl _) ⟨by rw[List.length_map];omega,vs1.map (·.2),c,r1.vals,hD⟩,rfl,q _ (I.hok.fresh (Nat.le_refl _))⟩
end
end L2
namespace Mx
open PySem L2 PyProof.Rows PySem.W
def FnAtC (K:PySem.W.Frag) (mg:Str→Option Value) (x:Str) (st:Stmt) (ps:List Str) (c:Addr):Prop:=
 ∃ (f:Addr) (oc:Value) (od:Option Addr) (kV doc pm:Value) (an:Option Addr) (ct:Value) (osl:Array (Option Value)),mg x=some (.ref f)∧
  K.lookup f=some ⟨oc,od,.func (PySem.W.fnOf x x (ya4 st) (yar st) (qaf st) .none kV doc pm an (.ref c) ct),osl⟩∧PySem.W.codeIn K (.ref c) x=true∧PySem.W.keepIn K (.ref f)=true∧
  ∀ us:List Value,us.length=ps.length→bindArgs (PySem.W.fnOf x x (ya4 st) (yar st) (qaf st) .none kV doc pm an (.ref c) ct) ⟨us,[]⟩=pure (ps.zip us)
section
variable {P:Program}{w:World}{K:PySem.W.Frag}{mg:Str→Option Value}{base:Heap}
theorem Has.ofC {x:Str}{st:Stmt}{ps N:List Str}{k:Nat}{sp:Sp}{c:Addr} (F:FnAtC K mg x st ps c) (S:FnScope N ps (qaf st)) (len:∀ vs H Q E,sp vs H Q E→vs.length=ps.length)
  (hbody:∀ (f:Addr) (A:Around) (outer:List Env) (s:Shared) (H:Hp) (vs:List V) (Q:VK) (E:XK),Room k (A.deeper (envOfC x (qaf st) s.heap.objs.size f (.ref c)))→sp vs H Q E→
   ∃ t,QSs (cxOf CX0 P w K mg base N x (qaf st) f (.ref c) A outer s H E).nox (yar st) t∧t { nx:=fun _ H'=>Q .non H',rt:=Q } (start N vs) H):Has P w K mg base (k+1) x ps sp:=by
 obtain ⟨f,oc,od,kV,doc,pm,an,ct,osl,e1,e2,e3,e4,e5⟩:=F
 refine ⟨f,_,e1,e4,.all e5,fn_of e2 e3 S len fun A outer s H vs Q E hr hsp=>?_⟩
 obtain ⟨t,h,q⟩:=hbody f A outer s H vs Q E hr hsp
 exact ⟨t,h.of.nox,q⟩
end
end Mx
namespace Mc
open PySem L2 PyProof.Rows Mx
def top (i:Nat):Stmt:=PySem.Challenge.pw_marchmend_k46_spares_told.main.body.getD i (.Pass ⟨0,0,0,0⟩)
abbrev Mt:=List (Int×Int)
def kvM (M:Mt):List (Key×V):=M.map fun e=>((Sum.inl e.1:Key),V.int e.2)
def kvT (T:List Int):List (Key×V):=T.map fun l=>((Sum.inl l:Key),V.bl true)
def look (M:Mt) (l:Int):Option Int:=(M.find? fun e=>decide (e.1=l)).map (·.2)
def putM (M:Mt) (l r:Int):Mt:=if (look M l).isSome=true then M.map (fun e=>if e.1=l then (e.1,r) else e) else M++[(l,r)]
def cnt (M:Mt) (x:Int):Nat:=M.countP fun e=>decide (e.2=x)
theorem qcq (e:Int×Int) (M:Mt) (l:Int):look (e::M) l=if e.1=l then some e.2 else look M l:=by
 unfold look
 rw[List.find?_cons]
 by_cases h:e.1=l
 ·rw[if_pos h];simp[h]
 ·rw[if_neg h];simp[h]
theorem valM:∀ (M:Mt) (l:Int),valV (kvM M) (Sum.inl l)=(look M l).map V.int
 | [],l=>rfl
 | e::M,l=>by
  rw[qcq]
  by_cases h:e.1=l
  ·rw[if_pos h];exact qaz (p:=((Sum.inl e.1:Key),V.int e.2)) (by rw[h])
  ·rw[if_neg h,← valM M l];exact yax (p:=((Sum.inl e.1:Key),V.int e.2)) fun z=>h (Sum.inl.inj z)
theorem putKM (M:Mt) (l r:Int):putK (kvM M) (Sum.inl l) (.int r)=kvM (putM M l r):=by
 unfold putK putM
 rw[yby,valM,Option.isSome_map]
 by_cases h:(look M l).isSome=true
 ·rw[if_pos h,if_pos h]
  unfold kvM
  rw[List.map_map,List.map_map]
  refine List.map_congr_left fun e _=>?_
  show (if (Sum.inl e.1:Key)=Sum.inl l then ((Sum.inl e.1:Key),V.int r) else (Sum.inl e.1,V.int e.2))=_
  by_cases z:e.1=l
  ·rw[if_pos (by rw[z])];simp[z]
  ·rw[if_neg fun q=>z (Sum.inl.inj q)];simp[z]
 ·rw[if_neg h,if_neg h]
  unfold kvM
  rw[List.map_append]
  rfl
theorem valT:∀ (T:List Int) (l:Int),(valV (kvT T) (Sum.inl l)).isSome=decide (l∈T)
 | [],l=>rfl
 | e::M,l=>by
  by_cases h:e=l
  ·rw[show valV (kvT (e::M)) (Sum.inl l)=some (V.bl true) from qaz (p:=((Sum.inl e:Key),V.bl true)) (by rw[h])]
   simp[h]
  ·rw[show valV (kvT (e::M)) (Sum.inl l)=valV (kvT M) (Sum.inl l) from yax (p:=((Sum.inl e:Key),V.bl true)) fun z=>h (Sum.inl.inj z),valT M l]
   refine decide_eq_decide.mpr ?_
   rw[List.mem_cons]
   exact ⟨.inr,fun z=>z.elim (fun z=>absurd z.symm h) id⟩
theorem putKT {T:List Int}{l:Int} (h:l∉T):putK (kvT T) (Sum.inl l) (.bl true)=kvT (T++[l]):=by
 have:valV (kvT T) (Sum.inl l)=none:=by
  have:=valT T l
  rw[decide_eq_false h] at this
  exact Option.isNone_iff_eq_none.mp (by simpa using this)
 rw[qd8 _ this]
 unfold kvT
 rw[List.map_append]
 rfl
theorem yca (M:Mt) (l r l':Int):look (putM M l r) l'=if l'=l then some r else look M l':=by
 have h:=qdb (kvM M) (Sum.inl l) (Sum.inl l') (.int r)
 rw[putKM,valM,valM] at h
 by_cases e:l'=l
 ·subst e
  rw[if_pos rfl] at h ⊢
  cases q:look (putM M l' r) l' with
  | none=>rw[q] at h;cases h
  | some z=>rw[q] at h;cases h;rfl
 ·rw[if_neg fun z=>e (Sum.inl.inj z)] at h
  rw[if_neg e]
  cases q:look (putM M l r) l' with
  | none=>
   rw[q] at h
   cases q2:look M l' with
   | none=>rfl
   | some z=>rw[q2] at h;cases h
  | some z=>
   rw[q] at h
   cases q2:look M l' with
   | none=>rw[q2] at h;cases h
   | some y=>rw[q2] at h;cases h;rfl
theorem yd5:∀ {M:Mt}{l r:Int},look M l=some r→(l,r)∈M
 | [],_,_,h=>by cases h
 | e::M,l,r,h=>by
  rw[qcq] at h
  by_cases z:e.1=l
  ·rw[if_pos z] at h;cases h;subst z;exact List.mem_cons_self ..
  ·rw[if_neg z] at h;exact List.mem_cons_of_mem _ (yd5 h)
theorem yf9 {M:Mt}{l:Int} (h:look M l=none):l∉M.map (·.1):=by
 intro hm
 obtain ⟨e,he,rfl⟩:=List.mem_map.mp hm
 have:=List.find?_eq_none.mp (Option.map_eq_none_iff.mp h) e he
 simp at this
theorem look_of {M:Mt} (hn:(M.map (·.1)).Nodup):∀ {e:Int×Int},e∈M→look M e.1=some e.2:=by
 induction M with
 | nil=>intro e h;simp at h
 | cons x M ih=>
  intro e h
  rw[List.map_cons,List.nodup_cons] at hn
  rw[qcq]
  rcases List.mem_cons.mp h with rfl|h
  ·rw[if_pos rfl]
  ·rw[if_neg fun z=>hn.1 (by rw[z];exact List.mem_map_of_mem h)]
   exact ih hn.2 h
theorem keys_put (M:Mt) (l r:Int):(putM M l r).map (·.1)=if (look M l).isSome=true then M.map (·.1) else M.map (·.1)++[l]:=by
 unfold putM
 split
 ·rw[List.map_map]
  refine List.map_congr_left fun e _=>?_
  show (if e.1=l then (e.1,r) else e).1=e.1
  split<;>rfl
 ·rw[List.map_append];rfl
theorem yf4 {M:Mt} (h:(M.map (·.1)).Nodup) (l r:Int):((putM M l r).map (·.1)).Nodup:=by
 rw[keys_put]
 split
 ·exact h
 ·rename_i z
  exact ydp h (yf9 (by simpa using z))
theorem mem_put {M:Mt}{l r:Int}{e:Int×Int} (h:e∈putM M l r):e∈M∨e=(l,r):=by
 unfold putM at h
 split at h
 ·obtain ⟨x,hx,rfl⟩:=List.mem_map.mp h
  by_cases z:x.1=l
  ·rw[if_pos z,z];exact .inr rfl
  ·rw[if_neg z];exact .inl hx
 ·rcases List.mem_append.mp h with h|h
  ·exact .inl h
  ·exact .inr (List.mem_singleton.mp h)
def ind (a b:Int):Nat:=if a=b then 1 else 0
theorem cnt_new {M:Mt}{l r:Int} (h:look M l=none) (x:Int):cnt (putM M l r) x=cnt M x+ind x r:=by
 unfold putM
 rw[h,if_neg (by simp)]
 unfold cnt ind
 rw[List.countP_append]
 by_cases z:x=r
 ·subst z;simp
 ·rw[if_neg z];simp;exact fun q=>z q.symm
theorem map_off {M:Mt}{l r:Int} (h:l∉M.map (·.1)):M.map (fun e=>if e.1=l then (e.1,r) else e)=M:=by
 induction M with
 | nil=>rfl
 | cons x M ih=>
  rw[List.map_cons,List.mem_cons,not_or] at h
  rw[List.map_cons,if_neg fun z=>h.1 z.symm,ih h.2]
theorem cnt_old {M:Mt} (hn:(M.map (·.1)).Nodup) {l r r1:Int} (h:look M l=some r1) (x:Int):cnt (putM M l r) x+ind x r1=cnt M x+ind x r:=by
 unfold putM
 rw[h,if_pos (show (some r1).isSome=true from rfl)]
 induction M with
 | nil=>cases h
 | cons e M ih=>
  rw[List.map_cons,List.nodup_cons] at hn
  rw[qcq] at h
  rw[List.map_cons]
  have cc:∀ (y:Int×Int) (N:Mt),cnt (y::N) x=cnt N x+ind x y.2:=fun y N=>by
   unfold cnt ind
   rw[List.countP_cons]
   by_cases z:x=y.2
   ·rw[if_pos z,if_pos (by simp[z])]
   ·rw[if_neg z,if_neg (by simp;exact fun q=>z q.symm)]
  rw[cc,cc]
  by_cases z:e.1=l
  ·rw[if_pos z] at h ⊢
   cases h
   rw[map_off (by rw[← z];exact hn.1)]
   show cnt M x+ind x r+ind x e.2=cnt M x+ind x e.2+ind x r
   omega
  ·rw[if_neg z] at h ⊢
   have:=ih hn.2 h
   omega
abbrev Bs:=List (Int×Int)
def adj (bs:Bs) (r:Int):List Int:=(bs.filter fun p=>decide (p.1=r)).map (·.2)
theorem qdh {bs:Bs}{r l:Int}:l∈adj bs r↔(r,l)∈bs:=by
 unfold adj
 rw[List.mem_map]
 constructor
 ·rintro ⟨⟨a,b⟩,h,rfl⟩
  obtain ⟨h1,h2⟩:=List.mem_filter.mp h
  have:a=r:=of_decide_eq_true h2
  subst this
  exact h1
 ·intro h
  exact ⟨(r,l),List.mem_filter.mpr ⟨h,by simp⟩,rfl⟩
def B12 (bs:Bs):Prop:=∀ p∈bs,(0≤p.1∧p.1<12)∧0≤p.2∧p.2<12
structure GoodM (bs:Bs) (M:Mt):Prop where
 nd:(M.map (·.1)).Nodup
 ed:∀ e∈M,(e.2,e.1)∈bs
structure TOk (T:List Int):Prop where
 nd:T.Nodup
 lt:∀ l∈T,0≤l∧l<12
theorem ybc {α:Type} [DecidableEq α]:∀ {l m:List α},l.Nodup→(∀ x∈l,x∈m)→l.length≤m.length
 | [],_,_,_=>Nat.zero_le _
 | x::l,m,hn,h=>by
  rw[List.nodup_cons] at hn
  have hx:=h x (List.mem_cons_self ..)
  have:=ybc (l:=l) (m:=m.erase x) hn.2 fun y hy=>(List.mem_erase_of_ne (show y≠x from fun z=>hn.1 (z ▸ hy))).mpr (h y (List.mem_cons_of_mem _ hy))
  rw[List.length_erase_of_mem hx] at this
  have hp:0<m.length:=List.length_pos_of_mem hx
  rw[List.length_cons]
  omega
def ygi:List Int:=[0,1,2,3,4,5,6,7,8,9,10,11]
theorem in12 {l:Int} (h:0≤l∧l<12):l∈ygi:=by
 have:l=0∨l=1∨l=2∨l=3∨l=4∨l=5∨l=6∨l=7∨l=8∨l=9∨l=10∨l=11:=by omega
 unfold ygi
 simp only[List.mem_cons,List.not_mem_nil,or_false]
 exact this
theorem yep {l:List Int} (hn:l.Nodup) (h:∀ x∈l,0≤x∧x<12):l.length≤12:=ybc (m:=ygi) hn fun x hx=>in12 (h x hx)
theorem TOk.len {T:List Int} (h:TOk T):T.length≤12:=yep h.nd h.lt
theorem TOk.snoc {T:List Int}{l:Int} (h:TOk T) (hl:l∉T) (h0:0≤l∧l<12):TOk (T++[l]):=
 ⟨ydp h.nd hl,fun x hx=>(List.mem_append.mp hx).elim (h.lt x) fun z=>by rw[List.mem_singleton.mp z];exact h0⟩
theorem GoodM.len {bs:Bs}{M:Mt} (h:GoodM bs M) (hb:B12 bs):M.length≤12:=by
 have:=yep h.nd fun x hx=>by
  obtain ⟨e,he,rfl⟩:=List.mem_map.mp hx
  exact (hb _ (h.ed e he)).2
 simpa using this
theorem GoodM.put {bs:Bs}{M:Mt} (h:GoodM bs M) {l r:Int} (e:(r,l)∈bs):GoodM bs (putM M l r):=
 ⟨yf4 h.nd l r,fun x hx=>(mem_put hx).elim (h.ed x) fun z=>by rw[z];exact e⟩
def Closed (bs:Bs) (M:Mt) (D:Int→Prop):Prop:=∀ l,D l→∃ r,look M l=some r∧∀ l'∈adj bs r,D l'
structure Fail (bs:Bs) (M:Mt) (T:List Int) (r:Int) (T':List Int):Prop where
 ok:TOk T'
 sub:∀ l∈T,l∈T'
 all:∀ l∈adj bs r,l∈T'
 cl:∀ l∈T',l∈T∨∃ r',look M l=some r'∧∀ l'∈adj bs r',l'∈T'
structure Gain (bs:Bs) (M:Mt) (T:List Int) (r:Int) (M':Mt):Prop where
 good:GoodM bs M'
 cn:∀ x,cnt M' x=cnt M x+ind x r
 old:∀ l∈T,look M' l=look M l
 has:∀ l,look M l≠none→look M' l≠none
 dead:∀ D,Closed bs M D→(∃ l∈adj bs r,¬ D l)∧∀ l,D l→look M' l=look M l
theorem Gain.free {bs:Bs}{M:Mt}{T:List Int}{r l:Int} (g:GoodM bs M) (hl:(r,l)∈bs) (h:look M l=none) (hT:l∉T):Gain bs M T r (putM M l r) where
 good:=g.put hl
 cn:=cnt_new h
 old:=fun l' h'=>by rw[yca,if_neg (show ¬ l'=l from fun z=>hT (z ▸ h'))]
 has:=fun l' h'=>by
  rw[yca]
  split
  ·simp
  ·exact h'
 dead:=fun D hD=>by
  have nl:¬ D l:=fun z=>by
   obtain ⟨r',e,_⟩:=hD l z
   rw[h] at e;cases e
  exact ⟨⟨l,qdh.mpr hl,nl⟩,fun l' h'=>by rw[yca,if_neg (show ¬ l'=l from fun z=>nl (z ▸ h'))]⟩
theorem Gain.next {bs:Bs}{M M1:Mt}{T U:List Int}{r r1 l:Int} (hl:(r,l)∈bs) (h:look M l=some r1) (hT:l∉T) (hU:∀ x∈T,x∈U) (hlU:l∈U) (g:Gain bs M U r1 M1):Gain bs M T r (putM M1 l r) where
 good:=g.good.put hl
 cn:=fun x=>by
  have h1:=g.cn x
  have h2:=cnt_old g.good.nd (l:=l) (r:=r) (r1:=r1) (by rw[g.old l hlU,h]) x
  omega
 old:=fun l' h'=>by rw[yca,if_neg (show ¬ l'=l from fun z=>hT (z ▸ h')),g.old l' (hU l' h')]
 has:=fun l' h'=>by
  rw[yca]
  split
  ·simp
  ·exact g.has l' h'
 dead:=fun D hD=>by
  obtain ⟨⟨y,hy,ny⟩,k⟩:=g.dead D hD
  have nl:¬ D l:=fun z=>by
   obtain ⟨r',e,q⟩:=hD l z
   rw[h] at e;cases e
   exact ny (q y hy)
  exact ⟨⟨l,qdh.mpr hl,nl⟩,fun l' h'=>by rw[yca,if_neg (show ¬ l'=l from fun z=>nl (z ▸ h')),k l' h']⟩
end Mc
namespace Mc
open PySem L2 PyProof.Rows Mx
theorem iteB {b:Bool}{A B:Prop} (hb:b=true) (h:A):if b=true then A else B:=by
 rw[if_pos hb];exact h
theorem iteN {b:Bool}{A B:Prop} (hb:b=false) (h:B):if b=true then A else B:=by
 rw[if_neg (by rw[hb];exact Bool.false_ne_true)];exact h
theorem iteD {c:Prop} [Decidable c] {A B:Prop} (hc:c) (h:A):if decide c=true then A else B:=iteB (decide_eq_true hc) h
theorem qb4 {c:Prop} [Decidable c] {A B:Prop} (hc:¬ c) (h:B):if decide c=true then A else B:=iteN (decide_eq_false hc) h
def Kp2 (H H':Hp) (pa tr:Addr):Prop:=∀ x u,x≠pa→x≠tr→H x=some u→H' x=some u
theorem Kp2.refl {H:Hp}{pa tr:Addr}:Kp2 H H pa tr:=fun _ _ _ _ h=>h
theorem Kp2.trans {H H1 H2:Hp}{pa tr:Addr} (a:Kp2 H H1 pa tr) (b:Kp2 H1 H2 pa tr):Kp2 H H2 pa tr:=fun x u h1 h2 e=>b x u h1 h2 (a x u h1 h2 e)
theorem Kp2.pa {H H1:Hp}{pa tr:Addr}{o:HO} (a:Kp2 H H1 pa tr):Kp2 H (upd H1 pa o) pa tr:=fun x u h1 h2 e=>by rw[qad h1];exact a x u h1 h2 e
theorem Kp2.tr {H H1:Hp}{pa tr:Addr}{o:HO} (a:Kp2 H H1 pa tr):Kp2 H (upd H1 tr o) pa tr:=fun x u h1 h2 e=>by rw[qad h2];exact a x u h1 h2 e
structure ByR (H:Hp) (b:Addr) (bs:Bs) (kvs:List (Key×V)):Prop where
 at_:∃ o,H b=some (.frz o (.dK kvs))
 row:∀ r,r∈bs.map (·.1)→∃ a,valV kvs (Sum.inl r)=some (.ref a)∧H a=some (.lst ((adj bs r).map V.int))
theorem ByR.kp {H H':Hp}{b pa tr:Addr}{bs:Bs}{kvs k1 k2:List (Key×V)} (h:ByR H b bs kvs) (k:Kp2 H H' pa tr) (hp:H pa=some (.dK k1)) (ht:H tr=some (.dK k2)):ByR H' b bs kvs:=by
 obtain ⟨⟨o,e⟩,r⟩:=h
 refine ⟨⟨o,k _ _ (qbi e hp (by intro z;cases z)) (qbi e ht (by intro z;cases z)) e⟩,fun x hx=>?_⟩
 obtain ⟨a,e1,e2⟩:=r x hx
 exact ⟨a,e1,k _ _ (qbi e2 hp (by intro z;cases z)) (qbi e2 ht (by intro z;cases z)) e2⟩
section
variable {P:Program}{w:World}{K:PySem.W.Frag}{mg:Str→Option Value}{base:Heap}
def yd1 (n:Nat):Sp:=fun vs H Q _=>∃ (b pa tr:Addr) (bs:Bs) (kvs:List (Key×V)) (M:Mt) (T:List Int) (r:Int),vs=[.ref b,.ref pa,.ref tr,.int r]∧ByR H b bs kvs∧H pa=some (.dK (kvM M))∧H tr=some (.dK (kvT T))∧pa≠tr∧
 r∈bs.map (·.1)∧B12 bs∧bs.length≤100∧GoodM bs M∧TOk T∧12<T.length+n∧
 (∀ H' T',Kp2 H H' pa tr→H' pa=some (.dK (kvM M))→H' tr=some (.dK (kvT T'))→Fail bs M T r T'→Q (.bl false) H')∧
 ∀ H' M' T',Kp2 H H' pa tr→H' pa=some (.dK (kvM M'))→H' tr=some (.dK (kvT T'))→TOk T'→(∀ l∈T,l∈T')→Gain bs M T r M'→Q (.bl true) H'
abbrev ybs:Stmt:=top 2
theorem qcu:FnScope ["by_row","partners","tried","row","line"] ["by_row","partners","tried","row"] (qaf ybs):=⟨rfl,rfl,rfl,by decide +kernel,rfl,by decide +kernel,by decide +kernel⟩
theorem yfb (F:FnAt K mg "finds_line" ybs ["by_row","partners","tried","row"]):∀ n,Has P w K mg base n "finds_line" ["by_row","partners","tried","row"] (yd1 n)
 | 0=>by
  obtain ⟨f,fd,e1,e2,e3⟩:=F
  have no:∀ vs H Q E,¬ yd1 0 vs H Q E:=fun vs H Q E h=>by
   obtain ⟨b,pa,tr,bs,kvs,M,T,r,_,_,_,_,_,_,_,_,_,t,l,_⟩:=h
   have:=t.len
   omega
  exact ⟨f,fd,e1,e2.kp,e3,⟨fun vs H Q E h=>(no vs H Q E h).elim,fun A outer s H args us vs Q E _ _ _ _ h=>(no vs H Q E h).elim⟩⟩
 | n+1=>by
  have qbs:=yfb F n
  refine Has.ofQ F qcu (fun vs H Q E h=>?_) (fun f cdv A outer s H vs Q E hr h=>?_)
  ·obtain ⟨b,pa,tr,bs,kvs,M,T,r,rfl,_⟩:=h
   rfl
  ·obtain ⟨b,pa,tr,bs,kvs,M,T,r,rfl,hB,hp,ht,hne,hrow,h12,hbl,hM,hT,hn,k0,k1⟩:=h
   have sc:=qcu
   refine ⟨_,(qak rfl (yac (qbv PassesOwn.never rfl (yc0 (qgg (qeh hr) (qaa (pv 0)) (qaa (pv 3)) (fun _ _=>rfl))) (yaj (i:=4) sc.nd rfl (Or.inl rfl))
     (yae (yan (qgy (yei (qdm (qeh hr) (QE.of (qaa (pv 4))) (QE.of (qaa (pv 2)))) (by with_unfolding_all rfl)))
      (yac (qfp (qe0 (qeh hr) (QE.of (qaa (pv 2))) (QE.of (qaa (pv 4))) (QE.of (qaa ya9)) rfl))
      (yae (yan (QW.pt (qb8 (qgy (yei (qdm (qeh hr) (QE.of (qaa (pv 4))) (QE.of (qaa (pv 1)))) (by with_unfolding_all rfl))) (ybw (qao (yag (hk:=Nat.le_refl _) qbs hr (qah (qaa (pv 0)) (qah (qaa (pv 1)) (qah (qaa (pv 2)) (ya0 (qgg (qeh hr) (qaa (pv 1)) (qaa (pv 4)) (fun _ _=>rfl)) yad)))))))))
       (yac (qfp (qe0 (qeh hr) (QE.of (qaa (pv 1))) (QE.of (qaa (pv 4))) (QE.of (qaa (pv 3))) rfl))
       (yae (qag (qaa ya9))))
       qam)))
      qam)))
    (yae (qag (qaa ya9))))),?_⟩
   obtain ⟨⟨o,hb⟩,hrows⟩:=id hB
   obtain ⟨a,e1,ea⟩:=hrows r hrow
   have nap:a≠pa:=qbi ea hp (by intro z;cases z)
   have nat:a≠tr:=qbi ea ht (by intro z;cases z)
   refine ⟨_,rfl,_,rfl,b,.ref a,rfl,.inl ⟨kvs,.inl r,.inr ⟨o,hb⟩,rfl,e1.symm⟩,a,rfl,⟨_,SqL.of ea⟩,ycb (xs:=(adj bs r).map V.int) (fun i σ H2=>∃ (o4:Option V) (T2:List Int),σ=[some (.ref b),some (.ref pa),some (.ref tr),some (.int r),o4]∧
    Kp2 H H2 pa tr∧H2 pa=some (.dK (kvM M))∧H2 tr=some (.dK (kvT T2))∧TOk T2∧(∀ l∈T,l∈T2)∧(∀ l∈(adj bs r).take i,l∈T2)∧∀ l∈T2,l∈T∨∃ r',look M l=some r'∧∀ l'∈adj bs r',l'∈T2)
    ⟨none,T,rfl,Kp2.refl,hp,ht,hT,fun _ h=>h,fun l h=>by simp at h,fun l h=>.inl h⟩ (fun i σ H2 _ ⟨_,_,_,k2,_⟩=>SqL.of (k2 _ _ nap nat ea)) ?_ ?_⟩
   ·rintro i x σ H2 hx ⟨o4,T2,rfl,k2,hp2,ht2,hT2,s2,d2,c2⟩
    rw[List.getElem?_map] at hx
    cases hl:(adj bs r)[i]? with
    | none=>rw[hl] at hx;cases hx
    | some l=>
    rw[hl] at hx
    cases hx
    have hlm:l∈adj bs r:=List.mem_of_getElem? hl
    have hlb:=qdh.mp hlm
    have hl12:=(h12 _ hlb).2
    have tk:(adj bs r).take (i+1)=(adj bs r).take i++[l]:=by rw[List.take_add_one,hl];rfl
    have tl2:=hT2.len
    have ml:=hM.len h12
    refine ⟨_,rfl,_,rfl,tr,_,rfl,DGet.k (k:=.inl l) ht2,_,rfl,?_⟩
    by_cases hin:l∈T2
    ·refine iteN (by rw[valT,decide_eq_true hin];rfl) ?_
     refine ⟨_,T2,rfl,k2,hp2,ht2,hT2,s2,fun l' h=>?_,c2⟩
     rw[tk] at h
     rcases List.mem_append.mp h with h|h
     ·exact d2 l' h
     ·rw[List.mem_singleton.mp h];exact hin
    ·refine iteB (by rw[valT,decide_eq_false hin];rfl) ?_
     refine ⟨_,rfl,_,rfl,tr,_,rfl,DPut.k (k:=.inl l) ht2 (qa9 (by unfold kvT;rw[List.length_map];omega)),?_⟩
     rw[putKT hin]
     have hp3:upd H2 tr (.dK (kvT (T2++[l]))) pa=some (.dK (kvM M)):=by rw[qad hne];exact hp2
     have ht3:upd H2 tr (.dK (kvT (T2++[l]))) tr=some (.dK (kvT (T2++[l]))):=yaa
     have k3:Kp2 H (upd H2 tr (.dK (kvT (T2++[l])))) pa tr:=k2.tr
     revert hp3 ht3 k3
     generalize upd H2 tr (.dK (kvT (T2++[l])))=H3
     intro hp3 ht3 k3
     have hT3:TOk (T2++[l]):=hT2.snoc hin hl12
     have s3:∀ x∈T,x∈T2++[l]:=fun x h=>List.mem_append_left _ (s2 x h)
     have hlT:l∉T:=fun z=>hin (s2 l z)
     refine ⟨_,rfl,_,rfl,pa,_,rfl,DGet.k (k:=.inl l) hp3,_,rfl,?_⟩
     rw[valM]
     cases hlk:look M l with
     | none=>
      refine iteB rfl (iteT ?_)
      refine ⟨_,rfl,_,rfl,_,rfl,pa,_,rfl,DPut.k (k:=.inl l) hp3 (qa9 (by unfold kvM;rw[List.length_map];omega)),?_⟩
      rw[putKM]
      exact k1 _ (putM M l r) (T2++[l]) k3.pa yaa (by rw[qad hne.symm];exact ht3) hT3 s3 (Gain.free hM hlb hlk hlT)
     | some r1=>
      refine iteN rfl ?_
      have hr1:r1∈bs.map (·.1):=List.mem_map.mpr ⟨_,hM.ed _ (yd5 hlk),rfl⟩
      refine ⟨_,rfl,_,rfl,_,rfl,_,rfl,_,rfl,pa,.int r1,rfl,.inl ⟨_,.inl l,.inl hp3,rfl,by rw[valM,hlk];rfl⟩,?_⟩
      refine ⟨b,pa,tr,bs,kvs,M,T2++[l],r1,rfl,hB.kp k3 hp ht,hp3,ht3,hne,hr1,h12,hbl,hM,hT3,by have z:T.length≤T2.length:=ybc hT.nd s2;rw[List.length_append,List.length_singleton];omega,fun H4 T4 k4 hp4 ht4 fl=>⟨_,rfl,iteF ?_⟩,fun H4 M4 T4 k4 hp4 ht4 hT4 s4 gn=>⟨_,rfl,iteT ?_⟩⟩
      ·refine ⟨_,T4,rfl,k3.trans k4,hp4,ht4,fl.ok,fun x h=>fl.sub _ (s3 x h),fun l' h=>?_,fun l' h=>?_⟩
       ·rw[tk] at h
        rcases List.mem_append.mp h with h|h
        ·exact fl.sub _ (List.mem_append_left _ (d2 l' h))
        ·exact fl.sub _ (List.mem_append_right _ h)
       ·rcases fl.cl l' h with h|h
        ·rcases List.mem_append.mp h with h|h
         ·rcases c2 l' h with h|⟨r',h1,h2⟩
          ·exact .inl h
          ·exact .inr ⟨r',h1,fun y hy=>fl.sub _ (List.mem_append_left _ (h2 y hy))⟩
         ·rw[List.mem_singleton.mp h]
          exact .inr ⟨r1,hlk,fl.all⟩
        ·exact .inr h
      ·have ml4:=gn.good.len h12
       refine ⟨_,rfl,_,rfl,_,rfl,pa,_,rfl,DPut.k (k:=.inl l) hp4 (qa9 (by unfold kvM;rw[List.length_map];omega)),?_⟩
       rw[putKM]
       exact k1 _ (putM M4 l r) T4 (k3.trans k4).pa yaa (by rw[qad hne.symm];exact ht4) hT4 (fun x h=>s4 x (s3 x h)) (Gain.next hlb hlk hlT s3 (by simp) gn)
   ·rintro σ H2 ⟨o4,T2,rfl,k2,hp2,ht2,hT2,s2,d2,c2⟩
    rw[List.length_map,List.take_length] at d2
    exact k0 H2 T2 k2 hp2 ht2 ⟨hT2,s2,d2,c2⟩
end
end Mc
namespace Mc
open PySem L2 PyProof.Rows Mx
def pr2 (p:Int×Int):List Int:=[p.1,p.2]
structure PT (H:Hp) (ts:List TL) (bs:Bs):Prop where
 eq:ts.map (·.2)=bs.map pr2
 at_:∀ t∈ts,H t.1=some (.tup (t.2.map V.int))
theorem PT.len {H:Hp}{ts:List TL}{bs:Bs} (h:PT H ts bs):ts.length=bs.length:=by have:=congrArg List.length h.eq;simpa using this
theorem PT.same {H H':Hp}{ts:List TL}{bs:Bs} (h:PT H ts bs) (s:Same H H'):PT H' ts bs:=⟨h.eq,fun t ht=>s _ _ (h.at_ t ht)⟩
theorem PT.get {H:Hp}{ts:List TL}{bs:Bs} (h:PT H ts bs) {i:Nat}{v:V} (hv:(yaf ts)[i]?=some v):∃ a r l,v=.ref a∧bs[i]?=some (r,l)∧H a=some (.tup [.int r,.int l]):=by
 unfold yaf at hv
 rw[List.getElem?_map] at hv
 cases e:ts[i]? with
 | none=>rw[e] at hv;cases hv
 | some t=>
  rw[e] at hv
  cases hv
  have hm:=List.mem_of_getElem? e
  have h2:=congrArg (·[i]?) h.eq
  simp only[List.getElem?_map,e,Option.map_some] at h2
  cases eb:bs[i]? with
  | none=>rw[eb] at h2;cases h2
  | some p=>
   rw[eb] at h2
   have h3:t.2=pr2 p:=Option.some.inj h2
   refine ⟨t.1,p.1,p.2,rfl,rfl,?_⟩
   rw[h.at_ t hm,h3]
   rfl
theorem yff (bs:Bs) (r l x:Int):adj (bs++[(r,l)]) x=adj bs x++if r=x then [l] else []:=by
 unfold adj
 rw[List.filter_append,List.map_append]
 by_cases h:r=x
 ·simp[h]
 ·simp[h]
section
variable {P:Program}{w:World}{K:PySem.W.Frag}{mg:Str→Option Value}{base:Heap}
def sp_lbr:Sp:=fun vs H Q _=>∃ (l:Addr) (ts:List TL) (bs:Bs),vs=[.ref l]∧H l=some (.lst (yaf ts))∧PT H ts bs∧bs.length≤100∧
 ∀ (p:Addr) (kvs:List (Key×V)) (rs:List Int) (H':Hp),Same H H'→H p=none→H' p=some (.dK kvs)→kvs.map (·.1)=rs.map Sum.inl→rs.Nodup→(∀ r,r∈rs↔r∈bs.map (·.1))→(∀ r,r∈bs.map (·.1)→∃ a,valV kvs (Sum.inl r)=some (.ref a)∧H' a=some (.lst ((adj bs r).map V.int)))→Q (.ref p) H'
abbrev yba:Stmt:=top 1
theorem yb5:FnScope ["broken","found","row","line"] ["broken"] (qaf yba):=⟨rfl,rfl,rfl,by decide +kernel,rfl,by decide +kernel,by decide +kernel⟩
theorem ok_lbr (F:FnAt K mg "lines_by_row" yba ["broken"]):Has P w K mg base 1 "lines_by_row" ["broken"] sp_lbr:=by
 refine Has.ofQ F yb5 (fun vs H Q E h=>?_) (fun f cdv A outer s H vs Q E hr h=>?_)
 ·obtain ⟨l,ts,bs,rfl,_⟩:=h
  rfl
 ·obtain ⟨l,ts,bs,rfl,hl,hP,hbl,k⟩:=h
  have sc:=yb5
  refine ⟨_,(qak rfl (yac (qal (i:=1) sc.nd rfl (Or.inl rfl) (qaa qcp))
   (yac (qbv PassesOwn.never rfl (yc0 (qaa (pv 0))) (ydu rfl (yau (yaj (i:=2) sc.nd rfl (Or.inl rfl)) (yau (yaj (i:=3) sc.nd rfl (Or.inl rfl)) ycj)))
    (yae (qck (qaa (qd4 PySem.F.plainAttrs_list PySem.F.slot_list_append PySem.F.type_list_append ybk (qd4 PySem.F.plainAttrs_dict PySem.F.slot_dict_setdefault PySem.F.type_dict_setdefault yee (pv 1) (qac (pv 2) (qac (qed yah) yah))) (qac (pv 3) yah))))))
   (yae (qag (qaa (pv 1))))))),?_⟩
  have hlen:=hP.len
  refine fun p hp=>?_
  refine ⟨_,rfl,l,rfl,⟨_,SqL.of (by rw[qad (yab hl hp)];exact hl)⟩,ycb (xs:=yaf ts) (fun i σ H2=>∃ (o1 o2:Option V) (kvs:List (Key×V)) (rs:List Int),σ=[some (.ref l),some (.ref p),o1,o2]∧Same H H2∧H2 p=some (.dK kvs)∧
   kvs.map (·.1)=rs.map Sum.inl∧rs.Nodup∧rs.length≤i∧(∀ r,r∈rs↔r∈(bs.take i).map (·.1))∧(∀ r,r∈rs→∃ a,valV kvs (Sum.inl r)=some (.ref a)∧H2 a=some (.lst ((adj (bs.take i) r).map V.int))∧H a=none)∧
   ∀ r r' a,valV kvs (Sum.inl r)=some (.ref a)→valV kvs (Sum.inl r')=some (.ref a)→r=r')
   ⟨none,none,[],[],rfl,(Same.refl H).upd hp,yaa,rfl,List.nodup_nil,Nat.zero_le _,fun r=>by simp,fun r h=>by simp at h,fun r r' a h=>by cases h⟩ (fun i σ H2 _ ⟨_,_,_,_,_,s2,_⟩=>SqL.of (s2 _ _ hl)) ?_ ?_⟩
  ·rintro i x σ H2 hx ⟨o1,o2,kvs,rs,rfl,s2,hp2,hk,hnd,hrl,hmem,hrow,hinj⟩
   obtain ⟨a,r,ln,rfl,hb,ha⟩:=hP.get hx
   have hi:i<bs.length:=(List.getElem?_eq_some_iff.mp hb).1
   have tk:bs.take (i+1)=bs.take i++[(r,ln)]:=by rw[List.take_add_one,hb];rfl
   have kl:kvs.length≤i:=by have:=congrArg List.length hk;rw[List.length_map,List.length_map] at this;omega
   refine ⟨a,_,rfl,SqT.of (s2 _ _ ha),rfl,_,_,rfl,_,_,rfl,rfl,?_⟩
   refine ⟨_,rfl,.inr (.inr (.inl ⟨rfl,.inl ⟨_,hp2⟩⟩)),_,rfl,Nat.zero_le _,fun q hq=>?_⟩
   have hpq:p≠q:=yab hp2 hq
   have hqH:H q=none:=s2.free hq
   refine ⟨p,kvs,.inl r,.ref q,rfl,rfl,by rw[qad hpq];exact hp2,qa9 (by omega),fun y hy=>?_,fun hn=>?_⟩
   ·have hrs:r∈rs:=by
     have:=yf2 hy
     rw[hk] at this
     obtain ⟨z,hz,e⟩:=List.mem_map.mp this
     cases e;exact hz
    obtain ⟨c,e1,e2,e3⟩:=hrow r hrs
    rw[e1] at hy;cases hy
    have hcq:c≠q:=yab e2 hq
    have hc':upd H2 q (.lst []) c=some (.lst ((adj (bs.take i) r).map V.int)):=by rw[qad hcq];exact e2
    have hll:(adj (bs.take i) r).length≤i:=by
     unfold adj
     rw[List.length_map]
     exact Nat.le_trans (List.length_filter_le _ _) (by rw[List.length_take];omega)
    refine ⟨.inl ⟨rfl,_,SqL.of hc'⟩,_,rfl,c,_,_,rfl,rfl,hc',qa9 (by rw[List.length_map];omega),?_⟩
    have hpc:p≠c:=fun z=>by rw[z,e2] at hp2;cases hp2
    refine ⟨_,_,kvs,rs,rfl,(s2.upd hq).at e3,by rw[qad hpc,qad hpq];exact hp2,hk,hnd,by omega,fun r'=>?_,fun r' hr'=>?_,hinj⟩
    ·rw[hmem,tk,List.map_append,List.mem_append]
     constructor
     ·exact .inl
     ·rintro (z|z)
      ·exact z
      ·have:r'=r:=by simpa using z
       rw[this];exact (hmem r).mp hrs
    ·obtain ⟨d,f1,f2,f3⟩:=hrow r' hr'
     rw[tk,yff]
     by_cases hrr:r=r'
     ·subst hrr
      rw[e1] at f1;cases f1
      refine ⟨c,e1,?_,e3⟩
      rw[yaa,if_pos rfl,List.map_append]
      rfl
     ·have hdc:d≠c:=fun z=>hrr (hinj r r' c e1 (by rw[f1,z]))
      refine ⟨d,f1,?_,f3⟩
      rw[qad hdc,qad (yab f2 hq),if_neg hrr,List.append_nil]
      exact f2
   ·have hrs:r∉rs:=fun z=>by
     obtain ⟨c,e1,_⟩:=hrow r z
     rw[e1] at hn;cases hn
    have hq':upd (upd H2 q (.lst [])) p (.dK (putK kvs (.inl r) (.ref q))) q=some (.lst []):=by rw[qad hpq.symm];exact yaa
    refine ⟨.inl ⟨rfl,_,SqL.of hq'⟩,_,rfl,q,_,_,rfl,rfl,hq',qa9 (by simp),?_⟩
    have em:adj (bs.take i) r=[]:=by
     cases ea:adj (bs.take i) r with
     | nil=>rfl
     | cons z zs=>
      have:z∈adj (bs.take i) r:=by rw[ea];exact List.mem_cons_self ..
      exact absurd ((hmem r).mpr (List.mem_map.mpr ⟨_,qdh.mp this,rfl⟩)) hrs
    refine ⟨_,_,putK kvs (.inl r) (.ref q),rs++[r],rfl,((s2.upd hq).at hp).at hqH,by rw[qad hpq];exact yaa,?_,ydp hnd hrs,by rw[List.length_append,List.length_singleton];omega,fun r'=>?_,fun r' hr'=>?_,fun r1 r2 c=>?_⟩
    ·rw[qd8 _ hn,List.map_append,hk,List.map_append]
     rfl
    ·rw[List.mem_append,hmem,tk,List.map_append,List.mem_append]
     rfl
    ·rw[qdb,tk,yff]
     by_cases hrr:r=r'
     ·subst hrr
      refine ⟨q,by rw[if_pos rfl],?_,hqH⟩
      rw[yaa,if_pos rfl,em]
      rfl
     ·have hr2:r'∈rs:=(List.mem_append.mp hr').elim id fun z=>absurd (List.mem_singleton.mp z).symm hrr
      obtain ⟨d,f1,f2,f3⟩:=hrow r' hr2
      have hdq:d≠q:=yab f2 hq
      have hdp:d≠p:=fun z=>by rw[z,hp2] at f2;cases f2
      refine ⟨d,by rw[if_neg fun z=>hrr (Sum.inl.inj z).symm];exact f1,?_,f3⟩
      rw[qad hdq,qad hdp,qad hdq,if_neg hrr,List.append_nil]
      exact f2
    ·rw[qdb,qdb]
     have old:∀ x,valV kvs (Sum.inl x)=some (.ref q)→False:=fun x hx=>by
      have:x∈rs:=by
       have:=yf2 hx
       rw[hk] at this
       obtain ⟨z,hz,e⟩:=List.mem_map.mp this
       cases e;exact hz
      obtain ⟨d,f1,f2,f3⟩:=hrow x this
      rw[hx] at f1;cases f1
      rw[hq] at f2;cases f2
     by_cases z1:r1=r
     ·by_cases z2:r2=r
      ·intro _ _;rw[z1,z2]
      ·rw[if_pos (by rw[z1]),if_neg fun z=>z2 (Sum.inl.inj z)]
       intro e f
       cases e
       exact (old _ f).elim
     ·rw[if_neg fun z=>z1 (Sum.inl.inj z)]
      by_cases z2:r2=r
      ·rw[if_pos (by rw[z2])]
       intro e f
       cases f
       exact (old _ e).elim
      ·rw[if_neg fun z=>z2 (Sum.inl.inj z)]
       exact hinj r1 r2 c
  ·rintro σ H2 ⟨o1,o2,kvs,rs,rfl,s2,hp2,hk,hnd,hrl,hmem,hrow,hinj⟩
   have ez:bs.take (yaf ts).length=bs:=List.take_of_length_le (by unfold yaf;rw[List.length_map];omega)
   rw[ez] at hmem hrow
   refine ⟨_,rfl,k p kvs rs H2 s2 hp hp2 hk hnd hmem fun r h=>?_⟩
   obtain ⟨a,e1,e2,_⟩:=hrow r ((hmem r).mpr h)
   exact ⟨a,e1,e2⟩
end
end Mc
namespace Mc
open PySem L2 PyProof.Rows Mx
structure Ph1 (bs:Bs) (dn:List Int) (M:Mt) (al:List Int):Prop where
 good:GoodM bs M
 one:∀ x,cnt M x≤1
 only:∀ x,cnt M x≠0→x∈dn
 each:∀ x∈dn,cnt M x=1∨x∈al
 sub:∀ x∈al,x∈dn
 len:al.length≤dn.length
 dead:∃ D,Closed bs M D∧∀ x∈al,∀ l∈adj bs x,D l
theorem Ph1.start (bs:Bs):Ph1 bs [] [] []:=⟨⟨List.nodup_nil,fun e h=>by simp at h⟩,fun x=>Nat.zero_le _,fun x h=>(h rfl).elim,fun x h=>by simp at h,fun x h=>h,Nat.le_refl _,fun _=>False,fun l h=>h.elim,fun x h=>by simp at h⟩
theorem yd8 (x:Int):ind x x=1:=by unfold ind;rw[if_pos rfl]
theorem yf8 {x y:Int} (h:x≠y):ind x y=0:=by unfold ind;rw[if_neg h]
theorem Ph1.fail {bs:Bs}{dn al T':List Int}{M:Mt}{r:Int} (h:Ph1 bs dn M al) (f:Fail bs M [] r T'):Ph1 bs (dn++[r]) M (al++[r]):=by
 obtain ⟨D,d1,d2⟩:=h.dead
 have ct:∀ l∈T',∃ r',look M l=some r'∧∀ l'∈adj bs r',l'∈T':=fun l hl=>(f.cl l hl).elim (fun z=>by simp at z) id
 refine ⟨h.good,h.one,fun x hx=>List.mem_append_left _ (h.only x hx),fun x hx=>?_,fun x hx=>?_,by simp[h.len],fun l=>D l∨l∈T',fun l hl=>?_,fun x hx l hl=>?_⟩
 ·rcases List.mem_append.mp hx with z|z
  ·exact (h.each x z).imp id fun q=>List.mem_append_left _ q
  ·exact .inr (List.mem_append_right _ z)
 ·rcases List.mem_append.mp hx with z|z
  ·exact List.mem_append_left _ (h.sub x z)
  ·exact List.mem_append_right _ z
 ·rcases hl with z|z
  ·obtain ⟨r',e,q⟩:=d1 l z
   exact ⟨r',e,fun l' h'=>.inl (q l' h')⟩
  ·obtain ⟨r',e,q⟩:=ct l z
   exact ⟨r',e,fun l' h'=>.inr (q l' h')⟩
 ·rcases List.mem_append.mp hx with z|z
  ·exact .inl (d2 x z l hl)
  ·rw[List.mem_singleton.mp z] at hl
   exact .inr (f.all l hl)
theorem Ph1.gain {bs:Bs}{dn al:List Int}{M M':Mt}{r:Int} (h:Ph1 bs dn M al) (hr:r∉dn) (g:Gain bs M [] r M'):Ph1 bs (dn++[r]) M' al:=by
 obtain ⟨D,d1,d2⟩:=h.dead
 obtain ⟨_,gk⟩:=g.dead D d1
 have c0:cnt M r=0:=by
  by_cases z:cnt M r=0
  ·exact z
  ·exact absurd (h.only r z) hr
 refine ⟨g.good,fun x=>?_,fun x hx=>?_,fun x hx=>?_,fun x hx=>List.mem_append_left _ (h.sub x hx),by simp;have:=h.len;omega,D,fun l hl=>?_,d2⟩
 ·have e:=g.cn x
  have o:=h.one x
  by_cases z:x=r
  ·subst z;rw[yd8] at e;omega
  ·rw[yf8 z] at e;omega
 ·have e:=g.cn x
  by_cases z:x=r
  ·rw[z];exact List.mem_append_right _ (List.mem_singleton.mpr rfl)
  ·rw[yf8 z] at e
   exact List.mem_append_left _ (h.only x (by omega))
 ·have e:=g.cn x
  rcases List.mem_append.mp hx with z|z
  ·have zr:x≠r:=fun q=>hr (q ▸ z)
   rw[yf8 zr] at e
   exact (h.each x z).imp (fun q=>by omega) id
  ·have:=List.mem_singleton.mp z
   subst this
   rw[yd8] at e
   exact .inl (by omega)
 ·obtain ⟨r',e,q⟩:=d1 l hl
  exact ⟨r',by rw[gk l hl];exact e,q⟩
structure Ph2 (bs:Bs) (M:Mt) (dn T:List Int):Prop where
 ok:TOk T
 cl:∀ l∈T,∃ r',look M l=some r'∧∀ l'∈adj bs r',l'∈T
 all:∀ x∈dn,∀ l∈adj bs x,l∈T
theorem Ph2.start (bs:Bs) (M:Mt):Ph2 bs M [] []:=⟨⟨List.nodup_nil,fun l h=>by simp at h⟩,fun l h=>by simp at h,fun x h=>by simp at h⟩
theorem Ph2.fail {bs:Bs}{M:Mt}{dn T T':List Int}{r:Int} (h:Ph2 bs M dn T) (f:Fail bs M T r T'):Ph2 bs M (dn++[r]) T':=by
 refine ⟨f.ok,fun l hl=>?_,fun x hx l hl=>?_⟩
 ·rcases f.cl l hl with z|z
  ·obtain ⟨r',e,q⟩:=h.cl l z
   exact ⟨r',e,fun l' h'=>f.sub _ (q l' h')⟩
  ·exact z
 ·rcases List.mem_append.mp hx with z|z
  ·exact f.sub _ (h.all x z l hl)
  ·rw[List.mem_singleton.mp z] at hl
   exact f.all l hl
structure Cov (bs:Bs) (R L:List Int) (C:Bs):Prop where
 r:R.Pairwise (· < ·)
 l:L.Pairwise (· < ·)
 r12:∀ x∈R,0≤x∧x<12
 l12:∀ x∈L,0≤x∧x<12
 cov:∀ p∈bs,p.1∈R∨p.2∈L
 rin:∀ x∈R,∃ p∈bs,p.1=x
 lin:∀ x∈L,∃ p∈bs,p.2=x
 sub:∀ p∈C,p∈bs
 cr:C.Pairwise fun p q=>p.1<q.1
 cl:(C.map (·.2)).Nodup
 len:C.length=R.length+L.length
def qcn (M:Mt) (T:List Int):List Int:=(M.filter fun e=>!decide (e.1∈T)).map (·.2)
theorem qew {l:List Int} (h:l.Pairwise (·≤·)) (n:l.Nodup):l.Pairwise (· < ·):=(h.and n).imp fun ⟨a,b⟩=>by omega
theorem yea:∀ {M:Mt},(∀ x,cnt M x≤1)→(M.map (·.2)).Nodup
 | [],_=>List.nodup_nil
 | e::M,h=>by
  have cc:∀ x,cnt (e::M) x=cnt M x+ind x e.2:=fun x=>by
   unfold cnt ind
   rw[List.countP_cons]
   by_cases z:x=e.2
   ·rw[if_pos z,if_pos (by simp[z])]
   ·rw[if_neg z,if_neg (by simp;exact fun q=>z q.symm)]
  rw[List.map_cons,List.nodup_cons]
  refine ⟨fun z=>?_,yea fun x=>by have:=h x;rw[cc] at this;omega⟩
  obtain ⟨y,hy,e2⟩:=List.mem_map.mp z
  have h1:=h e.2
  rw[cc,yd8] at h1
  have:0<cnt M e.2:=List.countP_pos_iff.mpr ⟨y,hy,by simp[e2]⟩
  omega
theorem cnt_pos {M:Mt}{x:Int} (h:cnt M x≠0):∃ e∈M,e.2=x:=by
 obtain ⟨e,he,z⟩:=List.countP_pos_iff.mp (Nat.pos_of_ne_zero h)
 exact ⟨e,he,of_decide_eq_true z⟩
theorem yfs {α:Type} (p:α→Bool) (l:List α):(l.filter p).length+(l.filter fun x=>!p x).length=l.length:=by
 induction l with
 | nil=>rfl
 | cons x l ih=>
  cases h:p x
  ·rw[List.filter_cons_of_neg (by simp[h]),List.filter_cons_of_pos (by simp[h])];simp;omega
  ·rw[List.filter_cons_of_pos h,List.filter_cons_of_neg (by simp[h])];simp;omega
theorem len_M {bs:Bs}{M:Mt}{dn T:List Int} (g:GoodM bs M) (h:Ph2 bs M dn T):M.length=(qcn M T).length+T.length:=by
 have e:=yfs (fun e:Int×Int=>decide (e.1∈T)) M
 have e1:((M.filter fun e=>decide (e.1∈T)).map (·.1)).length=T.length:=by
  refine Nat.le_antisymm (ybc ((List.filter_sublist.map _).nodup g.nd) fun x hx=>?_) (ybc h.ok.nd fun x hx=>?_)
  ·obtain ⟨y,hy,rfl⟩:=List.mem_map.mp hx
   exact of_decide_eq_true (List.mem_filter.mp hy).2
  ·obtain ⟨r,q,_⟩:=h.cl x hx
   exact List.mem_map.mpr ⟨(x,r),List.mem_filter.mpr ⟨yd5 q,decide_eq_true hx⟩,rfl⟩
 rw[List.length_map] at e1
 unfold qcn
 rw[List.length_map]
 omega
theorem cov_of {bs C:Bs}{M:Mt}{dn al T R L:List Int} (h12:B12 bs) (hd:∀ p∈bs,p.1∈dn) (h1:Ph1 bs dn M al) (h2:Ph2 bs M al T) (pR:R.Perm (qcn M T)) (sR:R.Pairwise (·≤·)) (pL:L.Perm T) (sL:L.Pairwise (·≤·))
  (pC:C.Perm (M.map fun e=>(e.2,e.1))) (sC:C.Pairwise fun p q=>numL (pr2 p)≤numL (pr2 q)):Cov bs R L C:=by
 have nM:=yea h1.one
 have nR:(qcn M T).Nodup:=(List.filter_sublist.map _).nodup nM
 have mC:∀ p∈C,p∈bs:=fun p hp=>by
  obtain ⟨e,he,rfl⟩:=List.mem_map.mp (pC.mem_iff.mp hp)
  exact h1.good.ed e he
 refine ⟨qew sR (pR.nodup_iff.mpr nR),qew sL (pL.nodup_iff.mpr h2.ok.nd),fun x hx=>?_,fun x hx=>h2.ok.lt x (pL.mem_iff.mp hx),fun p hp=>?_,fun x hx=>?_,fun x hx=>?_,mC,?_,?_,?_⟩
 ·obtain ⟨e,he,rfl⟩:=List.mem_map.mp (pR.mem_iff.mp hx)
  exact (h12 _ (h1.good.ed e (List.mem_filter.mp he).1)).1
 ·rw[pR.mem_iff,pL.mem_iff]
  have hadj:p.2∈adj bs p.1:=qdh.mpr hp
  rcases h1.each p.1 (hd p hp) with z|z
  ·obtain ⟨e,he,ee⟩:=cnt_pos (show cnt M p.1≠0 by omega)
   by_cases q:e.1∈T
   ·obtain ⟨r',e1,e2⟩:=h2.cl e.1 q
    rw[look_of h1.good.nd he] at e1
    cases e1
    exact .inr (e2 _ (by rw[ee];exact hadj))
   ·exact .inl (List.mem_map.mpr ⟨e,List.mem_filter.mpr ⟨he,by simp[q]⟩,ee⟩)
  ·exact .inr (h2.all p.1 z p.2 hadj)
 ·obtain ⟨e,he,rfl⟩:=List.mem_map.mp (pR.mem_iff.mp hx)
  exact ⟨_,h1.good.ed e (List.mem_filter.mp he).1,rfl⟩
 ·obtain ⟨r,e,_⟩:=h2.cl x (pL.mem_iff.mp hx)
  exact ⟨_,h1.good.ed _ (yd5 e),rfl⟩
 ·have nC:(C.map (·.1)).Nodup:=by
   refine (pC.map _).nodup_iff.mpr ?_
   rw[List.map_map]
   exact nM
  have nd:C.Pairwise fun p q=>p.1≠q.1:=List.pairwise_map.mp nC
  refine ((List.Pairwise.and_mem.mp (sC.and nd)).imp ?_)
  rintro p q ⟨hp,hq,a,b⟩
  have p1:=(h12 p (mC p hp))
  have q1:=(h12 q (mC q hq))
  have e1:numL (pr2 p)=p.1*4096+p.2:=by unfold pr2 numL numL numL;simp
  have e2:numL (pr2 q)=q.1*4096+q.2:=by unfold pr2 numL numL numL;simp
  rw[e1,e2] at a
  omega
 ·refine (pC.map _).nodup_iff.mpr ?_
  rw[List.map_map]
  exact h1.good.nd
 ·rw[pC.length_eq,List.length_map,len_M h1.good h2,pR.length_eq,pL.length_eq]
end Mc
namespace Mc
open PySem L2 PyProof.Rows Mx
theorem Kp2.same {H H1 H2:Hp}{pa tr:Addr} (k:Kp2 H1 H2 pa tr) (s:Same H H1) (hp:H pa=none) (ht:H tr=none):Same H H2:=fun x u e=>k x u (yab e hp) (yab e ht) (s x u e)
structure Few (H:Hp) (p:Addr) (R L:List Int) (C:Bs) (cs:List TL) (pr pl pc:Addr):Prop where
 t:H p=some (.tup [.ref pr,.ref pl,.ref pc])
 r:H pr=some (.lst (R.map V.int))
 l:H pl=some (.lst (L.map V.int))
 c:H pc=some (.lst (yaf cs))
 pt:PT H cs C
section
variable {P:Program}{w:World}{K:PySem.W.Frag}{mg:Str→Option Value}{base:Heap}
def qcz:Sp:=fun vs H Q _=>∃ (l:Addr) (ts:List TL) (bs:Bs),vs=[.ref l]∧H l=some (.lst (yaf ts))∧PT H ts bs∧bs.length≤63∧B12 bs∧
 ∀ (p pr pl pc:Addr) (R L:List Int) (C:Bs) (cs:List TL) (H':Hp),Same H H'→H pr=none→H pl=none→H pc=none→pr≠pl→pr≠pc→pl≠pc→Few H' p R L C cs pr pl pc→Cov bs R L C→Q (.ref p) H'
abbrev qdc:Stmt:=top 3
theorem qea:FnScope ["broken","by_row","partners","alone","row","tried","rows","cells"] ["broken"] (qaf qdc):=⟨rfl,rfl,rfl,by decide +kernel,rfl,by decide +kernel,by decide +kernel⟩
theorem ygb (B:Bl mg) (ydq:Has P w K mg base 1 "lines_by_row" ["broken"] sp_lbr) (qbs:Has P w K mg base 13 "finds_line" ["by_row","partners","tried","row"] (yd1 13)) (F:FnAt K mg "fewest" qdc ["broken"]):Has P w K mg base 14 "fewest" ["broken"] qcz:=by
 refine Has.ofQ F qea (fun vs H Q E h=>?_) (fun f cdv A outer s H vs Q E hr h=>?_)
 ·obtain ⟨l,ts,bs,rfl,_⟩:=h
  rfl
 ·obtain ⟨l,ts,bs,rfl,hl,hP,hbl,h12,k⟩:=h
  have sc:=qea
  refine ⟨_,(qak rfl (yac (qal (i:=1) sc.nd rfl (Or.inl rfl) (yag ydq hr (qah (qaa (pv 0)) yad)))
   (yac (qal (i:=2) sc.nd rfl (Or.inl rfl) (qaa qcp))
   (yac (qal (i:=3) sc.nd rfl (Or.inl rfl) (qbn yad))
   (yac (qbv PassesOwn.never rfl (ye4 (pi_dictR (pv 1))) (yaj (i:=4) sc.nd rfl (Or.inl rfl))
    (yae (yan (qa2 (qao (yag qbs hr (qah (qaa (pv 1)) (qah (qaa (pv 2)) (qa_cons (qaa qcp) (qah (qaa (pv 4)) yad)))))))
     (yae (qck (qaa (qd4 PySem.F.plainAttrs_list PySem.F.slot_list_append PySem.F.type_list_append ybk (pv 3) (qac (pv 4) yah)))))
     qam)))
   (yac (qal (i:=5) sc.nd rfl (Or.inr rfl) (qaa qcp))
   (yac (qbv PassesOwn.never rfl (yc0 (qaa (pv 3))) (yaj (i:=4) sc.nd rfl (Or.inl rfl))
    (yae (qck (yag qbs hr (qah (qaa (pv 1)) (qah (qaa (pv 2)) (qah (qaa (pv 5)) (qah (qaa (pv 4)) yad))))))))
   (yac (qfp (qgs (i:=6) rfl sc.nd rfl (Or.inl rfl) rfl (yam rfl) (M:=["line","row","tried"]) (ix:=[none,none,some 5]) (yeq (yfj (pv 2))) (fun _ _ _ _=>(ygw (K:=K) (n:=2) rfl rfl (yau (yaj (i:=0) (show List.Nodup (["line","row","tried"]:List Str) by decide +kernel) rfl (Or.inl rfl)) (yau (yaj (i:=1) (show List.Nodup (["line","row","tried"]:List Str) by decide +kernel) rfl (Or.inl rfl)) ycj)))) (fun _ _ _ _=>(ycl (yei (qdm (qeh hr) (pv 0) (pv 2)) (by with_unfolding_all rfl)))) (fun _ _ _ _=>(pv 1))))
   (yac (qfp (qgs (i:=7) rfl sc.nd rfl (Or.inl rfl) rfl (yam rfl) (M:=["line","row"]) (ix:=[none,none]) (yeq (yfj (pv 2))) (fun _ _ _ _=>(ygw (K:=K) (n:=2) rfl rfl (yau (yaj (i:=0) (show List.Nodup (["line","row"]:List Str) by decide +kernel) rfl (Or.inl rfl)) (yau (yaj (i:=1) (show List.Nodup (["line","row"]:List Str) by decide +kernel) rfl (Or.inl rfl)) ycj)))) (fun _ _ _ _=>qbe) (fun _ _ _ _=>(yc7 (qac (pv 1) (qac (pv 0) yah))))))
   (yae (qag (qbd (qb6 (qai qbp rfl (B.of rfl) qau (qah (qaa (pv 6)) yad)) (qb6 (qaa (qas (qdf rfl) rfl (B.of rfl) qau (qac (pv 5) yah))) (qb6 (qaa (qas yfq rfl (B.of rfl) qau (qac (pv 7) yah))) yad))))))))))))))),?_⟩
  refine ⟨_,rfl,l,ts,bs,rfl,hl,hP,by omega,fun b kvs rs H1 s1 nb hb hk hnd hmem hrow=>?_⟩
  refine fun pa npa=>⟨Nat.zero_le _,fun aa naa=>?_⟩
  have s2:Same H (upd (upd H1 pa (.dK [])) aa (.lst [])):=(s1.upd npa).upd naa
  have hpa2:upd (upd H1 pa (.dK [])) aa (.lst []) pa=some (.dK []):=by rw[qad (yab yaa naa)];exact yaa
  have haa2:upd (upd H1 pa (.dK [])) aa (.lst []) aa=some (.lst []):=yaa
  have k2:Same H1 (upd (upd H1 pa (.dK [])) aa (.lst [])):=((Same.refl H1).upd npa).upd naa
  have hpaH:H pa=none:=s1.free npa
  have haaH:H aa=none:=s1.free ((Same.refl H1 |>.upd npa).free naa)
  have nra:∀ r a,r∈bs.map (·.1)→valV kvs (Sum.inl r)=some (.ref a)→a≠aa:=fun r a hr e=>by
   obtain ⟨a',e1,e2⟩:=hrow r hr
   rw[e1] at e;cases e
   exact yab ((Same.refl H1).upd npa _ _ e2) naa
  revert s2 hpa2 haa2 k2
  generalize upd (upd H1 pa (.dK [])) aa (.lst [])=H2
  intro s2 hpa2 haa2 k2
  have hb2:=k2 _ _ hb
  have hnbp:pa≠b:=yab hb npa |>.symm
  refine ⟨_,rfl,b,kvs,rfl,.inl hb2,fun o H3 fz=>?_⟩
  have s3:Same H H3:=fun x u e=>by rw[fz.st x (yab e nb)];exact s2 x u e
  have hB3:ByR H3 b bs kvs:=⟨⟨o,fz.at_⟩,fun r hr=>by
   obtain ⟨a,e1,e2⟩:=hrow r hr
   have e3:=k2 _ _ e2
   exact ⟨a,e1,by rw[fz.st a (qbi e3 hb2 (by intro z;cases z))];exact e3⟩⟩
  have hpa3:H3 pa=some (.dK []):=by rw[fz.st pa hnbp];exact hpa2
  have haa3:H3 aa=some (.lst []):=by rw[fz.st aa (qbi haa2 hb2 (by intro z;cases z))];exact haa2
  have hkl:kvs.length=rs.length:=by have:=congrArg List.length hk;rw[List.length_map,List.length_map] at this;exact this
  have hrs:rs.length≤12:=yep hnd fun x hx=>by
   obtain ⟨p,hp,rfl⟩:=List.mem_map.mp ((hmem x).mp hx)
   exact (h12 p hp).1
  refine for_by (n:=kvs.length) (fun i σ H4=>∃ (o4:Option V) (M:Mt) (al:List Int),σ=[some (.ref l),some (.ref b),some (.ref pa),some (.ref aa),o4,none,none,none]∧Same H H4∧ByR H4 b bs kvs∧H4 b=some (.frz o (.dK kvs))∧
   H4 pa=some (.dK (kvM M))∧H4 aa=some (.lst (al.map V.int))∧Ph1 bs (rs.take i) M al) ⟨none,[],[],rfl,s3,hB3,fz.at_,hpa3,haa3,by rw[List.take_zero];exact Ph1.start bs⟩ ?_ ?_
  rotate_left
  ·rintro i σ H4 hi ⟨o4,M,al,rfl,s4,hB4,hb4,hpa4,haa4,ph⟩
   refine ⟨⟨hb4,hi⟩,?_⟩
   rintro x H5 ⟨e5,kk,vv,hkv,rfl⟩
   have e5':=e5.symm
   subst e5'
   obtain ⟨r,hr,rfl⟩:∃ r,rs[i]?=some r∧kk=Sum.inl r:=by
    have:=congrArg (·[i]?) hk
    simp only[List.getElem?_map,hkv,Option.map_some] at this
    cases e:rs[i]? with
    | none=>rw[e] at this;cases this
    | some r=>rw[e] at this;exact ⟨r,rfl,Option.some.inj this⟩
   have hrb:r∈bs.map (·.1):=(hmem r).mp (List.mem_of_getElem? hr)
   have tk:rs.take (i+1)=rs.take i++[r]:=by rw[List.take_add_one,hr];rfl
   have hrn:r∉rs.take i:=fun z=>by
    obtain ⟨j,hj,e⟩:=List.getElem_of_mem z
    rw[List.length_take] at hj
    rw[List.getElem_take] at e
    have h1:rs[j]?=some r:=by rw[List.getElem?_eq_getElem (by omega),e]
    have:=(List.getElem?_inj (show j<rs.length by omega) hnd).mp (h1.trans hr.symm)
    omega
   have hall:al.length≤12:=by have:=ph.len;rw[List.length_take] at this;omega
   refine ⟨_,rfl,_,rfl,fun tr ntr=>⟨_,rfl,?_⟩⟩
   have htrH:H tr=none:=s4.free ntr
   have hpt:pa≠tr:=yab hpa4 ntr
   have hat:aa≠tr:=yab haa4 ntr
   have hap:aa≠pa:=qbi haa4 hpa4 (by intro z;cases z)
   have hbp:b≠pa:=qbi hb4 hpa4 (by intro z;cases z)
   have hbt:b≠tr:=yab hb4 ntr
   have s5:Same H4 (upd H4 tr (.dK [])):=(Same.refl H4).upd ntr
   have hB5:ByR (upd H4 tr (.dK [])) b bs kvs:=⟨⟨o,s5 _ _ hb4⟩,fun r hr=>by obtain ⟨a,e1,e2⟩:=hB4.row r hr;exact ⟨a,e1,s5 _ _ e2⟩⟩
   refine ⟨b,pa,tr,bs,kvs,M,[],r,rfl,hB5,s5 _ _ hpa4,yaa,hpt,hrb,h12,by omega,ph.good,⟨List.nodup_nil,fun l h=>by simp at h⟩,by decide,fun H6 T6 k6 hp6 ht6 fl=>⟨_,rfl,iteB rfl ?_⟩,fun H6 M6 T6 k6 hp6 ht6 hT6 _ gn=>⟨_,rfl,iteN rfl ?_⟩⟩
   ·have ha6:=k6 _ _ hap hat (s5 _ _ haa4)
    refine ⟨_,rfl,.inl ⟨rfl,_,SqL.of ha6⟩,_,rfl,aa,_,_,rfl,rfl,ha6,qa9 (by rw[List.length_map];omega),?_⟩
    have hB6:=hB5.kp k6 (s5 _ _ hpa4) yaa
    refine ⟨_,M,al++[r],rfl,(k6.same (s4.trans s5) hpaH htrH).at haaH,⟨⟨o,by rw[qad (qbi hb4 haa4 (by intro z;cases z))];exact k6 _ _ hbp hbt (s5 _ _ hb4)⟩,fun x hx=>?_⟩,by rw[qad (qbi hb4 haa4 (by intro z;cases z))];exact k6 _ _ hbp hbt (s5 _ _ hb4),by rw[qad hap.symm];exact hp6,by rw[yaa,List.map_append];rfl,by rw[tk];exact ph.fail fl⟩
    obtain ⟨a,e1,e2⟩:=hB6.row x hx
    exact ⟨a,e1,by rw[qad (nra x a hx e1)];exact e2⟩
   ·refine ⟨_,M6,al,rfl,k6.same (s4.trans s5) hpaH htrH,hB5.kp k6 (s5 _ _ hpa4) yaa,k6 _ _ hbp hbt (s5 _ _ hb4),hp6,k6 _ _ hap hat (s5 _ _ haa4),by rw[tk];exact ph.gain hrn gn⟩
  rintro σ H4 ⟨o4,M,al,rfl,s4,hB4,hb4,hpa4,haa4,ph⟩
  refine ⟨⟨hb4,Nat.le_refl _⟩,?_⟩
  have hdone:∀ p∈bs,p.1∈rs.take kvs.length:=fun p hp=>by
   rw[hkl,List.take_length]
   exact (hmem p.1).mpr (List.mem_map_of_mem hp)
  have hall:al.length≤12:=by have:=ph.len;rw[List.length_take] at this;omega
  have hml:=ph.good.len h12
  obtain ⟨Dd,dc,dal⟩:=ph.dead
  refine fun tr ntr=>?_
  have htrH:H tr=none:=s4.free ntr
  have hpt:pa≠tr:=yab hpa4 ntr
  have hat:aa≠tr:=yab haa4 ntr
  have hap:aa≠pa:=qbi haa4 hpa4 (by intro z;cases z)
  have s5:Same H4 (upd H4 tr (.dK [])):=(Same.refl H4).upd ntr
  have hB5:ByR (upd H4 tr (.dK [])) b bs kvs:=⟨⟨o,s5 _ _ hb4⟩,fun r hr=>by obtain ⟨a,e1,e2⟩:=hB4.row r hr;exact ⟨a,e1,s5 _ _ e2⟩⟩
  refine ⟨_,rfl,aa,rfl,⟨_,SqL.of (s5 _ _ haa4)⟩,ycb (xs:=al.map V.int) (fun i σ H6=>∃ (o4:Option V) (T:List Int),σ=[some (.ref l),some (.ref b),some (.ref pa),some (.ref aa),o4,some (.ref tr),none,none]∧Same H H6∧ByR H6 b bs kvs∧
   H6 pa=some (.dK (kvM M))∧H6 tr=some (.dK (kvT T))∧H6 aa=some (.lst (al.map V.int))∧Ph2 bs M (al.take i) T) ⟨_,[],rfl,s4.trans s5,hB5,s5 _ _ hpa4,yaa,s5 _ _ haa4,by rw[List.take_zero];exact Ph2.start bs M⟩ (fun i σ H6 _ ⟨_,_,_,_,_,_,_,h,_⟩=>SqL.of h) ?_ ?_⟩
  ·rintro i x σ H6 hx ⟨o4',T,rfl,s6,hB6,hpa6,htr6,haa6,p2⟩
   rw[List.getElem?_map] at hx
   cases hr:al[i]? with
   | none=>rw[hr] at hx;cases hx
   | some r=>
   rw[hr] at hx
   cases hx
   have hrm:=List.mem_of_getElem? hr
   have tk:al.take (i+1)=al.take i++[r]:=by rw[List.take_add_one,hr];rfl
   have hrb:r∈bs.map (·.1):=(hmem r).mp (List.mem_of_mem_take (ph.sub r hrm))
   refine ⟨_,rfl,_,rfl,_,rfl,_,rfl,?_⟩
   refine ⟨b,pa,tr,bs,kvs,M,T,r,rfl,hB6,hpa6,htr6,hpt,hrb,h12,by omega,ph.good,p2.ok,by omega,fun H7 T7 k7 hp7 ht7 fl=>?_,fun H7 M7 T7 k7 hp7 ht7 hT7 _ gn=>?_⟩
   ·exact ⟨_,T7,rfl,k7.same s6 hpaH htrH,hB6.kp k7 hpa6 htr6,hp7,ht7,k7 _ _ hap hat haa6,by rw[tk];exact p2.fail fl⟩
   ·obtain ⟨⟨y,hy,ny⟩,_⟩:=gn.dead Dd dc
    exact absurd (dal r hrm y hy) ny
  rintro σ H6 ⟨o4',T,rfl,s6,hB6,hpa6,htr6,haa6,p2⟩
  rw[List.length_map,List.take_length] at p2
  have hTl:=p2.ok.len
  -- the rows
  refine ⟨_,rfl,pa,kvM M,rfl,.inl hpa6,fun v nv=>⟨v,pa,kvM M,rfl,yaa,.inl (by rw[qad (yab hpa6 nv)];exact hpa6),fun o2 H7 fz2=>?_⟩⟩
  have hvH:H v=none:=s6.free nv
  have s7:Same H H7:=fun x u e=>by
   rw[fz2.st x (yab e hpaH),qad (yab e hvH)]
   exact s6 x u e
  have htr7:H7 tr=some (.dK (kvT T)):=by rw[fz2.st tr hpt.symm,qad (yab htr6 nv)];exact htr6
  have hpa7:=fz2.at_
  clear fz2 hB6 haa6 hpa6 htr6 s6 hvH nv
  refine fun D nD=>?_
  have hDH:H D=none:=s7.free nD
  have frame:∀ {H8:Hp}{D':Addr}{z:List V},H8 D'=some (.lst z)→∀ {y:HO},H8 pa=some (.frz o2 (.dK (kvM M)))→H8 tr=some (.dK (kvT T))→upd H8 D' y pa=some (.frz o2 (.dK (kvM M)))∧upd H8 D' y tr=some (.dK (kvT T)):=fun h y h1 h2=>
   ⟨by rw[qad (qbi h1 h (by intro z;cases z))];exact h1,by rw[qad (qbi h2 h (by intro z;cases z))];exact h2⟩
  have item:∀ {i:Nat}{kk:Key}{vv:V},i<M.length→(kvM M)[i]?=some (kk,vv)→∃ e,M[i]?=some e∧kk=Sum.inl e.1∧vv=.int e.2:=fun {i kk vv} hi hkv=>by
   have hM:M[i]?=some M[i]:=List.getElem?_eq_getElem hi
   have hkv':(kvM M)[i]?=some (Sum.inl M[i].1,V.int M[i].2):=by unfold kvM;rw[List.getElem?_map,hM];rfl
   rw[hkv'] at hkv
   cases hkv
   exact ⟨_,hM,rfl,rfl⟩
  refine ya2 (n:=M.length) (fun i H8=>Same H H8∧H8 pa=some (.frz o2 (.dK (kvM M)))∧H8 tr=some (.dK (kvT T))∧H8 D=some (.lst ((qcn (M.take i) T).map V.int))) ?_ ?_ ?_
  ·exact ⟨s7.upd nD,by rw[qad (yab hpa7 nD)];exact hpa7,by rw[qad (yab htr7 nD)];exact htr7,yaa⟩
  rotate_left
  ·rintro i H8 hi ⟨s8,hpa8,htr8,hD8⟩
   refine ⟨⟨hpa8,by unfold kvM;rw[List.length_map];exact hi⟩,?_⟩
   rintro x _ ⟨q,kk,vv,nq,rfl,rfl,hkv⟩
   obtain ⟨e,hM,rfl,rfl⟩:=item hi hkv
   have tk:M.take (i+1)=M.take i++[e]:=by rw[List.take_add_one,hM];rfl
   have s9:Same H8 (upd H8 q (.tup [kV (Sum.inl e.1),.int e.2])):=(Same.refl H8).upd nq
   refine ⟨q,_,rfl,SqT.of yaa,rfl,_,_,rfl,_,_,rfl,rfl,qap.set (qap.set (qap.refl _) rfl) rfl,?_⟩
   refine ⟨_,rfl,_,rfl,tr,_,rfl,DGet.k (k:=.inl e.1) (s9 _ _ htr8),_,rfl,?_⟩
   have rl:(qcn (M.take i) T).length≤12:=by
    unfold qcn
    rw[List.length_map]
    exact Nat.le_trans (List.length_filter_le _ _) (by rw[List.length_take];omega)
   by_cases hin:e.1∈T
   ·refine iteN (by rw[valT,decide_eq_true hin];rfl) ⟨s8.trans s9,s9 _ _ hpa8,s9 _ _ htr8,?_⟩
    rw[s9 _ _ hD8]
    unfold qcn
    rw[tk,List.filter_append,List.filter_cons_of_neg (by simp[hin])]
    simp
   ·refine iteB (by rw[valT,decide_eq_false hin];rfl) ⟨_,rfl,_,s9 _ _ hD8,qa9 (by rw[List.length_map];omega),?_⟩
    obtain ⟨f1,f2⟩:=frame (s9 _ _ hD8) (y:=.lst ((qcn (M.take i) T).map V.int++[.int e.2])) (s9 _ _ hpa8) (s9 _ _ htr8)
    refine ⟨(s8.trans s9).at hDH,f1,f2,?_⟩
    rw[yaa]
    unfold qcn
    rw[tk,List.filter_append,List.filter_cons_of_pos (by simp[hin])]
    simp
  rintro H8 ⟨s8,hpa8,htr8,hD8⟩
  rw[List.take_length] at hD8
  refine ⟨⟨hpa8,by unfold kvM;rw[List.length_map];exact Nat.le_refl _⟩,?_⟩
  -- the cells
  refine ⟨_,rfl,pa,kvM M,rfl,.inr ⟨_,hpa8⟩,fun v nv=>⟨v,pa,kvM M,rfl,yaa,.inr ⟨o2,by rw[qad (yab hpa8 nv)];exact hpa8⟩,fun o3 H9 fz3=>?_⟩⟩
  have hvH:H v=none:=s8.free nv
  have eo:o3=o2∨True:=.inr trivial
  have s9:Same H H9:=fun x u e=>by
   rw[fz3.st x (yab e hpaH),qad (yab e hvH)]
   exact s8 x u e
  have htr9:H9 tr=some (.dK (kvT T)):=by rw[fz3.st tr hpt.symm,qad (yab htr8 nv)];exact htr8
  have hD9:H9 D=some (.lst ((qcn M T).map V.int)):=by rw[fz3.st D (qbi hD8 hpa8 (by intro z;cases z)),qad (yab hD8 nv)];exact hD8
  have hpa9:=fz3.at_
  clear fz3 hpa8 htr8 hD8 s8 hvH nv hpa7 htr7 s7 nD
  refine fun D2 nD2=>?_
  have hD2H:H D2=none:=s9.free nD2
  have hDD:D≠D2:=yab hD9 nD2
  refine ya2 (n:=M.length) (fun i Hx=>∃ cs:List TL,Same H Hx∧Hx pa=some (.frz o3 (.dK (kvM M)))∧Hx tr=some (.dK (kvT T))∧Hx D=some (.lst ((qcn M T).map V.int))∧Hx D2=some (.lst (yaf cs))∧
   cs.map (·.2)=(M.take i).map (fun e=>[e.2,e.1])∧∀ t∈cs,Hx t.1=some (.tup (t.2.map V.int))) ?_ ?_ ?_
  ·exact ⟨[],s9.upd nD2,by rw[qad (yab hpa9 nD2)];exact hpa9,by rw[qad (yab htr9 nD2)];exact htr9,by rw[qad hDD];exact hD9,yaa,rfl,fun t h=>by simp at h⟩
  rotate_left
  ·rintro i Hx hi ⟨cs,sx,hpx,htx,hDx,hD2x,hcs,hct⟩
   refine ⟨⟨hpx,by unfold kvM;rw[List.length_map];exact hi⟩,?_⟩
   rintro x _ ⟨q,kk,vv,nq,rfl,rfl,hkv⟩
   obtain ⟨e,hM,rfl,rfl⟩:=item hi hkv
   have tk:M.take (i+1)=M.take i++[e]:=by rw[List.take_add_one,hM];rfl
   have sy:Same Hx (upd Hx q (.tup [kV (Sum.inl e.1),.int e.2])):=(Same.refl Hx).upd nq
   have cl:cs.length≤12:=by have:=congrArg List.length hcs;rw[List.length_map,List.length_map,List.length_take] at this;omega
   refine ⟨q,_,rfl,SqT.of yaa,rfl,_,_,rfl,_,_,rfl,rfl,qap.set (qap.set (qap.refl _) rfl) rfl,yes ?_⟩
   refine ⟨_,rfl,_,rfl,(by show 2≤sizeLine;decide),fun q2 nq2=>?_⟩
   have sz:=sy.upd (o:=.tup [V.int e.2,kV (Sum.inl e.1)]) nq2
   have hz:=sz _ _ hD2x
   refine ⟨_,hz,qa9 (by unfold yaf;rw[List.length_map];omega),cs++[(q2,[e.2,e.1])],(sx.trans sz).at hD2H,?_,?_,?_,?_,?_,fun t ht=>?_⟩
   ·rw[qad (qbi (sz _ _ hpx) hz (by intro z;cases z))];exact sz _ _ hpx
   ·rw[qad (qbi (sz _ _ htx) hz (by intro z;cases z))];exact sz _ _ htx
   ·rw[qad hDD];exact sz _ _ hDx
   ·rw[yaa];unfold yaf;rw[List.map_append];rfl
   ·rw[List.map_append,hcs,tk,List.map_append];rfl
   ·have hq:upd (upd Hx q (.tup [kV (Sum.inl e.1),.int e.2])) q2 (.tup [V.int e.2,kV (Sum.inl e.1)]) t.1=some (.tup (t.2.map V.int)):=by
     rcases List.mem_append.mp ht with z|z
     ·exact sz _ _ (hct t z)
     ·rw[List.mem_singleton.mp z];exact yaa
    rw[qad (qbi hq hz (by intro z;cases z))]
    exact hq
  rintro Hx ⟨cs,sx,hpx,htx,hDx,hD2x,hcs,hct⟩
  rw[List.take_length] at hcs
  have cl:cs.length=M.length:=by have:=congrArg List.length hcs;rw[List.length_map,List.length_map] at this;exact this
  refine ⟨⟨hpx,by unfold kvM;rw[List.length_map];exact Nat.le_refl _⟩,?_⟩
  have rl:(qcn M T).length≤12:=by
   unfold qcn
   rw[List.length_map]
   exact Nat.le_trans (List.length_filter_le _ _) hml
  have okc:∀ t∈cs,∃ e∈M,t.2=[e.2,e.1]:=fun t ht=>by
   have:t.2∈M.map (fun e=>[e.2,e.1]):=by rw[← hcs];exact List.mem_map_of_mem ht
   obtain ⟨e,he,z⟩:=List.mem_map.mp this
   exact ⟨e,he,z.symm⟩
  refine ⟨_,rfl,D,qcn M T,rfl,hDx,by omega,fun pr R npr pR sR=>?_⟩
  have sa:Same Hx (upd Hx pr (.lst (R.map V.int))):=(Same.refl Hx).upd npr
  have ea:upd Hx pr (.lst (R.map V.int)) pr=some (.lst (R.map V.int)):=yaa
  revert sa ea
  generalize upd Hx pr (.lst (R.map V.int))=Ha
  intro sa ea
  refine ⟨_,rfl,tr,kvT T,T,rfl,.inl (sa _ _ htx),by unfold kvT;rw[List.map_map];rfl,by omega,fun pl L npl pL sL=>?_⟩
  have sb:Same Ha (upd Ha pl (.lst (L.map V.int))):=(Same.refl Ha).upd npl
  have eb:upd Ha pl (.lst (L.map V.int)) pl=some (.lst (L.map V.int)):=yaa
  have nlr:pr≠pl:=yab ea npl
  revert sb eb
  generalize upd Ha pl (.lst (L.map V.int))=Hb
  intro sb eb
  have sxb:=sa.trans sb
  refine ⟨_,rfl,D2,cs,1,rfl,sxb _ _ hD2x,fun t ht=>sxb _ _ (hct t ht),fun t ht=>?_,by omega,fun pc cs' npc pC rC=>?_⟩
  ·obtain ⟨e,he,z⟩:=okc t ht
   have h:=h12 _ (ph.good.ed e he)
   rw[z]
   refine ⟨rfl,fun x hx=>?_⟩
   rcases List.mem_cons.mp hx with rfl|hx
   ·have:=h.1;omega
   ·rw[List.mem_singleton.mp hx];have:=h.2;omega
  have sc:Same Hb (upd Hb pc (.lst (yaf cs'))):=(Same.refl Hb).upd npc
  have ec:upd Hb pc (.lst (yaf cs')) pc=some (.lst (yaf cs')):=yaa
  have nrc:pr≠pc:=yab (sb _ _ ea) npc
  have nlc:pl≠pc:=yab eb npc
  revert sc ec
  generalize upd Hb pc (.lst (yaf cs'))=Hc
  intro sc ec
  refine ⟨(by show 3≤sizeLine;decide),fun p np=>?_⟩
  have sd:Same Hc (upd Hc p (.tup [.ref pr,.ref pl,.ref pc])):=(Same.refl Hc).upd np
  have sxd:=(sxb.trans sc).trans sd
  have okc':∀ t∈cs',∃ e∈M,t.2=[e.2,e.1]:=fun t ht=>okc t (pC.mem_iff.mp ht)
  have hpc:(cs'.map fun t:TL=>(t.2.getD 0 0,t.2.getD 1 0)).map pr2=cs'.map (·.2):=by
   rw[List.map_map]
   refine List.map_congr_left fun t ht=>?_
   obtain ⟨e,_,z⟩:=okc' t ht
   show pr2 (t.2.getD 0 0,t.2.getD 1 0)=t.2
   rw[z]
   rfl
  have ppC:(cs'.map fun t:TL=>(t.2.getD 0 0,t.2.getD 1 0)).Perm (M.map fun e=>(e.2,e.1)):=by
   have h1:=(pC.map (·.2)).map (fun z:List Int=>(z.getD 0 0,z.getD 1 0))
   rw[hcs,List.map_map,List.map_map] at h1
   exact h1
  refine k p pr pl pc R L (cs'.map fun t:TL=>(t.2.getD 0 0,t.2.getD 1 0)) cs' _ (sx.trans sxd) (sx.free npr) ((sx.trans sa).free npl) ((sx.trans sxb).free npc) nlr nrc nlc
   ⟨yaa,sd _ _ (sc _ _ (sb _ _ ea)),sd _ _ (sc _ _ eb),sd _ _ ec,hpc.symm,fun t ht=>sxd _ _ (hct t (pC.mem_iff.mp ht))⟩
   (cov_of h12 hdone ph p2 pR sR pL sL ppC ?_)
  rw[List.pairwise_map]
  refine (List.Pairwise.and_mem.mp rC).imp ?_
  rintro t u ⟨ht,hu,z⟩
  obtain ⟨e,_,z1⟩:=okc' t ht
  obtain ⟨e',_,z2⟩:=okc' u hu
  rw[z1,z2] at z ⊢
  exact z
end
end Mc
namespace Mc
open PySem L2 PyProof.Rows Mx
theorem qgj {α β:Type}{f:α→β}{xs:List α}{i:Nat}{y:β} (h:(xs.map f)[i]?=some y):∃ x,xs[i]?=some x∧y=f x:=by
 rw[List.getElem?_map] at h
 cases e:xs[i]? with
 | none=>rw[e] at h;cases h
 | some x=>rw[e] at h;cases h;exact ⟨x,rfl,rfl⟩
def Dig (ds zs:List Int):Prop:=ds.length=zs.length∧∀ (i:Nat) d z,ds[i]?=some d→zs[i]?=some z→0≤d∧d<z
theorem Dig.get {ds zs:List Int} (h:Dig ds zs) {i:Nat}{z:Int} (hz:zs[i]?=some z):∃ d,ds[i]?=some d∧0≤d∧d<z:=by
 have hi:i<ds.length:=by rw[h.1];exact (List.getElem?_eq_some_iff.mp hz).1
 exact ⟨ds[i],by simp[hi],h.2 i _ z (by simp[hi]) hz⟩
theorem yfw {ds:List Int}{i:Nat}{v:V} (h:(ds.map V.int)[i]?=some v):∃ d,ds[i]?=some d∧v=.int d:=qgj h
theorem ya6 {ds:List Int}{i:Nat}{d:Int} (h:ds[i]?=some d):(ds.map V.int)[i]?=some (.int d):=by rw[List.getElem?_map,h];rfl
section
variable {P:Program}{w:World}{K:PySem.W.Frag}{mg:Str→Option Value}{base:Heap}
def ydg:Sp:=fun vs H Q _=>∃ c t a zs,vs=[.int c,.int t,.ref a]∧H a=some (.lst (zs.map V.int))∧zs.length≤200∧(∀ z∈zs,0<z∧z≤1000)∧0≤t∧t≤1000000∧
 ∀ p ds H',Same H H'→H p=none→H' p=some (.lst (ds.map V.int))→Dig ds zs→Q (.ref p) H'
abbrev qbf:Stmt:=top 23
theorem ycg:FnScope ["_law_cell","_law_turn","_law_sizes","_law_number","_law_wide","_law_seed","_law_found","_law_k","_law_size"] ["_law_cell","_law_turn","_law_sizes"] (qaf qbf):=⟨rfl,rfl,rfl,by decide +kernel,rfl,by decide +kernel,by decide +kernel⟩
theorem qgx (B:Bl mg) (F:FnAt K mg "_law_digits" qbf ["_law_cell","_law_turn","_law_sizes"]):Has P w K mg base 1 "_law_digits" ["_law_cell","_law_turn","_law_sizes"] ydg:=by
 refine Has.of F ycg (fun vs H Q E h=>?_) (fun f cdv A outer s H vs Q E hr h=>?_)
 ·obtain ⟨c,t,a,zs,rfl,_⟩:=h
  rfl
 ·obtain ⟨c,t,a,zs,rfl,ha,hl,hz,ht0,ht1,k⟩:=h
  have sc:=ycg
  refine ⟨_,(ybr (qcr (i:=3) sc.nd rfl (Or.inl rfl) (qas call_abs rfl (B.of rfl) boot_abs (qac (pv 0) yah)))
   (ybr (qcr (i:=4) sc.nd rfl (Or.inl rfl) (yb7 op_ge (pv 3) (qbo op_pow qab qab) (yal _)))
   (ybr (qcr (i:=5) sc.nd rfl (Or.inl rfl) (qbo ya1 (qbo ych (pv 3) qab) (qbo ydt qab (pv 1))))
   (ybr (qcr (i:=6) sc.nd rfl (Or.inl rfl) (qed yah))
   (ybr (ps_for PassesOwn.never rfl (yg0 rfl (B.of rfl) (qac (pv 2) yah)) (ydu rfl (yau (yaj (i:=7) sc.nd rfl (Or.inl rfl)) (yau (yaj (i:=8) sc.nd rfl (Or.inl rfl)) ycj)))
    (yc2 (ps_if (PW.pt (qfc (qfl (pv 4)) (qd9 (qbt ycf (pv 3) qab (yal _)))))
     (ybr (qe7 (qd4 PySem.F.plainAttrs_list PySem.F.slot_list_append PySem.F.type_list_append ybk (pv 6) (qac (qbo ych (pv 3) (pv 8)) yah)))
     (yc2 (qcr (i:=3) sc.nd rfl (Or.inl rfl) (qbo ygd (pv 3) (pv 8)))))
     (ybr (qcr (i:=5) sc.nd rfl (Or.inl rfl) (qbo ych (qbo op_pow (qbo ya1 (pv 5) (qbo ydt qab (qbo ya1 (pv 7) qab))) qab) qab))
     (yc2 (qe7 (qd4 PySem.F.plainAttrs_list PySem.F.slot_list_append PySem.F.type_list_append ybk (pv 6) (qac (qbo ych (qbo ygd (pv 5) qab) (pv 8)) yah))))))))
   (yc2 (ps_ret (pv 6)))))))),?_⟩
  refine ⟨_,rfl,c,rfl,?_⟩
  refine ⟨_,rfl,10,18,rfl,rfl,⟨by decide,by decide,by decide⟩,_,_,rfl,rfl,?_⟩
  refine ⟨_,rfl,_,_,rfl,rfl,(by show (0:Int)<2147483647;decide),_,rfl,_,_,rfl,rfl,.inl ⟨by decide,by decide⟩,_,_,rfl,rfl,?_⟩
  refine ⟨Nat.zero_le _,fun p hp=>?_⟩
  generalize hnum:(if c<0 then -c else c)=num
  generalize hwd:decide ((10:Int) ^ (18:Int).toNat≤num)=wd
  have hs0:0≤num % 2147483647+7919*t:=by have:=Int.emod_nonneg num (show (2147483647:Int)≠0 by decide);omega
  have hs1:num % 2147483647+7919*t<2 ^ 40:=by have:=Int.emod_lt_of_pos num (show (0:Int)<2147483647 by decide);omega
  refine ⟨_,rfl,a,_,rfl,SqL.of (by rw[qad (yab ha hp)];exact ha),yfg (xs:=zs.map V.int) (fun i σ H2=>∃ (nu seed:Int) (ds:List Int) (q1 q2:Option V),σ=[some (.int c),some (.int t),some (.ref a),some (.int nu),some (.bl wd),some (.int seed),some (.ref p),q1,q2]∧
   Same H H2∧H2 p=some (.lst (ds.map V.int))∧ds.length=i∧(∀ (j:Nat) d z,ds[j]?=some d→zs[j]?=some z→0≤d∧d<z)∧0≤seed∧seed<2 ^ 40) ?_ (fun i σ H2 _ ⟨_,_,_,_,_,_,s2,_⟩=>SqL.of (s2 _ _ ha)) ?_ ?_⟩
  ·exact ⟨num,_,[],none,none,by rw[← hwd];rfl,(Same.refl H).upd hp,yaa,rfl,fun j d z h=>by simp at h,hs0,hs1⟩
  ·rintro i x pp σ H2 hx ⟨nu,seed,ds,q1,q2,rfl,s2,hp2,hln,hds,hse0,hse1⟩ hpp
   obtain ⟨z,hzi,rfl⟩:=yfw hx
   obtain ⟨hz0,hz1⟩:=hz z (List.mem_of_getElem? hzi)
   have hil:i<zs.length:=(List.getElem?_eq_some_iff.mp hzi).1
   have s3:Same H (upd H2 pp (.tup [.int i,.int z])):=s2.upd hpp
   have hp3:upd H2 pp (.tup [.int i,.int z]) p=some (.lst (ds.map V.int)):=by rw[qad (yab hp2 hpp)];exact hp2
   have fin:∀ (d:Int),0≤d→d<z→∀ (j:Nat) d' z',(ds++[d])[j]?=some d'→zs[j]?=some z'→0≤d'∧d' < z':=fun d h0 h1 j d' z' hj hj2=>by
    by_cases hlt:j<ds.length
    ·rw[List.getElem?_append_left hlt] at hj
     exact hds j d' z' hj hj2
    ·rw[List.getElem?_append_right (by omega)] at hj
     have hj0:j-ds.length=0:=by
      cases q:j-ds.length with
      | zero=>rfl
      | succ n=>rw[q] at hj;simp at hj
     rw[hj0] at hj
     have e1:d=d':=by simpa using hj
     have e2:j=i:=by omega
     subst e1 e2
     rw[hzi] at hj2;cases hj2
     exact ⟨h0,h1⟩
   refine ⟨pp,_,rfl,SqT.of yaa,rfl,_,_,rfl,_,_,rfl,rfl,?_⟩
   refine ⟨_,rfl,wd,rfl,?_⟩
   cases wd with
   | true=>
    refine iteT ⟨_,rfl,_,_,rfl,rfl,_,rfl,?_⟩
    by_cases hn:0<nu
    ·refine iteD hn ?_
     refine ⟨_,rfl,.inl ⟨rfl,_,SqL.of hp3⟩,_,rfl,_,rfl,_,_,rfl,rfl,hz0,p,_,_,rfl,rfl,hp3,qa9 (by rw[List.length_map];omega),?_⟩
     refine ⟨_,rfl,_,rfl,_,_,rfl,rfl,⟨hz0,by omega⟩,?_⟩
     exact ⟨_,seed,ds++[nu % z],_,_,rfl,s3.at hp,by rw[List.map_append];exact yaa,by simp[hln],fin _ (Int.emod_nonneg _ (by omega)) (Int.emod_lt_of_pos _ hz0),hse0,hse1⟩
    ·refine iteN (decide_eq_false hn) ?_
     refine ⟨_,rfl,_,rfl,_,_,rfl,rfl,_,_,rfl,rfl,.inl ⟨by decide,by decide⟩,_,_,rfl,rfl,_,_,rfl,rfl,⟨by decide,by decide,by omega⟩,_,_,rfl,rfl,(by show (0:Int)<2147483587;decide),?_⟩
     have g0:=Int.emod_nonneg ((seed+104729*((i:Int)+1)) ^ (2:Int).toNat) (show (2147483587:Int)≠0 by decide)
     have g1:=Int.emod_lt_of_pos ((seed+104729*((i:Int)+1)) ^ (2:Int).toNat) (show (0:Int)<2147483587 by decide)
     generalize hse':(seed+104729*((i:Int)+1)) ^ (2:Int).toNat % 2147483587=seed' at g0 g1
     refine ⟨_,rfl,.inl ⟨rfl,_,SqL.of hp3⟩,_,rfl,_,_,rfl,rfl,⟨by decide,by decide⟩,_,rfl,_,_,rfl,rfl,hz0,p,_,_,rfl,rfl,hp3,qa9 (by rw[List.length_map];omega),?_⟩
     exact ⟨nu,seed',ds++[seed' / 16 % z],_,_,by rw[← hse'];rfl,s3.at hp,by rw[List.map_append,← hse'];exact yaa,by simp[hln],fin _ (Int.emod_nonneg _ (by omega)) (Int.emod_lt_of_pos _ hz0),g0,by omega⟩
   | false=>
    refine iteF (iteF ?_)
    refine ⟨_,rfl,_,rfl,_,_,rfl,rfl,_,_,rfl,rfl,.inl ⟨by decide,by decide⟩,_,_,rfl,rfl,_,_,rfl,rfl,⟨by decide,by decide,by omega⟩,_,_,rfl,rfl,(by show (0:Int)<2147483587;decide),?_⟩
    have g0:=Int.emod_nonneg ((seed+104729*((i:Int)+1)) ^ (2:Int).toNat) (show (2147483587:Int)≠0 by decide)
    have g1:=Int.emod_lt_of_pos ((seed+104729*((i:Int)+1)) ^ (2:Int).toNat) (show (0:Int)<2147483587 by decide)
    generalize hse':(seed+104729*((i:Int)+1)) ^ (2:Int).toNat % 2147483587=seed' at g0 g1
    refine ⟨_,rfl,.inl ⟨rfl,_,SqL.of hp3⟩,_,rfl,_,_,rfl,rfl,⟨by decide,by decide⟩,_,rfl,_,_,rfl,rfl,hz0,p,_,_,rfl,rfl,hp3,qa9 (by rw[List.length_map];omega),?_⟩
    exact ⟨nu,seed',ds++[seed' / 16 % z],_,_,by rw[← hse'];rfl,s3.at hp,by rw[List.map_append,← hse'];exact yaa,by simp[hln],fin _ (Int.emod_nonneg _ (by omega)) (Int.emod_lt_of_pos _ hz0),g0,by omega⟩
  ·rintro σ H2 ⟨nu,seed,ds,q1,q2,rfl,s2,hp2,hln,hds,_,_⟩
   rw[List.length_map] at hln
   exact ⟨_,rfl,k p ds H2 s2 hp hp2 ⟨hln,hds⟩⟩
end
end Mc
namespace Mc
open PySem L2 PyProof.Rows Mx
inductive Tr where
 | cells (C:Bs)
 | split (r l:Int) (one other:Tr)
 | nil
def qc3 (bs:Bs) (r:Int):Bs:=bs.filter fun p=>!decide (p.1=r)
def qby (bs:Bs) (l:Int):Bs:=bs.filter fun p=>!decide (p.2=l)
def ybn:Bs→Nat→Nat→Tr→Prop
 | bs,n,m,.cells C=>(∀ p∈C,p∈bs)∧(0<n→(C.map (·.1)).Nodup)∧(0<m→(C.map (·.2)).Nodup)∧n+m<C.length
 | bs,n,m,.split r l one other=>(r,l)∈bs∧(0<n→ybn (qc3 bs r) (n-1) m one)∧(n=0→one=.nil)∧(0<m→ybn (qby bs l) n (m-1) other)∧(m=0→other=.nil)
 | _,_,_,.nil=>False
def Covd (bs:Bs) (R L:List Int):Prop:=∀ p∈bs,p.1∈R∨p.2∈L
theorem ybu {bs:Bs}{r:Int}{p:Int×Int}:p∈qc3 bs r↔p∈bs∧p.1≠r:=by
 unfold qc3
 rw[List.mem_filter]
 simp
theorem qbj {bs:Bs}{l:Int}{p:Int×Int}:p∈qby bs l↔p∈bs∧p.2≠l:=by
 unfold qby
 rw[List.mem_filter]
 simp
structure SpOk (bs:Bs) (n m:Nat) (R L:List Int):Prop where
 r:R.Pairwise (· < ·)
 l:L.Pairwise (· < ·)
 rl:R.length≤n
 ll:L.length≤m
 cov:Covd bs R L
 rin:∀ x∈R,∃ p∈bs,p.1=x
 lin:∀ x∈L,∃ p∈bs,p.2=x
theorem SpOk.row {bs:Bs}{n m:Nat}{R R' L:List Int}{r:Int}{l:Int} (h:SpOk (qc3 bs r) (n-1) m R L) (hn:0<n) (hb:(r,l)∈bs) (hp:R'.Perm (r::R)) (hs:R'.Pairwise (·≤·)):SpOk bs n m R' L:=by
 have hr:r∉R:=fun z=>by
  obtain ⟨p,hp,e⟩:=h.rin r z
  exact (ybu.mp hp).2 e
 have nd:R'.Nodup:=hp.nodup_iff.mpr (List.nodup_cons.mpr ⟨hr,h.r.imp fun z=>by omega⟩)
 refine ⟨qew hs nd,h.l,by rw[hp.length_eq,List.length_cons];have:=h.rl;omega,h.ll,fun p hp'=>?_,fun x hx=>?_,fun x hx=>?_⟩
 ·by_cases e:p.1=r
  ·exact .inl (hp.mem_iff.mpr (by rw[e];exact List.mem_cons_self ..))
  ·exact (h.cov p (ybu.mpr ⟨hp',e⟩)).imp (fun z=>hp.mem_iff.mpr (List.mem_cons_of_mem _ z)) id
 ·rcases List.mem_cons.mp (hp.mem_iff.mp hx) with z|z
  ·exact ⟨_,hb,z.symm⟩
  ·obtain ⟨p,hp,e⟩:=h.rin x z
   exact ⟨p,(ybu.mp hp).1,e⟩
 ·obtain ⟨p,hp,e⟩:=h.lin x hx
  exact ⟨p,(ybu.mp hp).1,e⟩
theorem SpOk.line {bs:Bs}{n m:Nat}{R L L':List Int}{r:Int}{l:Int} (h:SpOk (qby bs l) n (m-1) R L) (hm:0<m) (hb:(r,l)∈bs) (hp:L'.Perm (l::L)) (hs:L'.Pairwise (·≤·)):SpOk bs n m R L':=by
 have hr:l∉L:=fun z=>by
  obtain ⟨p,hp,e⟩:=h.lin l z
  exact (qbj.mp hp).2 e
 have nd:L'.Nodup:=hp.nodup_iff.mpr (List.nodup_cons.mpr ⟨hr,h.l.imp fun z=>by omega⟩)
 refine ⟨h.r,qew hs nd,h.rl,by rw[hp.length_eq,List.length_cons];have:=h.ll;omega,fun p hp'=>?_,fun x hx=>?_,fun x hx=>?_⟩
 ·by_cases e:p.2=l
  ·exact .inr (hp.mem_iff.mpr (by rw[e];exact List.mem_cons_self ..))
  ·exact (h.cov p (qbj.mpr ⟨hp',e⟩)).imp id fun z=>hp.mem_iff.mpr (List.mem_cons_of_mem _ z)
 ·obtain ⟨p,hp,e⟩:=h.rin x hx
  exact ⟨p,(qbj.mp hp).1,e⟩
 ·rcases List.mem_cons.mp (hp.mem_iff.mp hx) with z|z
  ·exact ⟨_,hb,z.symm⟩
  ·obtain ⟨p,hp,e⟩:=h.lin x z
   exact ⟨p,(qbj.mp hp).1,e⟩
theorem qe4 {bs C:Bs}{R L:List Int}{n m:Nat} (h:Cov bs R L C) (hl:n+m<C.length):ybn bs n m (.cells C):=by
 refine ⟨h.sub,fun _=>?_,fun _=>h.cl,hl⟩
 exact List.pairwise_map.mpr (h.cr.imp fun z=>by omega)
theorem qgf {bs C:Bs}{R L:List Int}{n m:Nat} (h:Cov bs R L C) (h1:R.length≤n) (h2:L.length≤m):SpOk bs n m R L:=⟨h.r,h.l,h1,h2,h.cov,h.rin,h.lin⟩
end Mc
namespace Mc
open PySem L2 PyProof.Rows Mx
theorem PT.bs_eq {H:Hp}{ts:List TL}{bs:Bs} (h:PT H ts bs):bs=ts.map fun t=>(t.2.getD 0 0,t.2.getD 1 0):=by
 have:=congrArg (List.map fun z:List Int=>(z.getD 0 0,z.getD 1 0)) h.eq
 rw[List.map_map,List.map_map] at this
 have e:((fun z:List Int=>(z.getD 0 0,z.getD 1 0)) ∘ pr2)=id:=rfl
 rw[e,List.map_id] at this
 exact this.symm
theorem PT.of_mem {H:Hp}{ts:List TL}{bs:Bs} (h:PT H ts bs) {t:TL} (ht:t∈ts):∃ r l,t.2=[r,l]∧(r,l)∈bs∧H t.1=some (.tup [.int r,.int l]):=by
 have:t.2∈bs.map pr2:=by rw[← h.eq];exact List.mem_map_of_mem ht
 obtain ⟨p,hp,e⟩:=List.mem_map.mp this
 refine ⟨p.1,p.2,e.symm,hp,?_⟩
 rw[h.at_ t ht,← e]
 rfl
theorem PT.sub {H:Hp}{ts us:List TL}{bs:Bs} (h:PT H ts bs) (hs:∀ t∈us,t∈ts):PT H us (us.map fun t=>(t.2.getD 0 0,t.2.getD 1 0)):=by
 refine ⟨?_,fun t ht=>h.at_ t (hs t ht)⟩
 rw[List.map_map]
 refine List.map_congr_left fun t ht=>?_
 obtain ⟨r,l,e,_⟩:=h.of_mem (hs t ht)
 show t.2=pr2 (t.2.getD 0 0,t.2.getD 1 0)
 rw[e]
 rfl
def kp (i:Nat) (t:TL):Int:=t.2.getD i 0
section
variable {P:Program}{w:World}{K:PySem.W.Frag}{mg:Str→Option Value}{base:Heap}
def yav (i:Nat):Sp:=fun vs H Q _=>∃ (b:Addr) (r:Int) (ts:List TL) (bs:Bs),vs=[.ref b,.int r]∧H b=some (.lst (yaf ts))∧PT H ts bs∧bs.length≤100∧
 ∀ p H',Same H H'→H p=none→H' p=some (.lst (yaf (ts.filter fun t=>!decide (kp i t=r))))→Q (.ref p) H'
abbrev qbg:Stmt:=top 9
theorem qch:FnScope ["broken","row"] ["broken","row"] (qaf qbg):=⟨rfl,rfl,rfl,by decide +kernel,rfl,by decide +kernel,by decide +kernel⟩
theorem ok_wrow (B:Bl mg) (F:FnAt K mg "without_row" qbg ["broken","row"]):Has P w K mg base 1 "without_row" ["broken","row"] (yav 0):=by
 refine Has.ofQ F qch (fun vs H Q E h=>?_) (fun f cdv A outer s H vs Q E hr h=>?_)
 ·obtain ⟨b,r,ts,bs,rfl,_⟩:=h
  rfl
 ·obtain ⟨b,r,ts,bs,rfl,hb,hP,hbl,k⟩:=h
  have hpl:=hP.len
  have sc:=qch
  refine ⟨_,(qak rfl (yae (qag (qaa (qa1 rfl (yam rfl) (M:=["cell","row"]) (ix:=[none,some 1]) (qa4 (pv 0)) (fun _ _ _ _=>(yaj (i:=0) (show List.Nodup (["cell","row"]:List Str) by decide +kernel) rfl (Or.inl rfl))) (fun _ _ _ _=>(ycl (qbt yer (qav (ya7 (K:=K) rfl) (pv 0) qab (fun _ _=>rfl)) (pv 1) (yal _)))) (fun _ _ _ _=>(pv 0))))))),?_⟩
  refine ⟨_,rfl,b,rfl,⟨_,SqL.of hb⟩,fun D nD=>ya2 (n:=ts.length) (fun i H2=>Same H H2∧H2 D=some (.lst (yaf ((ts.take i).filter fun t=>!decide (kp 0 t=r))))) ⟨(Same.refl H).upd nD,yaa⟩ ?_ ?_⟩
  ·rintro H2 ⟨s2,e2⟩
   rw[List.take_length] at e2
   exact ⟨⟨_,SqL.of (s2 _ _ hb),by unfold yaf;simp⟩,k D H2 s2 nD e2⟩
  ·rintro i H2 hi ⟨s2,e2⟩
   have hb2:=s2 _ _ hb
   have ht:ts[i]?=some ts[i]:=List.getElem?_eq_getElem hi
   obtain ⟨r1,l1,et,_,hat⟩:=hP.of_mem (List.getElem_mem hi)
   generalize ts[i]=t at ht et hat
   have hti:(yaf ts)[i]?=some (.ref t.1):=by unfold yaf;rw[List.getElem?_map,ht];rfl
   refine ⟨⟨_,_,SqL.of hb2,hti⟩,?_⟩
   rintro x H3 ⟨rfl,hx⟩
   have hx':=hx _ (SqL.of hb2)
   rw[hti] at hx'
   cases hx'
   have tk:ts.take (i+1)=ts.take i++[t]:=by rw[List.take_add_one,ht];rfl
   have fl:((ts.take i).filter fun t=>!decide (kp 0 t=r)).length≤i:=Nat.le_trans (List.length_filter_le _ _) (by rw[List.length_take];omega)
   have ek:kp 0 t=r1:=by unfold kp;rw[et];rfl
   refine ⟨qap.set (qap.refl _) rfl,?_⟩
   refine ⟨_,rfl,_,_,_,_,rfl,rfl,SqT.of (s2 _ _ hat),qae 0 rfl,_,rfl,rfl,_,rfl,?_⟩
   by_cases hc:r1=r
   ·refine iteN (by rw[hc];simp) ⟨s2,?_⟩
    rw[e2,tk,List.filter_append,List.filter_cons_of_neg (by rw[ek];simp[hc])]
    simp
   ·refine iteB (by rw[decide_eq_false fun z=>hc (by injection z)];rfl) ⟨_,rfl,_,e2,qa9 (by unfold yaf;rw[List.length_map];omega),s2.at nD,?_⟩
    rw[yaa,tk,List.filter_append,List.filter_cons_of_pos (by rw[ek];simp[hc])]
    unfold yaf
    rw[List.map_append]
    rfl
abbrev ybb:Stmt:=top 10
theorem yb9:FnScope ["broken","line"] ["broken","line"] (qaf ybb):=⟨rfl,rfl,rfl,by decide +kernel,rfl,by decide +kernel,by decide +kernel⟩
theorem ok_wline (B:Bl mg) (F:FnAt K mg "without_line" ybb ["broken","line"]):Has P w K mg base 1 "without_line" ["broken","line"] (yav 1):=by
 refine Has.ofQ F yb9 (fun vs H Q E h=>?_) (fun f cdv A outer s H vs Q E hr h=>?_)
 ·obtain ⟨b,r,ts,bs,rfl,_⟩:=h
  rfl
 ·obtain ⟨b,r,ts,bs,rfl,hb,hP,hbl,k⟩:=h
  have hpl:=hP.len
  have sc:=yb9
  refine ⟨_,(qak rfl (yae (qag (qaa (qa1 rfl (yam rfl) (M:=["cell","line"]) (ix:=[none,some 1]) (qa4 (pv 0)) (fun _ _ _ _=>(yaj (i:=0) (show List.Nodup (["cell","line"]:List Str) by decide +kernel) rfl (Or.inl rfl))) (fun _ _ _ _=>(ycl (qbt yer (qav (ya7 (K:=K) rfl) (pv 0) qab (fun _ _=>rfl)) (pv 1) (yal _)))) (fun _ _ _ _=>(pv 0))))))),?_⟩
  refine ⟨_,rfl,b,rfl,⟨_,SqL.of hb⟩,fun D nD=>ya2 (n:=ts.length) (fun i H2=>Same H H2∧H2 D=some (.lst (yaf ((ts.take i).filter fun t=>!decide (kp 1 t=r))))) ⟨(Same.refl H).upd nD,yaa⟩ ?_ ?_⟩
  ·rintro H2 ⟨s2,e2⟩
   rw[List.take_length] at e2
   exact ⟨⟨_,SqL.of (s2 _ _ hb),by unfold yaf;simp⟩,k D H2 s2 nD e2⟩
  ·rintro i H2 hi ⟨s2,e2⟩
   have hb2:=s2 _ _ hb
   have ht:ts[i]?=some ts[i]:=List.getElem?_eq_getElem hi
   obtain ⟨r1,l1,et,_,hat⟩:=hP.of_mem (List.getElem_mem hi)
   generalize ts[i]=t at ht et hat
   have hti:(yaf ts)[i]?=some (.ref t.1):=by unfold yaf;rw[List.getElem?_map,ht];rfl
   refine ⟨⟨_,_,SqL.of hb2,hti⟩,?_⟩
   rintro x H3 ⟨rfl,hx⟩
   have hx':=hx _ (SqL.of hb2)
   rw[hti] at hx'
   cases hx'
   have tk:ts.take (i+1)=ts.take i++[t]:=by rw[List.take_add_one,ht];rfl
   have fl:((ts.take i).filter fun t=>!decide (kp 1 t=r)).length≤i:=Nat.le_trans (List.length_filter_le _ _) (by rw[List.length_take];omega)
   have ek:kp 1 t=l1:=by unfold kp;rw[et];rfl
   refine ⟨qap.set (qap.refl _) rfl,?_⟩
   refine ⟨_,rfl,_,_,_,_,rfl,rfl,SqT.of (s2 _ _ hat),qae 1 rfl,_,rfl,rfl,_,rfl,?_⟩
   by_cases hc:l1=r
   ·refine iteN (by rw[hc];simp) ⟨s2,?_⟩
    rw[e2,tk,List.filter_append,List.filter_cons_of_neg (by rw[ek];simp[hc])]
    simp
   ·refine iteB (by rw[decide_eq_false fun z=>hc (by injection z)];rfl) ⟨_,rfl,_,e2,qa9 (by unfold yaf;rw[List.length_map];omega),s2.at nD,?_⟩
    rw[yaa,tk,List.filter_append,List.filter_cons_of_pos (by rw[ek];simp[hc])]
    unfold yaf
    rw[List.map_append]
    rfl
def kvO (i:Nat) (us:List TL):List (Key×V):=us.map fun t=>((Sum.inl (kp i t):Key),V.ref t.1)
theorem valO (i:Nat):∀ (us:List TL) (x:Int),(valV (kvO i us) (Sum.inl x)).isSome=decide (x∈us.map (kp i))
 | [],x=>rfl
 | e::M,x=>by
  by_cases h:kp i e=x
  ·rw[show valV (kvO i (e::M)) (Sum.inl x)=some (V.ref e.1) from qaz (p:=((Sum.inl (kp i e):Key),V.ref e.1)) (by rw[h])]
   simp[h]
  ·rw[show valV (kvO i (e::M)) (Sum.inl x)=valV (kvO i M) (Sum.inl x) from yax (p:=((Sum.inl (kp i e):Key),V.ref e.1)) fun z=>h (Sum.inl.inj z),valO i M x]
   refine decide_eq_decide.mpr ?_
   rw[List.map_cons,List.mem_cons]
   exact ⟨.inr,fun z=>z.elim (fun z=>absurd z.symm h) id⟩
structure OneOf (i:Nat) (ts us:List TL):Prop where
 sub:∀ t∈us,t∈ts
 nd:(us.map (kp i)).Nodup
 all:∀ t∈ts,kp i t∈us.map (kp i)
def sp_one:Sp:=fun vs H Q _=>∃ (b:Addr) (i:Nat) (ts:List TL) (bs:Bs),vs=[.ref b,.int i]∧i<2∧H b=some (.lst (yaf ts))∧PT H ts bs∧bs.length≤100∧
 ∀ p us H',Same H H'→H p=none→H' p=some (.dK (kvO i us))→us.length≤ts.length→OneOf i ts us→Q (.ref p) H'
abbrev ybh:Stmt:=top 11
theorem yci:FnScope ["broken","place","found","cell"] ["broken","place"] (qaf ybh):=⟨rfl,rfl,rfl,by decide +kernel,rfl,by decide +kernel,by decide +kernel⟩
theorem ok_one (B:Bl mg) (F:FnAt K mg "one_in_each" ybh ["broken","place"]):Has P w K mg base 1 "one_in_each" ["broken","place"] sp_one:=by
 refine Has.ofQ F yci (fun vs H Q E h=>?_) (fun f cdv A outer s H vs Q E hr h=>?_)
 ·obtain ⟨b,i,ts,bs,rfl,_⟩:=h
  rfl
 ·obtain ⟨b,i,ts,bs,rfl,hi2,hb,hP,hbl,k⟩:=h
  have hpl:=hP.len
  have sc:=yci
  refine ⟨_,(qak rfl (yac (qal (i:=2) sc.nd rfl (Or.inl rfl) (qaa qcp))
   (yac (qbv PassesOwn.never rfl (yc0 (qaa (pv 0))) (yaj (i:=3) sc.nd rfl (Or.inl rfl))
    (yae (qck (qaa (qd4 PySem.F.plainAttrs_dict PySem.F.slot_dict_setdefault PySem.F.type_dict_setdefault yee (pv 2) (qac (qav qaj (pv 3) (pv 1) (fun _ _=>rfl)) (qac (pv 3) yah)))))))
   (yae (qag (qaa (pv 2))))))),?_⟩
  refine fun p np=>?_
  refine ⟨_,rfl,b,rfl,⟨_,SqL.of (by rw[qad (yab hb np)];exact hb)⟩,ycb (xs:=yaf ts) (fun j σ H2=>∃ (o:Option V) (us:List TL),σ=[some (.ref b),some (.int i),some (.ref p),o]∧Same H H2∧H2 p=some (.dK (kvO i us))∧us.length≤j∧OneOf i (ts.take j) us)
   ⟨none,[],rfl,(Same.refl H).upd np,yaa,Nat.le_refl _,fun t h=>by simp at h,List.nodup_nil,fun t h=>by simp at h⟩ (fun j σ H2 _ ⟨_,_,_,s2,_⟩=>SqL.of (s2 _ _ hb)) ?_ ?_⟩
  ·rintro j x σ H2 hx ⟨o,us,rfl,s2,hp2,hul,on⟩
   unfold yaf at hx
   obtain ⟨t,ht,rfl⟩:=qgj hx
   have hj:j<ts.length:=(List.getElem?_eq_some_iff.mp ht).1
   obtain ⟨r1,l1,et,_,hat⟩:=hP.of_mem (List.mem_of_getElem? ht)
   have tk:ts.take (j+1)=ts.take j++[t]:=by rw[List.take_add_one,ht];rfl
   have atk:atI [V.int r1,.int l1] (i:Int)=some (.int (kp i t)):=by
    unfold kp
    rw[et]
    rcases (by omega:i=0∨i=1) with rfl|rfl<;>rfl
   have kl:(kvO i us).length=us.length:=List.length_map _
   refine ⟨_,rfl,.inr (.inr (.inl ⟨rfl,.inl ⟨_,hp2⟩⟩)),_,rfl,_,rfl,t.1,_,_,_,rfl,rfl,SqT.of (s2 _ _ hat),atk,_,rfl,?_⟩
   refine ⟨p,kvO i us,.inl (kp i t),.ref t.1,rfl,rfl,hp2,qa9 (by omega),fun y hy=>?_,fun hn=>?_⟩
   ·have hin:kp i t∈us.map (kp i):=by
     have:=valO i us (kp i t)
     rw[hy] at this
     exact of_decide_eq_true this.symm
    refine ⟨_,us,rfl,s2,hp2,by omega,fun u hu=>by rw[tk];exact List.mem_append_left _ (on.sub u hu),on.nd,fun u hu=>?_⟩
    rw[tk] at hu
    rcases List.mem_append.mp hu with z|z
    ·exact on.all u z
    ·rw[List.mem_singleton.mp z];exact hin
   ·have hin:kp i t∉us.map (kp i):=fun z=>by
     have:=valO i us (kp i t)
     rw[hn,decide_eq_true z] at this
     cases this
    refine ⟨_,us++[t],rfl,s2.at np,?_,by rw[List.length_append,List.length_singleton];omega,fun u hu=>?_,?_,fun u hu=>?_⟩
    ·rw[yaa,qd8 _ hn]
     unfold kvO
     rw[List.map_append]
     rfl
    ·rw[tk]
     rcases List.mem_append.mp hu with z|z
     ·exact List.mem_append_left _ (on.sub u z)
     ·exact List.mem_append_right _ z
    ·rw[List.map_append]
     exact ydp on.nd hin
    ·rw[tk] at hu
     rw[List.map_append]
     rcases List.mem_append.mp hu with z|z
     ·exact List.mem_append_left _ (on.all u z)
     ·rw[List.mem_singleton.mp z];exact List.mem_append_right _ (List.mem_singleton.mpr rfl)
  ·rintro σ H2 ⟨o,us,rfl,s2,hp2,hul,on⟩
   have ez:ts.take (yaf ts).length=ts:=List.take_of_length_le (by unfold yaf;rw[List.length_map];omega)
   rw[ez] at on
   exact ⟨_,rfl,k p us H2 s2 np hp2 (by unfold yaf at hul;rw[List.length_map] at hul;exact hul) on⟩
end
end Mc
namespace Mc
open PySem L2 PyProof.Rows Mx
inductive TrAt (N:Addr→Prop) (H:Hp):V→Tr→Prop where
 | cells {p c:Addr}{cs:List TL}{C:Bs}:H p=some (.tup [.str "cells",.ref c])→H c=some (.lst (yaf cs))→PT H cs C→N c→C.length≤1000→TrAt N H (.ref p) (.cells C)
 | split {p d:Addr}{r l:Int}{v1 v2:V}{t1 t2:Tr}:H p=some (.tup [.str "split",.ref d,v1,v2])→H d=some (.tup [.int r,.int l])→TrAt N H v1 t1→TrAt N H v2 t2→TrAt N H (.ref p) (.split r l t1 t2)
 | nil:TrAt N H .non .nil
theorem TrAt.imp {N N':Addr→Prop}{H:Hp} (i:∀ c,N c→N' c) {v:V}{t:Tr} (h:TrAt N H v t):TrAt N' H v t:=by
 induction h with
 | cells a b c d e=>exact .cells a b c (i _ d) e
 | split a b _ _ i1 i2=>exact .split a b i1 i2
 | nil=>exact .nil
theorem TrAt.keep {N:Addr→Prop}{H H':Hp} (k:∀ b u,(∃ xs,u=.lst xs)∨(∃ xs,u=.tup xs)→H b=some u→H' b=some u) {v:V}{t:Tr} (h:TrAt N H v t):TrAt N H' v t:=by
 induction h with
 | cells a b c d e=>exact .cells (k _ _ (.inr ⟨_,rfl⟩) a) (k _ _ (.inl ⟨_,rfl⟩) b) ⟨c.eq,fun t ht=>k _ _ (.inr ⟨_,rfl⟩) (c.at_ t ht)⟩ d e
 | nil=>exact .nil
 | split a b _ _ i1 i2=>exact .split (k _ _ (.inr ⟨_,rfl⟩) a) (k _ _ (.inr ⟨_,rfl⟩) b) i1 i2
theorem TrAt.same {N:Addr→Prop}{H H':Hp}{v:V}{t:Tr} (h:TrAt N H v t) (s:Same H H'):TrAt N H' v t:=h.keep fun b u _ e=>s b u e
structure Spd (H:Hp) (p pr pl:Addr) (R L:List Int):Prop where
 t:H p=some (.tup [.str "spares",.ref pr,.ref pl])
 r:H pr=some (.lst (R.map V.int))
 l:H pl=some (.lst (L.map V.int))
 ne:pr≠pl
theorem qf0 {i:Nat}{H:Hp}{ts us:List TL}{bs:Bs} (hP:PT H ts bs) (on:OneOf i ts us) (hi:i<2):(∀ p∈us.map (fun t:TL=>(t.2.getD 0 0,t.2.getD 1 0)),p∈bs)∧((us.map fun t:TL=>(t.2.getD 0 0,t.2.getD 1 0)).map fun p=>if i=0 then p.1 else p.2).Nodup:=by
 constructor
 ·intro p hp
  obtain ⟨t,ht,rfl⟩:=List.mem_map.mp hp
  rw[hP.bs_eq]
  exact List.mem_map_of_mem (f:=fun t:TL=>(t.2.getD 0 0,t.2.getD 1 0)) (on.sub t ht)
 ·rw[List.map_map]
  have e:((fun p:Int×Int=>if i=0 then p.1 else p.2) ∘ fun t:TL=>(t.2.getD 0 0,t.2.getD 1 0))=kp i:=by
   funext t
   rcases (by omega:i=0∨i=1) with rfl|rfl<;>rfl
  rw[e]
  exact on.nd
theorem one_cov {i:Nat}{H:Hp}{ts us:List TL}{bs:Bs} (hP:PT H ts bs) (on:OneOf i ts us) (hi:i<2) {N:List Int} (hp:N.Perm (us.map (kp i))):(∀ p∈bs,(if i=0 then p.1 else p.2)∈N)∧∀ x∈N,∃ p∈bs,(if i=0 then p.1 else p.2)=x:=by
 have e:∀ t:TL,(if i=0 then (t.2.getD 0 0,t.2.getD 1 0).1 else (t.2.getD 0 0,t.2.getD 1 0).2)=kp i t:=fun t=>by
  rcases (by omega:i=0∨i=1) with rfl|rfl<;>rfl
 constructor
 ·intro p hb
  rw[hP.bs_eq] at hb
  obtain ⟨t,ht,rfl⟩:=List.mem_map.mp hb
  rw[e,hp.mem_iff]
  exact on.all t ht
 ·intro x hx
  obtain ⟨t,ht,rfl⟩:=List.mem_map.mp (hp.mem_iff.mp hx)
  refine ⟨(t.2.getD 0 0,t.2.getD 1 0),?_,e t⟩
  rw[hP.bs_eq]
  exact List.mem_map_of_mem (f:=fun t:TL=>(t.2.getD 0 0,t.2.getD 1 0)) (on.sub t ht)
section
variable {P:Program}{w:World}{K:PySem.W.Frag}{mg:Str→Option Value}{base:Heap}
def qcb:Sp:=fun vs H Q _=>∃ (b:Addr) (n m:Nat) (ts:List TL) (bs:Bs),vs=[.ref b,.int n,.int m]∧(n=0∨m=0)∧H b=some (.lst (yaf ts))∧PT H ts bs∧bs.length≤63∧B12 bs∧
 (∀ p pr pl R L H',Same H H'→H pr=none→H pl=none→Spd H' p pr pl R L→SpOk bs n m R L→Q (.ref p) H')∧
 ∀ p v t H',Same H H'→H' p=some (.tup [.str "none",v])→TrAt (fun c=>H c=none) H' v t→ybn bs n m t→Q (.ref p) H'
abbrev yas:Stmt:=top 12
theorem qbc:FnScope ["broken","rows","lines","place","found","needed"] ["broken","rows","lines"] (qaf yas):=⟨rfl,rfl,rfl,by decide +kernel,rfl,by decide +kernel,by decide +kernel⟩
theorem qfo (B:Bl mg) (qd3:Has P w K mg base 1 "one_in_each" ["broken","place"] sp_one) (F:FnAt K mg "spared_by_one_sort" yas ["broken","rows","lines"]):Has P w K mg base 2 "spared_by_one_sort" ["broken","rows","lines"] qcb:=by
 refine Has.ofQ F qbc (fun vs H Q E h=>?_) (fun f cdv A outer s H vs Q E hr h=>?_)
 ·obtain ⟨b,n,m,ts,bs,rfl,_⟩:=h
  rfl
 ·obtain ⟨b,n,m,ts,bs,rfl,hnm,hb,hP,hbl,h12,k1,k2⟩:=h
  have hpl:=hP.len
  have sc:=qbc
  refine ⟨_,(qak rfl (yac (qal (i:=3) sc.nd rfl (Or.inl rfl) (ygg (qcx (yak qcf (qaa (pv 1)) (qaa qab) (yal _)) (qaa qab) (qaa qab))))
   (yac (qal (i:=4) sc.nd rfl (Or.inl rfl) (yag qd3 hr (qah (qaa (pv 0)) (qah (qaa (pv 3)) yad))))
   (yac (yan (yak ycf (qai qge rfl (B.of rfl) boot_len (qah (qaa (pv 4)) yad)) (yat ya1 (qaa (pv 1)) (qaa (pv 2))) (yal _))
    (yae (qag (qbd (qaw (qaa qa5) (qa_tp (qbd (qaw (qaa qa5) (qb6 (qaa (ydj (yfn rfl) rfl (B.of rfl) boot_list (qac (ygv (pv 4)) yah))) yad))) yad)))))
    qam)
   (yac (qal (i:=5) sc.nd rfl (Or.inl rfl) (qai (qdf rfl) rfl (B.of rfl) qau (qah (qaa (pv 4)) yad)))
   (yae (qag (qcx (yak qcf (qaa (pv 3)) (qaa qab) (yal _)) (qbd (qaw (qaa qa5) (qa_ls (qbn yad) (qah (qaa (pv 5)) yad)))) (qbd (qaw (qaa qa5) (qah (qaa (pv 5)) (qa_ls (qbn yad) yad)))))))))))),?_⟩
  refine ⟨fun v H'=>H'=H∧∃ i:Nat,v=.int i∧((i=1∧n=0)∨(i=0∧n≠0∧m=0)),?_,?_⟩
  ·refine ⟨_,rfl,rfl,_,rfl,?_⟩
   by_cases hn:n=0
   ·exact iteB (by rw[hn];rfl) ⟨rfl,1,rfl,.inl ⟨rfl,hn⟩⟩
   ·exact iteN (decide_eq_false fun z=>hn (by injection z;omega)) ⟨rfl,0,rfl,.inr ⟨rfl,hn,hnm.resolve_left hn⟩⟩
  rintro v H' ⟨eH,i,rfl,hi⟩
  have eH':=eH.symm
  subst eH'
  have hi2:i<2:=by omega
  refine ⟨_,rfl,_,rfl,b,i,ts,bs,rfl,hi2,hb,hP,by omega,fun p us H1 s1 np hp1 hul on=>?_⟩
  have kl:(kvO i us).length=us.length:=List.length_map _
  obtain ⟨o1,o2⟩:=qf0 hP on hi2
  refine ⟨_,rfl,p,_,rfl,hp1,_,rfl,_,rfl,_,_,rfl,rfl,_,_,rfl,rfl,_,rfl,?_⟩
  by_cases hlen:n+m<us.length
  ·refine iteD (by rw[kl];omega) ?_
   refine ⟨_,rfl,p,_,rfl,.inl hp1,fun v nv=>?_⟩
   refine ⟨v,p,_,rfl,yaa,.inl (by rw[qad (yab hp1 nv)];exact hp1),fun c nc=>?_⟩
   have ec:(kvO i us).map (·.2)=yaf us:=by unfold kvO yaf;rw[List.map_map];rfl
   rw[ec]
   have s2:=(s1.upd (o:=vwV v p) nv).upd (o:=.lst (yaf us)) nc
   have e2:upd (upd H1 v (vwV v p)) c (.lst (yaf us)) c=some (.lst (yaf us)):=yaa
   revert s2 e2
   generalize upd (upd H1 v (vwV v p)) c (.lst (yaf us))=H2
   intro s2 e2
   refine ⟨(by show 2≤sizeLine;decide),fun q nq=>⟨(by show 2≤sizeLine;decide),fun r nr=>?_⟩⟩
   have s3:=(s2.upd (o:=.tup [.str "cells",.ref c]) nq).upd (o:=.tup [.str "none",.ref q]) nr
   have eq:upd (upd H2 q (.tup [.str "cells",.ref c])) r (.tup [.str "none",.ref q]) q=some (.tup [.str "cells",.ref c]):=by rw[qad (yab yaa nr)];exact yaa
   have ec3:upd (upd H2 q (.tup [.str "cells",.ref c])) r (.tup [.str "none",.ref q]) c=some (.lst (yaf us)):=((Same.refl H2).upd (o:=.tup [.str "cells",.ref c]) nq).upd (o:=.tup [.str "none",.ref q]) nr _ _ e2
   refine k2 r (.ref q) (.cells (us.map fun t=>(t.2.getD 0 0,t.2.getD 1 0))) _ s3 yaa (.cells eq ec3 ((hP.sub on.sub).same s3) ((s1.upd (o:=vwV v p) nv).free nc) (by rw[List.length_map];have:=ybc (List.pairwise_map.mp on.nd |>.imp fun h e=>h (congrArg _ e)) on.sub;have:=hP.len;omega)) ⟨o1,fun h0=>?_,fun h0=>?_,by rw[List.length_map];exact hlen⟩
   ·have i0:i=0:=by omega
    subst i0
    exact o2
   ·have i1:i=1:=by omega
    subst i1
    exact o2
  ·refine qb4 (by rw[kl];omega) ?_
   have hsm:us.length≤63:=by omega
   refine ⟨_,rfl,p,kvO i us,us.map (kp i),rfl,.inl hp1,by unfold kvO;rw[List.map_map,List.map_map];rfl,by rw[List.length_map];omega,fun q N nq pN sN=>?_⟩
   have s2:=s1.upd (o:=.lst (N.map V.int)) nq
   have e2:upd H1 q (.lst (N.map V.int)) q=some (.lst (N.map V.int)):=yaa
   revert s2 e2
   generalize upd H1 q (.lst (N.map V.int))=H2
   intro s2 e2
   have nqH:H q=none:=s1.free nq
   have rN:N.Pairwise (· < ·):=qew sN (pN.nodup_iff.mpr on.nd)
   have lN:N.length=us.length:=by rw[pN.length_eq,List.length_map]
   obtain ⟨c1,c2⟩:=one_cov hP on hi2 pN
   refine ⟨_,rfl,rfl,_,rfl,?_⟩
   rcases hi with ⟨rfl,hn⟩|⟨rfl,hn,hm⟩
   ·refine iteB rfl ⟨Nat.zero_le _,fun z nz=>⟨_,rfl,(by show 3≤sizeLine;decide),fun r nr=>?_⟩⟩
    have s3:=(s2.upd (o:=.lst []) nz).upd (o:=.tup [.str "spares",.ref z,.ref q]) nr
    have ez:upd (upd H2 z (.lst [])) r (.tup [.str "spares",.ref z,.ref q]) z=some (.lst []):=by rw[qad (yab yaa nr)];exact yaa
    have eq3:=((Same.refl H2).upd (o:=.lst []) nz).upd (o:=.tup [.str "spares",.ref z,.ref q]) nr _ _ e2
    exact k1 r z q [] N _ s3 (s2.free nz) nqH ⟨yaa,ez,eq3,(yab e2 nz).symm⟩ ⟨List.Pairwise.nil,rN,Nat.zero_le _,by omega,fun p hp=>.inr (c1 p hp),fun x hx=>by simp at hx,c2⟩
   ·refine iteN rfl ⟨_,rfl,Nat.zero_le _,fun z nz=>⟨(by show 3≤sizeLine;decide),fun r nr=>?_⟩⟩
    have s3:=(s2.upd (o:=.lst []) nz).upd (o:=.tup [.str "spares",.ref q,.ref z]) nr
    have ez:upd (upd H2 z (.lst [])) r (.tup [.str "spares",.ref q,.ref z]) z=some (.lst []):=by rw[qad (yab yaa nr)];exact yaa
    have eq3:=((Same.refl H2).upd (o:=.lst []) nz).upd (o:=.tup [.str "spares",.ref q,.ref z]) nr _ _ e2
    exact k1 r q z N [] _ s3 nqH (s2.free nz) ⟨yaa,eq3,ez,yab e2 nz⟩ ⟨rN,List.Pairwise.nil,by omega,Nat.zero_le _,fun p hp=>.inl (c1 p hp),c2,fun x hx=>by simp at hx⟩
end
end Mc
namespace Mc
open PySem L2 PyProof.Rows Mx PySem.W
def lamQ:Str:=(("busiest" : Str)++(".<locals>." : Str))++("<lambda>" : Str)
def lamPos:Pos:=⟨55,27,55,94⟩
abbrev Tab (PB:Addr) (H:Hp):Prop:=TabS PB lamQ lamPos H
def qba (PB:Addr) (H H':Hp):Prop:=∀ b u,b≠PB→H b=some u→H' b=some u
theorem qba.trans {PB:Addr}{H H1 H2:Hp} (a:qba PB H H1) (b:qba PB H1 H2):qba PB H H2:=fun x u h e=>b x u h (a x u h e)
theorem Same.p {PB:Addr}{H H':Hp} (s:Same H H'):qba PB H H':=fun b u _ e=>s b u e
theorem Tab.same {PB:Addr}{H H':Hp} (t:Tab PB H) (s:Same H H'):Tab PB H':=t.imp (s _ _) fun ⟨c,a,b⟩=>⟨c,s _ _ a,s _ _ b⟩
theorem Tab.ne {PB:Addr}{H:Hp} (t:Tab PB H) {b:Addr}{u:HO} (e:H b=some u) (h:∀ ps,u≠.tbl ps):b≠PB:=fun z=>by
 rcases t with y|⟨_,y,_⟩
 ·rw[z,y] at e;exact h _ (Option.some.inj e).symm
 ·rw[z,y] at e;exact h _ (Option.some.inj e).symm
section
variable {P:Program}{w:World}{K:PySem.W.Frag}{mg:Str→Option Value}{base:Heap}{PB cB:Addr}
def qc4 (PB:Addr):Sp:=fun vs H Q _=>∃ (b:Addr) (ts:List TL) (bs:Bs),vs=[.ref b]∧H b=some (.lst (yaf ts))∧PT H ts bs∧bs.length≤63∧ts≠[]∧Tab PB H∧∀ t∈ts,∀ H',qba PB H H'→Tab PB H'→Q (.ref t.1) H'
abbrev qa6:Stmt:=top 13
theorem ydw:FnScope ["broken","rows","lines"] ["broken"] (qaf qa6):=⟨rfl,rfl,rfl,by decide +kernel,rfl,by decide +kernel,by decide +kernel⟩
def lamSc:Scope:=match yar qa6 with
 | [_,_,.Return (some (.Call _ _ [⟨_,.Lambda _ _ sc _,_⟩] _)) _]=>sc
 | _=>qaf qa6
theorem lamS {X:Cx} (h1:X.N=(["broken","rows","lines"]:List Str)) (h2:X.env.scope=qaf qa6):LamScope X (["cell","rows","lines"]:List Str) (["cell"]:List Str) [1,2] lamSc where
 kind:=rfl
 co:=rfl
 gen:=rfl
 nd:=by decide +kernel
 ndn:=by decide +kernel
 eq:=rfl
 pre:=rfl
 par:=fun x hx=>by
  rw[List.mem_singleton.mp hx]
  rfl
 fr:=fun j i x e1 e2=>by
  match j,e1,e2 with
  | 0,e1,e2=>
   cases e1
   cases e2
   refine ⟨by rw[h1];rfl,rfl,?_⟩
   show X.env.scope.names.lookup _=_
   rw[h2]
   rfl
  | 1,e1,e2=>
   cases e1
   cases e2
   refine ⟨by rw[h1];rfl,rfl,?_⟩
   show X.env.scope.names.lookup _=_
   rw[h2]
   rfl
  | j+2,e1,e2=>simp at e1
 only:=by decide +kernel
 out:=fun x hx e=>by
  show X.env.scope.names.lookup _=_
  rw[h2]
  revert x
  decide +kernel
theorem qft (B:Bl mg) (CH:CodeHd base cB PB) (BM:yd2 mg base) (F:FnAtC K mg "busiest" qa6 ["broken"] cB):Has P w K mg base 2 "busiest" ["broken"] (qc4 PB):=by
 refine Has.ofC F ydw (fun vs H Q E h=>?_) (fun f A outer s H vs Q E hr h=>?_)
 ·obtain ⟨b,ts,bs,rfl,_⟩:=h
  rfl
 ·obtain ⟨b,ts,bs,rfl,hb,hP,hbl,hne,tb,k⟩:=h
  have hpl:=hP.len
  have sc:=ydw
  refine ⟨_,(qak rfl (yac (qs_set (i:=1) sc.nd rfl (Or.inr rfl) (qa1 rfl (yam rfl) (M:=["cell"]) (ix:=[none]) (qa4 (pv 0)) (fun _ _ _ _=>(yaj (i:=0) (show List.Nodup (["cell"]:List Str) by decide +kernel) rfl (Or.inl rfl))) (fun _ _ _ _=>qbe) (fun _ _ _ _=>(qav (ya7 (K:=K) rfl) (pv 0) qab (fun _ _=>rfl)))))
   (yac (qs_set (i:=2) sc.nd rfl (Or.inr rfl) (qa1 rfl (yam rfl) (M:=["cell"]) (ix:=[none]) (qa4 (pv 0)) (fun _ _ _ _=>(yaj (i:=0) (show List.Nodup (["cell"]:List Str) by decide +kernel) rfl (Or.inl rfl))) (fun _ _ _ _=>qbe) (fun _ _ _ _=>(qav (ya7 (K:=K) rfl) (pv 0) qab (fun _ _=>rfl)))))
   (yae (qag (qaa (pe_maxK (P:=PB) (c:=cB) (N:=["cell","rows","lines"]) (ps:=["cell"]) (ix:=[1,2]) (m:=0) (pv 0) rfl rfl rfl CH BM (lamS rfl rfl) rfl (fun _ _ _=>rfl) hr (fun _ _ _ _=>(yc7 (qac (qas (qdp rfl) rfl (B.of rfl) boot_max (qac (pe_bmK (K:=K) rfl PySem.F.plainAttrs_list PySem.F.slot_list_count PySem.F.type_list_count qev (pv 1) (qac (qav (ya7 (K:=K) rfl) (pv 0) qab (fun _ _=>rfl)) yah)) (qac (pe_bmK (K:=K) rfl PySem.F.plainAttrs_list PySem.F.slot_list_count PySem.F.type_list_count qev (pv 2) (qac (qav (ya7 (K:=K) rfl) (pv 0) qab (fun _ _=>rfl)) yah)) yah))) (qac (pv 0) yah)))) rfl (B.of rfl)))))))),?_⟩
  have cmp:∀ (j:Nat) (j2:j<2) (H2:Hp),Same H H2→∀ (i:Nat) (hi:i<ts.length),∃ t r1 l1,ts[i]?=some t∧(yaf ts)[i]?=some (.ref t.1)∧H2 t.1=some (.tup [.int r1,.int l1])∧atI [V.int r1,.int l1] (j:Int)=some (.int (kp j t))∧(ts.take (i+1)).map (kp j)=(ts.take i).map (kp j)++[kp j t]:=fun j j2 H2 s2 i hi=>by
   have ht:ts[i]?=some ts[i]:=List.getElem?_eq_getElem hi
   obtain ⟨r1,l1,et,_,hat⟩:=hP.of_mem (List.getElem_mem hi)
   refine ⟨ts[i],r1,l1,ht,by unfold yaf;rw[List.getElem?_map,ht];rfl,s2 _ _ hat,?_,by rw[List.take_add_one,ht,List.map_append];rfl⟩
   unfold kp
   rw[et]
   rcases (by omega:j=0∨j=1) with rfl|rfl<;>rfl
  refine ⟨_,rfl,b,rfl,⟨_,SqL.of hb⟩,fun D nD=>ya2 (n:=ts.length) (fun i H2=>Same H H2∧H2 D=some (.lst (((ts.take i).map (kp 0)).map V.int))) ⟨(Same.refl H).upd nD,yaa⟩ ?_ ?_⟩
  rotate_left
  ·rintro i H2 hi ⟨s2,e2⟩
   obtain ⟨t,r1,l1,ht,hti,hat,atk,tk⟩:=cmp 0 (by decide) H2 s2 i hi
   refine ⟨⟨_,_,SqL.of (s2 _ _ hb),hti⟩,?_⟩
   rintro x H3 ⟨rfl,hx⟩
   have hx':=hx _ (SqL.of (s2 _ _ hb))
   rw[hti] at hx'
   cases hx'
   refine ⟨qap.set (qap.refl _) rfl,yes ?_⟩
   refine ⟨_,rfl,_,_,_,_,rfl,rfl,SqT.of hat,atk,_,e2,qa9 (by simp;omega),s2.at nD,?_⟩
   rw[yaa,tk,List.map_append]
   rfl
  rintro H2 ⟨s2,e2⟩
  rw[List.take_length] at e2
  refine ⟨⟨_,SqL.of (s2 _ _ hb),by unfold yaf;simp⟩,?_⟩
  refine ⟨_,rfl,b,rfl,⟨_,SqL.of (s2 _ _ hb)⟩,fun D2 nD2=>ya2 (n:=ts.length) (fun i H3=>Same H2 H3∧H3 D2=some (.lst (((ts.take i).map (kp 1)).map V.int))) ⟨(Same.refl H2).upd nD2,yaa⟩ ?_ ?_⟩
  rotate_left
  ·rintro i H3 hi ⟨s3,e3⟩
   obtain ⟨t,r1,l1,ht,hti,hat,atk,tk⟩:=cmp 1 (by decide) H3 (s2.trans s3) i hi
   have hb3:=s3 _ _ (s2 _ _ hb)
   refine ⟨⟨_,_,SqL.of hb3,hti⟩,?_⟩
   rintro x H4 ⟨rfl,hx⟩
   have hx':=hx _ (SqL.of hb3)
   rw[hti] at hx'
   cases hx'
   refine ⟨qap.set (qap.refl _) rfl,yes ?_⟩
   refine ⟨_,rfl,_,_,_,_,rfl,rfl,SqT.of hat,atk,_,e3,qa9 (by simp;omega),s3.at nD2,?_⟩
   rw[yaa,tk,List.map_append]
   rfl
  rintro H3 ⟨s3,e3⟩
  rw[List.take_length] at e3
  have s13:=s2.trans s3
  have hb3:=s13 _ _ hb
  have t3:Tab PB H3:=tb.same s13
  refine ⟨⟨_,SqL.of hb3,by unfold yaf;simp⟩,?_⟩
  refine ⟨_,rfl,b,ts,rfl,hb3,fun t ht=>s13 _ _ (hP.at_ t ht),hne,t3,fun H4 k4 t ht=>?_,fun t ht H4 k4 hY=>k t ht H4 ((Same.p s13).trans k4) (.inr hY)⟩
  obtain ⟨r1,l1,et,_,hat⟩:=hP.of_mem ht
  have hat4:=k4 _ _ (t3.ne (s13 _ _ hat) fun _ z=>by cases z) (s13 _ _ hat)
  have eD:=k4 _ _ (t3.ne (s3 _ _ e2) fun _ z=>by cases z) (s3 _ _ e2)
  have eD2:=k4 _ _ (t3.ne e3 fun _ z=>by cases z) e3
  refine ⟨_,rfl,.inl ⟨rfl,_,SqL.of eD⟩,_,rfl,t.1,_,_,_,rfl,rfl,SqT.of hat4,qae 0 rfl,D,_,_,rfl,rfl,eD,fun n1=>?_⟩
  refine ⟨_,rfl,.inl ⟨rfl,_,SqL.of eD2⟩,_,rfl,t.1,_,_,_,rfl,rfl,SqT.of hat4,qae 1 rfl,D2,_,_,rfl,rfl,eD2,fun n2=>?_⟩
  exact ⟨_,_,rfl,_,rfl,(by show 2≤sizeLine;decide),fun q nq=>⟨(Same.refl H4).upd nq,q,_,rfl,yaa⟩⟩
end
end Mc
namespace Mc
open PySem L2 PyProof.Rows Mx PySem.W
theorem qba.free {PB:Addr}{H H':Hp} (s:qba PB H H') (t:Tab PB H') {x:Addr} (h:H' x=none):H x=none:=by
 cases e:H x with
 | none=>rfl
 | some u=>
  have hx:x≠PB:=fun z=>by
   rcases t with y|⟨_,y,_⟩<;>(rw[z,y] at h;cases h)
  rw[s x u hx e] at h
  cases h
theorem PT.p {PB:Addr}{H H':Hp}{ts:List TL}{bs:Bs} (h:PT H ts bs) (s:qba PB H H') (t:Tab PB H):PT H' ts bs:=⟨h.eq,fun u hu=>s _ _ (t.ne (h.at_ u hu) fun _ z=>by cases z) (h.at_ u hu)⟩
theorem TrAt.p {N:Addr→Prop}{PB:Addr}{H H':Hp}{v:V}{t:Tr} (h:TrAt N H v t) (s:qba PB H H') (tb:Tab PB H):TrAt N H' v t:=h.keep fun b u hu e=>s b u (tb.ne e fun _ z=>by
 rcases hu with ⟨_,y⟩|⟨_,y⟩<;>(rw[y] at z;cases z)) e
theorem PT.wRow {H:Hp}{ts:List TL}{bs:Bs} (h:PT H ts bs) (r:Int):PT H (ts.filter fun t=>!decide (kp 0 t=r)) (qc3 bs r):=by
 have e:=h.sub (us:=ts.filter fun t=>!decide (kp 0 t=r)) fun t ht=>(List.mem_filter.mp ht).1
 have e2:qc3 bs r=(ts.filter fun t=>!decide (kp 0 t=r)).map fun t=>(t.2.getD 0 0,t.2.getD 1 0):=by
  unfold qc3
  conv=>lhs;rw[h.bs_eq]
  rw[List.filter_map]
  rfl
 rw[e2]
 exact e
theorem PT.wLine {H:Hp}{ts:List TL}{bs:Bs} (h:PT H ts bs) (r:Int):PT H (ts.filter fun t=>!decide (kp 1 t=r)) (qby bs r):=by
 have e:=h.sub (us:=ts.filter fun t=>!decide (kp 1 t=r)) fun t ht=>(List.mem_filter.mp ht).1
 have e2:qby bs r=(ts.filter fun t=>!decide (kp 1 t=r)).map fun t=>(t.2.getD 0 0,t.2.getD 1 0):=by
  unfold qby
  conv=>lhs;rw[h.bs_eq]
  rw[List.filter_map]
  rfl
 rw[e2]
 exact e
section
variable {P:Program}{w:World}{K:PySem.W.Frag}{mg:Str→Option Value}{base:Heap}{PB cB:Addr}
def SpEnd (PB:Addr) (H:Hp) (bs:Bs) (n m:Nat) (Q:VK):Prop:=
 (∀ p pr pl R L H',qba PB H H'→Tab PB H'→H pr=none→H pl=none→Spd H' p pr pl R L→SpOk bs n m R L→Q (.ref p) H')∧
 ∀ p v t H',qba PB H H'→Tab PB H'→H' p=some (.tup [.str "none",v])→TrAt (fun c=>H c=none) H' v t→ybn bs n m t→Q (.ref p) H'
def ydc (PB:Addr) (N:Nat):Sp:=fun vs H Q _=>∃ (b:Addr) (n m:Nat) (ts:List TL) (bs:Bs),vs=[.ref b,.int n,.int m]∧0<n∧0<m∧n+m≤N∧H b=some (.lst (yaf ts))∧PT H ts bs∧bs.length≤63∧B12 bs∧ts≠[]∧Tab PB H∧SpEnd PB H bs n m Q
def ycx (PB:Addr) (N:Nat):Sp:=fun vs H Q _=>∃ (b:Addr) (n m:Nat) (ts:List TL) (bs:Bs),vs=[.ref b,.int n,.int m]∧n+m≤N∧H b=some (.lst (yaf ts))∧PT H ts bs∧bs.length≤63∧B12 bs∧Tab PB H∧SpEnd PB H bs n m Q
abbrev qat:Stmt:=top 14
theorem ybq:FnScope ["broken","rows","lines","cell","one","other"] ["broken","rows","lines"] (qaf qat):=⟨rfl,rfl,rfl,by decide +kernel,rfl,by decide +kernel,by decide +kernel⟩
abbrev qct:Stmt:=top 15
theorem qei:FnScope ["broken","rows","lines","cover"] ["broken","rows","lines"] (qaf qct):=⟨rfl,rfl,rfl,by decide +kernel,rfl,by decide +kernel,by decide +kernel⟩
theorem qej {N:Nat} (B:Bl mg) (yce:Has P w K mg base 2 "spared_by_one_sort" ["broken","rows","lines"] qcb) (yd0:Has P w K mg base 14 "fewest" ["broken"] qcz) (qc0:Has P w K mg base (14+2*N) "spared_by_split" ["broken","rows","lines"] (ydc PB N))
  (F:FnAt K mg "spared" qct ["broken","rows","lines"]):Has P w K mg base (15+2*N) "spared" ["broken","rows","lines"] (ycx PB N):=by
 rw[show 15+2*N=(14+2*N)+1 by omega]
 refine Has.ofQ F qei (fun vs H Q E h=>?_) (fun f cdv A outer s H vs Q E hr h=>?_)
 ·obtain ⟨b,n,m,ts,bs,rfl,_⟩:=h
  rfl
 ·obtain ⟨b,n,m,ts,bs,rfl,hnm,hb,hP,hbl,h12,tb,k1,k2⟩:=h
  have sc:=qei
  refine ⟨_,(qak rfl (yac (yan (QW.pt (qb8 (yak qcf (qaa (pv 1)) (qaa qab) (yal _)) (ybw (yak qcf (qaa (pv 2)) (qaa qab) (yal _)))))
    (yae (qag (yag (hk:=(by omega)) yce hr (qah (qaa (pv 0)) (qah (qaa (pv 1)) (qah (qaa (pv 2)) yad))))))
    qam)
   (yac (qal (i:=3) sc.nd rfl (Or.inl rfl) (yag (hk:=(by omega)) yd0 hr (qah (qaa (pv 0)) yad)))
   (yac (yan (yak ycf (qai yai rfl (B.of rfl) boot_len (ya0 (qan qaj (qaa (pv 3)) (qaa qab) (fun _ _=>rfl)) yad)) (yat ya1 (qaa (pv 1)) (qaa (pv 2))) (yal _))
    (yae (qag (qbd (qaw (qaa qa5) (qa_tp (qbd (qaw (qaa qa5) (ya0 (qan qaj (qaa (pv 3)) (qaa qab) (fun _ _=>rfl)) yad))) yad)))))
    qam)
   (yac (yan (QW.pt (ycw (yak op_le (qai yai rfl (B.of rfl) boot_len (ya0 (qan qaj (qaa (pv 3)) (qaa qab) (fun _ _=>rfl)) yad)) (qaa (pv 1)) (yal _)) (yb1 (yak op_le (qai yai rfl (B.of rfl) boot_len (ya0 (qan qaj (qaa (pv 3)) (qaa qab) (fun _ _=>rfl)) yad)) (qaa (pv 2)) (yal _)))))
    (yae (qag (qbd (qaw (qaa qa5) (ya0 (qan qaj (qaa (pv 3)) (qaa qab) (fun _ _=>rfl)) (ya0 (qan qaj (qaa (pv 3)) (qaa qab) (fun _ _=>rfl)) yad))))))
    qam)
   (yae (qag (yag (hk:=Nat.le_refl _) qc0 hr (qah (qaa (pv 0)) (qah (qaa (pv 1)) (qah (qaa (pv 2)) yad))))))))))),?_⟩
  have one:n=0∨m=0→qcb [V.ref b,V.int n,V.int m] H Q E0:=fun h0=>⟨b,n,m,ts,bs,rfl,h0,hb,hP,hbl,h12,fun p pr pl R L H' s' a1 a2 a3 a4=>k1 p pr pl R L H' (Same.p s') (tb.same s') a1 a2 a3 a4,fun p v t H' s' a1 a2 a3=>k2 p v t H' (Same.p s') (tb.same s') a1 a2 a3⟩
  refine ⟨_,rfl,rfl,_,rfl,?_⟩
  by_cases hn:n=0
  ·refine iteB (by rw[hn];rfl) (iteT ⟨_,rfl,_,rfl,_,rfl,one (.inl hn)⟩)
  refine iteN (decide_eq_false fun z=>hn (by injection z;omega)) ⟨_,rfl,rfl,_,rfl,?_⟩
  by_cases hm:m=0
  ·refine iteB (by rw[hm];rfl) ⟨_,rfl,_,rfl,_,rfl,one (.inr hm)⟩
  refine iteN (decide_eq_false fun z=>hm (by injection z;omega)) ?_
  refine ⟨_,rfl,b,ts,bs,rfl,hb,hP,hbl,h12,fun p pr pl pc R L C cs H1 s1 npr npl npc nrl nrc nlc few cov=>?_⟩
  obtain ⟨ft,fr,fl,fc,fp⟩:=few
  have t1:=tb.same s1
  have hcs:=fp.len
  refine ⟨_,rfl,p,_,_,_,rfl,rfl,SqT.of ft,qae 2 rfl,pc,_,rfl,.inl (SqL.of fc),_,rfl,_,rfl,_,_,rfl,rfl,_,_,rfl,rfl,_,rfl,?_⟩
  have ecl:(yaf cs).length=C.length:=by unfold yaf;rw[List.length_map];exact hcs
  rw[ecl]
  by_cases hlen:n+m<C.length
  ·refine iteD (by omega) ?_
   refine ⟨_,rfl,p,_,_,_,rfl,rfl,SqT.of ft,qae 2 rfl,(by show 2≤sizeLine;decide),fun q nq=>⟨(by show 2≤sizeLine;decide),fun r nr=>?_⟩⟩
   have s3:=((Same.refl H1).upd (o:=.tup [.str "cells",.ref pc]) nq).upd (o:=.tup [.str "none",.ref q]) nr
   have eq:upd (upd H1 q (.tup [.str "cells",.ref pc])) r (.tup [.str "none",.ref q]) q=some (.tup [.str "cells",.ref pc]):=by rw[qad (yab yaa nr)];exact yaa
   exact k2 r (.ref q) (.cells C) _ (Same.p (s1.trans s3)) (t1.same s3) yaa (.cells eq (s3 _ _ fc) (fp.same s3) npc (by have:=cov.len;have:=yep (cov.r.imp fun z=>by omega) cov.r12;have:=yep (cov.l.imp fun z=>by omega) cov.l12;omega)) (qe4 cov hlen)
  refine qb4 (by omega) ?_
  have erl:(R.map V.int).length=R.length:=List.length_map _
  have ell:(L.map V.int).length=L.length:=List.length_map _
  have hcl:=cov.len
  have go:¬ (R.length≤n∧L.length≤m)→ydc PB N [V.ref b,V.int n,V.int m] H1 Q E0:=fun hno=>by
   refine ⟨b,n,m,ts,bs,rfl,by omega,by omega,hnm,s1 _ _ hb,hP.same s1,hbl,h12,fun z=>?_,t1,fun q qr ql R' L' H' s' t' a1 a2 a3 a4=>k1 q qr ql R' L' H' ((Same.p s1).trans s') t' (s1.free a1) (s1.free a2) a3 a4,fun q v t H' s' t' a1 a2 a3=>k2 q v t H' ((Same.p s1).trans s') t' a1 (a2.imp fun c z=>s1.free z) a3⟩
   have hC:0<C.length:=by omega
   obtain ⟨c,hc⟩:=List.exists_mem_of_length_pos hC
   have:=cov.sub c hc
   have e0:bs.length=0:=by rw[← hP.len,z];rfl
   rw[List.length_eq_zero_iff.mp e0] at this
   cases this
  refine ⟨_,rfl,p,_,_,_,rfl,rfl,SqT.of ft,qae 0 rfl,pr,_,rfl,.inl (SqL.of fr),_,rfl,_,_,rfl,rfl,_,rfl,?_⟩
  rw[erl]
  by_cases hR:R.length≤n
  ·refine iteD (by omega) ?_
   refine ⟨_,rfl,p,_,_,_,rfl,rfl,SqT.of ft,qae 1 rfl,pl,_,rfl,.inl (SqL.of fl),_,rfl,_,_,rfl,rfl,_,rfl,?_⟩
   rw[ell]
   by_cases hL:L.length≤m
   ·refine iteD (by omega) ?_
    refine ⟨_,rfl,p,_,_,_,rfl,rfl,SqT.of ft,qae 0 rfl,_,rfl,p,_,_,_,rfl,rfl,SqT.of ft,qae 1 rfl,(by show 3≤sizeLine;decide),fun q nq=>?_⟩
    have s3:=(Same.refl H1).upd (o:=.tup [.str "spares",.ref pr,.ref pl]) nq
    exact k1 q pr pl R L _ (Same.p (s1.trans s3)) (t1.same s3) npr npl ⟨yaa,s3 _ _ fr,s3 _ _ fl,nrl⟩ (qgf cov hR hL)
   ·exact qb4 (by omega) ⟨_,rfl,_,rfl,_,rfl,go fun z=>hL z.2⟩
  ·exact qb4 (by omega) (iteF ⟨_,rfl,_,rfl,_,rfl,go fun z=>hR z.1⟩)
theorem ok_split {N:Nat} (B:Bl mg) (qf2:Has P w K mg base 2 "busiest" ["broken"] (qc4 PB)) (yb2:Has P w K mg base 1 "without_row" ["broken","row"] (yav 0)) (ybt:Has P w K mg base 1 "without_line" ["broken","line"] (yav 1))
  (qdd:Has P w K mg base (15+2*N) "spared" ["broken","rows","lines"] (ycx PB N)) (F:FnAt K mg "spared_by_split" qat ["broken","rows","lines"]):Has P w K mg base (14+2*(N+1)) "spared_by_split" ["broken","rows","lines"] (ydc PB (N+1)):=by
 rw[show 14+2*(N+1)=(15+2*N)+1 by omega]
 refine Has.ofQ F ybq (fun vs H Q E h=>?_) (fun f cdv A outer s H vs Q E hr h=>?_)
 ·obtain ⟨b,n,m,ts,bs,rfl,_⟩:=h
  rfl
 ·obtain ⟨b,n,m,ts,bs,rfl,hn,hm,hnm,hb,hP,hbl,h12,hne,tb,k1,k2⟩:=h
  have sc:=ybq
  refine ⟨_,(qak rfl (yac (qal (i:=3) sc.nd rfl (Or.inl rfl) (yag (hk:=(by omega)) qf2 hr (qah (qaa (pv 0)) yad)))
   (yac (qal (i:=4) sc.nd rfl (Or.inl rfl) (yag (hk:=Nat.le_refl _) qdd hr (qb6 (yag (hk:=(by omega)) yb2 hr (qah (qaa (pv 0)) (ya0 (qan qaj (qaa (pv 3)) (qaa qab) (fun _ _=>rfl)) yad))) (ycd (yat yb8 (qaa (pv 1)) (qaa qab)) (qah (qaa (pv 2)) yad)))))
   (yac (yan (yak qcf (qan qaj (qaa (pv 4)) (qaa qab) (fun _ _=>rfl)) (qaa qa5) (yal _))
    (yae (qag (qbd (qaw (qaa qa5) (qb6 (qai qbp rfl (B.of rfl) qau (ycd (yat qdy (qbn (ya0 (qan qaj (qaa (pv 3)) (qaa qab) (fun _ _=>rfl)) yad)) (qan qaj (qaa (pv 4)) (qaa qab) (fun _ _=>rfl))) yad)) (ya0 (qan qaj (qaa (pv 4)) (qaa qab) (fun _ _=>rfl)) yad))))))
    qam)
   (yac (qal (i:=5) sc.nd rfl (Or.inl rfl) (yag (hk:=Nat.le_refl _) qdd hr (qb6 (yag (hk:=(by omega)) ybt hr (qah (qaa (pv 0)) (ya0 (qan qaj (qaa (pv 3)) (qaa qab) (fun _ _=>rfl)) yad))) (qah (qaa (pv 1)) (ycd (yat yb8 (qaa (pv 2)) (qaa qab)) yad)))))
   (yac (yan (yak qcf (qan qaj (qaa (pv 5)) (qaa qab) (fun _ _=>rfl)) (qaa qa5) (yal _))
    (yae (qag (qbd (qaw (qaa qa5) (ya0 (qan qaj (qaa (pv 5)) (qaa qab) (fun _ _=>rfl)) (qb6 (qai qbp rfl (B.of rfl) qau (ycd (yat qdy (qbn (ya0 (qan qaj (qaa (pv 3)) (qaa qab) (fun _ _=>rfl)) yad)) (qan qaj (qaa (pv 5)) (qaa qab) (fun _ _=>rfl))) yad)) yad))))))
    qam)
   (yae (qag (qbd (qaw (qaa qa5) (qa_tp (qbd (qaw (qaa qa5) (qah (qaa (pv 3)) (ya0 (qan qaj (qaa (pv 4)) (qaa qab) (fun _ _=>rfl)) (ya0 (qan qaj (qaa (pv 5)) (qaa qab) (fun _ _=>rfl)) yad))))) yad))))))))))),?_⟩
  refine ⟨_,rfl,b,ts,bs,rfl,hb,hP,hbl,hne,tb,fun t ht H1 s1 t1=>?_⟩
  obtain ⟨r,l,et,hrl,hat⟩:=hP.of_mem ht
  have hb1:=s1 _ _ (tb.ne hb fun _ z=>by cases z) hb
  have hP1:=hP.p s1 tb
  have hat1:=s1 _ _ (tb.ne hat fun _ z=>by cases z) hat
  have en:(n:Int)-1=((n-1:Nat):Int):=by omega
  have em:(m:Int)-1=((m-1:Nat):Int):=by omega
  -- without its row
  refine ⟨_,rfl,_,rfl,t.1,_,_,_,rfl,rfl,SqT.of hat1,qae 0 rfl,b,r,ts,bs,rfl,hb1,hP1,by omega,fun q H2 s2 nq eq=>?_⟩
  have t2:=t1.same s2
  have s12:qba PB H H2:=s1.trans (Same.p s2)
  have hl2:(qc3 bs r).length≤63:=Nat.le_trans (List.length_filter_le _ _) hbl
  refine ⟨_,rfl,_,_,rfl,rfl,_,rfl,q,n-1,m,_,qc3 bs r,by show [V.ref q,V.int ((n:Int)-1),V.int m]=_;rw[en],by omega,eq,(hP1.same s2).wRow r,hl2,fun p hp=>h12 p (ybu.mp hp).1,t2,fun p pr pl R L H3 s3 t3 npr npl sd so=>?_,fun p v tr H3 s3 t3 ep at_ ok=>?_⟩
  ·have s13:=s12.trans s3
   have hat3:=s3 _ _ (t2.ne (s2 _ _ hat1) fun _ z=>by cases z) (s2 _ _ hat1)
   refine ⟨_,rfl,p,_,_,_,rfl,rfl,SqT.of sd.t,qae 0 rfl,rfl,_,rfl,iteB (decide_eq_true rfl) ?_⟩
   refine ⟨_,rfl,t.1,_,_,_,rfl,rfl,SqT.of hat3,qae 0 rfl,(by show 1≤sizeLine;decide),fun q1 n1=>?_⟩
   have x1:=(Same.refl H3).upd (o:=.lst [.int r]) n1
   have rl:=so.rl
   have hR12:R.length≤12:=yep (so.r.imp fun z=>by omega) fun x hx=>by
    obtain ⟨y,hy,rfl⟩:=so.rin x hx
    exact (h12 y (ybu.mp hy).1).1
   refine ⟨_,rfl,p,_,_,_,rfl,rfl,SqT.of (x1 _ _ sd.t),qae 1 rfl,q1,pr,_,_,rfl,rfl,yaa,x1 _ _ sd.r,yco (by simp;omega),fun q2 n2=>?_⟩
   have x2:=x1.upd (o:=.lst ([V.int r]++R.map V.int)) n2
   refine ⟨q2,r::R,rfl,yaa,by rw[List.length_cons];omega,fun q3 R' n3 pR sR=>?_⟩
   have x3:=x2.upd (o:=.lst (R'.map V.int)) n3
   have e3:=yaa (H:=upd (upd H3 q1 (.lst [.int r])) q2 (.lst ([V.int r]++R.map V.int))) (a:=q3) (o:=.lst (R'.map V.int))
   refine ⟨_,rfl,p,_,_,_,rfl,rfl,SqT.of (x3 _ _ sd.t),qae 2 rfl,(by show 3≤sizeLine;decide),fun q4 n4=>?_⟩
   have x4:=x3.upd (o:=.tup [.str "spares",.ref q3,.ref pl]) n4
   have nq3:H3 q3=none:=x2.free n3
   exact k1 q4 q3 pl R' L _ (s13.trans (Same.p x4)) (t3.same x4) (s13.free t3 nq3) (s12.free t2 npl) ⟨yaa,((Same.refl _).upd n4) _ _ e3,x4 _ _ sd.l,fun z=>by rw[z,sd.l] at nq3;cases nq3⟩ (so.row hn hrl pR sR)
  ·have s13:=s12.trans s3
   have hb3:=s3 _ _ (t2.ne (s2 _ _ hb1) fun _ z=>by cases z) (s2 _ _ hb1)
   have hP3:=(hP1.same s2).p s3 t2
   have hat3:=s3 _ _ (t2.ne (s2 _ _ hat1) fun _ z=>by cases z) (s2 _ _ hat1)
   refine ⟨_,rfl,p,_,_,_,rfl,rfl,SqT.of ep,qae 0 rfl,rfl,_,rfl,iteN (by decide +kernel) ?_⟩
   -- without its line
   refine ⟨_,rfl,_,rfl,t.1,_,_,_,rfl,rfl,SqT.of hat3,qae 1 rfl,b,l,ts,bs,rfl,hb3,hP3,by omega,fun q' H4 s4 nq' eq'=>?_⟩
   have t4:=t3.same s4
   have s14:qba PB H H4:=s13.trans (Same.p s4)
   have hl4:(qby bs l).length≤63:=Nat.le_trans (List.length_filter_le _ _) hbl
   refine ⟨_,rfl,_,rfl,_,_,rfl,rfl,q',n,m-1,_,qby bs l,by show [V.ref q',V.int n,V.int ((m:Int)-1)]=_;rw[em],by omega,eq',(hP3.same s4).wLine l,hl4,fun p hp=>h12 p (qbj.mp hp).1,t4,fun p' pr pl R L H5 s5 t5 npr npl sd so=>?_,fun p' v' tr' H5 s5 t5 ep' at' ok'=>?_⟩
   ·have s15:=s14.trans s5
    have hat5:=s5 _ _ (t4.ne (s4 _ _ hat3) fun _ z=>by cases z) (s4 _ _ hat3)
    refine ⟨_,rfl,p',_,_,_,rfl,rfl,SqT.of sd.t,qae 0 rfl,rfl,_,rfl,iteB (decide_eq_true rfl) ?_⟩
    refine ⟨_,rfl,p',_,_,_,rfl,rfl,SqT.of sd.t,qae 1 rfl,?_⟩
    refine ⟨_,rfl,t.1,_,_,_,rfl,rfl,SqT.of hat5,qae 1 rfl,(by show 1≤sizeLine;decide),fun q1 n1=>?_⟩
    have x1:=(Same.refl H5).upd (o:=.lst [.int l]) n1
    have hL12:L.length≤12:=yep (so.l.imp fun z=>by omega) fun x hx=>by
     obtain ⟨y,hy,rfl⟩:=so.lin x hx
     exact (h12 y (qbj.mp hy).1).2
    refine ⟨_,rfl,p',_,_,_,rfl,rfl,SqT.of (x1 _ _ sd.t),qae 2 rfl,q1,pl,_,_,rfl,rfl,yaa,x1 _ _ sd.l,yco (by simp;omega),fun q2 n2=>?_⟩
    have x2:=x1.upd (o:=.lst ([V.int l]++L.map V.int)) n2
    refine ⟨q2,l::L,rfl,yaa,by rw[List.length_cons];omega,fun q3 L' n3 pL sL=>?_⟩
    have x3:=x2.upd (o:=.lst (L'.map V.int)) n3
    have e3:=yaa (H:=upd (upd H5 q1 (.lst [.int l])) q2 (.lst ([V.int l]++L.map V.int))) (a:=q3) (o:=.lst (L'.map V.int))
    refine ⟨(by show 3≤sizeLine;decide),fun q4 n4=>?_⟩
    have x4:=x3.upd (o:=.tup [.str "spares",.ref pr,.ref q3]) n4
    have nq3:H5 q3=none:=x2.free n3
    exact k1 q4 pr q3 R L' _ (s15.trans (Same.p x4)) (t5.same x4) (s14.free t4 npr) (s15.free t5 nq3) ⟨yaa,x4 _ _ sd.r,((Same.refl _).upd n4) _ _ e3,fun z=>by rw[← z,sd.r] at nq3;cases nq3⟩ (so.line hm hrl pL sL)
   ·have s15:=s14.trans s5
    have hat5:=s5 _ _ (t4.ne (s4 _ _ hat3) fun _ z=>by cases z) (s4 _ _ hat3)
    have ep5:=s5 _ _ (t4.ne (s4 _ _ ep) fun _ z=>by cases z) (s4 _ _ ep)
    have at5:=(at_.same s4).p s5 t4
    refine ⟨_,rfl,p',_,_,_,rfl,rfl,SqT.of ep',qae 0 rfl,rfl,_,rfl,iteN (by decide +kernel) ?_⟩
    refine ⟨_,rfl,_,rfl,p,_,_,_,rfl,rfl,SqT.of ep5,qae 1 rfl,_,rfl,p',_,_,_,rfl,rfl,SqT.of ep',qae 1 rfl,(by show 4≤sizeLine;decide),fun q5 n5=>⟨(by show 2≤sizeLine;decide),fun q6 n6=>?_⟩⟩
    have x6:=((Same.refl H5).upd (o:=.tup [.str "split",.ref t.1,v,v']) n5).upd (o:=.tup [.str "none",.ref q5]) n6
    have e5:upd (upd H5 q5 (.tup [.str "split",.ref t.1,v,v'])) q6 (.tup [.str "none",.ref q5]) q5=some (.tup [.str "split",.ref t.1,v,v']):=by rw[qad (yab yaa n6)];exact yaa
    exact k2 q6 (.ref q5) (.split r l tr tr') _ (s15.trans (Same.p x6)) (t5.same x6) yaa (.split e5 (x6 _ _ hat5) ((at5.same x6).imp fun c z=>s12.free t2 z) ((at'.same x6).imp fun c z=>s14.free t4 z)) ⟨hrl,fun _=>ok,fun z=>absurd z (by omega),fun _=>ok',fun z=>absurd z (by omega)⟩
theorem ygj (B:Bl mg) (h1:Has P w K mg base 2 "spared_by_one_sort" ["broken","rows","lines"] qcb) (h2:Has P w K mg base 14 "fewest" ["broken"] qcz) (h3:Has P w K mg base 2 "busiest" ["broken"] (qc4 PB)) (h4:Has P w K mg base 1 "without_row" ["broken","row"] (yav 0)) (h5:Has P w K mg base 1 "without_line" ["broken","line"] (yav 1))
  (FS:FnAt K mg "spared_by_split" qat ["broken","rows","lines"]) (F:FnAt K mg "spared" qct ["broken","rows","lines"]):∀ N,Has P w K mg base (15+2*N) "spared" ["broken","rows","lines"] (ycx PB N)
 | 0=>by
  refine qej B h1 h2 ?_ F
  obtain ⟨f,fd,e1,e2,e3⟩:=FS
  have no:∀ vs H Q E,¬ ydc PB 0 vs H Q E:=fun vs H Q E h=>by
   obtain ⟨b,n,m,ts,bs,_,hn,hm,hnm,_⟩:=h
   omega
  exact ⟨f,fd,e1,e2.kp,e3,⟨fun vs H Q E h=>(no vs H Q E h).elim,fun A outer s H args us vs Q E _ _ _ _ h=>(no vs H Q E h).elim⟩⟩
 | N+1=>qej B h1 h2 (ok_split B h3 h4 h5 (ygj B h1 h2 h3 h4 h5 FS F N) FS) F
end
end Mc
namespace Mc
open PySem L2 PyProof.Rows Mx PySem.W
theorem ycz {ns:List Int} (h:(uniq ns).length=ns.length):ns.Nodup:=by
 refine Classical.byContradiction fun hn=>?_
 have:∃ ms:List Int,(∀ x,x∈ns→x∈ms)∧ms.length<ns.length:=by
  clear h
  induction ns with
  | nil=>exact absurd List.nodup_nil hn
  | cons x xs ih=>
   by_cases hx:x∈xs
   ·exact ⟨xs,fun y hy=>(List.mem_cons.mp hy).elim (fun z=>z ▸ hx) id,by simp⟩
   ·obtain ⟨ms,h1,h2⟩:=ih fun z=>hn (List.nodup_cons.mpr ⟨hx,z⟩)
    exact ⟨x::ms,fun y hy=>(List.mem_cons.mp hy).elim (fun z=>z ▸ List.mem_cons_self ..) fun z=>List.mem_cons_of_mem _ (h1 y z),by simp;omega⟩
 obtain ⟨ms,h1,h2⟩:=this
 have:=ybc (yfp ns) fun x hx=>h1 x ((qfg ns x).mp hx)
 omega
theorem ycu {ns:List Int} (h:ns.Nodup):(uniq ns).length=ns.length:=Nat.le_antisymm (yfa ns) (ybc h fun x hx=>(qfg ns x).mpr hx)
section
variable {P:Program}{w:World}{K:PySem.W.Frag}{mg:Str→Option Value}{base:Heap}
def qfe:Sp:=fun vs H Q _=>∃ i:Int,vs=[.int i]∧Q (.bl true) H
abbrev qcd:Stmt:=top 5
theorem qdi:FnScope ["thing"] ["thing"] (qaf qcd):=⟨rfl,rfl,rfl,by decide +kernel,rfl,by decide +kernel,by decide +kernel⟩
theorem ok_whole (B:Bl mg) (F:FnAt K mg "is_whole" qcd ["thing"]):Has P w K mg base 1 "is_whole" ["thing"] qfe:=by
 refine Has.ofQ F qdi (fun vs H Q E h=>?_) (fun f cdv A outer s H vs Q E hr h=>?_)
 ·obtain ⟨i,rfl,_⟩:=h
  rfl
 ·obtain ⟨i,rfl,k⟩:=h
  have sc:=qdi
  refine ⟨_,(qak rfl (yae (qag (qaa (ybe (qas qa0 rfl (B.of rfl) boot_isinstance (qac (pv 0) (qac (qa7 (v:=.ty "int") rfl (B.of rfl) boot_int rfl) yah))) (qb5 (pe_not (qas qa0 rfl (B.of rfl) boot_isinstance (qac (pv 0) (qac (qa7 (v:=.ty "bool") rfl (B.of rfl) boot_bool rfl) yah)))))))))),?_⟩
  exact ⟨_,rfl,_,_,_,_,rfl,.int _,rfl,_,rfl,iteB rfl ⟨_,rfl,_,_,_,_,rfl,.int _,rfl,_,rfl,k⟩⟩
def yfv:Sp:=fun vs H Q _=>∃ a r l,vs=[.ref a]∧H a=some (.tup [.int r,.int l])∧Q (.bl true) H
abbrev ycq:Stmt:=top 7
theorem qdv:FnScope ["thing"] ["thing"] (qaf ycq):=⟨rfl,rfl,rfl,by decide +kernel,rfl,by decide +kernel,by decide +kernel⟩
theorem ok_pair (B:Bl mg) (F:FnAt K mg "is_pair" ycq ["thing"]):Has P w K mg base 1 "is_pair" ["thing"] yfv:=by
 refine Has.ofQ F qdv (fun vs H Q E h=>?_) (fun f cdv A outer s H vs Q E hr h=>?_)
 ·obtain ⟨a,r,l,rfl,_⟩:=h
  rfl
 ·obtain ⟨a,r,l,rfl,ha,k⟩:=h
  have sc:=qdv
  refine ⟨_,(qak rfl (yae (qag (qaa (ybe (qas qa0 rfl (B.of rfl) boot_isinstance (qac (pv 0) (qac (qa7 (v:=.ty "tuple") rfl (B.of rfl) boot_tuple rfl) yah))) (qb5 (yb7 qcf (qas yai rfl (B.of rfl) boot_len (qac (pv 0) yah)) qab (yal _)))))))),?_⟩
  exact ⟨_,rfl,_,_,_,_,rfl,.tup ha,rfl,_,rfl,iteB rfl ⟨_,rfl,a,_,rfl,.inr (SqT.of ha),rfl,k⟩⟩
def qfj:Sp:=fun vs H Q _=>∃ (a:Addr) (x y:Str),vs=[.str x,.ref a]∧H a=some (.tup [.str y])∧Q (.bl (decide (x=y))) H
abbrev qb0:Stmt:=top 6
theorem qc8:FnScope ["thing","words"] ["thing","words"] (qaf qb0):=⟨rfl,rfl,rfl,by decide +kernel,rfl,by decide +kernel,by decide +kernel⟩
theorem ok_oneof (B:Bl mg) (F:FnAt K mg "is_one_of" qb0 ["thing","words"]):Has P w K mg base 1 "is_one_of" ["thing","words"] qfj:=by
 refine Has.ofQ F qc8 (fun vs H Q E h=>?_) (fun f cdv A outer s H vs Q E hr h=>?_)
 ·obtain ⟨a,x,y,rfl,_⟩:=h
  rfl
 ·obtain ⟨a,x,y,rfl,ha,k⟩:=h
  have sc:=qc8
  refine ⟨_,(qak rfl (yae (qag (qaa (ybe (qas qa0 rfl (B.of rfl) boot_isinstance (qac (pv 0) (qac (qa7 (v:=.ty "str") rfl (B.of rfl) boot_str rfl) yah))) (qb5 (yb7 qgd (pv 0) (pv 1) (by with_unfolding_all rfl)))))))),?_⟩
  refine ⟨_,rfl,_,_,_,_,rfl,.str _,rfl,_,rfl,iteB rfl ⟨_,rfl,_,rfl,a,_,rfl,.inr (SqT.of ha),rfl,rfl,?_⟩⟩
  show Q (.bl ((y == x)||false)) H
  rw[Bool.or_false]
  have e:(y == x)=decide (x=y):=by
   rw[Bool.eq_iff_iff]
   simp only[beq_iff_eq,decide_eq_true_eq]
   exact ⟨Eq.symm,Eq.symm⟩
  rw[e]
  exact k
def qe2:Sp:=fun vs H Q _=>∃ (v:V) (y:Str) (n:Nat),vs=[v,.str y,.int n]∧
 ((v=.non∧∀ H',Same H H'→Q (.bl false) H')∨∃ a x xs,v=.ref a∧H a=some (.tup (.str x::xs))∧∀ H',Same H H'→Q (.bl (decide (xs.length+1=n)&&decide (x=y))) H')
abbrev ycc:Stmt:=top 19
theorem qdj:FnScope ["thing","word","length"] ["thing","word","length"] (qaf ycc):=⟨rfl,rfl,rfl,by decide +kernel,rfl,by decide +kernel,by decide +kernel⟩
theorem ok_word (B:Bl mg) (qey:Has P w K mg base 1 "is_one_of" ["thing","words"] qfj) (F:FnAt K mg "has_word" ycc ["thing","word","length"]):Has P w K mg base 2 "has_word" ["thing","word","length"] qe2:=by
 refine Has.ofQ F qdj (fun vs H Q E h=>?_) (fun f cdv A outer s H vs Q E hr h=>?_)
 ·obtain ⟨v,y,n,rfl,_⟩:=h
  rfl
 ·obtain ⟨v,y,n,rfl,h⟩:=h
  have sc:=qdj
  refine ⟨_,(qak rfl (yae (qag (qaa (ybe (qas qa0 rfl (B.of rfl) boot_isinstance (qac (pv 0) (qac (qa7 (v:=.ty "tuple") rfl (B.of rfl) boot_tuple rfl) yah))) (ybe (yb7 qcf (qas yai rfl (B.of rfl) boot_len (qac (pv 0) yah)) (pv 2) (yal _)) (qb5 (qar qey hr (qac (qav qaj (pv 0) qab (fun _ _=>rfl)) (qac (yc7 (qac (pv 1) yah)) yah)))))))))),?_⟩
  rcases h with ⟨rfl,k⟩|⟨a,x,xs,rfl,ha,k⟩
  ·exact ⟨_,rfl,_,_,_,_,rfl,.non,rfl,_,rfl,iteN rfl (k H (Same.refl H))⟩
  ·refine ⟨_,rfl,_,_,_,_,rfl,.tup ha,rfl,_,rfl,iteB rfl ⟨_,rfl,a,_,rfl,.inr (SqT.of ha),_,rfl,rfl,_,rfl,?_⟩⟩
   rw[List.length_cons]
   by_cases hn:xs.length+1=n
   ·refine iteB (decide_eq_true (by rw[← hn])) ⟨_,rfl,a,_,_,_,rfl,rfl,SqT.of ha,qae 0 rfl,_,rfl,(by show 1≤sizeLine;decide),fun q nq=>⟨q,x,y,rfl,yaa,?_⟩⟩
    have kk:=k _ ((Same.refl H).upd (o:=.tup [.str y]) nq)
    rw[decide_eq_true hn,Bool.true_and] at kk
    exact kk
   ·refine iteN (decide_eq_false fun z=>hn (by injection z;omega)) ?_
    have kk:=k _ (Same.refl H)
    rw[decide_eq_false hn,Bool.false_and] at kk
    exact kk
def qc7:Sp:=fun vs H Q _=>∃ (b t:Addr) (ts:List TL) (bs:Bs) (r l:Int),vs=[.ref b,.ref t]∧H b=some (.lst (yaf ts))∧PT H ts bs∧bs.length≤63∧H t=some (.tup [.int r,.int l])∧∀ H',Same H H'→Q (.bl (decide ((r,l)∈bs))) H'
abbrev ybz:Stmt:=top 16
theorem yc5:FnScope ["broken","thing"] ["broken","thing"] (qaf ybz):=⟨rfl,rfl,rfl,by decide +kernel,rfl,by decide +kernel,by decide +kernel⟩
theorem ok_isb (B:Bl mg) (qdt:Has P w K mg base 1 "is_whole" ["thing"] qfe) (ygf:Has P w K mg base 1 "is_pair" ["thing"] yfv) (F:FnAt K mg "is_broken" ybz ["broken","thing"]):Has P w K mg base 2 "is_broken" ["broken","thing"] qc7:=by
 refine Has.ofQ F yc5 (fun vs H Q E h=>?_) (fun f cdv A outer s H vs Q E hr h=>?_)
 ·obtain ⟨b,t,ts,bs,r,l,rfl,_⟩:=h
  rfl
 ·obtain ⟨b,t,ts,bs,r,l,rfl,hb,hP,hbl,ht,k⟩:=h
  have sc:=yc5
  refine ⟨_,(qak rfl (yae (qag (qaa (ybe (qar ygf hr (qac (pv 1) yah)) (ybe (qar qdt hr (qac (qav qaj (pv 1) qab (fun _ _=>rfl)) yah)) (ybe (qar qdt hr (qac (qav qaj (pv 1) qab (fun _ _=>rfl)) yah)) (qb5 (yb7 (op_inP hr) (pv 1) (pv 0) (by with_unfolding_all rfl)))))))))),?_⟩
  refine ⟨_,rfl,t,r,l,rfl,ht,_,rfl,iteB rfl ⟨_,rfl,t,_,_,_,rfl,rfl,SqT.of ht,qae 0 rfl,r,rfl,_,rfl,iteB rfl ⟨_,rfl,t,_,_,_,rfl,rfl,SqT.of ht,qae 1 rfl,l,rfl,_,rfl,iteB rfl ?_⟩⟩⟩
  refine ⟨_,rfl,_,rfl,t,b,[r,l],ts,rfl,rfl,ht,hb,hP.at_,?_⟩
  have e:decide ([r,l]∈ts.map (·.2))=decide ((r,l)∈bs):=decide_eq_decide.mpr (by
   rw[hP.eq]
   constructor
   ·intro z
    obtain ⟨p,hp,e⟩:=List.mem_map.mp z
    cases p with
    | mk r' l'=>
     cases e
     exact hp
   ·intro z
    exact List.mem_map_of_mem (f:=pr2) z)
  show Q (.bl (decide ([r,l]∈ts.map (·.2)))) H
  rw[e]
  exact k H (Same.refl H)
def ydo:Sp:=fun vs H Q _=>∃ (a:Addr) (ns:List Int),vs=[.ref a]∧H a=some (.lst (ns.map V.int))∧ns.length≤1000∧∀ (b:Bool) H',(b=true↔ns.Nodup)→Same H H'→Q (.bl b) H'
abbrev ybo:Stmt:=top 17
theorem ycp:FnScope ["things"] ["things"] (qaf ybo):=⟨rfl,rfl,rfl,by decide +kernel,rfl,by decide +kernel,by decide +kernel⟩
theorem qgi (B:Bl mg) (ye3:mg "set" = none) (F:FnAt K mg "are_unlike" ybo ["things"]):Has P w K mg base 1 "are_unlike" ["things"] ydo:=by
 refine Has.ofQ F ycp (fun vs H Q E h=>?_) (fun f cdv A outer s H vs Q E hr h=>?_)
 ·obtain ⟨a,ns,rfl,_⟩:=h
  rfl
 ·obtain ⟨a,ns,rfl,ha,hl,k⟩:=h
  have sc:=ycp
  refine ⟨_,(qak rfl (yae (qag (qd1 qcf (qai ycm rfl (B.of rfl) boot_len (qb6 (qcv (ydh rfl) rfl ye3 ydi (qah (qaa (pv 0)) yad)) yad)) (qai yai rfl (B.of rfl) boot_len (qah (qaa (pv 0)) yad)) (yal _))))),?_⟩
  refine ⟨_,rfl,a,ns,rfl,ha,by omega,fun p np=>⟨p,_,rfl,yaa,_,rfl,a,_,rfl,.inl (SqL.of (by rw[qad (yab ha np)];exact ha)),rfl,?_⟩⟩
  refine k _ _ ?_ ((Same.refl H).upd np)
  rw[decide_eq_true_eq,List.length_map]
  constructor
  ·intro z
   injection z with z
   exact ycz (by omega)
  ·intro z
   rw[ycu z]
end
end Mc
namespace Mc
open PySem L2 PyProof.Rows Mx PySem.W
theorem twice {S A:Hp→Prop}{Q:Prop} (main:(∀ H,S H→A H)→Q) (st2:∀ H,S H→A H):Q:=main st2
theorem comp_col {K:PySem.W.Frag}{j i:Nat}{σ:L2.St}{H:Hp}{Q:VK}{c:Addr}{cs:List TL}{C:Bs} (hσ:σ[j]?=some (some (.ref c))) (hc:H c=some (.lst (yaf cs))) (hC:PT H cs C) (hl:C.length≤1000) (hi:i<2)
  (k:∀ D H',Same H H'→H' D=some (.lst ((cs.map (kp i)).map V.int))→Q (.ref D) H'):tComp (iList K (tVar j)) [none] (yeb 0) tYes (tOp (rIxT K) (tVar 0) (tC (.int i))) σ H Q:=by
 have hcl:=hC.len
 refine ⟨_,hσ,c,rfl,⟨_,SqL.of hc⟩,fun D nD=>ya2 (n:=cs.length) (fun j H'=>Same H H'∧H' D=some (.lst (((cs.take j).map (kp i)).map V.int))) ⟨(Same.refl H).upd nD,yaa⟩ ?_ ?_⟩
 ·rintro H4 ⟨s4,e4⟩
  rw[List.take_length] at e4
  exact ⟨⟨_,SqL.of (s4 _ _ hc),by unfold yaf;simp⟩,k D H4 s4 e4⟩
 ·rintro j H4 hj ⟨s4,e4⟩
  have htj:(yaf cs)[j]?=some (.ref cs[j].1):=by unfold yaf;rw[List.getElem?_map,List.getElem?_eq_getElem hj];rfl
  refine ⟨⟨_,_,SqL.of (s4 _ _ hc),htj⟩,?_⟩
  rintro y H5 ⟨rfl,hy⟩
  have hy':=hy _ (SqL.of (s4 _ _ hc))
  rw[htj] at hy'
  cases hy'
  obtain ⟨r,l,et,_,hat⟩:=hC.of_mem (List.getElem_mem hj)
  have tj:(cs.take (j+1)).map (kp i)=(cs.take j).map (kp i)++[kp i cs[j]]:=by rw[List.take_add_one,List.getElem?_eq_getElem hj,List.map_append];rfl
  have ha:atI [V.int r,.int l] (i:Int)=some (.int (kp i cs[j])):=by
   unfold kp
   rw[et]
   rcases (by omega:i=0∨i=1) with rfl|rfl<;>rfl
  refine ⟨qap.set (qap.refl _) rfl,?_⟩
  unfold tYes
  refine iteB rfl ⟨_,rfl,_,_,_,_,rfl,rfl,SqT.of (s4 _ _ hat),ha,_,e4,qa9 (by rw[List.length_map,List.length_map,List.length_take];omega),s4.at nD,?_⟩
  rw[yaa,tj,List.map_append]
  rfl
theorem cols {H:Hp}{cs:List TL}{C:Bs} (hC:PT H cs C):cs.map (kp 0)=C.map (·.1)∧cs.map (kp 1)=C.map (·.2):=by
 rw[hC.bs_eq,List.map_map,List.map_map]
 exact ⟨rfl,rfl⟩
theorem ydy {K:PySem.W.Frag}{j i:Nat}{σ:L2.St}{H:Hp}{Q:Bool→Hp→Prop}{c:Addr}{cs:List TL}{C:Bs} (hσ:σ[j]?=some (some (.ref c))) (hc:H c=some (.lst (yaf cs))) (hC:PT H cs C) (hl:C.length≤1000) (hi:i<2)
  (k:∀ (v:Bool) H',(v=true↔(cs.map (kp i)).Nodup)→Same H H'→Q (!v) H'):tNot (tB (qe8 ydo [] E0 (qce (tComp (iList K (tVar j)) [none] (yeb 0) tYes (tOp (rIxT K) (tVar 0) (tC (.int i)))) tNil))) σ H Q:=by
 have hcl:=hC.len
 unfold tNot tB qe8 qce
 exact comp_col hσ hc hC hl hi fun D H5 s5 e5=>⟨D,_,rfl,e5,by rw[List.length_map];omega,fun v H6 hv s6=>⟨_,rfl,k v H6 hv (s5.trans s6)⟩⟩
section
variable {P:Program}{w:World}{K:PySem.W.Frag}{mg:Str→Option Value}{base:Heap}
def qc2:Sp:=fun vs H Q _=>∃ (b c:Addr) (n m:Nat) (ts cs:List TL) (bs C:Bs),vs=[.ref b,.int n,.int m,.ref c]∧H b=some (.lst (yaf ts))∧PT H ts bs∧bs.length≤63∧H c=some (.lst (yaf cs))∧PT H cs C∧C.length≤1000∧
 ∀ (v:Bool) H',(v=true↔ybn bs n m (.cells C))→Same H H'→Q (.bl v) H'
abbrev qbb:Stmt:=top 18
theorem yb6:FnScope ["broken","rows","lines","thing"] ["broken","rows","lines","thing"] (qaf qbb):=⟨rfl,rfl,rfl,by decide +kernel,rfl,by decide +kernel,by decide +kernel⟩
theorem ok_many (B:Bl mg) (z_all:mg "all" = none) (qcl:Has P w K mg base 2 "is_broken" ["broken","thing"] qc7) (yc6:Has P w K mg base 1 "are_unlike" ["things"] ydo) (F:FnAt K mg "are_too_many" qbb ["broken","rows","lines","thing"]):Has P w K mg base 3 "are_too_many" ["broken","rows","lines","thing"] qc2:=by
 refine Has.ofQ F yb6 (fun vs H Q E h=>?_) (fun f cdv A outer s H vs Q E hr h=>?_)
 ·obtain ⟨b,c,n,m,ts,cs,bs,C,rfl,_⟩:=h
  rfl
 ·obtain ⟨b,c,n,m,ts,cs,bs,C,rfl,hb,hP,hbl,hc,hC,hCl,k⟩:=h
  have hcl:=hC.len
  have sc:=yb6
  refine ⟨_,(qak rfl (yac (yan (QW.pt (qb8 (qa2 (qao (qai qa0 rfl (B.of rfl) boot_isinstance (qah (qaa (pv 3)) (qah (qaa (qa7 (v:=.ty "list") rfl (B.of rfl) boot_list rfl)) yad))))) (ybw (qa2 (qao (qai (qgp rfl) rfl z_all qgh (ye6 (qaa (qa1 rfl (yam rfl) (M:=["cell","broken"]) (ix:=[none,some 0]) (qa4 (pv 3)) (fun _ _ _ _=>(yaj (i:=0) (show List.Nodup (["cell","broken"]:List Str) by decide +kernel) rfl (Or.inl rfl))) (fun _ _ _ _=>qbe) (fun _ _ _ _=>(qar qcl hr (qac (pv 1) (qac (pv 0) yah)))))) yad)))))))
    (yae (qag (qaa ya9)))
    qam)
   (yac (yan (QW.pt (ycw (yak ycf (qaa (pv 1)) (qaa qab) (yal _)) (yb1 (qa2 (qao (yag yc6 hr (ye6 (qaa (qa1 rfl (yam rfl) (M:=["cell"]) (ix:=[none]) (qa4 (pv 3)) (fun _ _ _ _=>(yaj (i:=0) (show List.Nodup (["cell"]:List Str) by decide +kernel) rfl (Or.inl rfl))) (fun _ _ _ _=>qbe) (fun _ _ _ _=>(qav (ya7 (K:=K) rfl) (pv 0) qab (fun _ _=>rfl))))) yad)))))))
    (yae (qag (qaa ya9)))
    qam)
   (yac (yan (QW.pt (ycw (yak ycf (qaa (pv 2)) (qaa qab) (yal _)) (yb1 (qa2 (qao (yag yc6 hr (ye6 (qaa (qa1 rfl (yam rfl) (M:=["cell"]) (ix:=[none]) (qa4 (pv 3)) (fun _ _ _ _=>(yaj (i:=0) (show List.Nodup (["cell"]:List Str) by decide +kernel) rfl (Or.inl rfl))) (fun _ _ _ _=>qbe) (fun _ _ _ _=>(qav (ya7 (K:=K) rfl) (pv 0) qab (fun _ _=>rfl))))) yad)))))))
    (yae (qag (qaa ya9)))
    qam)
   (yae (qag (qd1 ycf (qai yai rfl (B.of rfl) boot_len (qah (qaa (pv 3)) yad)) (yat ya1 (qaa (pv 1)) (qaa (pv 2))) (yal _)))))))),?_⟩
  refine ⟨_,rfl,_,_,_,_,rfl,.lst hc,rfl,_,rfl,iteN rfl ?_⟩
  refine ⟨_,rfl,c,rfl,⟨_,SqL.of hc⟩,fun D nD=>ya2 (n:=cs.length) (fun j H'=>Same H H'∧H' D=some (.lst (((cs.take j).map fun t=>decide ((t.2.getD 0 0,t.2.getD 1 0)∈bs)).map V.bl))) ⟨(Same.refl H).upd nD,yaa⟩ ?_ ?_⟩
  rotate_left
  ·rintro j H4 hj ⟨s4,e4⟩
   have htj:(yaf cs)[j]?=some (.ref cs[j].1):=by unfold yaf;rw[List.getElem?_map,List.getElem?_eq_getElem hj];rfl
   refine ⟨⟨_,_,SqL.of (s4 _ _ hc),htj⟩,?_⟩
   rintro y H5 ⟨rfl,hy⟩
   have hy':=hy _ (SqL.of (s4 _ _ hc))
   rw[htj] at hy'
   cases hy'
   obtain ⟨r,l,et,_,hat⟩:=hC.of_mem (List.getElem_mem hj)
   refine ⟨qap.set (qap.refl _) rfl,?_⟩
   unfold tYes
   refine iteB rfl ⟨_,rfl,_,rfl,b,cs[j].1,ts,bs,r,l,rfl,s4 _ _ hb,hP.same s4,hbl,s4 _ _ hat,fun H6 s6=>⟨_,s6 _ _ e4,qa9 (by rw[List.length_map,List.length_map,List.length_take];omega),(s4.trans s6).at nD,?_⟩⟩
   rw[yaa,List.take_add_one,List.getElem?_eq_getElem hj,List.map_append,List.map_append]
   show _=some (HO.lst (_++[V.bl (decide ((cs[j].2.getD 0 0,cs[j].2.getD 1 0)∈bs))]))
   rw[et]
   rfl
  rintro H4 ⟨s4,e4⟩
  rw[List.take_length] at e4
  refine ⟨⟨_,SqL.of (s4 _ _ hc),by unfold yaf;simp⟩,D,_,rfl,e4,_,rfl,?_⟩
  have eall:(cs.map fun t=>decide ((t.2.getD 0 0,t.2.getD 1 0)∈bs)).all id=decide (∀ p∈C,p∈bs):=by
   rw[Bool.eq_iff_iff,List.all_eq_true,decide_eq_true_eq,hC.bs_eq]
   constructor
   ·intro h p hp
    obtain ⟨t,ht,rfl⟩:=List.mem_map.mp hp
    exact of_decide_eq_true (h _ (List.mem_map_of_mem (f:=fun t:TL=>decide ((t.2.getD 0 0,t.2.getD 1 0)∈bs)) ht))
   ·intro h x hx
    obtain ⟨t,ht,rfl⟩:=List.mem_map.mp hx
    exact decide_eq_true (h _ (List.mem_map_of_mem (f:=fun t:TL=>(t.2.getD 0 0,t.2.getD 1 0)) ht))
  rw[eall]
  by_cases hsub:∀ p∈C,p∈bs
  ·refine iteN (by rw[decide_eq_true hsub];rfl) ?_
   have hc4:=s4 _ _ hc
   have hC4:=hC.same s4
   have fin:∀ H5,Same H H5→(0<n→(C.map (·.1)).Nodup)→(0<m→(C.map (·.2)).Nodup)→Q (.bl (decide (n+m<C.length))) H5:=fun H5 s5 h1 h2=>k _ H5 ⟨fun z=>⟨hsub,h1,h2,of_decide_eq_true z⟩,fun z=>decide_eq_true z.2.2.2⟩ s5
   have no:∀ H5,Same H H5→¬ ybn bs n m (.cells C)→Q (.bl false) H5:=fun H5 s5 z=>k false H5 ⟨fun z=>(by cases z),fun y=>absurd y z⟩ s5
   refine' twice (S:=fun H5=>Same H H5∧(0<n→(C.map (·.1)).Nodup)) (fun st2=>?main) ?st2
   case main=>
    refine ⟨_,rfl,_,_,rfl,rfl,_,rfl,?_⟩
    by_cases hn:0<n
    ·refine iteD (by omega) (ydy (i:=0) rfl hc4 hC4 hCl (by decide) fun v H6 hv s6=>?_)
     rw[(cols hC4).1] at hv
     cases v with
     | true=>exact iteN rfl (st2 H6 ⟨s4.trans s6,fun _=>hv.mp rfl⟩)
     | false=>exact iteB rfl (no H6 (s4.trans s6) fun y=>absurd (hv.mpr (y.2.1 hn)) (by decide))
    ·exact qb4 (by omega) (iteF (st2 H4 ⟨s4,fun z=>absurd z hn⟩))
   case st2=>
    rintro H5 ⟨s5,h1⟩
    refine ⟨_,rfl,_,_,rfl,rfl,_,rfl,?_⟩
    have hc5:=s5 _ _ hc
    have hC5:=hC.same s5
    have el:∀ H6,Same H H6→H6 c=some (.lst (yaf cs)):=fun H6 s6=>s6 _ _ hc
    have ecl:(yaf cs).length=C.length:=by unfold yaf;rw[List.length_map];exact hcl
    have fin2:∀ H6,Same H H6→(0<m→(C.map (·.2)).Nodup)→Q (.bl (decide ((n:Int)+(m:Int)<((yaf cs).length:Int)))) H6:=fun H6 s6 h2=>by
     have:=fin H6 s6 h1 h2
     rw[ecl,show decide ((n:Int)+(m:Int)<(C.length:Int))=decide (n+m<C.length) from decide_eq_decide.mpr (by omega)]
     exact this
    by_cases hm:0<m
    ·refine iteD (by omega) (ydy (i:=1) rfl hc5 hC5 hCl (by decide) fun v H6 hv s6=>?_)
     rw[(cols hC5).2] at hv
     have s7:=s5.trans s6
     cases v with
     | true=>exact iteN rfl ⟨_,rfl,c,_,rfl,.inl (SqL.of (el H6 s7)),_,rfl,_,rfl,_,_,rfl,rfl,_,_,rfl,rfl,fin2 H6 s7 fun _=>hv.mp rfl⟩
     | false=>exact iteB rfl (no H6 s7 fun y=>absurd (hv.mpr (y.2.2.1 hm)) (by decide))
    ·exact qb4 (by omega) (iteF ⟨_,rfl,c,_,rfl,.inl (SqL.of (el H5 s5)),_,rfl,_,rfl,_,_,rfl,rfl,_,_,rfl,rfl,fin2 H5 s5 fun z=>absurd z hm⟩)
  ·refine iteB (by rw[decide_eq_false hsub];rfl) (k false H4 ⟨fun z=>(by cases z),fun z=>absurd z.1 hsub⟩ s4)
end
end Mc
namespace Mc
open PySem L2 PyProof.Rows Mx PySem.W
abbrev AnyA:Addr→Prop:=fun _=>True
theorem TrAt.any {N:Addr→Prop}{H:Hp}{v:V}{t:Tr} (h:TrAt N H v t):TrAt AnyA H v t:=h.imp fun _ _=>trivial
theorem TrAt.nil_iff {N:Addr→Prop}{H:Hp}{v:V}{t:Tr} (h:TrAt N H v t):v=.non↔t=.nil:=by
 cases h with
 | cells=>exact ⟨fun z=>(by cases z),fun z=>by cases z⟩
 | split=>exact ⟨fun z=>(by cases z),fun z=>by cases z⟩
 | nil=>exact ⟨fun _=>rfl,fun _=>rfl⟩
theorem and_t {p q:Prop} [Decidable p] [Decidable q] (hp:p) (hq:q):(decide p&&decide q)=true:=by rw[decide_eq_true hp,decide_eq_true hq];rfl
theorem and_f {p q:Prop} [Decidable p] [Decidable q] (hp:¬ p):(decide p&&decide q)=false:=by rw[decide_eq_false hp];rfl
section
variable {P:Program}{w:World}{K:PySem.W.Frag}{mg:Str→Option Value}{base:Heap}
def yem (N:Nat):Sp:=fun vs H Q _=>∃ (b p d:Addr) (n m:Nat) (ts:List TL) (bs:Bs) (r l:Int) (v1 v2:V) (t1 t2:Tr),vs=[.ref b,.int n,.int m,.ref p]∧n+m≤N∧H b=some (.lst (yaf ts))∧PT H ts bs∧bs.length≤63∧
 H p=some (.tup [.str "split",.ref d,v1,v2])∧H d=some (.tup [.int r,.int l])∧TrAt AnyA H v1 t1∧TrAt AnyA H v2 t2∧∀ (v:Bool) H',(v=true↔ybn bs n m (.split r l t1 t2))→Same H H'→Q (.bl v) H'
def qcm (N:Nat):Sp:=fun vs H Q _=>∃ (b:Addr) (v:V) (n m:Nat) (ts:List TL) (bs:Bs) (t:Tr),vs=[.ref b,.int n,.int m,v]∧n+m≤N∧H b=some (.lst (yaf ts))∧PT H ts bs∧bs.length≤63∧
 TrAt AnyA H v t∧∀ (v:Bool) H',(v=true↔ybn bs n m t)→Same H H'→Q (.bl v) H'
def ydb (N:Nat):Sp:=fun vs H Q E=>0<N∧qcm (N-1) vs H Q E
abbrev qbx:Stmt:=top 20
theorem ydf:FnScope ["broken","rows","lines","thing","cell","one","other"] ["broken","rows","lines","thing"] (qaf qbx):=⟨rfl,rfl,rfl,by decide +kernel,rfl,by decide +kernel,by decide +kernel⟩
abbrev ybm:Stmt:=top 21
theorem qc9:FnScope ["broken","rows","lines","thing"] ["broken","rows","lines","thing"] (qaf ybm):=⟨rfl,rfl,rfl,by decide +kernel,rfl,by decide +kernel,by decide +kernel⟩
theorem qfz {N:Nat} (B:Bl mg) (ydv:Has P w K mg base 2 "has_word" ["thing","word","length"] qe2) (ydr:Has P w K mg base 3 "are_too_many" ["broken","rows","lines","thing"] qc2)
  (yfr:Has P w K mg base (3+2*N) "is_split" ["broken","rows","lines","thing"] (yem N)) (F:FnAt K mg "lets_none" ybm ["broken","rows","lines","thing"]):Has P w K mg base (4+2*N) "lets_none" ["broken","rows","lines","thing"] (qcm N):=by
 rw[show 4+2*N=(3+2*N)+1 by omega]
 refine Has.ofQ F qc9 (fun vs H Q E h=>?_) (fun f cdv A outer s H vs Q E hr h=>?_)
 ·obtain ⟨b,v,n,m,ts,bs,t,rfl,_⟩:=h
  rfl
 ·obtain ⟨b,v,n,m,ts,bs,t,rfl,hnm,hb,hP,hbl,hT,k⟩:=h
  have sc:=qc9
  refine ⟨_,(qak rfl (yac (yan (qao (yag (hk:=(by omega)) ydv hr (qah (qaa (pv 3)) (qaw (qaa qa5) (qaw (qaa qab) yad)))))
    (yae (qag (yag (hk:=(by omega)) ydr hr (qah (qaa (pv 0)) (qah (qaa (pv 1)) (qah (qaa (pv 2)) (ya0 (qan qaj (qaa (pv 3)) (qaa qab) (fun _ _=>rfl)) yad)))))))
    qam)
   (yae (qag (qaa (ybe (qar (hk:=(by omega)) ydv hr (qac (pv 3) (qac qa5 (qac qab yah)))) (qb5 (qar (hk:=Nat.le_refl _) yfr hr (qdo (pv 0) (qdo (pv 1) (qdo (pv 2) (qdo (pv 3) yah)))))))))))),?_⟩
  cases hT with
  | nil=>
   refine ⟨_,rfl,.non,"cells",2,rfl,.inl ⟨rfl,fun H1 s1=>⟨_,rfl,iteN rfl ?_⟩⟩⟩
   refine ⟨_,rfl,.non,"split",4,rfl,.inl ⟨rfl,fun H2 s2=>⟨_,rfl,iteN rfl (k false H2 ⟨fun z=>(by cases z),fun z=>z.elim⟩ (s1.trans s2))⟩⟩⟩
  | @cells p c cs C hp hc hC _ hl=>
   refine ⟨_,rfl,.ref p,"cells",2,rfl,.inr ⟨p,"cells",[.ref c],rfl,hp,fun H1 s1=>⟨_,rfl,iteB (and_t rfl rfl) ?_⟩⟩⟩
   refine ⟨_,rfl,_,rfl,_,rfl,_,rfl,p,_,_,_,rfl,rfl,SqT.of (s1 _ _ hp),qae 1 rfl,?_⟩
   exact ⟨b,c,n,m,ts,cs,bs,C,rfl,s1 _ _ hb,hP.same s1,hbl,s1 _ _ hc,hC.same s1,hl,fun u H2 hu s2=>k u H2 hu (s1.trans s2)⟩
  | @split p d r l v1 v2 t1 t2 hp hd h1 h2=>
   refine ⟨_,rfl,.ref p,"cells",2,rfl,.inr ⟨p,"split",[.ref d,v1,v2],rfl,hp,fun H1 s1=>⟨_,rfl,iteN (and_f (fun z=>absurd (show 3+1=2 from z) (by decide))) ?_⟩⟩⟩
   refine ⟨_,rfl,.ref p,"split",4,rfl,.inr ⟨p,"split",[.ref d,v1,v2],rfl,s1 _ _ hp,fun H2 s2=>⟨_,rfl,iteB (and_t rfl rfl) ?_⟩⟩⟩
   have s3:=s1.trans s2
   exact ⟨_,rfl,_,rfl,_,rfl,_,rfl,b,p,d,n,m,ts,bs,r,l,v1,v2,t1,t2,rfl,hnm,s3 _ _ hb,hP.same s3,hbl,s3 _ _ hp,s3 _ _ hd,h1.same s3,h2.same s3,fun u H4 hu s4=>k u H4 hu (s3.trans s4)⟩
theorem yed {N:Nat} (B:Bl mg) (qcl:Has P w K mg base 2 "is_broken" ["broken","thing"] qc7) (yb2:Has P w K mg base 1 "without_row" ["broken","row"] (yav 0)) (ybt:Has P w K mg base 1 "without_line" ["broken","line"] (yav 1))
  (qb3:Has P w K mg base (2+2*N) "lets_none" ["broken","rows","lines","thing"] (ydb N)) (F:FnAt K mg "is_split" qbx ["broken","rows","lines","thing"]):Has P w K mg base (3+2*N) "is_split" ["broken","rows","lines","thing"] (yem N):=by
 rw[show 3+2*N=(2+2*N)+1 by omega]
 refine Has.ofQ F ydf (fun vs H Q E h=>?_) (fun f cdv A outer s H vs Q E hr h=>?_)
 ·obtain ⟨b,p,d,n,m,ts,bs,r,l,v1,v2,t1,t2,rfl,_⟩:=h
  rfl
 ·obtain ⟨b,p,d,n,m,ts,bs,r,l,v1,v2,t1,t2,rfl,hnm,hb,hP,hbl,hp,hd,hT1,hT2,k⟩:=h
  have sc:=ydf
  refine ⟨_,(qak rfl (yac (qal (i:=4) sc.nd rfl (Or.inl rfl) (qan qaj (qaa (pv 3)) (qaa qab) (fun _ _=>rfl)))
   (yac (yan (qa2 (qao (yag (hk:=(by omega)) qcl hr (qah (qaa (pv 0)) (qah (qaa (pv 4)) yad)))))
    (yae (qag (qaa ya9)))
    qam)
   (yac (qal (i:=5) sc.nd rfl (Or.inl rfl) (ygg (qcx (yak ycf (qaa (pv 1)) (qaa qab) (yal _)) (yag (hk:=Nat.le_refl _) qb3 hr (qb6 (yag (hk:=(by omega)) yb2 hr (qah (qaa (pv 0)) (ya0 (qan qaj (qaa (pv 4)) (qaa qab) (fun _ _=>rfl)) yad))) (ycd (yat yb8 (qaa (pv 1)) (qaa qab)) (qah (qaa (pv 2)) (ya0 (qan qaj (qaa (pv 3)) (qaa qab) (fun _ _=>rfl)) yad))))) (qaa (yek (ydx (qav qaj (pv 3) qab (fun _ _=>rfl))))))))
   (yac (qal (i:=6) sc.nd rfl (Or.inl rfl) (ygg (qcx (yak ycf (qaa (pv 2)) (qaa qab) (yal _)) (yag (hk:=Nat.le_refl _) qb3 hr (qb6 (yag (hk:=(by omega)) ybt hr (qah (qaa (pv 0)) (ya0 (qan qaj (qaa (pv 4)) (qaa qab) (fun _ _=>rfl)) yad))) (qah (qaa (pv 1)) (ycd (yat yb8 (qaa (pv 2)) (qaa qab)) (ya0 (qan qaj (qaa (pv 3)) (qaa qab) (fun _ _=>rfl)) yad))))) (qaa (yek (ydx (qav qaj (pv 3) qab (fun _ _=>rfl))))))))
   (yae (qag (qaa (ybe (pv 5) (qb5 (pv 6))))))))))),?_⟩
  have en:0<n→(n:Int)-1=((n-1:Nat):Int):=fun _=>by omega
  have em:0<m→(m:Int)-1=((m-1:Nat):Int):=fun _=>by omega
  refine ⟨_,rfl,p,_,_,_,rfl,rfl,SqT.of hp,qae 1 rfl,?_⟩
  refine ⟨_,rfl,_,rfl,b,d,ts,bs,r,l,rfl,hb,hP,hbl,hd,fun H1 s1=>⟨_,rfl,?_⟩⟩
  by_cases hin:(r,l)∈bs
  rotate_left
  ·exact iteB (by rw[decide_eq_false hin];rfl) (k false H1 ⟨fun z=>(by cases z),fun z=>absurd z.1 hin⟩ s1)
  refine iteN (by rw[decide_eq_true hin];rfl) ?_
  refine ⟨fun v H2=>∃ c1:Bool,v=.bl c1∧Same H H2∧(c1=true↔(0<n→ybn (qc3 bs r) (n-1) m t1)∧(n=0→t1=.nil)),?_,?_⟩
  ·refine ⟨_,rfl,_,_,rfl,rfl,_,rfl,?_⟩
   by_cases hn:0<n
   ·refine iteD (by omega) ?_
    refine ⟨_,rfl,_,rfl,d,_,_,_,rfl,rfl,SqT.of (s1 _ _ hd),qae 0 rfl,b,r,ts,bs,rfl,s1 _ _ hb,hP.same s1,by omega,fun q H2 s2 nq eq=>?_⟩
    have s12:=s1.trans s2
    refine ⟨_,rfl,_,_,rfl,rfl,_,rfl,_,rfl,p,_,_,_,rfl,rfl,SqT.of (s12 _ _ hp),qae 2 rfl,?_⟩
    refine ⟨by omega,q,v1,n-1,m,_,qc3 bs r,t1,by show [V.ref q,V.int ((n:Int)-1),V.int m,v1]=_;rw[en hn],by omega,eq,(hP.same s12).wRow r,Nat.le_trans (List.length_filter_le _ _) hbl,hT1.same s12,fun u H3 hu s3=>⟨u,rfl,s12.trans s3,hu.trans ⟨fun z=>⟨fun _=>z,fun z'=>by omega⟩,fun z=>z.1 hn⟩⟩⟩
   ·refine qb4 (by omega) ?_
    refine ⟨_,rfl,p,_,_,_,rfl,rfl,SqT.of (s1 _ _ hp),qae 2 rfl,_,rfl,s1,?_⟩
    rw[decide_eq_true_eq,hT1.nil_iff]
    exact ⟨fun z=>⟨fun z'=>absurd z' hn,fun _=>z⟩,fun z=>z.2 (by omega)⟩
  rintro _ H2 ⟨c1,rfl,s2,h1⟩
  refine ⟨fun v H3=>∃ c2:Bool,v=.bl c2∧Same H H3∧(c2=true↔(0<m→ybn (qby bs l) n (m-1) t2)∧(m=0→t2=.nil)),?_,?_⟩
  ·refine ⟨_,rfl,_,_,rfl,rfl,_,rfl,?_⟩
   by_cases hm:0<m
   ·refine iteD (by omega) ?_
    refine ⟨_,rfl,_,rfl,d,_,_,_,rfl,rfl,SqT.of (s2 _ _ hd),qae 1 rfl,b,l,ts,bs,rfl,s2 _ _ hb,hP.same s2,by omega,fun q H3 s3 nq eq=>?_⟩
    have s12:=s2.trans s3
    refine ⟨_,rfl,_,rfl,_,_,rfl,rfl,_,rfl,p,_,_,_,rfl,rfl,SqT.of (s12 _ _ hp),qae 3 rfl,?_⟩
    refine ⟨by omega,q,v2,n,m-1,_,qby bs l,t2,by show [V.ref q,V.int n,V.int ((m:Int)-1),v2]=_;rw[em hm],by omega,eq,(hP.same s12).wLine l,Nat.le_trans (List.length_filter_le _ _) hbl,hT2.same s12,fun u H4 hu s4=>⟨u,rfl,s12.trans s4,hu.trans ⟨fun z=>⟨fun _=>z,fun z'=>by omega⟩,fun z=>z.1 hm⟩⟩⟩
   ·refine qb4 (by omega) ?_
    refine ⟨_,rfl,p,_,_,_,rfl,rfl,SqT.of (s2 _ _ hp),qae 3 rfl,_,rfl,s2,?_⟩
    rw[decide_eq_true_eq,hT2.nil_iff]
    exact ⟨fun z=>⟨fun z'=>absurd z' hm,fun _=>z⟩,fun z=>z.2 (by omega)⟩
  rintro _ H3 ⟨c2,rfl,s3,h2⟩
  refine ⟨_,rfl,_,rfl,?_⟩
  cases c1 with
  | true=>
   refine iteB rfl ⟨_,rfl,k c2 H3 ?_ s3⟩
   rw[h2]
   exact ⟨fun z=>⟨hin,(h1.mp rfl).1,(h1.mp rfl).2,z.1,z.2⟩,fun z=>⟨z.2.2.2.1,z.2.2.2.2⟩⟩
  | false=>exact iteN rfl (k false H3 ⟨fun z=>(by cases z),fun z=>h1.mpr ⟨z.2.1,z.2.2.1⟩⟩ s3)
theorem qde (B:Bl mg) (h1:Has P w K mg base 2 "has_word" ["thing","word","length"] qe2) (h2:Has P w K mg base 3 "are_too_many" ["broken","rows","lines","thing"] qc2) (h3:Has P w K mg base 2 "is_broken" ["broken","thing"] qc7) (h4:Has P w K mg base 1 "without_row" ["broken","row"] (yav 0)) (h5:Has P w K mg base 1 "without_line" ["broken","line"] (yav 1))
  (FS:FnAt K mg "is_split" qbx ["broken","rows","lines","thing"]) (F:FnAt K mg "lets_none" ybm ["broken","rows","lines","thing"]):∀ N,Has P w K mg base (4+2*N) "lets_none" ["broken","rows","lines","thing"] (qcm N)
 | 0=>by
  refine qfz B h1 h2 (yed B h3 h4 h5 ?_ FS) F
  obtain ⟨f,fd,e1,e2,e3⟩:=F
  have no:∀ vs H Q E,¬ ydb 0 vs H Q E:=fun vs H Q E h=>absurd h.1 (by decide)
  exact ⟨f,fd,e1,e2.kp,e3,⟨fun vs H Q E h=>(no vs H Q E h).elim,fun A outer s H args us vs Q E _ _ _ _ h=>(no vs H Q E h).elim⟩⟩
 | N+1=>qfz B h1 h2 (yed B h3 h4 h5 (by rw[show 2+2*(N+1)=4+2*N by omega];exact Has.imp (qde B h1 h2 h3 h4 h5 FS F N) fun vs H Q E h=>h.2) FS) F
end
end Mc
namespace Mc
open PySem L2 PyProof.Rows Mx
def zsB (n:Nat):List Int:=[4,12,12,(n:Int)+1]++(List.replicate n [12,12]).flatten
theorem yfz {α:Type} (a b:α):∀ {n k:Nat},k<n→(List.replicate n [a,b]).flatten[2*k]?=some a∧(List.replicate n [a,b]).flatten[2*k+1]?=some b
 | n+1,0,_=>by simp[List.replicate_succ]
 | n+1,k+1,h=>by
  have ih:=yfz a b (n:=n) (k:=k) (by omega)
  rw[List.replicate_succ,List.flatten_cons]
  constructor
  ·rw[List.getElem?_append_right (by simp;omega)]
   simpa [show 2*(k+1)-2=2*k by omega] using ih.1
  ·rw[List.getElem?_append_right (by simp;omega)]
   simpa [show 2*(k+1)+1-2=2*k+1 by omega] using ih.2
theorem zsB_len (n:Nat):(zsB n).length=4+n*2:=by
 unfold zsB
 rw[List.length_append,qex]
 rfl
theorem zsB_at {n k:Nat} (h:k<n):(zsB n)[4+2*k]?=some 12∧(zsB n)[5+2*k]?=some 12:=by
 obtain ⟨a,b⟩:=yfz (12:Int) 12 h
 unfold zsB
 rw[List.getElem?_append_right (by simp),List.getElem?_append_right (by simp;omega)]
 simp only[List.length_cons,List.length_nil]
 rw[show 4+2*k-(0+1+1+1+1)=2*k by omega,show 5+2*k-(0+1+1+1+1)=2*k+1 by omega]
 exact ⟨a,b⟩
theorem zsB_map (n:Nat):[V.int 4,.int 12,.int 12,.int ((n:Int)+1)]++(List.replicate n [V.int 12,.int 12]).flatten=(zsB n).map V.int:=by
 unfold zsB
 rw[List.map_append,List.map_flatten,List.map_replicate]
 rfl
theorem zsB_ok {n:Nat} (h:n≤60):∀ z∈zsB n,0<z∧z≤1000:=by
 intro z hz
 rcases List.mem_append.mp hz with hz|hz
 ·simp only[List.mem_cons,List.not_mem_nil,or_false] at hz
  rcases hz with rfl|rfl|rfl|rfl<;>omega
 ·obtain ⟨l,hl,hz⟩:=List.mem_flatten.mp hz
  rw[(List.mem_replicate.mp hl).2] at hz
  simp only[List.mem_cons,List.not_mem_nil,or_false] at hz
  rcases hz with rfl|rfl<;>omega
def kyB (bs:Bs):List (List Key):=bs.map fun p=>[Sum.inl p.1,Sum.inl p.2]
theorem putBs {kvs:List (List Key×V)}{bs:Bs}{r l:Int}{v:V} (h:kvs.map (·.1)=kyB bs) (h12:B12 bs) (hr:0≤r∧r<12) (hl:0≤l∧l<12):∃ bs',(putK kvs [Sum.inl r,Sum.inl l] v).map (·.1)=kyB bs'∧B12 bs'∧bs'.length≤bs.length+1:=by
 unfold putK
 split
 ·refine ⟨bs,?_,h12,by omega⟩
  rw[← h,List.map_map]
  refine List.map_congr_left fun e _=>?_
  show (if e.1=_ then _ else e).1=e.1
  split<;>rfl
 ·refine ⟨bs++[(r,l)],?_,fun p hp=>?_,by simp⟩
  ·rw[List.map_append,h]
   unfold kyB
   rw[List.map_append]
   rfl
  ·rcases List.mem_append.mp hp with hp|hp
   ·exact h12 p hp
   ·rw[List.mem_singleton.mp hp];exact ⟨hr,hl⟩
theorem perm_pr {ts:List TL}{bs:Bs} (h:(ts.map (·.2)).Perm (bs.map pr2)):∃ bs':Bs,bs'.Perm bs∧ts.map (·.2)=bs'.map pr2:=by
 refine ⟨ts.map fun t=>(t.2.getD 0 0,t.2.getD 1 0),?_,?_⟩
 ·have:=h.map (fun z:List Int=>(z.getD 0 0,z.getD 1 0))
  rw[List.map_map,List.map_map] at this
  have e:((fun z:List Int=>(z.getD 0 0,z.getD 1 0)) ∘ pr2)=id:=rfl
  rw[e,List.map_id] at this
  exact this
 ·rw[List.map_map]
  refine List.map_congr_left fun t ht=>?_
  obtain ⟨p,_,e⟩:=List.mem_map.mp (h.mem_iff.mp (List.mem_map_of_mem ht))
  show t.2=pr2 (t.2.getD 0 0,t.2.getD 1 0)
  rw[← e]
  rfl
section
variable {P:Program}{w:World}{K:PySem.W.Frag}{mg:Str→Option Value}{base:Heap}
def yd9:Sp:=fun vs H Q _=>∃ (c t:Int) (n:Nat),vs=[.int c,.int t,.int n]∧n≤60∧0≤t∧t≤1000000∧
 ∀ (p:Addr) (ts:List TL) (bs:Bs) (H':Hp),Same H H'→H p=none→H' p=some (.lst (yaf ts))→PT H' ts bs→B12 bs→bs.length≤n→Q (.ref p) H'
abbrev ybg:Stmt:=top 24
theorem qcg:FnScope ["_law_cell","_law_turn","_law_most","_law_head","_law_rows","_law_lines","_law_found","_law_k","_law_row","_law_line"] ["_law_cell","_law_turn","_law_most"] (qaf ybg):=⟨rfl,rfl,rfl,by decide +kernel,rfl,by decide +kernel,by decide +kernel⟩
theorem qgt (B:Bl mg) (yb3:Has P w K mg base 1 "_law_digits" ["_law_cell","_law_turn","_law_sizes"] ydg) (F:FnAt K mg "_law_broken" ybg ["_law_cell","_law_turn","_law_most"]):Has P w K mg base 2 "_law_broken" ["_law_cell","_law_turn","_law_most"] yd9:=by
 refine Has.ofQ F qcg (fun vs H Q E h=>?_) (fun f cdv A outer s H vs Q E hr h=>?_)
 ·obtain ⟨c,t,n,rfl,_⟩:=h
  rfl
 ·obtain ⟨c,t,n,rfl,hn,ht0,ht1,k⟩:=h
  have sc:=qcg
  refine ⟨_,(qak rfl (yac (qal (i:=3) sc.nd rfl (Or.inl rfl) (yag yb3 hr (qah (qaa (pv 0)) (qah (qaa (pv 1)) (ycd (yat qdy (qbn (qaw (qaa qab) (qaw (qaa qab) (qaw (qaa qab) (ycd (yat ya1 (qaa (pv 2)) (qaa qab)) yad))))) (yat op_rep (qbn (qaw (qaa qab) (qaw (qaa qab) yad))) (qaa (pv 2)))) yad)))))
   (yac (qal (i:=4) sc.nd rfl (Or.inl rfl) (yat ya1 (qaa qab) (qan yaw (qaa (pv 3)) (qaa qab) (fun _ _=>rfl))))
   (yac (qal (i:=5) sc.nd rfl (Or.inl rfl) (yat ya1 (qaa qab) (qan yaw (qaa (pv 3)) (qaa qab) (fun _ _=>rfl))))
   (yac (qal (i:=6) sc.nd rfl (Or.inl rfl) (qaa pe_dnewT))
   (yac (qbv PassesOwn.never rfl (ye4 (ybd rfl (B.of rfl) (qac (qav yaw (pv 3) qab (fun _ _=>rfl)) yah))) (yaj (i:=7) sc.nd rfl (Or.inl rfl))
    (yac (qal (i:=8) sc.nd rfl (Or.inl rfl) (yat ych (qan yaw (qaa (pv 3)) (yat ya1 (qaa qab) (yat ydt (qaa qab) (qaa (pv 7)))) (fun _ _=>rfl)) (qaa (pv 4))))
    (yac (qal (i:=9) sc.nd rfl (Or.inl rfl) (yat ych (qan yaw (qaa (pv 3)) (yat ya1 (qaa qab) (yat ydt (qaa qab) (qaa (pv 7)))) (fun _ _=>rfl)) (qaa (pv 5))))
    (qdl (yan (yak qcf (qan yaw (qaa (pv 3)) (qaa qab) (fun _ _=>rfl)) (qaa qab) (yal _))
     (yae (qal (i:=8) sc.nd rfl (Or.inl rfl) (yat yb8 (qaa qab) (qaa (pv 8)))))
     qam)
    (qdl (yan (yak qcf (qan yaw (qaa (pv 3)) (qaa qab) (fun _ _=>rfl)) (qaa qab) (yal _))
     (yae (qal (i:=9) sc.nd rfl (Or.inl rfl) (qan yaw (qbn (qah (qaa (pv 9)) (ycd (yat ych (yat ydt (qaa qab) (qaa (pv 7))) (qaa qab)) yad))) (yat ych (qaa (pv 7)) (qaa qab)) (fun _ _=>rfl))))
     qam)
    (yae (qfp (qe0 (qeh hr) (QE.of (qaa (pv 6))) (QE.of (qbd (qah (qaa (pv 8)) (qah (qaa (pv 9)) yad)))) (QE.of (qaa ya9)) rfl))))))))
   (yae (qag (qai (qe1 rfl) rfl (B.of rfl) qau (qah (qaa (pv 6)) yad)))))))))),?_⟩
  refine ⟨_,rfl,_,rfl,_,rfl,_,_,rfl,rfl,(by show 4≤sizeLine;decide),fun q1 n1=>⟨(by show 2≤sizeLine;decide),fun q2 n2=>⟨_,rfl,q2,n,_,rfl,rfl,yaa,by omega,by omega,yco (by show 2*Int.toNat (n:Int)≤_;omega),fun q3 n3=>?_⟩⟩⟩
  refine ⟨q1,q3,_,_,rfl,rfl,by rw[qad (yab (by rw[qad (yab yaa n2)];exact yaa) n3),qad (yab yaa n2)];exact yaa,yaa,?_,fun q4 n4=>?_⟩
  ·rw[qex];exact yco (by show 4+Int.toNat (n:Int)*2≤_;omega)
  rw[show Int.toNat (n:Int)=n from rfl,zsB_map]
  have s1:Same H (upd (upd (upd (upd H q1 (.lst [V.int 4,.int 12,.int 12,.int ((n:Int)+1)])) q2 (.lst [V.int 12,.int 12])) q3 (.lst (List.replicate n [V.int 12,.int 12]).flatten)) q4 (.lst ((zsB n).map V.int))):=((((Same.refl H).upd n1).upd n2).upd n3).upd n4
  have e1:=yaa (H:=upd (upd (upd H q1 (.lst [V.int 4,.int 12,.int 12,.int ((n:Int)+1)])) q2 (.lst [V.int 12,.int 12])) q3 (.lst (List.replicate n [V.int 12,.int 12]).flatten)) (a:=q4) (o:=.lst ((zsB n).map V.int))
  revert s1 e1
  generalize upd (upd (upd (upd H q1 (.lst [V.int 4,.int 12,.int 12,.int ((n:Int)+1)])) q2 (.lst [V.int 12,.int 12])) q3 (.lst (List.replicate n [V.int 12,.int 12]).flatten)) q4 (.lst ((zsB n).map V.int))=H1
  intro s1 e1
  refine ⟨c,t,q4,zsB n,rfl,e1,by rw[zsB_len];omega,zsB_ok hn,ht0,ht1,fun hd ds H2 s2' nhd ehd hD=>?_⟩
  have s2:=s1.trans s2'
  clear s2' e1 s1
  obtain ⟨d0,g0,m0,m0'⟩:=hD.get (i:=0) (z:=4) rfl
  obtain ⟨d1,g1,m1,m1'⟩:=hD.get (i:=1) (z:=12) rfl
  obtain ⟨d2,g2,m2,m2'⟩:=hD.get (i:=2) (z:=12) rfl
  obtain ⟨d3,g3,m3,m3'⟩:=hD.get (i:=3) (z:=(n:Int)+1) rfl
  refine ⟨_,rfl,hd,_,_,_,rfl,rfl,SqL.of ehd,qae 1 (ya6 g1),_,_,rfl,rfl,?_⟩
  refine ⟨_,rfl,hd,_,_,_,rfl,rfl,SqL.of ehd,qae 2 (ya6 g2),_,_,rfl,rfl,?_⟩
  refine fun fo nfo=>?_
  have hfo:H fo=none:=s2.free nfo
  have s3:=s2.upd (o:=.dT []) nfo
  have ehd3:upd H2 fo (.dT []) hd=some (.lst (ds.map V.int)):=by rw[qad (yab ehd nfo)];exact ehd
  have efo3:upd H2 fo (.dT []) fo=some (.dT []):=yaa
  revert s3 ehd3 efo3
  generalize upd H2 fo (.dT [])=H3
  intro s3 ehd3 efo3
  refine ⟨_,rfl,hd,_,_,_,rfl,rfl,SqL.of ehd3,qae 3 (ya6 g3),_,rfl,by omega,by omega,?_⟩
  refine qb7 (n:=d3.toNat) (fun i σ H4=>∃ (o7 o8 o9:Option V) (kvs:List (List Key×V)) (bs:Bs),σ=[some (.int c),some (.int t),some (.int n),some (.ref hd),some (.int (1+d1)),some (.int (1+d2)),some (.ref fo),o7,o8,o9]∧Same H H4∧H4 hd=some (.lst (ds.map V.int))∧
   H4 fo=some (.dT kvs)∧kvs.map (·.1)=kyB bs∧B12 bs∧bs.length≤i) ⟨none,none,none,[],[],rfl,s3,ehd3,efo3,rfl,fun p hp=>by simp at hp,Nat.le_refl _⟩ ?_ ?_
  ·rintro i σ H4 hi ⟨o7,o8,o9,kvs,bs,rfl,s4,ehd4,efo4,hk,h12,hbl⟩
   have hin:i<n:=by omega
   obtain ⟨z1,z2⟩:=zsB_at hin
   obtain ⟨dr,gr,mr,mr'⟩:=hD.get z1
   obtain ⟨dl,gl,ml,ml'⟩:=hD.get z2
   have kl:kvs.length≤i:=by have:=congrArg List.length hk;unfold kyB at this;rw[List.length_map,List.length_map] at this;omega
   have ei:(0:Int)+(i:Int)=(i:Int):=by omega
   have a1:atI (ds.map V.int) (4+2*((0:Int)+(i:Int)))=some (.int dr):=by rw[show (4:Int)+2*(0+(i:Int))=((4+2*i:Nat):Int) by omega];exact ydn (ya6 gr)
   have a2:atI (ds.map V.int) (5+2*((0:Int)+(i:Int)))=some (.int dl):=by rw[show (5:Int)+2*(0+(i:Int))=((5+2*i:Nat):Int) by omega];exact ydn (ya6 gl)
   refine ⟨_,rfl,_,rfl,_,_,rfl,rfl,.inl ⟨by decide,by decide⟩,_,_,rfl,rfl,hd,_,_,_,rfl,rfl,SqL.of ehd4,a1,_,rfl,_,_,rfl,rfl,(by show (0:Int)<1+d1;omega),?_⟩
   refine ⟨_,rfl,_,rfl,_,_,rfl,rfl,.inl ⟨by decide,by decide⟩,_,_,rfl,rfl,hd,_,_,_,rfl,rfl,SqL.of ehd4,a2,_,rfl,_,_,rfl,rfl,(by show (0:Int)<1+d2;omega),?_⟩
   have r0:=Int.emod_nonneg dr (show (1+d1:Int)≠0 by omega)
   have r1:=Int.emod_lt_of_pos dr (show (0:Int)<1+d1 by omega)
   have l0:=Int.emod_nonneg dl (show (1+d2:Int)≠0 by omega)
   have l1:=Int.emod_lt_of_pos dl (show (0:Int)<1+d2 by omega)
   generalize hre:dr % (1+d1)=r at r0 r1
   generalize hle:dl % (1+d2)=l at l0 l1
   refine ⟨fun σ' H'=>∃ r':Int,(0≤r'∧r' < 12)∧H'=H4∧σ'=[some (.int c),some (.int t),some (.int n),some (.ref hd),some (.int (1+d1)),some (.int (1+d2)),some (.ref fo),some (.int ((0:Int)+(i:Int))),some (.int r'),some (.int l)],?_,?_⟩
   ·refine ⟨_,rfl,hd,_,_,_,rfl,rfl,SqL.of ehd4,qae 0 (ya6 g0),rfl,_,rfl,?_⟩
    by_cases hc:d0=1
    ·refine iteB (by rw[hc];rfl) ⟨_,rfl,_,_,rfl,rfl,11-r,by omega,rfl,by rw[← hre,← hle];rfl⟩
    ·refine iteN (decide_eq_false fun z=>hc (by injection z)) ⟨r,by omega,rfl,by rw[← hre,← hle];rfl⟩
   rintro σ' H' ⟨r',hr',e',rfl⟩
   subst e'
   refine ⟨fun σ' H'=>∃ l':Int,(0≤l'∧l' < 12)∧Same H H'∧H' hd=some (.lst (ds.map V.int))∧H' fo=some (.dT kvs)∧σ'=[some (.int c),some (.int t),some (.int n),some (.ref hd),some (.int (1+d1)),some (.int (1+d2)),some (.ref fo),some (.int ((0:Int)+(i:Int))),some (.int r'),some (.int l')],?_,?_⟩
   ·refine ⟨_,rfl,hd,_,_,_,rfl,rfl,SqL.of ehd4,qae 0 (ya6 g0),rfl,_,rfl,?_⟩
    by_cases hc:d0=2
    ·refine iteB (by rw[hc];rfl) ?_
     refine ⟨_,rfl,_,rfl,_,_,rfl,rfl,.inl ⟨by decide,by decide⟩,_,_,rfl,rfl,(by show (0:Int)<12;decide),(by show 2≤sizeLine;decide),fun q5 n5=>?_⟩
     have s5:=s4.upd (o:=.lst [V.int l,.int (3*((0:Int)+(i:Int)) % 12)]) n5
     have hx0:=Int.emod_nonneg (3*((0:Int)+(i:Int))) (show (12:Int)≠0 by decide)
     have hx1:=Int.emod_lt_of_pos (3*((0:Int)+(i:Int))) (show (0:Int)<12 by decide)
     have hm:((0:Int)+(i:Int)) % 2=0∨((0:Int)+(i:Int)) % 2=1:=by omega
     have hat:∃ l':Int,(0≤l'∧l' < 12)∧atI [V.int l,.int (3*((0:Int)+(i:Int)) % 12)] (((0:Int)+(i:Int)) % 2)=some (.int l'):=by
      rcases hm with e|e
      ·rw[e];exact ⟨l,by omega,rfl⟩
      ·rw[e];exact ⟨_,⟨hx0,hx1⟩,rfl⟩
     obtain ⟨l',b1,b2⟩:=hat
     refine ⟨_,rfl,_,_,rfl,rfl,(by show (0:Int)<2;decide),q5,_,_,_,rfl,rfl,SqL.of yaa,b2,l',b1,s5,by rw[qad (yab ehd4 n5)];exact ehd4,by rw[qad (yab efo4 n5)];exact efo4,rfl⟩
    ·refine iteN (decide_eq_false fun z=>hc (by injection z)) ⟨l,by omega,s4,ehd4,efo4,rfl⟩
   rintro σ' H5 ⟨l',hl',s5,ehd5,efo5,rfl⟩
   refine ⟨_,rfl,_,rfl,_,rfl,(by show 2≤sizeLine;decide),fun q6 n6=>?_⟩
   have s6:=s5.upd (o:=.tup [V.int r',.int l']) n6
   have ehd6:upd H5 q6 (.tup [V.int r',.int l']) hd=some (.lst (ds.map V.int)):=by rw[qad (yab ehd5 n6)];exact ehd5
   have efo6:upd H5 q6 (.tup [V.int r',.int l']) fo=some (.dT kvs):=by rw[qad (yab efo5 n6)];exact efo5
   have eq6:upd H5 q6 (.tup [V.int r',.int l']) q6=some (.tup [V.int r',.int l']):=yaa
   revert s6 ehd6 efo6 eq6
   generalize upd H5 q6 (.tup [V.int r',.int l'])=H6
   intro s6 ehd6 efo6 eq6
   obtain ⟨bs',p1,p2,p3⟩:=putBs (v:=.bl true) hk h12 hr' hl'
   refine ⟨fo,_,rfl,DPut.t (k:=[Sum.inl r',Sum.inl l']) efo6 eq6 (qa9 (by omega)),?_⟩
   exact ⟨_,_,_,_,bs',rfl,s6.at hfo,by rw[qad (qbi ehd6 efo6 (by intro z;cases z))];exact ehd6,yaa,p1,p2,by omega⟩
  ·rintro σ H4 ⟨o7,o8,o9,kvs,bs,rfl,s4,ehd4,efo4,hk,h12,hbl⟩
   refine ⟨_,rfl,fo,kvs,bs.map pr2,1,rfl,efo4,by rw[hk,List.map_map];rfl,fun z hz=>?_,by rw[List.length_map];omega,fun p ts np ht hpm hri=>?_⟩
   ·obtain ⟨p,hp,rfl⟩:=List.mem_map.mp hz
    refine ⟨rfl,fun x hx=>?_⟩
    have:=h12 p hp
    rcases List.mem_cons.mp hx with rfl|hx
    ·omega
    ·rw[List.mem_singleton.mp hx];omega
   ·obtain ⟨bs',e1,e2⟩:=perm_pr hpm
    exact k p ts bs' _ (s4.upd np) (s4.free np) yaa ⟨e2,fun t ht'=>by rw[qad (yab (ht t ht') np)];exact ht t ht'⟩ (fun q hq=>h12 q (e1.mem_iff.mp hq)) (by rw[e1.length_eq];omega)
end
end Mc
namespace Mc
open PySem L2 PyProof.Rows Mx PySem.W
theorem yd6 (x:Int):∀ (R:List Int),inV (.int x) (R.map V.int)=decide (x∈R)
 | []=>rfl
 | r::R=>by
  have e:inV (.int x) ((r::R).map V.int)=(eqV (.int r) (.int x)||inV (.int x) (R.map V.int)):=rfl
  rw[e,yd6 x R,show eqV (.int r) (.int x)=decide (r=x) from rfl,← Bool.decide_or]
  refine decide_eq_decide.mpr ?_
  rw[List.mem_cons]
  exact ⟨fun z=>z.imp Eq.symm id,fun z=>z.imp Eq.symm id⟩
theorem yde:∀ (R:List Int),(R.map V.int).all yd4=true
 | []=>rfl
 | r::R=>by rw[List.map_cons,List.all_cons,yde R];rfl
theorem yc1 {α:Type} (p:α→Bool):∀ l:List α,(l.filter p).isEmpty=l.all fun x=>!p x
 | []=>rfl
 | x::l=>by
  rw[List.all_cons,← yc1 p l]
  cases h:p x
  ·rw[List.filter_cons_of_neg (by simp[h])];simp
  ·rw[List.filter_cons_of_pos h];simp
theorem ygx (ks:List (List Int)):PyData.eqv (.list (tupD ks)) (.list [])=ks.isEmpty:=by
 rw[PyData.eqv]
 have:=eqTs ks []
 rw[show tupD []=[] from rfl] at this
 rw[this]
 cases ks<;>rfl
def qdr (R L:List Int) (t:TL):Bool:=!decide (t.2.getD 0 0∈R) && !decide (t.2.getD 1 0∈L)
theorem qeu {K:PySem.W.Frag}{i:Nat}{σ:L2.St}{H:Hp}{QD:Hp→Prop}{c D:Addr}{cs:List TL}{C:Bs} (nD:H D=none) (hc:H c=some (.lst (yaf cs))) (hC:PT H cs C) (hl:C.length≤1000) (hi:i<2)
  (k:∀ H',Same H H'→H' D=some (.lst ((cs.map (kp i)).map V.int))→QD H') :
  ∃ W:Nat→Nat→Hp→Prop,(∃ m,W 0 m (upd H D (.lst [])))∧∀ j m H,W j m H→
   ((Itl K c).stop j H∧QD H)∨((Itl K c).go j H∧∃ N:Hp→Prop,(∀ H',N H'→∃ m',m' < m∧W (j+1) m' H')∧∀ x H',(Itl K c).yld j H x H'→yeb 0 x (capS [none] σ) H' fun σ2 H2=>qap (capS [none] σ) σ2∧tYes σ2 H2 fun b H3=>
    if b=true then tOp (rIxT K) (tVar 0) (tC (.int i)) σ2 H3 fun v H4=>∃ ys,H4 D=some (.lst ys)∧ys.length<sizeLine∧N (upd H4 D (.lst (ys++[v]))) else N H3):=by
 have hcl:=hC.len
 refine ya2 (n:=cs.length) (fun j H'=>Same H H'∧H' D=some (.lst (((cs.take j).map (kp i)).map V.int))) ⟨(Same.refl H).upd nD,yaa⟩ ?_ ?_
 ·rintro H4 ⟨s4,e4⟩
  rw[List.take_length] at e4
  exact ⟨⟨_,SqL.of (s4 _ _ hc),by unfold yaf;simp⟩,k H4 s4 e4⟩
 ·rintro j H4 hj ⟨s4,e4⟩
  have htj:(yaf cs)[j]?=some (.ref cs[j].1):=by unfold yaf;rw[List.getElem?_map,List.getElem?_eq_getElem hj];rfl
  refine ⟨⟨_,_,SqL.of (s4 _ _ hc),htj⟩,?_⟩
  rintro y H5 ⟨rfl,hy⟩
  have hy':=hy _ (SqL.of (s4 _ _ hc))
  rw[htj] at hy'
  cases hy'
  obtain ⟨r,l,et,_,hat⟩:=hC.of_mem (List.getElem_mem hj)
  have tj:(cs.take (j+1)).map (kp i)=(cs.take j).map (kp i)++[kp i cs[j]]:=by rw[List.take_add_one,List.getElem?_eq_getElem hj,List.map_append];rfl
  have ha:atI [V.int r,.int l] (i:Int)=some (.int (kp i cs[j])):=by
   unfold kp
   rw[et]
   rcases (by omega:i=0∨i=1) with rfl|rfl<;>rfl
  refine ⟨qap.set (qap.refl _) rfl,?_⟩
  unfold tYes
  refine iteB rfl ⟨_,rfl,_,_,_,_,rfl,rfl,SqT.of (s4 _ _ hat),ha,_,e4,qa9 (by rw[List.length_map,List.length_map,List.length_take];omega),s4.at nD,?_⟩
  rw[yaa,tj,List.map_append]
  rfl
section
variable {P:Program}{w:World}{K:PySem.W.Frag}{mg:Str→Option Value}{base:Heap}
def ydl:Sp:=fun vs H Q _=>∃ i:Int,vs=[.int i]∧Q (.bl true) H
abbrev ya8:Stmt:=top 25
theorem yb4:FnScope ["_law_thing"] ["_law_thing"] (qaf ya8):=⟨rfl,rfl,rfl,by decide +kernel,rfl,by decide +kernel,by decide +kernel⟩
theorem qgq (B:Bl mg) (F:FnAt K mg "_law_is_whole" ya8 ["_law_thing"]):Has P w K mg base 1 "_law_is_whole" ["_law_thing"] ydl:=by
 refine Has.ofQ F yb4 (fun vs H Q E h=>?_) (fun f cdv A outer s H vs Q E hr h=>?_)
 ·obtain ⟨i,rfl,_⟩:=h
  rfl
 ·obtain ⟨i,rfl,k⟩:=h
  have sc:=yb4
  refine ⟨_,(qak rfl (yae (qag (qaa (ybe (qas qa0 rfl (B.of rfl) boot_isinstance (qac (pv 0) (qac (qa7 (v:=.ty "int") rfl (B.of rfl) boot_int rfl) yah))) (qb5 (pe_not (qas qa0 rfl (B.of rfl) boot_isinstance (qac (pv 0) (qac (qa7 (v:=.ty "bool") rfl (B.of rfl) boot_bool rfl) yah)))))))))),?_⟩
  exact ⟨_,rfl,_,_,_,_,rfl,.int _,rfl,_,rfl,iteB rfl ⟨_,rfl,_,_,_,_,rfl,.int _,rfl,_,rfl,k⟩⟩
def yga:Sp:=fun vs H Q _=>∃ (l:Addr) (ns:List Int) (most:Nat),vs=[.ref l,.int most]∧ns.length≤most∧H l=some (.lst (ns.map V.int))∧ns.Pairwise (· < ·)∧(∀ x∈ns,0≤x∧x<12)∧∀ H',Same H H'→Q (.bl true) H'
abbrev qax:Stmt:=top 26
theorem ybl:FnScope ["_law_thing","_law_most","_law_at"] ["_law_thing","_law_most"] (qaf qax):=⟨rfl,rfl,rfl,by decide +kernel,rfl,by decide +kernel,by decide +kernel⟩
theorem ok_nums (B:Bl mg) (qa8:Has P w K mg base 1 "_law_is_whole" ["_law_thing"] ydl) (F:FnAt K mg "_law_are_numbers" qax ["_law_thing","_law_most"]):Has P w K mg base 2 "_law_are_numbers" ["_law_thing","_law_most"] yga:=by
 refine Has.ofQ F ybl (fun vs H Q E h=>?_) (fun f cdv A outer s H vs Q E hr h=>?_)
 ·obtain ⟨l,ns,most,rfl,_⟩:=h
  rfl
 ·obtain ⟨l,ns,most,rfl,hmost,hl,hp,h12,k⟩:=h
  have sc:=ybl
  refine ⟨_,(qak rfl (yac (yan (QW.pt (qb8 (qa2 (qao (qai qa0 rfl (B.of rfl) boot_isinstance (qah (qaa (pv 0)) (qah (qaa (qa7 (v:=.ty "list") rfl (B.of rfl) boot_list rfl)) yad))))) (ybw (yak ycf (qai yai rfl (B.of rfl) boot_len (qah (qaa (pv 0)) yad)) (qaa (pv 1)) (yal _)))))
    (yae (qag (qaa ya9)))
    qam)
   (yac (qbv PassesOwn.never rfl (ye4 (ybd rfl (B.of rfl) (qac (qas yai rfl (B.of rfl) boot_len (qac (pv 0) yah)) yah))) (yaj (i:=2) sc.nd rfl (Or.inl rfl))
    (yae (yan (QW.pt (qb8 (qa2 (qao (yag qa8 hr (ya0 (qan yaw (qaa (pv 0)) (qaa (pv 2)) (fun _ _=>rfl)) yad)))) (qb8 (qa2 (qgy (pt_chain op_le op_lt qab (qav yaw (pv 0) (pv 2) (fun _ _=>rfl)) qab))) (ybw (QW.pt (ycw (yak ycf (qaa (pv 2)) (qaa qab) (yal _)) (yb1 (yak op_le (qan yaw (qaa (pv 0)) (qaa (pv 2)) (fun _ _=>rfl)) (qan yaw (qaa (pv 0)) (yat yb8 (qaa (pv 2)) (qaa qab)) (fun _ _=>rfl)) (yal _)))))))))
     (yae (qag (qaa ya9)))
     qam)))
   (yae (qag (qaa ya9)))))),?_⟩
  have hnl:ns.length≤12:=yep (hp.imp fun h=>by omega) h12
  refine ⟨_,rfl,_,_,_,_,rfl,.lst hl,rfl,_,rfl,iteN rfl ?_⟩
  refine ⟨_,rfl,l,_,rfl,.inl (SqL.of hl),_,rfl,_,_,rfl,rfl,_,rfl,qb4 (by rw[List.length_map];omega) ?_⟩
  refine ⟨_,rfl,l,_,rfl,.inl (SqL.of hl),_,rfl,by rw[List.length_map];omega,by rw[List.length_map];omega,?_⟩
  rw[List.length_map]
  refine qb7 (n:=ns.length) (fun i σ H2=>∃ o2:Option V,σ=[some (.ref l),some (.int most),o2]∧Same H H2) ⟨none,rfl,Same.refl H⟩ ?_ fun σ H2 ⟨_,_,s2⟩=>k H2 s2
  rintro i σ H2 hi ⟨o2,rfl,s2⟩
  have hl2:=s2 _ _ hl
  have hx:ns[i]?=some ns[i]:=List.getElem?_eq_getElem hi
  have hm:ns[i]∈ns:=List.getElem_mem hi
  obtain ⟨x0,x1⟩:=h12 _ hm
  have at1:atI (ns.map V.int) ((0:Int)+(i:Int))=some (.int ns[i]):=by rw[show (0:Int)+(i:Int)=((i:Nat):Int) by omega];exact ydn (ya6 hx)
  refine ⟨_,rfl,_,rfl,l,_,_,_,rfl,rfl,SqL.of hl2,at1,_,rfl,_,rfl,iteN rfl ?_⟩
  refine ⟨_,rfl,_,rfl,l,_,_,_,rfl,rfl,SqL.of hl2,at1,_,_,rfl,rfl,_,rfl,?_⟩
  refine iteD x0 ⟨_,_,rfl,rfl,_,rfl,iteN (by rw[decide_eq_true x1];rfl) ?_⟩
  refine ⟨_,rfl,_,_,rfl,rfl,_,rfl,?_⟩
  by_cases hi0:(0:Int)<0+(i:Int)
  ·refine iteD hi0 ?_
   have hj:i-1<ns.length:=by omega
   have at2:atI (ns.map V.int) ((0:Int)+(i:Int)-1)=some (.int ns[i-1]):=by rw[show (0:Int)+(i:Int)-1=((i-1:Nat):Int) by omega];exact ydn (ya6 (List.getElem?_eq_getElem hj))
   have lt:=List.pairwise_iff_getElem.mp hp (i-1) i hj hi (by omega)
   refine ⟨_,rfl,_,rfl,l,_,_,_,rfl,rfl,SqL.of hl2,at1,_,rfl,_,rfl,_,_,rfl,rfl,l,_,_,_,rfl,rfl,SqL.of hl2,at2,_,_,rfl,rfl,_,rfl,qb4 (by omega) ⟨_,rfl,s2⟩⟩
  ·exact qb4 hi0 (iteF ⟨_,rfl,s2⟩)
def yew:Sp:=fun vs H Q _=>∃ (b r l:Addr) (ts:List TL) (bs:Bs) (R L:List Int),vs=[.ref b,.ref r,.ref l]∧H b=some (.lst (yaf ts))∧PT H ts bs∧H r=some (.lst (R.map V.int))∧H l=some (.lst (L.map V.int))∧bs.length≤100∧
 ∀ H',Same H H'→Q (.bl (bs.all fun p=>decide (p.1∈R)||decide (p.2∈L))) H'
abbrev qbh:Stmt:=top 27
theorem qcj:FnScope ["_law_broken_here","_law_rows","_law_lines"] ["_law_broken_here","_law_rows","_law_lines"] (qaf qbh):=⟨rfl,rfl,rfl,by decide +kernel,rfl,by decide +kernel,by decide +kernel⟩
theorem ygr (B:Bl mg) (F:FnAt K mg "_law_covers" qbh ["_law_broken_here","_law_rows","_law_lines"]):Has P w K mg base 1 "_law_covers" ["_law_broken_here","_law_rows","_law_lines"] yew:=by
 refine Has.ofQ F qcj (fun vs H Q E h=>?_) (fun f cdv A outer s H vs Q E hr h=>?_)
 ·obtain ⟨b,r,l,ts,bs,R,L,rfl,_⟩:=h
  rfl
 ·obtain ⟨b,r,l,ts,bs,R,L,rfl,hb,hP,hR,hL,hbl,k⟩:=h
  have hpl:=hP.len
  have sc:=qcj
  refine ⟨_,(qak rfl (yae (qag (qd1 (op_eqD hr) (qaa (qa1 rfl (yam rfl) (M:=["_law_cell","_law_rows","_law_lines"]) (ix:=[none,some 1,some 2]) (qa4 (pv 0)) (fun _ _ _ _=>(yaj (i:=0) (show List.Nodup (["_law_cell","_law_rows","_law_lines"]:List Str) by decide +kernel) rfl (Or.inl rfl))) (fun _ _ _ _=>(ycl (PW.pt (qfc (qbt (ycs (K:=K) rfl) (qav (ya7 (K:=K) rfl) (pv 0) qab (fun _ _=>rfl)) (pv 1) (by with_unfolding_all rfl)) (qd9 (qbt (ycs (K:=K) rfl) (qav (ya7 (K:=K) rfl) (pv 0) qab (fun _ _=>rfl)) (pv 2) (by with_unfolding_all rfl))))))) (fun _ _ _ _=>(pv 0)))) (qbn yad) (yal _))))),?_⟩
  refine ⟨_,rfl,b,rfl,⟨_,SqL.of hb⟩,fun D nD=>ya2 (n:=ts.length) (fun i H2=>Same H H2∧H2 D=some (.lst (yaf ((ts.take i).filter (qdr R L))))) ⟨(Same.refl H).upd nD,yaa⟩ ?_ ?_⟩
  ·rintro H2 ⟨s2,e2⟩
   rw[List.take_length] at e2
   refine ⟨⟨_,SqL.of (s2 _ _ hb),by unfold yaf;simp⟩,Nat.zero_le _,fun z nz=>?_⟩
   have s3:=s2.upd (o:=.lst []) nz
   have e3:upd H2 z (.lst []) D=some (.lst (yaf (ts.filter (qdr R L)))):=by rw[qad (yab e2 nz)];exact e2
   refine ⟨.list (tupD ((ts.filter (qdr R L)).map (·.2))),.list [],.lst e3 (atTs fun t ht=>s3 _ _ (hP.at_ t (List.mem_filter.mp ht).1)),.lst yaa .nil,yfx _,rfl,by have:=depTs ((ts.filter (qdr R L)).map (·.2));simp only[PyData.depth];omega,?_⟩
   rw[ygx,List.isEmpty_map,yc1]
   have kk:=k _ s3
   rw[hP.bs_eq,List.all_map] at kk
   have e:(ts.all fun t=>!qdr R L t)=ts.all ((fun p=>decide (p.1∈R)||decide (p.2∈L)) ∘ fun t:TL=>(t.2.getD 0 0,t.2.getD 1 0)):=by
    congr 1
    funext t
    unfold qdr
    rw[Bool.not_and,Bool.not_not,Bool.not_not]
    rfl
   rw[e]
   exact kk
  ·rintro i H2 hi ⟨s2,e2⟩
   have hb2:=s2 _ _ hb
   have hti:(yaf ts)[i]?=some (.ref ts[i].1):=by unfold yaf;rw[List.getElem?_map,List.getElem?_eq_getElem hi];rfl
   refine ⟨⟨_,_,SqL.of hb2,hti⟩,?_⟩
   rintro x H3 ⟨rfl,hx⟩
   have hx':=hx _ (SqL.of hb2)
   rw[hti] at hx'
   cases hx'
   obtain ⟨a,r1,l1,ea,hbi,hat⟩:=hP.get hti
   cases ea
   have ht:ts[i]?=some ts[i]:=List.getElem?_eq_getElem hi
   have tk:ts.take (i+1)=ts.take i++[ts[i]]:=by rw[List.take_add_one,ht];rfl
   have g01:ts[i].2.getD 0 0=r1∧ts[i].2.getD 1 0=l1:=by
    have:=congrArg (·[i]?) hP.bs_eq
    simp only[List.getElem?_map,hbi,ht,Option.map_some,Option.some.injEq,Prod.mk.injEq] at this
    exact ⟨this.1.symm,this.2.symm⟩
   have fl:((ts.take i).filter (qdr R L)).length≤i:=Nat.le_trans (List.length_filter_le _ _) (by rw[List.length_take];omega)
   refine ⟨qap.set (qap.refl _) rfl,?_⟩
   have h3:=s2 _ _ hat
   have hR3:=s2 _ _ hR
   have hL3:=s2 _ _ hL
   refine ⟨_,rfl,_,_,_,_,rfl,rfl,SqT.of h3,qae 0 rfl,_,rfl,r,_,rfl,.inl (SqL.of hR3),rfl,yde R,_,rfl,?_⟩
   show if (!inV (V.int r1) (R.map V.int))=true then _ else _
   rw[yd6]
   by_cases h1:r1∈R
   ·refine iteN (by rw[decide_eq_true h1];rfl) (iteF ⟨s2,?_⟩)
    rw[e2,tk,List.filter_append,List.filter_cons_of_neg (by unfold qdr;rw[g01.1];simp[h1])]
    simp
   ·refine iteB (by rw[decide_eq_false h1];rfl) ?_
    refine ⟨_,rfl,_,_,_,_,rfl,rfl,SqT.of h3,qae 1 rfl,_,rfl,l,_,rfl,.inl (SqL.of hL3),rfl,yde L,_,rfl,?_⟩
    show if (!inV (V.int l1) (L.map V.int))=true then _ else _
    rw[yd6]
    by_cases h2:l1∈L
    ·refine iteN (by rw[decide_eq_true h2];rfl) ⟨s2,?_⟩
     rw[e2,tk,List.filter_append,List.filter_cons_of_neg (by unfold qdr;rw[g01.2];simp[h2])]
     simp
    ·refine iteB (by rw[decide_eq_false h2];rfl) ⟨_,rfl,_,e2,qa9 (by unfold yaf;rw[List.length_map];omega),s2.at nD,?_⟩
     rw[yaa,tk,List.filter_append,List.filter_cons_of_pos (by unfold qdr;rw[g01.1,g01.2];simp[h1,h2])]
     unfold yaf
     rw[List.map_append]
     rfl
abbrev ybf:Stmt:=top 28
theorem qci:FnScope ["_law_broken_here","_law_thing"] ["_law_broken_here","_law_thing"] (qaf ybf):=⟨rfl,rfl,rfl,by decide +kernel,rfl,by decide +kernel,by decide +kernel⟩
theorem ok_lone (B:Bl mg) (qa8:Has P w K mg base 1 "_law_is_whole" ["_law_thing"] ydl) (F:FnAt K mg "_law_is_one" ybf ["_law_broken_here","_law_thing"]):Has P w K mg base 2 "_law_is_one" ["_law_broken_here","_law_thing"] qc7:=by
 refine Has.ofQ F qci (fun vs H Q E h=>?_) (fun f cdv A outer s H vs Q E hr h=>?_)
 ·obtain ⟨b,t,ts,bs,r,l,rfl,_⟩:=h
  rfl
 ·obtain ⟨b,t,ts,bs,r,l,rfl,hb,hP,hbl,ht,k⟩:=h
  have sc:=qci
  refine ⟨_,(qak rfl (yac (yan (QW.pt (qb8 (qa2 (qao (qai qa0 rfl (B.of rfl) boot_isinstance (qah (qaa (pv 1)) (qah (qaa (qa7 (v:=.ty "tuple") rfl (B.of rfl) boot_tuple rfl)) yad))))) (ybw (yak yer (qai yai rfl (B.of rfl) boot_len (qah (qaa (pv 1)) yad)) (qaa qab) (yal _)))))
    (yae (qag (qaa ya9)))
    qam)
   (yae (qag (qaa (ybe (qar qa8 hr (qac (qav qaj (pv 1) qab (fun _ _=>rfl)) yah)) (ybe (qar qa8 hr (qac (qav qaj (pv 1) qab (fun _ _=>rfl)) yah)) (qb5 (yb7 (op_inP hr) (pv 1) (pv 0) (by with_unfolding_all rfl)))))))))),?_⟩
  refine ⟨_,rfl,_,_,_,_,rfl,.tup ht,rfl,_,rfl,iteN rfl ?_⟩
  refine ⟨_,rfl,t,_,rfl,.inr (SqT.of ht),rfl,_,rfl,iteN rfl ?_⟩
  refine ⟨_,rfl,t,_,_,_,rfl,rfl,SqT.of ht,qae 0 rfl,r,rfl,_,rfl,iteB rfl ⟨_,rfl,t,_,_,_,rfl,rfl,SqT.of ht,qae 1 rfl,l,rfl,_,rfl,iteB rfl ?_⟩⟩
  refine ⟨_,rfl,_,rfl,t,b,[r,l],ts,rfl,rfl,ht,hb,hP.at_,?_⟩
  have e:decide ([r,l]∈ts.map (·.2))=decide ((r,l)∈bs):=decide_eq_decide.mpr (by
   rw[hP.eq]
   constructor
   ·intro z
    obtain ⟨p,hp,e⟩:=List.mem_map.mp z
    cases p with
    | mk r' l'=>
     cases e
     exact hp
   ·intro z
    exact List.mem_map_of_mem (f:=pr2) z)
  show Q (.bl (decide ([r,l]∈ts.map (·.2)))) H
  rw[e]
  exact k H (Same.refl H)
abbrev ya3:Stmt:=top 29
theorem qbu:FnScope ["_law_broken_here","_law_rows","_law_lines","_law_thing"] ["_law_broken_here","_law_rows","_law_lines","_law_thing"] (qaf ya3):=⟨rfl,rfl,rfl,by decide +kernel,rfl,by decide +kernel,by decide +kernel⟩
theorem ok_apart (B:Bl mg) (ye3:mg "set" = none) (qb2:Has P w K mg base 2 "_law_is_one" ["_law_broken_here","_law_thing"] qc7) (F:FnAt K mg "_law_are_apart" ya3 ["_law_broken_here","_law_rows","_law_lines","_law_thing"]):Has P w K mg base 3 "_law_are_apart" ["_law_broken_here","_law_rows","_law_lines","_law_thing"] qc2:=by
 refine Has.ofQ F qbu (fun vs H Q E h=>?_) (fun f cdv A outer s H vs Q E hr h=>?_)
 ·obtain ⟨b,c,n,m,ts,cs,bs,C,rfl,_⟩:=h
  rfl
 ·obtain ⟨b,c,n,m,ts,cs,bs,C,rfl,hb,hP,hbl,hc,hC,hCl,k⟩:=h
  have hcl:=hC.len
  have sc:=qbu
  refine ⟨_,(qak rfl (yac (yan (QW.pt (qb8 (qa2 (qao (qai qa0 rfl (B.of rfl) boot_isinstance (qah (qaa (pv 3)) (qah (qaa (qa7 (v:=.ty "list") rfl (B.of rfl) boot_list rfl)) yad))))) (ybw (yak (qgk hr) (qaa (qa1 rfl (yam rfl) (M:=["_law_cell","_law_broken_here"]) (ix:=[none,some 0]) (qa4 (pv 3)) (fun _ _ _ _=>(yaj (i:=0) (show List.Nodup (["_law_cell","_law_broken_here"]:List Str) by decide +kernel) rfl (Or.inl rfl))) (fun _ _ _ _=>(ycl (pt_not (qfl (qar qb2 hr (qac (pv 1) (qac (pv 0) yah))))))) (fun _ _ _ _=>(pv 0)))) (qbn yad) (yal _)))))
    (yae (qag (qaa ya9)))
    qam)
   (yac (yan (QW.pt (ycw (yak ycf (qaa (pv 1)) (qaa qab) (yal _)) (yb1 (yak op_lt (qai ycm rfl (B.of rfl) boot_len (qb6 (qcv (ydh rfl) rfl ye3 ydi (ye6 (qaa (qa1 rfl (yam rfl) (M:=["_law_cell"]) (ix:=[none]) (qa4 (pv 3)) (fun _ _ _ _=>(yaj (i:=0) (show List.Nodup (["_law_cell"]:List Str) by decide +kernel) rfl (Or.inl rfl))) (fun _ _ _ _=>qbe) (fun _ _ _ _=>(qav (ya7 (K:=K) rfl) (pv 0) qab (fun _ _=>rfl))))) yad)) yad)) (qai yai rfl (B.of rfl) boot_len (qah (qaa (pv 3)) yad)) (yal _)))))
    (yae (qag (qaa ya9)))
    qam)
   (yac (yan (QW.pt (ycw (yak ycf (qaa (pv 2)) (qaa qab) (yal _)) (yb1 (yak op_lt (qai ycm rfl (B.of rfl) boot_len (qb6 (qcv (ydh rfl) rfl ye3 ydi (ye6 (qaa (qa1 rfl (yam rfl) (M:=["_law_cell"]) (ix:=[none]) (qa4 (pv 3)) (fun _ _ _ _=>(yaj (i:=0) (show List.Nodup (["_law_cell"]:List Str) by decide +kernel) rfl (Or.inl rfl))) (fun _ _ _ _=>qbe) (fun _ _ _ _=>(qav (ya7 (K:=K) rfl) (pv 0) qab (fun _ _=>rfl))))) yad)) yad)) (qai yai rfl (B.of rfl) boot_len (qah (qaa (pv 3)) yad)) (yal _)))))
    (yae (qag (qaa ya9)))
    qam)
   (yae (qag (qd1 ycf (qai yai rfl (B.of rfl) boot_len (qah (qaa (pv 3)) yad)) (yat ya1 (qaa (pv 1)) (qaa (pv 2))) (yal _)))))))),?_⟩
  refine ⟨_,rfl,_,_,_,_,rfl,.lst hc,rfl,_,rfl,iteN rfl ?_⟩
  refine ⟨_,rfl,c,rfl,⟨_,SqL.of hc⟩,fun D nD=>ya2 (n:=cs.length) (fun j H'=>Same H H'∧H' D=some (.lst (yaf ((cs.take j).filter fun t=>!decide ((t.2.getD 0 0,t.2.getD 1 0)∈bs))))) ⟨(Same.refl H).upd nD,yaa⟩ ?_ ?_⟩
  rotate_left
  ·rintro j H4 hj ⟨s4,e4⟩
   have htj:(yaf cs)[j]?=some (.ref cs[j].1):=by unfold yaf;rw[List.getElem?_map,List.getElem?_eq_getElem hj];rfl
   refine ⟨⟨_,_,SqL.of (s4 _ _ hc),htj⟩,?_⟩
   rintro y H5 ⟨rfl,hy⟩
   have hy':=hy _ (SqL.of (s4 _ _ hc))
   rw[htj] at hy'
   cases hy'
   obtain ⟨r,l,et,_,hat⟩:=hC.of_mem (List.getElem_mem hj)
   have tk:cs.take (j+1)=cs.take j++[cs[j]]:=by rw[List.take_add_one,List.getElem?_eq_getElem hj];rfl
   have fl:((cs.take j).filter fun t=>!decide ((t.2.getD 0 0,t.2.getD 1 0)∈bs)).length≤j:=Nat.le_trans (List.length_filter_le _ _) (by rw[List.length_take];omega)
   have ek:(cs[j].2.getD 0 0,cs[j].2.getD 1 0)=(r,l):=by rw[et];rfl
   refine ⟨qap.set (qap.refl _) rfl,?_⟩
   refine ⟨_,rfl,_,rfl,b,cs[j].1,ts,bs,r,l,rfl,s4 _ _ hb,hP.same s4,hbl,s4 _ _ hat,fun H6 s6=>⟨_,rfl,?_⟩⟩
   by_cases hin:(r,l)∈bs
   ·refine iteN (by rw[decide_eq_true hin];rfl) ⟨s4.trans s6,?_⟩
    rw[s6 _ _ e4,tk,List.filter_append,List.filter_cons_of_neg (by rw[ek,decide_eq_true hin];decide)]
    simp
   ·refine iteB (by rw[decide_eq_false hin];rfl) ⟨_,rfl,_,s6 _ _ e4,qa9 (by unfold yaf;rw[List.length_map];omega),(s4.trans s6).at nD,?_⟩
    rw[yaa,tk,List.filter_append,List.filter_cons_of_pos (by rw[ek,decide_eq_false hin];rfl)]
    unfold yaf
    rw[List.map_append]
    rfl
  rintro H4' ⟨s4',e4⟩
  rw[List.take_length] at e4
  refine ⟨⟨_,SqL.of (s4' _ _ hc),by unfold yaf;simp⟩,Nat.zero_le _,fun z nz=>?_⟩
  have s4:=s4'.upd (o:=.lst []) nz
  have e4:upd H4' z (.lst []) D=some (.lst (yaf (cs.filter fun t=>!decide ((t.2.getD 0 0,t.2.getD 1 0)∈bs)))):=by rw[qad (yab e4 nz)];exact e4
  refine ⟨.list (tupD ((cs.filter fun t=>!decide ((t.2.getD 0 0,t.2.getD 1 0)∈bs)).map (·.2))),.list [],.lst e4 (atTs fun t ht=>s4 _ _ (hC.at_ t (List.mem_filter.mp ht).1)),.lst yaa .nil,yfx _,rfl,by have:=depTs ((cs.filter fun t=>!decide ((t.2.getD 0 0,t.2.getD 1 0)∈bs)).map (·.2));simp only[PyData.depth];omega,_,rfl,?_⟩
  rw[ygx,List.isEmpty_map,yc1]
  have eall:(cs.all fun t=>!(!decide ((t.2.getD 0 0,t.2.getD 1 0)∈bs)))=decide (∀ p∈C,p∈bs):=by
   rw[Bool.eq_iff_iff,List.all_eq_true,decide_eq_true_eq,hC.bs_eq]
   constructor
   ·intro h p hp
    obtain ⟨t,ht,rfl⟩:=List.mem_map.mp hp
    have:=h t ht
    rw[Bool.not_not] at this
    exact of_decide_eq_true this
   ·intro h t ht
    rw[Bool.not_not]
    exact decide_eq_true (h _ (List.mem_map_of_mem (f:=fun t:TL=>(t.2.getD 0 0,t.2.getD 1 0)) ht))
  rw[eall]
  revert s4
  generalize upd H4' z (.lst [])=H4
  intro s4
  by_cases hsub:∀ p∈C,p∈bs
  ·refine iteN (by rw[decide_eq_true hsub];rfl) ?_
   have hc4:=s4 _ _ hc
   have hC4:=hC.same s4
   have fin:∀ H5,Same H H5→(0<n→(C.map (·.1)).Nodup)→(0<m→(C.map (·.2)).Nodup)→Q (.bl (decide (n+m<C.length))) H5:=fun H5 s5 h1 h2=>k _ H5 ⟨fun z=>⟨hsub,h1,h2,of_decide_eq_true z⟩,fun z=>decide_eq_true z.2.2.2⟩ s5
   have no:∀ H5,Same H H5→¬ ybn bs n m (.cells C)→Q (.bl false) H5:=fun H5 s5 z=>k false H5 ⟨fun z=>(by cases z),fun y=>absurd y z⟩ s5
   have ecl:(yaf cs).length=C.length:=by unfold yaf;rw[List.length_map];exact hcl
   have ul:∀ i,(uniq (cs.map (kp i))).length≤C.length:=fun i=>Nat.le_trans (yfa _) (by rw[List.length_map];omega)
   have un:∀ i,¬ (uniq (cs.map (kp i))).length<C.length→(cs.map (kp i)).Nodup:=fun i h=>ycz (by have:=ul i;rw[List.length_map];omega)
   have nu:∀ i,(cs.map (kp i)).Nodup→¬ (uniq (cs.map (kp i))).length<C.length:=fun i h=>by rw[ycu h,List.length_map];omega
   refine' twice (S:=fun H5=>Same H H5∧(0<n→(C.map (·.1)).Nodup)) (fun st2=>?main) ?st2
   case main=>
    refine ⟨_,rfl,_,_,rfl,rfl,_,rfl,?_⟩
    by_cases hn:0<n
    ·refine iteD (by omega) ⟨_,rfl,c,rfl,⟨_,SqL.of hc4⟩,fun D2 nD2=>qeu (i:=0) nD2 hc4 hC4 hCl (by decide) fun H5 s5 e5=>⟨D2,_,rfl,e5,by rw[List.length_map];omega,fun q2 n2=>⟨q2,_,rfl,yaa,_,rfl,c,_,rfl,.inl (SqL.of ((s5.upd n2) _ _ hc4)),_,_,rfl,rfl,_,rfl,?_⟩⟩⟩
     generalize hH6:upd H5 q2 _=H6
     have s6:Same H H6:=by rw[← hH6];exact s4.trans (s5.upd n2)
     clear hH6
     rw[ecl]
     by_cases hlt:(uniq (cs.map (kp 0))).length<C.length
     ·exact iteD (by omega) (no H6 s6 fun y=>nu 0 (by rw[(cols hC4).1];exact y.2.1 hn) hlt)
     ·exact qb4 (by omega) (st2 H6 ⟨s6,fun _=>by rw[← (cols hC4).1];exact un 0 hlt⟩)
    ·exact qb4 (by omega) (iteF (st2 H4 ⟨s4,fun z=>absurd z hn⟩))
   case st2=>
    rintro H5 ⟨s5,h1⟩
    refine ⟨_,rfl,_,_,rfl,rfl,_,rfl,?_⟩
    have hc5:=s5 _ _ hc
    have hC5:=hC.same s5
    have fin2:∀ H6,Same H H6→(0<m→(C.map (·.2)).Nodup)→Q (.bl (decide ((n:Int)+(m:Int)<((yaf cs).length:Int)))) H6:=fun H6 s6 h2=>by
     have:=fin H6 s6 h1 h2
     rw[ecl,show decide ((n:Int)+(m:Int)<(C.length:Int))=decide (n+m<C.length) from decide_eq_decide.mpr (by omega)]
     exact this
    by_cases hm:0<m
    ·refine iteD (by omega) ⟨_,rfl,c,rfl,⟨_,SqL.of hc5⟩,fun D2 nD2=>qeu (i:=1) nD2 hc5 hC5 hCl (by decide) fun H6' s6' e6=>⟨D2,_,rfl,e6,by rw[List.length_map];omega,fun q2 n2=>⟨q2,_,rfl,yaa,_,rfl,c,_,rfl,.inl (SqL.of ((s6'.upd n2) _ _ hc5)),_,_,rfl,rfl,_,rfl,?_⟩⟩⟩
     generalize hH6:upd H6' q2 _=H6
     have s6:Same H H6:=by rw[← hH6];exact s5.trans (s6'.upd n2)
     clear hH6
     rw[ecl]
     by_cases hlt:(uniq (cs.map (kp 1))).length<C.length
     ·exact iteD (by omega) (no H6 s6 fun y=>nu 1 (by rw[(cols hC5).2];exact y.2.2.1 hm) hlt)
     ·exact qb4 (by omega) ⟨_,rfl,c,_,rfl,.inl (SqL.of (s6 _ _ hc)),_,rfl,_,rfl,_,_,rfl,rfl,_,_,rfl,rfl,fin2 H6 s6 fun _=>by rw[← (cols hC5).2];exact un 1 hlt⟩
    ·exact qb4 (by omega) (iteF ⟨_,rfl,c,_,rfl,.inl (SqL.of hc5),_,rfl,_,rfl,_,_,rfl,rfl,_,_,rfl,rfl,fin2 H5 s5 fun z=>absurd z hm⟩)
  ·refine iteB (by rw[decide_eq_false hsub];rfl) (k false H4 ⟨fun z=>(by cases z),fun z=>absurd z.1 hsub⟩ s4)
end
end Mc
namespace Mc
open PySem L2 PyProof.Rows Mx PySem.W
theorem qel {K:PySem.W.Frag}{q i:Nat}{σ:L2.St}{H:Hp}{QD:Hp→Prop}{c D:Addr}{r:Int}{cs:List TL}{C:Bs} (hσ2:σ[q]?=some (some (.int r))) (nD:H D=none) (hc:H c=some (.lst (yaf cs))) (hC:PT H cs C) (hl:C.length≤1000) (hi:i<2)
  (k:∀ H',Same H H'→H' D=some (.lst (yaf (cs.filter fun t=>!decide (kp i t=r))))→QD H') :
  ∃ W:Nat→Nat→Hp→Prop,(∃ m,W 0 m (upd H D (.lst [])))∧∀ j m H,W j m H→
   ((Itl K c).stop j H∧QD H)∨((Itl K c).go j H∧∃ N:Hp→Prop,(∀ H',N H'→∃ m',m' < m∧W (j+1) m' H')∧∀ x H',(Itl K c).yld j H x H'→yeb 0 x (capS [none,some q] σ) H' fun σ2 H2=>qap (capS [none,some q] σ) σ2∧tTest (tOp rNe (tOp (rIxT K) (tVar 0) (tC (.int i))) (tVar 1)) σ2 H2 fun b H3=>
    if b=true then tVar 0 σ2 H3 fun v H4=>∃ ys,H4 D=some (.lst ys)∧ys.length<sizeLine∧N (upd H4 D (.lst (ys++[v]))) else N H3):=by
 have hcl:=hC.len
 have ec:capS [none,some q] σ=[none,some (.int r)]:=by show [none,(σ[q]?).getD none]=_;rw[hσ2];rfl
 refine ya2 (n:=cs.length) (fun j H'=>Same H H'∧H' D=some (.lst (yaf ((cs.take j).filter fun t=>!decide (kp i t=r))))) ⟨(Same.refl H).upd nD,yaa⟩ ?_ ?_
 ·rintro H4 ⟨s4,e4⟩
  rw[List.take_length] at e4
  exact ⟨⟨_,SqL.of (s4 _ _ hc),by unfold yaf;simp⟩,k H4 s4 e4⟩
 ·rintro j H4 hj ⟨s4,e4⟩
  rw[ec]
  have ht:cs[j]?=some cs[j]:=List.getElem?_eq_getElem hj
  obtain ⟨r1,l1,et,_,hat⟩:=hC.of_mem (List.getElem_mem hj)
  generalize cs[j]=t at ht et hat
  have htj:(yaf cs)[j]?=some (.ref t.1):=by unfold yaf;rw[List.getElem?_map,ht];rfl
  refine ⟨⟨_,_,SqL.of (s4 _ _ hc),htj⟩,?_⟩
  rintro y H5 ⟨rfl,hy⟩
  have hy':=hy _ (SqL.of (s4 _ _ hc))
  rw[htj] at hy'
  cases hy'
  have tk:cs.take (j+1)=cs.take j++[t]:=by rw[List.take_add_one,ht];rfl
  have fl:((cs.take j).filter fun t=>!decide (kp i t=r)).length≤j:=Nat.le_trans (List.length_filter_le _ _) (by rw[List.length_take];omega)
  have a1:atI [V.int r1,.int l1] (i:Int)=some (.int (kp i t)):=by
   unfold kp
   rw[et]
   rcases (by omega:i=0∨i=1) with rfl|rfl<;>rfl
  refine ⟨qap.set (qap.refl _) rfl,?_⟩
  refine ⟨_,rfl,_,_,_,_,rfl,rfl,SqT.of (s4 _ _ hat),a1,_,rfl,rfl,_,rfl,?_⟩
  by_cases hc:kp i t=r
  ·refine iteN (by rw[hc];simp) ⟨s4,?_⟩
   rw[e4,tk,List.filter_append,List.filter_cons_of_neg (by rw[hc];simp)]
   simp
  ·refine iteB (by rw[decide_eq_false fun z=>hc (by injection z)];rfl) ⟨_,rfl,_,e4,qa9 (by unfold yaf;rw[List.length_map];omega),s4.at nD,?_⟩
   rw[yaa,tk,List.filter_append,List.filter_cons_of_pos (by rw[decide_eq_false hc];rfl)]
   unfold yaf
   rw[List.map_append]
   rfl
section
variable {P:Program}{w:World}{K:PySem.W.Frag}{mg:Str→Option Value}{base:Heap}
abbrev qbl:Stmt:=top 30
theorem qc6:FnScope ["_law_broken_here","_law_rows","_law_lines","_law_thing","_law_row","_law_line","_law_one","_law_other"] ["_law_broken_here","_law_rows","_law_lines","_law_thing"] (qaf qbl):=⟨rfl,rfl,rfl,by decide +kernel,rfl,by decide +kernel,by decide +kernel⟩
theorem yej {N:Nat} (B:Bl mg) (qb2:Has P w K mg base 2 "_law_is_one" ["_law_broken_here","_law_thing"] qc7) (yda:Has P w K mg base 3 "_law_are_apart" ["_law_broken_here","_law_rows","_law_lines","_law_thing"] qc2)
  (yb0:Has P w K mg base (3+N) "_law_lets" ["_law_broken_here","_law_rows","_law_lines","_law_thing"] (ydb N)) (F:FnAt K mg "_law_lets" qbl ["_law_broken_here","_law_rows","_law_lines","_law_thing"]):Has P w K mg base (4+N) "_law_lets" ["_law_broken_here","_law_rows","_law_lines","_law_thing"] (qcm N):=by
 rw[show 4+N=(3+N)+1 by omega]
 refine Has.ofQ F qc6 (fun vs H Q E h=>?_) (fun f cdv A outer s H vs Q E hr h=>?_)
 ·obtain ⟨b,v,n,m,ts,bs,t,rfl,_⟩:=h
  rfl
 ·obtain ⟨b,v,n,m,ts,bs,t,rfl,hnm,hb,hP,hbl,hT,k⟩:=h
  have sc:=qc6
  refine ⟨_,(qak rfl (yac (yan (QW.pt (qb8 (qa2 (qao (qai qa0 rfl (B.of rfl) boot_isinstance (qah (qaa (pv 3)) (qah (qaa (qa7 (v:=.ty "tuple") rfl (B.of rfl) boot_tuple rfl)) yad))))) (qb8 (yak qca (qai yai rfl (B.of rfl) boot_len (qah (qaa (pv 3)) yad)) (qbd (qaw (qaa qab) (qaw (qaa qab) yad))) (by with_unfolding_all rfl)) (ybw (qa2 (qao (qai qa0 rfl (B.of rfl) boot_isinstance (ya0 (qan qaj (qaa (pv 3)) (qaa qab) (fun _ _=>rfl)) (qah (qaa (qa7 (v:=.ty "str") rfl (B.of rfl) boot_str rfl)) yad)))))))))
    (yae (qag (qaa ya9)))
    qam)
   (yac (yan (yak qcf (qai yai rfl (B.of rfl) boot_len (qah (qaa (pv 3)) yad)) (qaa qab) (yal _))
    (yae (qag (qaa (ybe (yb7 qcf (qav qaj (pv 3) qab (fun _ _=>rfl)) qa5 (yal _)) (qb5 (qar (hk:=(by omega)) yda hr (qdo (pv 0) (qdo (pv 1) (qdo (pv 2) (qac (qav qaj (pv 3) qab (fun _ _=>rfl)) yah))))))))))
    qam)
   (yac (yan (QW.pt (qb8 (yak yer (qan qaj (qaa (pv 3)) (qaa qab) (fun _ _=>rfl)) (qaa qa5) (yal _)) (ybw (qa2 (qao (yag (hk:=(by omega)) qb2 hr (qah (qaa (pv 0)) (ya0 (qan qaj (qaa (pv 3)) (qaa qab) (fun _ _=>rfl)) yad))))))))
    (yae (qag (qaa ya9)))
    qam)
   (yac (qs_asg (qan qaj (qaa (pv 3)) (qaa qab) (fun _ _=>rfl)) (ydu rfl (yau (yaj (i:=4) sc.nd rfl (Or.inr rfl)) (yau (yaj (i:=5) sc.nd rfl (Or.inr rfl)) ycj))))
   (yac (qal (i:=6) sc.nd rfl (Or.inl rfl) (qaa (yek (ydx (qav qaj (pv 3) qab (fun _ _=>rfl))))))
   (qdl (yan (yak ycf (qaa (pv 1)) (qaa qab) (yal _))
    (yae (qal (i:=6) sc.nd rfl (Or.inl rfl) (yag (hk:=Nat.le_refl _) yb0 hr (ye6 (qaa (qa1 rfl (yam rfl) (M:=["_law_cell","_law_row"]) (ix:=[none,some 4]) (qa4 (pv 0)) (fun _ _ _ _=>(yaj (i:=0) (show List.Nodup (["_law_cell","_law_row"]:List Str) by decide +kernel) rfl (Or.inl rfl))) (fun _ _ _ _=>(ycl (qbt yer (qav (ya7 (K:=K) rfl) (pv 0) qab (fun _ _=>rfl)) (pv 1) (yal _)))) (fun _ _ _ _=>(pv 0)))) (ycd (yat yb8 (qaa (pv 1)) (qaa qab)) (qah (qaa (pv 2)) (ya0 (qan qaj (qaa (pv 3)) (qaa qab) (fun _ _=>rfl)) yad)))))))
    qam)
   (yac (qal (i:=7) sc.nd rfl (Or.inl rfl) (qaa (yek (ydx (qav qaj (pv 3) qab (fun _ _=>rfl))))))
   (qdl (yan (QW.pt (ycw (yak ycf (qaa (pv 2)) (qaa qab) (yal _)) (yb1 (qt_valN (qaa (pv 6))))))
    (yae (qal (i:=7) sc.nd rfl (Or.inl rfl) (yag (hk:=Nat.le_refl _) yb0 hr (ye6 (qaa (qa1 rfl (yam rfl) (M:=["_law_cell","_law_line"]) (ix:=[none,some 5]) (qa4 (pv 0)) (fun _ _ _ _=>(yaj (i:=0) (show List.Nodup (["_law_cell","_law_line"]:List Str) by decide +kernel) rfl (Or.inl rfl))) (fun _ _ _ _=>(ycl (qbt yer (qav (ya7 (K:=K) rfl) (pv 0) qab (fun _ _=>rfl)) (pv 1) (yal _)))) (fun _ _ _ _=>(pv 0)))) (qah (qaa (pv 1)) (ycd (yat yb8 (qaa (pv 2)) (qaa qab)) (ya0 (qan qaj (qaa (pv 3)) (qaa qab) (fun _ _=>rfl)) yad)))))))
    qam)
   (yae (qag (qaa (ybe (pv 6) (qb5 (pv 7))))))))))))))),?_⟩
  have no:¬ ybn bs n m t→∀ H',Same H H'→Q (.bl false) H':=fun z H' s'=>k false H' ⟨fun z=>(by cases z),fun y=>absurd y z⟩ s'
  cases hT with
  | nil=>exact ⟨_,rfl,_,_,_,_,rfl,.non,rfl,_,rfl,iteB rfl (iteT (no id H (Same.refl H)))⟩
  | @cells p c cs C hp hc hC _ hl=>
   refine ⟨_,rfl,_,_,_,_,rfl,.tup hp,rfl,_,rfl,iteN rfl ?_⟩
   refine ⟨_,rfl,p,_,rfl,.inr (SqT.of hp),(by show 2≤sizeLine;decide),fun z nz=>⟨z,_,rfl,.inr (SqT.of yaa),rfl,rfl,_,rfl,iteN rfl ?_⟩⟩
   have sz:=(Same.refl H).upd (o:=.tup [.int 2,.int 4]) nz
   revert sz
   generalize upd H z (.tup [.int 2,.int 4])=Hz
   intro sz
   have hpz:=sz _ _ hp
   refine ⟨_,rfl,p,_,_,_,rfl,rfl,SqT.of hpz,qae 0 rfl,_,_,_,_,rfl,.str _,rfl,_,rfl,iteN rfl ?_⟩
   refine ⟨_,rfl,p,_,rfl,.inr (SqT.of hpz),rfl,_,rfl,iteB rfl ?_⟩
   refine ⟨_,rfl,p,_,_,_,rfl,rfl,SqT.of hpz,qae 0 rfl,rfl,_,rfl,iteB (by decide +kernel) ?_⟩
   refine ⟨_,rfl,_,rfl,_,rfl,_,rfl,p,_,_,_,rfl,rfl,SqT.of hpz,qae 1 rfl,?_⟩
   exact ⟨b,c,n,m,ts,cs,bs,C,rfl,sz _ _ hb,hP.same sz,hbl,sz _ _ hc,hC.same sz,hl,fun u H2 hu s2=>k u H2 hu (sz.trans s2)⟩
  | @split p d r l v1 v2 t1 t2 hp hd hT1 hT2=>
   refine ⟨_,rfl,_,_,_,_,rfl,.tup hp,rfl,_,rfl,iteN rfl ?_⟩
   refine ⟨_,rfl,p,_,rfl,.inr (SqT.of hp),(by show 2≤sizeLine;decide),fun z nz=>⟨z,_,rfl,.inr (SqT.of yaa),rfl,rfl,_,rfl,iteN rfl ?_⟩⟩
   have sz:=(Same.refl H).upd (o:=.tup [.int 2,.int 4]) nz
   revert sz
   generalize upd H z (.tup [.int 2,.int 4])=Hz
   intro sz
   have hpz:=sz _ _ hp
   refine ⟨_,rfl,p,_,_,_,rfl,rfl,SqT.of hpz,qae 0 rfl,_,_,_,_,rfl,.str _,rfl,_,rfl,iteN rfl ?_⟩
   refine ⟨_,rfl,p,_,rfl,.inr (SqT.of hpz),rfl,_,rfl,iteN rfl ?_⟩
   refine ⟨_,rfl,p,_,_,_,rfl,rfl,SqT.of hpz,qae 0 rfl,rfl,_,rfl,iteN (by decide +kernel) ?_⟩
   refine ⟨_,rfl,_,rfl,p,_,_,_,rfl,rfl,SqT.of hpz,qae 1 rfl,b,d,ts,bs,r,l,rfl,sz _ _ hb,hP.same sz,hbl,sz _ _ hd,fun H1 s1'=>⟨_,rfl,?_⟩⟩
   have s1:=sz.trans s1'
   clear s1' hpz sz
   by_cases hin:(r,l)∈bs
   rotate_left
   ·exact iteB (by rw[decide_eq_false hin];rfl) (no (fun z=>hin z.1) H1 s1)
   refine iteN (by rw[decide_eq_true hin];rfl) ?_
   refine ⟨_,rfl,p,_,_,_,rfl,rfl,SqT.of (s1 _ _ hp),qae 1 rfl,d,_,rfl,SqT.of (s1 _ _ hd),rfl,_,_,rfl,_,_,rfl,rfl,?_⟩
   refine ⟨_,rfl,p,_,_,_,rfl,rfl,SqT.of (s1 _ _ hp),qae 2 rfl,?_⟩
   refine ⟨fun σ' H2=>∃ c1:Bool,σ'=[some (.ref b),some (.int n),some (.int m),some (.ref p),some (.int r),some (.int l),some (.bl c1),none]∧Same H H2∧(c1=true↔(0<n→ybn (qc3 bs r) (n-1) m t1)∧(n=0→t1=.nil)),?_,?_⟩
   ·refine ⟨_,rfl,_,_,rfl,rfl,_,rfl,?_⟩
    by_cases hn:0<n
    ·refine iteD (by omega) ⟨_,rfl,b,rfl,⟨_,SqL.of (s1 _ _ hb)⟩,fun D nD=>qel (q:=4) (i:=0) (r:=r) rfl nD (s1 _ _ hb) (hP.same s1) (by omega) (by decide) fun H2 s2 e2=>?_⟩
     have s12:=s1.trans s2
     refine ⟨_,rfl,_,_,rfl,rfl,_,rfl,_,rfl,p,_,_,_,rfl,rfl,SqT.of (s12 _ _ hp),qae 2 rfl,?_⟩
     refine ⟨by omega,D,v1,n-1,m,_,qc3 bs r,t1,by show [V.ref D,V.int ((n:Int)-1),V.int m,v1]=_;rw[show (n:Int)-1=((n-1:Nat):Int) by omega],by omega,e2,(hP.same s12).wRow r,Nat.le_trans (List.length_filter_le _ _) hbl,hT1.same s12,fun u H3 hu s3=>⟨u,rfl,s12.trans s3,hu.trans ⟨fun z=>⟨fun _=>z,fun z'=>by omega⟩,fun z=>z.1 hn⟩⟩⟩
    ·refine qb4 (by omega) ⟨_,rfl,s1,?_⟩
     rw[decide_eq_true_eq,hT1.nil_iff]
     exact ⟨fun z=>⟨fun z'=>absurd z' hn,fun _=>z⟩,fun z=>z.2 (by omega)⟩
   rintro _ H2 ⟨c1,rfl,s2,h1⟩
   refine ⟨_,rfl,p,_,_,_,rfl,rfl,SqT.of (s2 _ _ hp),qae 3 rfl,?_⟩
   refine ⟨fun σ' H3=>∃ c2:Bool,σ'=[some (.ref b),some (.int n),some (.int m),some (.ref p),some (.int r),some (.int l),some (.bl c1),some (.bl c2)]∧Same H H3∧(c1=true→(c2=true↔(0<m→ybn (qby bs l) n (m-1) t2)∧(m=0→t2=.nil))),?_,?_⟩
   ·refine ⟨_,rfl,_,_,rfl,rfl,_,rfl,?_⟩
    by_cases hm:0<m
    ·refine iteD (by omega) ⟨_,rfl,_,rfl,?_⟩
     cases c1 with
     | false=>exact iteN rfl ⟨_,rfl,s2,fun z=>by cases z⟩
     | true=>
      refine iteB rfl ⟨_,rfl,b,rfl,⟨_,SqL.of (s2 _ _ hb)⟩,fun D nD=>qel (q:=5) (i:=1) (r:=l) rfl nD (s2 _ _ hb) (hP.same s2) (by omega) (by decide) fun H3 s3 e3=>?_⟩
      have s12:=s2.trans s3
      refine ⟨_,rfl,_,rfl,_,_,rfl,rfl,_,rfl,p,_,_,_,rfl,rfl,SqT.of (s12 _ _ hp),qae 3 rfl,?_⟩
      refine ⟨by omega,D,v2,n,m-1,_,qby bs l,t2,by show [V.ref D,V.int n,V.int ((m:Int)-1),v2]=_;rw[show (m:Int)-1=((m-1:Nat):Int) by omega],by omega,e3,(hP.same s12).wLine l,Nat.le_trans (List.length_filter_le _ _) hbl,hT2.same s12,fun u H4 hu s4=>⟨u,rfl,s12.trans s4,fun _=>hu.trans ⟨fun z=>⟨fun _=>z,fun z'=>by omega⟩,fun z=>z.1 hm⟩⟩⟩
    ·refine qb4 (by omega) (iteF ⟨_,rfl,s2,fun _=>?_⟩)
     rw[decide_eq_true_eq,hT2.nil_iff]
     exact ⟨fun z=>⟨fun z'=>absurd z' hm,fun _=>z⟩,fun z=>z.2 (by omega)⟩
   rintro _ H3 ⟨c2,rfl,s3,h2⟩
   refine ⟨_,rfl,_,rfl,?_⟩
   cases c1 with
   | true=>
    refine iteB rfl ⟨_,rfl,k c2 H3 ?_ s3⟩
    rw[h2 rfl]
    exact ⟨fun z=>⟨hin,(h1.mp rfl).1,(h1.mp rfl).2,z.1,z.2⟩,fun z=>⟨z.2.2.2.1,z.2.2.2.2⟩⟩
   | false=>exact iteN rfl (k false H3 ⟨fun z=>(by cases z),fun z=>h1.mpr ⟨z.2.1,z.2.2.1⟩⟩ s3)
theorem qfa (B:Bl mg) (h1:Has P w K mg base 2 "_law_is_one" ["_law_broken_here","_law_thing"] qc7) (h2:Has P w K mg base 3 "_law_are_apart" ["_law_broken_here","_law_rows","_law_lines","_law_thing"] qc2)
  (F:FnAt K mg "_law_lets" qbl ["_law_broken_here","_law_rows","_law_lines","_law_thing"]):∀ N,Has P w K mg base (4+N) "_law_lets" ["_law_broken_here","_law_rows","_law_lines","_law_thing"] (qcm N)
 | 0=>by
  refine yej B h1 h2 ?_ F
  obtain ⟨f,fd,e1,e2,e3⟩:=F
  have no:∀ vs H Q E,¬ ydb 0 vs H Q E:=fun vs H Q E h=>absurd h.1 (by decide)
  exact ⟨f,fd,e1,e2.kp,e3,⟨fun vs H Q E h=>(no vs H Q E h).elim,fun A outer s H args us vs Q E _ _ _ _ h=>(no vs H Q E h).elim⟩⟩
 | N+1=>yej B h1 h2 (by rw[show 3+(N+1)=4+N by omega];exact Has.imp (qfa B h1 h2 F N) fun vs H Q E h=>h.2) F
end
end Mc
namespace Mc
open PySem L2 PyProof.Rows Mx PySem.W
def siz:Tr→Nat
 | .split _ _ a b=>1+siz a+siz b
 | _=>0
section
variable {P:Program}{w:World}{K:PySem.W.Frag}{mg:Str→Option Value}{base:Heap}
def ygp:Sp:=fun vs H Q _=>∃ (N:Addr→Prop) (v:V) (t:Tr),vs=[v]∧TrAt N H v t∧∀ (c:Addr) (xs:List V) (H':Hp),Same H H'→H' c=some (.lst xs)→xs.length≤1000→(N c∨H c=none)→Q (.ref c) H'
abbrev qbz:Stmt:=top 31
theorem yc9:FnScope ["_law_tree"] ["_law_tree"] (qaf qbz):=⟨rfl,rfl,rfl,by decide +kernel,rfl,by decide +kernel,by decide +kernel⟩
theorem ok_leaf (B:Bl mg) (F:FnAt K mg "_law_leaf" qbz ["_law_tree"]):Has P w K mg base 1 "_law_leaf" ["_law_tree"] ygp:=by
 refine Has.ofQ F yc9 (fun vs H Q E h=>?_) (fun f cdv A outer s H vs Q E hr h=>?_)
 ·obtain ⟨N,v,t,rfl,_⟩:=h
  rfl
 ·obtain ⟨N,v,t,rfl,hT,k⟩:=h
  have sc:=yc9
  refine ⟨_,(qak rfl (yac (qfp (ps_while PassesOwn.never (PW.pt (qfc (yei (pc_notN (pv 0))) (qd9 (qbt qcf (qav qaj (pv 0) qab (fun _ _=>rfl)) qa5 (yal _)))))
    (yc2 (qcr (i:=0) sc.nd rfl (Or.inl rfl) (qav yaw (qed (qac (qav qaj (pv 0) qab (fun _ _=>rfl)) (qac (qav qaj (pv 0) qab (fun _ _=>rfl)) yah))) (ydj qfu rfl (B.of rfl) boot_int (qac (yek (ydx (qav qaj (pv 0) qab (fun _ _=>rfl)))) yah)) (fun _ _=>rfl))))))
   (yae (qag (qcx (qgy (yei (ydx (pv 0)))) (qbn yad) (qan qaj (qaa (pv 0)) (qaa qab) (fun _ _=>rfl))))))),?_⟩
  refine ⟨fun i σ H1=>∃ (v:V) (t:Tr),σ=[some v]∧TrAt N H1 v t∧Same H H1∧i=siz t,⟨_,v,t,rfl,hT,Same.refl H,rfl⟩,?_⟩
  rintro i σ H1 ⟨v,t,rfl,hT,s1,rfl⟩
  cases hT with
  | nil=>exact ⟨_,rfl,_,rfl,iteN rfl (iteF ⟨_,rfl,_,rfl,iteB rfl ⟨Nat.zero_le _,fun c nc=>k c [] _ (s1.upd nc) yaa (Nat.zero_le _) (.inr (s1.free nc))⟩⟩)⟩
  | @cells p c cs C hp hc hC hN hl=>
   refine ⟨_,rfl,_,rfl,iteB rfl ⟨_,rfl,p,_,_,_,rfl,rfl,SqT.of hp,qae 0 rfl,rfl,_,rfl,iteN (by decide +kernel) ?_⟩⟩
   refine ⟨_,rfl,_,rfl,iteN rfl ⟨_,rfl,p,_,_,_,rfl,rfl,SqT.of hp,qae 1 rfl,k c _ H1 s1 hc (by unfold yaf;rw[List.length_map,hC.len];exact hl) (.inl hN)⟩⟩
  | @split p d r l v1 v2 t1 t2 hp hd hT1 hT2=>
   refine ⟨_,rfl,_,rfl,iteB rfl ⟨_,rfl,p,_,_,_,rfl,rfl,SqT.of hp,qae 0 rfl,rfl,_,rfl,iteB (by decide +kernel) ?_⟩⟩
   refine ⟨fun σ' H'=>∃ (v:V) (t:Tr),σ'=[some v]∧TrAt N H' v t∧Same H H'∧siz t<1+siz t1+siz t2,fun σ' H' ⟨v,t,e,h1,h2,h3⟩=>⟨siz t,h3,v,t,e,h1,h2,rfl⟩,?_⟩
   refine ⟨_,rfl,p,_,_,_,rfl,rfl,SqT.of hp,qae 2 rfl,_,rfl,p,_,_,_,rfl,rfl,SqT.of hp,qae 3 rfl,(by show 2≤sizeLine;decide),fun q nq=>?_⟩
   have sq:=(Same.refl H1).upd (o:=.lst [v1,v2]) nq
   refine ⟨_,rfl,p,_,_,_,rfl,rfl,SqT.of (sq _ _ hp),qae 2 rfl,.inr ⟨_,rfl,?_⟩⟩
   by_cases h0:v1=.non
   ·exact ⟨q,_,_,_,rfl,rfl,SqL.of yaa,qae 1 rfl (by rw[decide_eq_true h0];rfl),v2,t2,rfl,hT2.same sq,s1.trans sq,by omega⟩
   ·exact ⟨q,_,_,_,rfl,rfl,SqL.of yaa,qae 0 rfl (by rw[decide_eq_false h0];rfl),v1,t1,rfl,hT1.same sq,s1.trans sq,by omega⟩
end
end Mc
namespace Mc
open PySem L2 PyProof.Rows Mx PySem.W
theorem Tab.up {PB:Addr}{H:Hp}{q:Addr}{xs:List V}{o:HO} (t:Tab PB H) (e:H q=some (.lst xs)):Tab PB (upd H q o):=by
 have keep:∀ x u,(∀ ys,u≠.lst ys)→H x=some u→upd H q o x=some u:=fun x u hu ex=>by rw[qad (qbi ex e (hu xs))];exact ex
 exact t.imp (keep _ _ (fun _ z=>by cases z)) fun ⟨c,a,b⟩=>⟨c,keep _ _ (fun _ z=>by cases z) a,keep _ _ (fun _ z=>by cases z) b⟩
theorem qba.at {PB:Addr}{H H':Hp}{q:Addr}{o:HO} (s:qba PB H H') (h:H q=none):qba PB H (upd H' q o):=fun b u hb e=>by
 rw[qad (yab e h)]
 exact s b u hb e
theorem ygy {H:Hp}{a b:Addr}{ts:List TL}{bs:Bs}{Q:VK} (ha:H a=some (.lst (yaf ts))) (hb:H b=some (.lst (yaf ts))) (hP:PT H ts bs) (k:Q (.bl false) H):rNeD (.ref a) (.ref b) H Q:=
 ⟨.list (tupD (ts.map (·.2))),.list (tupD (ts.map (·.2))),.lst ha (atTs hP.at_),.lst hb (atTs hP.at_),yfx _,yfx _,by have:=depTs (ts.map (·.2));simp only[PyData.depth];omega,by rw[PyData.eqv,eqTs,decide_eq_true rfl];exact k⟩
section
variable {P:Program}{w:World}{K:PySem.W.Frag}{mg:Str→Option Value}{base:Heap}
def yd3 (PB:Addr):Sp:=fun vs H Q _=>∃ (b:Addr) (n m:Nat) (ts:List TL) (bs:Bs),vs=[.ref b,.int n,.int m]∧n+m≤12∧H b=some (.lst (yaf ts))∧PT H ts bs∧bs.length≤63∧B12 bs∧Tab PB H∧∀ H',qba PB H H'→Tab PB H'→Q (.bl true) H'
abbrev qbq:Stmt:=top 32
theorem ycv:FnScope ["_law_broken_here","_law_rows","_law_lines","_law_handed","_law_turn","_law_found"] ["_law_broken_here","_law_rows","_law_lines"] (qaf qbq):=⟨rfl,rfl,rfl,by decide +kernel,rfl,by decide +kernel,by decide +kernel⟩
theorem ok_right {PB:Addr} (B:Bl mg) (qdd:Has P w K mg base 39 "spared" ["broken","rows","lines"] (ycx PB 12)) (qb3:Has P w K mg base 28 "lets_none" ["broken","rows","lines","thing"] (qcm 12))
  (yb0:Has P w K mg base 16 "_law_lets" ["_law_broken_here","_law_rows","_law_lines","_law_thing"] (qcm 12)) (qbr:Has P w K mg base 2 "_law_are_numbers" ["_law_thing","_law_most"] yga) (ydz:Has P w K mg base 1 "_law_covers" ["_law_broken_here","_law_rows","_law_lines"] yew)
  (yey:Has P w K mg base 1 "_law_leaf" ["_law_tree"] ygp) (F:FnAt K mg "_law_right" qbq ["_law_broken_here","_law_rows","_law_lines"]):Has P w K mg base 40 "_law_right" ["_law_broken_here","_law_rows","_law_lines"] (yd3 PB):=by
 refine Has.ofQ F ycv (fun vs H Q E h=>?_) (fun f cdv A outer s H vs Q E hr h=>?_)
 ·obtain ⟨b,n,m,ts,bs,rfl,_⟩:=h
  rfl
 ·obtain ⟨b,n,m,ts,bs,rfl,hnm,hb,hP,hbl,h12,tb,k⟩:=h
  have hpl:=hP.len
  have sc:=ycv
  refine ⟨_,(qak rfl (yac (qal (i:=3) sc.nd rfl (Or.inl rfl) (qcv yeg rfl (B.of rfl) boot_list (qah (qaa (pv 0)) yad)))
   (yac (qbv PassesOwn.never rfl (ye4 (ybd rfl (B.of rfl) (qac qab yah))) (yaj (i:=4) sc.nd rfl (Or.inl rfl))
    (yac (qal (i:=5) sc.nd rfl (Or.inl rfl) (yag qdd hr (qah (qaa (pv 3)) (qah (qaa (pv 1)) (qah (qaa (pv 2)) yad)))))
    (yac (yan (QW.pt (qb8 (qa2 (qao (qai qa0 rfl (B.of rfl) boot_isinstance (qah (qaa (pv 5)) (qah (qaa (qa7 (v:=.ty "tuple") rfl (B.of rfl) boot_tuple rfl)) yad))))) (qb8 (yak qca (qai yai rfl (B.of rfl) boot_len (qah (qaa (pv 5)) yad)) (qbd (qaw (qaa qab) (qaw (qaa qab) yad))) (by with_unfolding_all rfl)) (ybw (yak (qgk hr) (qaa (pv 3)) (qaa (pv 0)) (yal _))))))
     (yae (qag (qaa ya9)))
     qam)
    (yae (yan (QW.pt (ycw (yak qcf (qan qaj (qaa (pv 5)) (qaa qab) (fun _ _=>rfl)) (qaa qa5) (yal _)) (yb1 (yak qcf (qai yai rfl (B.of rfl) boot_len (qah (qaa (pv 5)) yad)) (qaa qab) (yal _)))))
     (yac (yan (QW.pt (qb8 (qa2 (qao (yag qbr hr (ya0 (qan qaj (qaa (pv 5)) (qaa qab) (fun _ _=>rfl)) (qah (qaa (pv 1)) yad))))) (ybw (qa2 (qao (yag qbr hr (ya0 (qan qaj (qaa (pv 5)) (qaa qab) (fun _ _=>rfl)) (qah (qaa (pv 2)) yad))))))))
      (yae (qag (qaa ya9)))
      qam)
     (yac (yan (qa2 (qao (yag ydz hr (qah (qaa (pv 0)) (ya0 (qan qaj (qaa (pv 5)) (qaa qab) (fun _ _=>rfl)) (ya0 (qan qaj (qaa (pv 5)) (qaa qab) (fun _ _=>rfl)) yad))))))
      (yae (qag (qaa ya9)))
      qam)
     (yac (qck (qaa (qd4 PySem.F.plainAttrs_list PySem.F.slot_list_append PySem.F.type_list_append ybk (qav qaj (pv 5) qab (fun _ _=>rfl)) (qac qab yah))))
     (yae (qck (qaa (pe_bm0 PySem.F.plainAttrs_list PySem.F.slot_list_clear PySem.F.type_list_clear mt_clear (qav qaj (pv 5) qab (fun _ _=>rfl)))))))))
     (yae (yan (QW.pt (qb8 (yak yer (qan qaj (qaa (pv 5)) (qaa qab) (fun _ _=>rfl)) (qaa qa5) (yal _)) (qb8 (yak yer (qai yai rfl (B.of rfl) boot_len (qah (qaa (pv 5)) yad)) (qaa qab) (yal _)) (ybw (qa2 (qao (yag yb0 hr (qah (qaa (pv 0)) (qah (qaa (pv 1)) (qah (qaa (pv 2)) (ya0 (qan qaj (qaa (pv 5)) (qaa qab) (fun _ _=>rfl)) yad)))))))))))
      (yae (qag (qaa ya9)))
      (yae (yan (QW.pt (qb8 (qgy (qbt qgl (qar qb3 hr (qdo (pv 3) (qdo (pv 1) (qdo (pv 2) (qac (qav qaj (pv 5) qab (fun _ _=>rfl)) yah))))) ya9 (yal _))) (ybw (yak (qgk hr) (qaa (pv 3)) (qaa (pv 0)) (yal _)))))
       (yae (qag (qaa ya9)))
       (yae (qck (qaa (qd4 PySem.F.plainAttrs_list PySem.F.slot_list_append PySem.F.type_list_append ybk (qar yey hr (qac (qav qaj (pv 5) qab (fun _ _=>rfl)) yah)) (qac (yc7 (qac qab (qac qab yah))) yah))))))))))))))
   (yae (qag (qaa ya9)))))),?_⟩
  refine ⟨_,rfl,b,_,rfl,.inl (SqL.of hb),fun hd nhd=>?_⟩
  have s1:=(Same.refl H).upd (o:=.lst (yaf ts)) nhd
  have ehd:upd H hd (.lst (yaf ts)) hd=some (.lst (yaf ts)):=yaa
  revert s1 ehd
  generalize upd H hd (.lst (yaf ts))=H1
  intro s1 ehd
  have t1:=tb.same s1
  have hb1:=s1 _ _ hb
  have hP1:=hP.same s1
  refine ⟨_,rfl,by decide,by decide,?_⟩
  refine qb7 (n:=2) (fun i σ H2=>∃ (o4 o5:Option V),σ=[some (.ref b),some (.int n),some (.int m),some (.ref hd),o4,o5]∧qba PB H1 H2∧Tab PB H2) ⟨_,_,rfl,Same.p (Same.refl _),t1⟩ ?_ fun σ H2 ⟨_,_,_,s2,t2⟩=>k H2 ((Same.p s1).trans s2) t2
  rintro i σ H2 hi ⟨o4,o5,rfl,s2,t2⟩
  have kl:∀ {q:Addr}{xs:List V}{H':Hp},qba PB H1 H'→H1 q=some (.lst xs)→H' q=some (.lst xs):=fun s e=>s _ _ (t1.ne e fun _ z=>by cases z) e
  refine ⟨_,rfl,_,rfl,_,rfl,hd,n,m,ts,bs,rfl,hnm,kl s2 ehd,hP1.p s2 t1,hbl,h12,t2,?_,?_⟩
  ·intro p pr pl R L H3 s3' t3 npr npl sd so
   have s3:=s2.trans s3'
   have npr1:=s2.free t2 npr
   have npl1:=s2.free t2 npl
   refine ⟨_,rfl,_,_,_,_,rfl,.tup sd.t,rfl,_,rfl,iteN rfl ?_⟩
   refine ⟨_,rfl,p,_,rfl,.inr (SqT.of sd.t),(by show 2≤sizeLine;decide),fun z nz=>⟨z,_,rfl,.inr (SqT.of yaa),rfl,rfl,_,rfl,iteN rfl ?_⟩⟩
   have sz:=(Same.refl H3).upd (o:=.tup [.int 2,.int 3]) nz
   revert sz
   generalize upd H3 z (.tup [.int 2,.int 3])=H4
   intro sz
   have s4:=s3.trans (Same.p sz)
   have t4:=t3.same sz
   refine ⟨_,rfl,_,rfl,ygy (kl s4 ehd) (kl s4 hb1) (hP1.p s4 t1) ⟨_,rfl,iteN rfl ?_⟩⟩
   have hpt:=sz _ _ sd.t
   have hpr:=sz _ _ sd.r
   have hpl':=sz _ _ sd.l
   refine ⟨_,rfl,p,_,_,_,rfl,rfl,SqT.of hpt,qae 0 rfl,rfl,_,rfl,iteB (by decide +kernel) ⟨_,rfl,p,_,rfl,.inr (SqT.of hpt),rfl,_,rfl,iteB rfl ?_⟩⟩
   have R12:∀ x∈R,0≤x∧x<12:=fun x hx=>by obtain ⟨y,hy,rfl⟩:=so.rin x hx;exact (h12 y hy).1
   have L12:∀ x∈L,0≤x∧x<12:=fun x hx=>by obtain ⟨y,hy,rfl⟩:=so.lin x hx;exact (h12 y hy).2
   refine ⟨_,rfl,p,_,_,_,rfl,rfl,SqT.of hpt,qae 1 rfl,_,rfl,pr,R,n,rfl,so.rl,hpr,so.r,R12,fun H5 s5=>⟨_,rfl,iteN rfl ?_⟩⟩
   refine ⟨_,rfl,p,_,_,_,rfl,rfl,SqT.of (s5 _ _ hpt),qae 2 rfl,_,rfl,pl,L,m,rfl,so.ll,s5 _ _ hpl',so.l,L12,fun H6 s6'=>⟨_,rfl,iteN rfl ?_⟩⟩
   have s6:=s5.trans s6'
   have s16:=s4.trans (Same.p s6)
   refine ⟨_,rfl,_,rfl,p,_,_,_,rfl,rfl,SqT.of (s6 _ _ hpt),qae 1 rfl,_,rfl,p,_,_,_,rfl,rfl,SqT.of (s6 _ _ hpt),qae 2 rfl,?_⟩
   refine ⟨b,pr,pl,ts,bs,R,L,rfl,kl s16 hb1,hP1.p s16 t1,s6 _ _ hpr,s6 _ _ hpl',by omega,fun H7 s7'=>⟨_,rfl,?_⟩⟩
   have s7:=s6.trans s7'
   have ecov:(bs.all fun p=>decide (p.1∈R)||decide (p.2∈L))=true:=List.all_eq_true.mpr fun q hq=>by
    rw[Bool.or_eq_true,decide_eq_true_eq,decide_eq_true_eq]
    exact so.cov q hq
   refine iteN (by rw[ecov];rfl) ?_
   have s17:=s4.trans (Same.p s7)
   have t7:=t4.same s7
   refine ⟨_,rfl,p,_,_,_,rfl,rfl,SqT.of (s7 _ _ hpt),qae 1 rfl,.inl ⟨rfl,_,SqL.of (s7 _ _ hpr)⟩,pr,_,_,rfl,rfl,s7 _ _ hpr,qa9 (by rw[List.length_map];have:=so.rl;omega),?_⟩
   have ept:upd H7 pr (.lst (R.map V.int++[.int 3])) p=some (.tup [.str "spares",.ref pr,.ref pl]):=by rw[qad (qbi (s7 _ _ hpt) (s7 _ _ hpr) (by intro z;cases z))];exact s7 _ _ hpt
   have epl:upd H7 pr (.lst (R.map V.int++[.int 3])) pl=some (.lst (L.map V.int)):=by rw[qad (Ne.symm sd.ne)];exact s7 _ _ hpl'
   refine ⟨_,rfl,p,_,_,_,rfl,rfl,SqT.of ept,qae 2 rfl,.inl ⟨rfl,_,SqL.of epl⟩,?_⟩
   exact ⟨pl,_,rfl,rfl,epl,_,_,rfl,(s17.at npr1).at npl1,(t7.up (s7 _ _ hpr)).up epl⟩
  ·intro p v t H3 s3' t3 ept hT hOk
   have s3:=s2.trans s3'
   refine ⟨_,rfl,_,_,_,_,rfl,.tup ept,rfl,_,rfl,iteN rfl ?_⟩
   refine ⟨_,rfl,p,_,rfl,.inr (SqT.of ept),(by show 2≤sizeLine;decide),fun z nz=>⟨z,_,rfl,.inr (SqT.of yaa),rfl,rfl,_,rfl,iteN rfl ?_⟩⟩
   have sz:=(Same.refl H3).upd (o:=.tup [.int 2,.int 3]) nz
   revert sz
   generalize upd H3 z (.tup [.int 2,.int 3])=H4
   intro sz
   have s4:=s3.trans (Same.p sz)
   have t4:=t3.same sz
   refine ⟨_,rfl,_,rfl,ygy (kl s4 ehd) (kl s4 hb1) (hP1.p s4 t1) ⟨_,rfl,iteN rfl ?_⟩⟩
   have hpt:=sz _ _ ept
   have hT4:=hT.same sz
   refine ⟨_,rfl,p,_,_,_,rfl,rfl,SqT.of hpt,qae 0 rfl,rfl,_,rfl,iteN (by decide +kernel) (iteF ?_)⟩
   refine ⟨_,rfl,p,_,_,_,rfl,rfl,SqT.of hpt,qae 0 rfl,rfl,_,rfl,iteN (by decide +kernel) ⟨_,rfl,p,_,rfl,.inr (SqT.of hpt),rfl,_,rfl,iteN rfl ?_⟩⟩
   refine ⟨_,rfl,_,rfl,_,rfl,_,rfl,p,_,_,_,rfl,rfl,SqT.of hpt,qae 1 rfl,b,v,n,m,ts,bs,t,rfl,hnm,kl s4 hb1,hP1.p s4 t1,hbl,hT4.any,fun u H5 hu s5=>?_⟩
   have hu1:u=true:=hu.mpr hOk
   subst hu1
   refine ⟨_,rfl,iteN rfl ?_⟩
   have s15:=s4.trans (Same.p s5)
   refine ⟨_,rfl,_,rfl,_,rfl,_,rfl,p,_,_,_,rfl,rfl,SqT.of (s5 _ _ hpt),qae 1 rfl,hd,v,n,m,ts,bs,t,rfl,hnm,kl s15 ehd,hP1.p s15 t1,hbl,(hT4.same s5).any,fun u H6 hu s6'=>?_⟩
   have hu1:u=true:=hu.mpr hOk
   subst hu1
   have s6:=s5.trans s6'
   have s16:=s4.trans (Same.p s6)
   refine ⟨true,true,rfl,rfl,_,rfl,iteN rfl ?_⟩
   refine ⟨_,rfl,_,rfl,ygy (kl s16 ehd) (kl s16 hb1) (hP1.p s16 t1) ⟨_,rfl,iteN rfl ?_⟩⟩
   refine ⟨_,rfl,p,_,_,_,rfl,rfl,SqT.of (s6 _ _ hpt),qae 1 rfl,_,v,t,rfl,hT4.same s6,fun c xs H7 s7' ec hl hN=>?_⟩
   have nc:H1 c=none:=by
    rcases hN with z|z
    ·exact s2.free t2 z
    ·exact s16.free (t4.same s6) z
   refine ⟨.inl ⟨rfl,_,SqL.of ec⟩,(by show 2≤sizeLine;decide),fun q nq=>?_⟩
   have ec':upd H7 q (.tup [.int 0,.int 99]) c=some (.lst xs):=by rw[qad (yab ec nq)];exact ec
   have s8:=(s6.trans s7').upd (o:=.tup [.int 0,.int 99]) nq
   refine ⟨c,xs,_,rfl,rfl,ec',qa9 (by omega),_,_,rfl,(s4.trans (Same.p s8)).at nc,(t4.same s8).up ec'⟩
end
end Mc
namespace Mc
open PySem L2 PyProof.Rows Mx PySem.W
theorem PT.append {H:Hp}{ts us:List TL}{bs cb:Bs} (h:PT H ts bs) (g:PT H us cb):PT H (ts++us) (bs++cb):=⟨by rw[List.map_append,List.map_append,h.eq,g.eq],fun t ht=>(List.mem_append.mp ht).elim (h.at_ t) (g.at_ t)⟩
theorem B12.append {bs cb:Bs} (h:B12 bs) (g:B12 cb):B12 (bs++cb):=fun p hp=>(List.mem_append.mp hp).elim (h p) (g p)
def ybj (H H':Hp) (D:Addr) (j:Nat):Prop:=∃ (us:List TL) (cb:Bs),Same H H'∧H' D=some (.lst (yaf us))∧us.length≤j∧PT H' us cb∧B12 cb
theorem ybj.start {H:Hp}{D:Addr} (nD:H D=none):ybj H (upd H D (.lst [])) D 0:=⟨[],[],(Same.refl H).upd nD,yaa,Nat.le_refl _,⟨rfl,fun t ht=>by simp at ht⟩,fun p hp=>by simp at hp⟩
theorem ybj.step {H H5:Hp}{D q:Addr}{j:Nat}{r l:Int} (c:ybj H H5 D j) (nD:H D=none) (nq:H5 q=none) (hr:0≤r∧r<12) (hl:0≤l∧l<12) (hj:j≤1000) :
  ∃ ys,upd H5 q (.tup [.int r,.int l]) D=some (.lst ys)∧ys.length<sizeLine∧ybj H (upd (upd H5 q (.tup [.int r,.int l])) D (.lst (ys++[.ref q]))) D (j+1):=by
 obtain ⟨us,cb,s,e,ul,hP,h12⟩:=c
 have s6:=(Same.refl H5).upd (o:=.tup [.int r,.int l]) nq
 have e6:=s6 _ _ e
 have hq:q≠D:=fun z=>by rw[z,e] at nq;cases nq
 refine ⟨yaf us,e6,qa9 (by unfold yaf;rw[List.length_map];omega),us++[(q,[r,l])],cb++[(r,l)],(s.trans s6).at nD,by rw[yaa];unfold yaf;rw[List.map_append];rfl,by rw[List.length_append,List.length_singleton];omega,⟨by rw[List.map_append,List.map_append,hP.eq];rfl,fun t ht=>?_⟩,h12.append fun p hp=>by rw[List.mem_singleton.mp hp];exact ⟨hr,hl⟩⟩
 rcases List.mem_append.mp ht with z|z
 ·have:=s6 _ _ (hP.at_ t z)
  rw[qad (qbi this e6 (by intro z;cases z))]
  exact this
 ·rw[List.mem_singleton.mp z,qad hq]
  exact yaa
section
variable {P:Program}{w:World}{K:PySem.W.Frag}{mg:Str→Option Value}{base:Heap}
def yfe:Sp:=fun vs H Q _=>∃ (n m:Nat),vs=[.int n,.int m]∧n≤6∧m≤6∧∀ (p:Addr) (ts:List TL) (bs:Bs) (H':Hp),Same H H'→H' p=some (.lst (yaf ts))→PT H' ts bs→B12 bs→bs.length≤n*6→Q (.ref p) H'
abbrev ybp:Stmt:=top 33
theorem yct:FnScope ["_law_rows","_law_lines","_law_found","_law_row"] ["_law_rows","_law_lines"] (qaf ybp):=⟨rfl,rfl,rfl,by decide +kernel,rfl,by decide +kernel,by decide +kernel⟩
theorem ok_block (B:Bl mg) (F:FnAt K mg "_law_block" ybp ["_law_rows","_law_lines"]):Has P w K mg base 1 "_law_block" ["_law_rows","_law_lines"] yfe:=by
 refine Has.ofQ F yct (fun vs H Q E h=>?_) (fun f cdv A outer s H vs Q E hr h=>?_)
 ·obtain ⟨n,m,rfl,_⟩:=h
  rfl
 ·obtain ⟨n,m,rfl,hn,hm,k⟩:=h
  have sc:=yct
  refine ⟨_,(qak rfl (yac (qal (i:=2) sc.nd rfl (Or.inl rfl) (qbn yad))
   (yac (qbv PassesOwn.never rfl (ye4 (ybd rfl (B.of rfl) (qac (pv 0) yah))) (yaj (i:=3) sc.nd rfl (Or.inr rfl))
    (yae (qal (i:=2) sc.nd rfl (Or.inl rfl) (yat qdy (qaa (pv 2)) (qaa (qa1 rfl (yam rfl) (M:=["_law_line","_law_row"]) (ix:=[none,some 3]) (ybd rfl (B.of rfl) (qac (pv 1) yah)) (fun _ _ _ _=>(yaj (i:=0) (show List.Nodup (["_law_line","_law_row"]:List Str) by decide +kernel) rfl (Or.inl rfl))) (fun _ _ _ _=>qbe) (fun _ _ _ _=>(yc7 (qac (pv 1) (qac (pv 0) yah))))))))))
   (yae (qag (qaa (pv 2))))))),?_⟩
  refine ⟨Nat.zero_le _,fun q0 n0=>?_⟩
  have s0:=(Same.refl H).upd (o:=.lst []) n0
  refine ⟨_,rfl,_,rfl,by omega,by omega,?_⟩
  refine qb7 (n:=n) (fun i σ H2=>∃ (o3:Option V) (p:Addr) (ts:List TL) (bs:Bs),σ=[some (.int n),some (.int m),some (.ref p),o3]∧Same H H2∧H2 p=some (.lst (yaf ts))∧PT H2 ts bs∧B12 bs∧bs.length≤i*6) ⟨_,q0,[],[],rfl,s0,yaa,⟨rfl,fun t ht=>by simp at ht⟩,fun p hp=>by simp at hp,Nat.zero_le _⟩ ?_ ?_
  ·rintro i σ H2 hi ⟨o3,p,ts,bs,rfl,s2,ep,hP,h12,hl⟩
   have hpl:=hP.len
   refine ⟨_,rfl,_,rfl,_,rfl,by omega,by omega,fun D nD=>ya2 (n:=m) (fun j H'=>ybj H2 H' D j) (ybj.start nD) ?_ ?_⟩
   ·rintro H3 ⟨us,cb,s3,e3,ul,hP3,h123⟩
    have hul:=hP3.len
    refine ⟨(by show (m:Int).toNat≤m;omega),p,D,_,_,rfl,rfl,s3 _ _ ep,e3,yco (by unfold yaf;rw[List.length_map,List.length_map];omega),fun q nq=>?_⟩
    have s4:=s3.upd (o:=.lst (yaf ts++yaf us)) nq
    refine ⟨_,q,ts++us,bs++cb,rfl,s2.trans s4,by rw[yaa];unfold yaf;rw[List.map_append],(hP.same s4).append (hP3.same ((Same.refl H3).upd nq)),h12.append h123,by rw[List.length_append];omega⟩
   ·rintro j H3 hj c3
    refine ⟨(by show j<(m:Int).toNat;omega),?_⟩
    rintro x H4 ⟨rfl,rfl⟩
    refine ⟨qap.set (qap.refl _) rfl,?_⟩
    unfold tYes
    refine iteB rfl ⟨_,rfl,_,rfl,(by show 2≤sizeLine;decide),fun q nq=>c3.step nD nq (by omega) (by omega) (by omega)⟩
  ·rintro σ H2 ⟨o3,p,ts,bs,rfl,s2,ep,hP,h12,hl⟩
   exact ⟨_,rfl,k p ts bs H2 s2 ep hP h12 hl⟩
abbrev yaz:Stmt:=top 34
theorem qbk:FnScope ["_law_many","_law_found","_law_row"] [] (qaf yaz):=⟨rfl,rfl,rfl,by decide +kernel,rfl,by decide +kernel,by decide +kernel⟩
theorem ok_fixed {PB:Addr} (B:Bl mg) (qb9:Has P w K mg base 1 "_law_block" ["_law_rows","_law_lines"] yfe) (ya5:Has P w K mg base 40 "_law_right" ["_law_broken_here","_law_rows","_law_lines"] (yd3 PB)) (F:FnAt K mg "_law_fixed_right" yaz []):Has P w K mg base 41 "_law_fixed_right" [] (fun vs H Q _=>vs=[]∧Tab PB H∧∀ H',qba PB H H'→Tab PB H'→Q (.bl true) H'):=by
 refine Has.ofQ F qbk (fun vs H Q E h=>?_) (fun f cdv A outer s H vs Q E hr h=>?_)
 ·obtain ⟨rfl,_⟩:=h
  rfl
 ·obtain ⟨rfl,tb,k⟩:=h
  have sc:=qbk
  refine ⟨_,(qak rfl (yac (qbv PassesOwn.never rfl (yc0 (qbn (qaw (qaa qab) (qaw (qaa qab) yad)))) (yaj (i:=0) sc.nd rfl (Or.inr rfl))
    (yae (yan (qa2 (qao (yag ya5 hr (ycd (yat qdy (yag qb9 hr (qah (qaa (pv 0)) (qah (qaa (pv 0)) yad))) (qaa (qa1 rfl (yam rfl) (M:=["_law_k","_law_many"]) (ix:=[none,some 0]) (ybd rfl (B.of rfl) (qac (pv 0) yah)) (fun _ _ _ _=>(yaj (i:=0) (show List.Nodup (["_law_k","_law_many"]:List Str) by decide +kernel) rfl (Or.inl rfl))) (fun _ _ _ _=>qbe) (fun _ _ _ _=>(yc7 (qac (qbo ya1 (pv 1) (pv 0)) (qac (qbo ya1 (pv 1) (pv 0)) yah))))))) (qah (qaa (pv 0)) (qah (qaa (pv 0)) yad))))))
     (yae (qag (qaa ya9)))
     qam)))
   (yac (qal (i:=1) sc.nd rfl (Or.inl rfl) (yag qb9 hr (qaw (qaa qab) (qaw (qaa qab) yad))))
   (yac (qbv PassesOwn.never rfl (ye4 (ybd rfl (B.of rfl) (qac qab yah))) (yaj (i:=2) sc.nd rfl (Or.inr rfl))
    (yae (qal (i:=1) sc.nd rfl (Or.inl rfl) (yat qdy (qaa (pv 1)) (qaa (qa1 rfl (yam rfl) (M:=["_law_line","_law_row"]) (ix:=[none,some 2]) (qa4 (qas qbp rfl (B.of rfl) qau (qac (qa1 rfl (yam rfl) (M:=["_law_k","_law_row"]) (ix:=[none,some 2]) (ybd rfl (B.of rfl) (qac qab yah)) (fun _ _ _ _=>(yaj (i:=0) (show List.Nodup (["_law_k","_law_row"]:List Str) by decide +kernel) rfl (Or.inl rfl))) (fun _ _ _ _=>qbe) (fun _ _ _ _=>(qbo ya1 qab (qbo ych (qbo ya1 (qbo ydt qab (pv 1)) (pv 0)) qab)))) yah))) (fun _ _ _ _=>(yaj (i:=0) (show List.Nodup (["_law_line","_law_row"]:List Str) by decide +kernel) rfl (Or.inl rfl))) (fun _ _ _ _=>qbe) (fun _ _ _ _=>(yc7 (qac (qbo ya1 qab (pv 1)) (qac (pv 0) yah))))))))))
   (yae (qag (qaa (ybe (qar ya5 hr (qac (pv 1) (qac qab (qac qab yah)))) (qb5 (qar ya5 hr (qac (qar qb9 hr (qac qab (qac qab yah))) (qac qab (qac qab yah))))))))))))),?_⟩
  refine ⟨(by show 2≤sizeLine;decide),fun q0 n0=>?_⟩
  have s0:=(Same.refl H).upd (o:=.lst [V.int 4,.int 6]) n0
  have e0:upd H q0 (.lst [V.int 4,.int 6]) q0=some (.lst [V.int 4,.int 6]):=yaa
  revert s0 e0
  generalize upd H q0 (.lst [V.int 4,.int 6])=H0
  intro s0 e0
  have t0:=tb.same s0
  refine ⟨q0,rfl,⟨_,SqL.of e0⟩,ycb (xs:=[V.int 4,.int 6]) (fun i σ H1=>∃ o:Option V,σ=[o,none,none]∧qba PB H0 H1∧Tab PB H1) ⟨_,rfl,Same.p (Same.refl _),t0⟩ (fun i σ H1 _ ⟨_,_,s1,_⟩=>SqL.of (s1 _ _ (t0.ne e0 fun _ z=>by cases z) e0)) ?_ ?_⟩
  ·rintro i x σ H1 hx ⟨o,rfl,s1,t1⟩
   obtain ⟨n,rfl,hn⟩:∃ n:Nat,x=.int (n:Int)∧n≤6:=by
    rcases i with _|_|i
    ·cases hx;exact ⟨4,rfl,by decide⟩
    ·cases hx;exact ⟨6,rfl,by decide⟩
    ·simp at hx
   refine ⟨_,rfl,_,rfl,n,n,rfl,hn,hn,fun p ts bs H2 s2 ep hP h12 hl=>?_⟩
   have hpl:=hP.len
   refine ⟨_,rfl,_,rfl,by omega,by omega,fun D nD=>ya2 (n:=n) (fun j H'=>ybj H2 H' D j) (ybj.start nD) ?_ ?_⟩
   ·rintro H3 ⟨us,cb,s3,e3,ul,hP3,h123⟩
    have hul:=hP3.len
    refine ⟨(by show (n:Int).toNat≤n;omega),p,D,_,_,rfl,rfl,s3 _ _ ep,e3,yco (by unfold yaf;rw[List.length_map,List.length_map];omega),fun q nq=>?_⟩
    have s4:=s3.upd (o:=.lst (yaf ts++yaf us)) nq
    refine ⟨_,rfl,_,rfl,q,n,n,ts++us,bs++cb,rfl,by omega,by rw[yaa];unfold yaf;rw[List.map_append],(hP.same s4).append (hP3.same ((Same.refl H3).upd nq)),by rw[List.length_append];omega,h12.append h123,t1.same (s2.trans s4),fun H5 s5 t5=>⟨_,rfl,iteN rfl ⟨_,rfl,s1.trans ((Same.p (s2.trans s4)).trans s5),t5⟩⟩⟩
   ·rintro j H3 hj c3
    refine ⟨(by show j<(n:Int).toNat;omega),?_⟩
    rintro x H4 ⟨rfl,rfl⟩
    refine ⟨qap.set (qap.refl _) rfl,?_⟩
    unfold tYes
    refine iteB rfl ⟨_,rfl,_,rfl,_,_,rfl,rfl,_,rfl,_,rfl,_,_,rfl,rfl,(by show 2≤sizeLine;decide),fun q nq=>c3.step nD nq (by omega) (by omega) (by omega)⟩
  rintro σ H1 ⟨o,rfl,s1,t1⟩
  refine ⟨6,4,rfl,by decide,by decide,fun p ts bs H2 s2 ep hP h12 hl=>?_⟩
  refine ⟨_,rfl,by decide,by decide,?_⟩
  refine qb7 (n:=4) (fun i σ H3=>∃ (o2:Option V) (p:Addr) (ts:List TL) (bs:Bs),σ=[o,some (.ref p),o2]∧Same H1 H3∧H3 p=some (.lst (yaf ts))∧PT H3 ts bs∧B12 bs∧bs.length≤36+i*3) ⟨_,p,ts,bs,rfl,s2,ep,hP,h12,by omega⟩ ?_ ?_
  ·rintro i σ H3 hi ⟨o2,p,ts,bs,rfl,s3,ep,hP,h12,hl⟩
   have hpl:=hP.len
   refine ⟨_,rfl,_,rfl,by decide,by decide,fun D nD=>ya2 (n:=3) (fun j H'=>∃ vs:List Int,Same H3 H'∧H' D=some (.lst (vs.map V.int))∧vs.length≤j∧∀ v∈vs,0≤v∧v<12) ⟨[],(Same.refl H3).upd nD,yaa,Nat.le_refl _,fun v hv=>by simp at hv⟩ ?_ ?_⟩
   ·rintro H4 ⟨vs,s4,e4,vl,hv⟩
    refine ⟨(by show (3:Int).toNat≤3;decide),D,vs,rfl,e4,by omega,fun q1 ws n1 hpm _=>?_⟩
    have wl:=hpm.length_eq
    have s5:=s4.upd (o:=.lst (ws.map V.int)) n1
    have e5:upd H4 q1 (.lst (ws.map V.int)) q1=some (.lst (ws.map V.int)):=yaa
    revert s5 e5
    generalize upd H4 q1 (.lst (ws.map V.int))=H5
    intro s5 e5
    refine ⟨q1,rfl,⟨_,SqL.of e5⟩,fun D2 nD2=>ya2 (n:=ws.length) (fun j H'=>ybj H5 H' D2 j) (ybj.start nD2) ?_ ?_⟩
    ·rintro H6 ⟨us,cb,s6,e6,ul,hP6,h126⟩
     have hul:=hP6.len
     have s36:=s5.trans s6
     refine ⟨⟨_,SqL.of (s6 _ _ e5),by simp⟩,p,D2,_,_,rfl,rfl,s36 _ _ ep,e6,yco (by unfold yaf;rw[List.length_map,List.length_map];omega),fun q nq=>?_⟩
     have s7:=s36.upd (o:=.lst (yaf ts++yaf us)) nq
     refine ⟨_,q,ts++us,bs++cb,rfl,s3.trans s7,by rw[yaa];unfold yaf;rw[List.map_append],(hP.same s7).append (hP6.same ((Same.refl H6).upd nq)),h12.append h126,by rw[List.length_append];omega⟩
    ·rintro j H6 hj c6
     have eq6:=c6
     obtain ⟨_,_,s6,_⟩:=eq6
     have hwj:(ws.map V.int)[j]?=some (.int ws[j]):=by rw[List.getElem?_map,List.getElem?_eq_getElem hj];rfl
     refine ⟨⟨_,_,SqL.of (s6 _ _ e5),hwj⟩,?_⟩
     rintro y H7 ⟨rfl,hy⟩
     have hy':=hy _ (SqL.of (s6 _ _ e5))
     rw[hwj] at hy'
     cases hy'
     have hw:=hv _ (hpm.mem_iff.mp (List.getElem_mem hj))
     refine ⟨qap.set (qap.refl _) rfl,?_⟩
     unfold tYes
     refine iteB rfl ⟨_,rfl,_,_,rfl,rfl,_,rfl,(by show 2≤sizeLine;decide),fun q nq=>c6.step nD2 nq (by omega) hw (by omega)⟩
   ·rintro j H4 hj ⟨vs,s4,e4,vl,hv⟩
    refine ⟨(by show j<(3:Int).toNat;exact hj),?_⟩
    rintro x H5 ⟨rfl,rfl⟩
    refine ⟨qap.set (qap.refl _) rfl,?_⟩
    unfold tYes
    refine iteB rfl ⟨_,rfl,_,_,rfl,rfl,.inl ⟨by decide,by decide⟩,_,rfl,_,_,rfl,rfl,_,_,rfl,rfl,(by show (0:Int)<8;decide),_,_,rfl,rfl,_,e4,qa9 (by rw[List.length_map];omega),?_⟩
    have b0:=Int.emod_nonneg (2*(0+(i:Int))+(0+(j:Int))) (show (8:Int)≠0 by decide)
    have b1:=Int.emod_lt_of_pos (2*(0+(i:Int))+(0+(j:Int))) (show (0:Int)<8 by decide)
    refine ⟨vs++[4+(2*(0+(i:Int))+(0+(j:Int))) % 8],s4.at nD,by rw[yaa,List.map_append];rfl,by rw[List.length_append,List.length_singleton];omega,fun v hv'=>?_⟩
    rcases List.mem_append.mp hv' with z|z
    ·exact hv v z
    ·rw[List.mem_singleton.mp z];omega
  ·rintro σ H3 ⟨o2,p,ts,bs,rfl,s3,ep,hP,h12,hl⟩
   have s13:=s1.trans (Same.p s3)
   refine ⟨_,rfl,p,4,4,ts,bs,rfl,by decide,ep,hP,by omega,h12,t1.same s3,fun H4 s4 t4=>⟨_,rfl,iteB rfl ?_⟩⟩
   refine ⟨5,5,rfl,by decide,by decide,fun p2 ts2 bs2 H5 s5 ep2 hP2 h122 hl2=>?_⟩
   exact ⟨p2,4,4,ts2,bs2,rfl,by decide,ep2,hP2,by omega,h122,t4.same s5,fun H6 s6 t6=>k H6 ((Same.p s0).trans ((s13.trans s4).trans ((Same.p s5).trans s6))) t6⟩
end
end Mc
namespace HT
open PySem PySem.Spec PyProof.Rows
section
variable {prog:Program}{w:World}{A:Around}{E:Value→Shared→Prop}{s:Shared}
theorem congr_at {α:Type} (p:α→Prop) {a b:α} (e:a=b) (h:p b):p a:=e ▸ h
theorem getItem_tuple_rev2 {t sl:Addr}{u v:Value}{tk:Nat}{Q:Value→Shared→Prop} (ht:IsTup s.heap t #[u,v]) (hs:s.heap.IsSliceOf sl .none .none (.int (-1) tk))
  (h:Q (.ref s.heap.objs.size) { s with heap:=s.heap.push { cls:=.type "tuple",data:=.seq #[v,u] } }):wpAny (model prog w) A (getItem (.ref t) (.ref sl)) Q E s:=by
 have htake:sizeOk (.seq #[v,u]):=by
  show 2≤sizeLine
  decide
 obtain ⟨os,hos,hcs,hds⟩:=id hs
 have hTs:s.TypeIs (.ref sl) "slice":=⟨os,hos,hcs⟩
 unfold getItem
 try with_reducible refine wpAny_holding ?_
 first|refine wpAny_bind (wpAny_pure ?_)|skip
 refine wpAny_bind (wpAny_sequenceKey ht.typeIs (by decide) ?_)
 refine wpAny_bind (wpAny_callSpecial?_slot (name:=Str.ofString "__getitem__") ht.typeIs PyProof.Rows.slot_tuple_getitem
  (wpAny_call_entry PyProof.Rows.slot_tuple_getitem ht.typeIs entry_tuple_getitem ?_ (args_tuple_getitem _ _)))
 show wpAny _ _ (Builtin.Tuple.tupleItemsOf (.ref t) >>= _) _ _ s
 refine wpAny_bind (tupleItemsOf_ ht ?_)
 refine wpAny_bind (wpAny_typeOf hTs ?_)
 rw[if_pos (by decide)]
 refine wpAny_bind ?_
 unfold Builtin.Slice.sliceApplied Builtin.Slice.sliceFields
 refine wpAny_bind (wpAny_bind (wpAny_field hos hds (x:=.none) rfl (wpAny_bind (wpAny_field hos hds (x:=.none) rfl (wpAny_bind (wpAny_field hos hds (x:=.int (-1) tk) rfl (wpAny_pure ?_)))))))
 refine wpAny_bind (yc3 (.int (-1) tk) ?_)
 show wpAny _ _ (if ((-1:Int) == 0)=true then _ else _) _ _ s
 rw[if_neg (by decide)]
 refine wpAny_bind (yc3 .none (wpAny_bind (yc3 .none (wpAny_bind (wpAny_pure ?_)))))
 refine wpAny_pure ?_
 show wpAny _ _ (if (((1:Int) == 0&&(-1:Int) == 1&&(2:Nat) == 2)=true) then _ else _) _ _ s
 rw[if_neg (by decide)]
 have hpk:∀ (lo st:Int) (n:Nat),lo=1→st=-1→n=2→((List.range n).filterMap fun (k:Nat)=>#[u,v][(lo+(k:Int)*st).toNat]?).toArray=#[v,u]:=fun lo st n h1 h2 h3=>by subst h1 h2 h3;rfl
 refine wpAny_bind (m:=Builtin.Tuple.tupleExact _) ?_
 refine congr_at (fun zs:Array Value=>wpAny (model prog w) A.in1 (Builtin.Tuple.tupleExact zs) _ _ s) (hpk _ _ _ rfl rfl (show Builtin.Slice.slicePlaces 1 (-1) (-1)=2 by decide +kernel)) ?_
 first
  | exact wpAny_newObj_type (wpAny_pure ⟨_,rfl,wpAny_pure h⟩) htake
  | exact wpAny_newObj_type (wpAny_bind (wpAny_pure (wpAny_pure ⟨_,rfl,wpAny_pure h⟩))) htake
  | exact wpAny_bind (wpAny_newObj_type (wpAny_pure (wpAny_pure ⟨_,rfl,wpAny_pure h⟩)) htake)
  | exact wpAny_bind (wpAny_newObj_type (wpAny_pure ⟨_,rfl,wpAny_pure h⟩) htake)
end
end HT
namespace L2
open PySem PySem.Spec PyProof.Rows
section
variable {X:Cx}
def tSl3T (K:PySem.W.Frag) (te ts:TE):TE:=fun σ H Q=>te σ H fun x H1=>ts σ H1 fun y H2=>∃ (a:Addr) (x1 x2:V),x=.ref a∧SqT K H2 a [x1,x2]∧y=.int (-1)∧∀ p,H2 p=none→Q (.ref p) (upd H2 p (.tup [x2,x1]))
theorem qfm {e st:Expr}{te ts:TE}{p2 pos:Pos} (he:PE X e te) (hst:PE X st ts):PE X (.Subscript e (.Slice none none (some st) p2) pos) (tSl3T X.K te ts):=by
 intro pins s σ H Q I h
 refine Subscript_ (thn (he pins s σ H _ I h) fun v s1 ⟨x,H1,I1,r1,q1⟩=>?_)
 refine wpAny_Slice ?_
 rw[evalPart_none]
 refine wpAny_pure (wpAny_pure ?_)
 rw[evalPart_some]
 refine thn (hst pins s1 σ H1 _ I1 q1) fun vs s3 ⟨y,H3,I3,r3,q3⟩=>?_
 obtain ⟨a,x1,x2,rfl,hx,rfl,q⟩:=q3
 cases r1
 obtain ⟨tk,rfl⟩:=r3
 have I4:Inv X pins σ H3 { s3 with heap:=s3.heap.push { cls:=.type "slice",data:=.fields #[.none,.none,.int (-1) tk] } }:=I3.kept (t':=s3.toks) fun b ob q=>Heap.get?_push_of_some _ q
 obtain ⟨its,r,ht,hz⟩:=I4.tuple hx
 obtain ⟨u1,u2,rfl,v1,v2⟩:∃ u1 u2,its=[u1,u2]∧RelV x1 u1∧RelV x2 u2:=by
  cases r with
  | cons a r=>
   cases r with
   | cons b r=>
    cases r
    exact ⟨_,_,rfl,a,b⟩
 refine tail_any (ops:=[.ref a,.ref s3.heap.objs.size]) ht.typeIs slot_tuple_getitem.lookup ?_ (by with_unfolding_all rfl)
 refine HT.getItem_tuple_rev2 ht (Heap.IsSliceOf.new ..) ?_
 refine ⟨.ref _,_,I4.laid (t':=s3.toks) (o:=.tup [x2,x1]) (fun b ob q=>Heap.get?_push_of_some _ q) (Nat.le_refl _) ?_,rfl,q _ (I4.hok.fresh (Nat.le_refl _))⟩
 exact ⟨by show 2≤sizeLine;decide,[u2,u1],.cons v2 (.cons v1 .nil),IsTup.new _ _⟩
end
end L2
namespace Mc
open PySem L2 PyProof.Rows Mx PySem.W
theorem ygs {X:Cx}{k m:Nat}{x:Str}{sp:Sp}{p pos:Pos} (h:Has X.prog X.w X.K X.mg X.base k x [] sp) (hr:Room m X.A) (hk:k≤m:=by decide) (hg:Gl X x:=by rfl)
  (hdb:(x == ("__debug__" : Str))=false:=by decide):PE X (.Call (.Name x p) [] [] pos) (qe8 sp [] E0 tNil):=by
 obtain ⟨f,fd,h1,h2,h3,h4⟩:=h
 exact pe_call0 h4 (hr.mono hk) hg h1 h2 h3 .nil pass0 hdb
theorem PT.take {H:Hp}{ts:List TL}{bs:Bs} (h:PT H ts bs) (n:Nat):PT H (ts.take n) (bs.take n):=⟨by rw[List.map_take,List.map_take,h.eq],fun t ht=>h.at_ t (List.mem_of_mem_take ht)⟩
theorem clamp (v:Int):∃ n:Nat,(if (if v>0 then v else 0)<6 then (if v>0 then v else 0) else 6)=(n:Int)∧n≤6:=by
 refine ⟨(if (if v>0 then v else 0)<6 then (if v>0 then v else 0) else 6).toNat,?_,?_⟩<;>split<;>split<;>omega
section
variable {P:Program}{w:World}{K:PySem.W.Frag}{mg:Str→Option Value}{base:Heap}
def yfc (K:PySem.W.Frag) (PB:Addr):Sp:=fun vs H Q _=>∃ (a:Addr) (ns:List Int),vs=[.ref a]∧SqL K H a (ns.map V.int)∧ns.length≤63∧Tab PB H∧∀ H',Q (.bl true) H'
def sp_fixed (PB:Addr):Sp:=fun vs H Q _=>vs=[]∧Tab PB H∧∀ H',qba PB H H'→Tab PB H'→Q (.bl true) H'
abbrev qd0:Stmt:=top 35
theorem sc_law:FnScope ["_law_script","_law_turn","_law_cell","_law_broken_here","_law_d","_law_small","_law_rows","_law_lines","_law_cells","_law_near","_law_many"] ["_law_script"] (qaf qd0):=⟨rfl,rfl,rfl,by decide +kernel,rfl,by decide +kernel,by decide +kernel⟩
theorem ok_law {PB:Addr} (B:Bl mg) (yd7:Has P w K mg base 2 "_law_broken" ["_law_cell","_law_turn","_law_most"] yd9) (yb3:Has P w K mg base 1 "_law_digits" ["_law_cell","_law_turn","_law_sizes"] ydg) (yd0:Has P w K mg base 14 "fewest" ["broken"] qcz)
  (ya5:Has P w K mg base 40 "_law_right" ["_law_broken_here","_law_rows","_law_lines"] (yd3 PB)) (qco:Has P w K mg base 41 "_law_fixed_right" [] (sp_fixed PB))
  {f:Addr}{fd:FuncData} (F:Fun K "law" "law" qd0 f fd):FnOk P w K mg base CX0 42 f fd ["_law_script"] (yfc K PB):=by
 refine Fun.okQ F sc_law (fun vs H Q E h=>?_) (fun cdv A outer s H vs Q E hr h=>?_)
 ·obtain ⟨a,ns,rfl,_⟩:=h
  rfl
 ·obtain ⟨a,ns,rfl,hS,hnl,tb,k⟩:=h
  have sc:=sc_law
  refine ⟨_,(qak rfl (yac (qbv PassesOwn.never rfl (ye4 (yg0 rfl (B.of rfl) (qac (qfi qgv (qbo op_catS (pv 0) (qed (qac qab yah))) ygo (qfw qab)) yah))) (ydu rfl (yau (yaj (i:=1) sc.nd rfl (Or.inl rfl)) (yau (yaj (i:=2) sc.nd rfl (Or.inl rfl)) ycj)))
    (yac (qal (i:=3) sc.nd rfl (Or.inl rfl) (yag yd7 hr (qah (qaa (pv 2)) (qah (qaa (pv 1)) (qaw (qaa qab) yad)))))
    (yac (qal (i:=4) sc.nd rfl (Or.inl rfl) (yag yb3 hr (qah (qaa (pv 2)) (ycd (yat ya1 (qaa qab) (qaa (pv 1))) (qa_ls (qbn (qaw (qaa qab) (qaw (qaa qab) (qaw (qaa qab) (qaw (qaa qab) yad))))) yad)))))
    (yac (qal (i:=5) sc.nd rfl (Or.inl rfl) (qbd (ya0 (qan yaw (qaa (pv 4)) (qaa qab) (fun _ _=>rfl)) (ycd (yat ych (qan yaw (qaa (pv 4)) (qaa qab) (fun _ _=>rfl)) (yat yb8 (qaa qab) (qan yaw (qaa (pv 4)) (qaa qab) (fun _ _=>rfl)))) yad))))
    (yac (qs_asg (yag yd0 hr (qah (qaa (pv 3)) yad)) (ydu rfl (yau (yaj (i:=6) sc.nd rfl (Or.inl rfl)) (yau (yaj (i:=7) sc.nd rfl (Or.inl rfl)) (yau (yaj (i:=8) sc.nd rfl (Or.inl rfl)) ycj)))))
    (yac (qal (i:=9) sc.nd rfl (Or.inl rfl) (qbd (qb6 (qai (yeh rfl) rfl (B.of rfl) boot_min (qaw (qaa qab) (qb6 (qai (qdp rfl) rfl (B.of rfl) boot_max (qaw (qaa qab) (ycd (yat yb8 (yat ya1 (qai yai rfl (B.of rfl) boot_len (qah (qaa (pv 6)) yad)) (qan yaw (qaa (pv 4)) (qaa qab) (fun _ _=>rfl))) (qaa qab)) yad))) yad))) (qb6 (qai (yeh rfl) rfl (B.of rfl) boot_min (qaw (qaa qab) (qb6 (qai (qdp rfl) rfl (B.of rfl) boot_max (qaw (qaa qab) (ycd (yat yb8 (yat ya1 (qai yai rfl (B.of rfl) boot_len (qah (qaa (pv 7)) yad)) (qan yaw (qaa (pv 4)) (qaa qab) (fun _ _=>rfl))) (qaa qab)) yad))) yad))) yad))))
    (qdl (yan (QW.pt (ycw (yak ycf (yat ya1 (qan qaj (qaa (pv 9)) (qaa qab) (fun _ _=>rfl)) (qan qaj (qaa (pv 9)) (qaa qab) (fun _ _=>rfl))) (qaa qab) (yal _)) (yb1 (yak op_ge (yat ya1 (qan qaj (qaa (pv 9)) (qaa qab) (fun _ _=>rfl)) (qan qaj (qaa (pv 9)) (qaa qab) (fun _ _=>rfl))) (qai yai rfl (B.of rfl) boot_len (qah (qaa (pv 8)) yad)) (yal _)))))
     (yae (qal (i:=9) sc.nd rfl (Or.inl rfl) (qaa (pv 5))))
     qam)
    (yac (qbv PassesOwn.never rfl (yc0 (qbn (qah (qaa (pv 5)) (qah (qaa (pv 9)) (qah (qaa (pv 5)) (ya0 (qaa (qfm (pv 5) (pe_un un_neg qab))) yad)))))) (yaj (i:=10) sc.nd rfl (Or.inl rfl))
     (yae (yan (qa2 (qao (yag ya5 hr (qah (qaa (pv 3)) (ya0 (qan qaj (qaa (pv 10)) (qaa qab) (fun _ _=>rfl)) (ya0 (qan qaj (qaa (pv 10)) (qaa qab) (fun _ _=>rfl)) yad))))))
      (yae (qag (qaa ya9)))
      qam)))
    (yae (yan (qa2 (qao (yag ya5 hr (ya0 (qaa (qfi qgv (pv 3) ygo (qfw qab))) (qaw (qaa qab) (qaw (qaa qab) yad))))))
     (yae (qag (qaa ya9)))
     qam))))))))))
   (yae (qag (qaa (ygs qco hr (Nat.le_refl _))))))),?_⟩
  refine ⟨_,rfl,(by show 1≤sizeLine;decide),fun c1 v1=>?_⟩
  refine ⟨a,c1,_,_,rfl,rfl,((Same.refl H).upd v1).seq hS,SqL.of yaa,yco (by simp;omega),fun c2 v2=>?_⟩
  refine ⟨18,rfl,c2,_,rfl,SqL.of yaa,fun c3 v3=>?_⟩
  obtain ⟨ms,hms,hml⟩:∃ ms:List Int,cutV (ns.map V.int++[.int 3]) none (some 18)=ms.map V.int∧ms.length≤18:=by
   refine ⟨(ns++[3]).take 18,?_,by rw[List.length_take];omega⟩
   rw[show (18:Int)=((18:Nat):Int) from rfl,qfk,List.map_take,List.map_append]
   rfl
  rw[hms]
  generalize hHa:upd (upd (upd H c1 _) c2 _) c3 (.lst (ms.map V.int))=Ha
  have fA:Ha c3=some (.lst (ms.map V.int)):=by rw[← hHa];exact yaa
  have tA:Tab PB Ha:=by rw[← hHa];exact tb.same ((((Same.refl H).upd v1).upd v2).upd v3)
  clear hHa
  refine ⟨c3,_,rfl,SqL.of fA,yfg (xs:=ms.map V.int) (fun i σ H3=>∃ (o1 o2 o3 o4 o5 o6 o7 o8 o9 o10:Option V),σ=[some (.ref a),o1,o2,o3,o4,o5,o6,o7,o8,o9,o10]∧qba PB Ha H3∧Tab PB H3) ⟨_,_,_,_,_,_,_,_,_,_,rfl,Same.p (Same.refl _),tA⟩ (fun i σ H3 _ ⟨_,_,_,_,_,_,_,_,_,_,_,s3,_⟩=>SqL.of (s3 _ _ (tA.ne fA fun _ z=>by cases z) fA)) ?_ ?_⟩
  rotate_left
  ·rintro σ H3 ⟨o1,o2,o3,o4,o5,o6,o7,o8,o9,o10,rfl,s3,t3⟩
   exact ⟨rfl,t3,fun H' _ _=>k H'⟩
  rintro i x pp σ H3 hx ⟨o1,o2,o3,o4,o5,o6,o7,o8,o9,o10,rfl,s3,t3⟩ hpp
  obtain ⟨c,hc,rfl⟩:=yfw hx
  have hi18:i<ms.length:=(List.getElem?_eq_some_iff.mp hc).1
  refine ⟨pp,_,rfl,SqT.of yaa,rfl,_,_,rfl,_,_,rfl,rfl,?_⟩
  have sB:qba PB Ha (upd H3 pp (.tup [V.int i,.int c])):=s3.trans (Same.p ((Same.refl H3).upd hpp))
  have tB:Tab PB (upd H3 pp (.tup [V.int i,.int c])):=t3.same ((Same.refl H3).upd hpp)
  revert sB tB
  generalize upd H3 pp (.tup [V.int i,.int c])=HB
  intro sB tB
  refine ⟨_,rfl,_,rfl,c,i,24,rfl,by omega,by omega,by omega,fun p ts bs HC sC np ep hP h12 hbl=>?_⟩
  have hpl:=hP.len
  refine ⟨_,rfl,_,rfl,_,_,rfl,rfl,(by show 4≤sizeLine;decide),fun z1 y1=>?_⟩
  refine ⟨c,50+(i:Int),z1,[7,7,3,3],rfl,yaa,by decide,by decide,by omega,by omega,fun hh ds H4 s4' nh eh hD=>?_⟩
  have s4:=((Same.refl HC).upd (o:=.lst [V.int 7,.int 7,.int 3,.int 3]) y1).trans s4'
  clear s4' y1 nh
  obtain ⟨d0,g0,m0,m0'⟩:=hD.get (i:=0) (z:=7) rfl
  obtain ⟨d1,g1,m1,m1'⟩:=hD.get (i:=1) (z:=7) rfl
  obtain ⟨d2,g2,_,_⟩:=hD.get (i:=2) (z:=3) rfl
  obtain ⟨d3,g3,_,_⟩:=hD.get (i:=3) (z:=3) rfl
  refine ⟨_,rfl,hh,_,_,_,rfl,rfl,SqL.of eh,qae 0 (ya6 g0),_,rfl,hh,_,_,_,rfl,rfl,SqL.of eh,qae 1 (ya6 g1),_,rfl,hh,_,_,_,rfl,rfl,SqL.of eh,qae 0 (ya6 g0),_,_,rfl,rfl,_,_,rfl,rfl,(by show (0:Int)<7-d0;omega),(by show 2≤sizeLine;decide),fun sm nsm=>?_⟩
  generalize hH5:upd H4 sm _=H5
  have s5:Same H4 H5:=by rw[← hH5];exact (Same.refl H4).upd nsm
  obtain ⟨n1,m1,esm,hnm1⟩:∃ n1 m1:Nat,H5 sm=some (.tup [.int n1,.int m1])∧n1+m1≤6:=by
   have y0:=Int.emod_nonneg d1 (show (7:Int)-d0≠0 by omega)
   have y1:=Int.emod_lt_of_pos d1 (show (0:Int)<7-d0 by omega)
   refine ⟨d0.toNat,(d1 % (7-d0)).toNat,?_,by omega⟩
   rw[← hH5,show ((d0.toNat:Nat):Int)=d0 by omega,show (((d1 % (7-d0)).toNat:Nat):Int)=d1 % (7-d0) by omega]
   exact yaa
  clear hH5 nsm
  have sC5:=s4.trans s5
  refine ⟨_,rfl,p,ts,bs,rfl,sC5 _ _ ep,hP.same sC5,by omega,h12,fun pt pr pl pc R L C cs H6 s6 _ _ _ _ _ _ hF hC=>?_⟩
  have eh6:=s6 _ _ (s5 _ _ eh)
  have esm6:=s6 _ _ esm
  have sC6:=sC5.trans s6
  refine ⟨pt,_,rfl,SqT.of hF.t,rfl,_,_,rfl,_,_,rfl,_,_,rfl,rfl,?_⟩
  refine ⟨_,rfl,pr,_,rfl,.inl (SqL.of hF.r),_,rfl,hh,_,_,_,rfl,rfl,SqL.of eh6,qae 2 (ya6 g2),_,_,rfl,rfl,_,_,rfl,rfl,0,_,rfl,6,_,rfl,?_⟩
  refine ⟨_,rfl,pl,_,rfl,.inl (SqL.of hF.l),_,rfl,hh,_,_,_,rfl,rfl,SqL.of eh6,qae 3 (ya6 g3),_,_,rfl,rfl,_,_,rfl,rfl,0,_,rfl,6,_,rfl,(by show 2≤sizeLine;decide),fun nr nnr=>?_⟩
  generalize hH7:upd H6 nr _=H7
  have s7:Same H6 H7:=by rw[← hH7];exact (Same.refl H6).upd nnr
  obtain ⟨n2,m2,enr,hn2,hm2⟩:∃ n2 m2:Nat,H7 nr=some (.tup [.int n2,.int m2])∧n2≤6∧m2≤6:=by
   obtain ⟨n2,h1,h1'⟩:=clamp (((R.map V.int).length:Int)+d2-1)
   obtain ⟨m2,h2,h2'⟩:=clamp (((L.map V.int).length:Int)+d3-1)
   refine ⟨n2,m2,?_,h1',h2'⟩
   rw[← hH7,← h1,← h2]
   exact yaa
  clear hH7 nnr
  have sC7:=sC6.trans s7
  have esm7:=s7 _ _ esm6
  refine ⟨fun σ' H8=>∃ nr' n3 m3:Nat,σ'=[some (.ref a),some (.int i),some (.int c),some (.ref p),some (.ref hh),some (.ref sm),some (.ref pr),some (.ref pl),some (.ref pc),some (.ref nr'),o10]∧Same H7 H8∧H8 nr'=some (.tup [.int n3,.int m3])∧n3+m3≤12,?_,?_⟩
  ·refine ⟨_,rfl,nr,_,_,_,rfl,rfl,SqT.of enr,qae 0 rfl,_,rfl,nr,_,_,_,rfl,rfl,SqT.of enr,qae 1 rfl,_,_,rfl,rfl,_,_,rfl,rfl,_,rfl,?_⟩
   by_cases h6:(6:Int)<(n2:Int)+(m2:Int)
   ·refine iteD h6 ⟨_,rfl,nr,_,_,_,rfl,rfl,SqT.of enr,qae 0 rfl,_,rfl,nr,_,_,_,rfl,rfl,SqT.of enr,qae 1 rfl,_,_,rfl,rfl,_,rfl,pc,_,rfl,.inl (SqL.of (s7 _ _ hF.c)),_,_,rfl,rfl,_,rfl,?_⟩
    by_cases hge:((yaf cs).length:Int)≤(n2:Int)+(m2:Int)
    ·exact iteD hge ⟨_,rfl,sm,n1,m1,rfl,Same.refl _,esm7,by omega⟩
    ·exact qb4 hge ⟨nr,n2,m2,rfl,Same.refl _,enr,by omega⟩
   ·exact qb4 h6 (iteF ⟨nr,n2,m2,rfl,Same.refl _,enr,by omega⟩)
  rintro _ H8 ⟨nr',n3,m3,rfl,s8,enr8,h3⟩
  have esm8:=s8 _ _ esm7
  refine ⟨_,rfl,_,rfl,_,rfl,_,rfl,_,rfl,sm,_,_,rfl,SqT.of esm8,rfl,fun rv nrv=>⟨(by show 4≤sizeLine;decide),fun lq nlq=>?_⟩⟩
  have sx:=((Same.refl H8).upd (o:=.tup [V.int m1,.int n1]) nrv).upd (o:=.lst [.ref sm,.ref nr',.ref sm,.ref rv]) nlq
  have x1:=sx _ _ esm8
  have x2:=sx _ _ enr8
  have x3:upd (upd H8 rv (.tup [V.int m1,.int n1])) lq (.lst [.ref sm,.ref nr',.ref sm,.ref rv]) rv=some (.tup [V.int m1,.int n1]):=by rw[qad (yab yaa nlq)];exact yaa
  have x4:upd (upd H8 rv (.tup [V.int m1,.int n1])) lq (.lst [.ref sm,.ref nr',.ref sm,.ref rv]) lq=some (.lst [.ref sm,.ref nr',.ref sm,.ref rv]):=yaa
  revert sx x1 x2 x3 x4
  generalize upd (upd H8 rv (.tup [V.int m1,.int n1])) lq (.lst [.ref sm,.ref nr',.ref sm,.ref rv])=HX
  intro sx x1 x2 x3 x4
  have sCX:=sC7.trans (s8.trans sx)
  have tX:=tB.same (sC.trans sCX)
  have epX:=sCX _ _ ep
  have hPX:=hP.same sCX
  have sAX:qba PB Ha HX:=sB.trans (Same.p (sC.trans sCX))
  refine ⟨lq,rfl,⟨_,SqL.of x4⟩,ycb (xs:=[.ref sm,.ref nr',.ref sm,.ref rv]) (fun j σ HY=>∃ o10:Option V,σ=[some (.ref a),some (.int i),some (.int c),some (.ref p),some (.ref hh),some (.ref sm),some (.ref pr),some (.ref pl),some (.ref pc),some (.ref nr'),o10]∧qba PB HX HY∧Tab PB HY) ⟨_,rfl,Same.p (Same.refl _),tX⟩ (fun j σ HY _ ⟨_,_,sY,_⟩=>SqL.of (sY _ _ (tX.ne x4 fun _ z=>by cases z) x4)) ?_ ?_⟩
  ·rintro j y σ HY hy ⟨o10,rfl,sY,tY⟩
   obtain ⟨q,n',m',rfl,eq,hnm'⟩:∃ (q:Addr) (n' m':Nat),y=.ref q∧HX q=some (.tup [.int n',.int m'])∧n' + m'≤12:=by
    rcases j with _|_|_|_|j
    ·cases hy;exact ⟨sm,_,_,rfl,x1,by omega⟩
    ·cases hy;exact ⟨nr',_,_,rfl,x2,by omega⟩
    ·cases hy;exact ⟨sm,_,_,rfl,x1,by omega⟩
    ·cases hy;exact ⟨rv,_,_,rfl,x3,by omega⟩
    ·simp at hy
   have eqY:=sY _ _ (tX.ne eq fun _ z=>by cases z) eq
   have epY:=sY _ _ (tX.ne epX fun _ z=>by cases z) epX
   refine ⟨_,rfl,_,rfl,q,_,_,_,rfl,rfl,SqT.of eqY,qae 0 rfl,_,rfl,q,_,_,_,rfl,rfl,SqT.of eqY,qae 1 rfl,?_⟩
   exact ⟨p,n',m',ts,bs,rfl,hnm',epY,hPX.p sY tX,by omega,h12,tY,fun HZ sZ tZ=>⟨_,rfl,iteN rfl ⟨_,rfl,sY.trans sZ,tZ⟩⟩⟩
  rintro σ HY ⟨o10,rfl,sY,tY⟩
  have epY:=sY _ _ (tX.ne epX fun _ z=>by cases z) epX
  have hPY:=hPX.p sY tX
  refine ⟨_,rfl,12,rfl,p,_,rfl,SqL.of epY,fun q nq=>?_⟩
  have ek:cutV (yaf ts) none (some (12:Int))=yaf (ts.take 12):=by rw[show (12:Int)=((12:Nat):Int) from rfl,qfk];unfold yaf;rw[List.map_take]
  rw[ek]
  have sq:=(Same.refl HY).upd (o:=.lst (yaf (ts.take 12))) nq
  exact ⟨q,6,6,ts.take 12,bs.take 12,rfl,by decide,yaa,(hPY.take 12).same sq,by rw[List.length_take];omega,fun p hp=>h12 p (List.mem_of_mem_take hp),tY.same sq,fun HZ sZ tZ=>⟨_,rfl,iteN rfl ⟨_,_,_,_,_,_,_,_,_,_,rfl,sAX.trans (sY.trans ((Same.p sq).trans sZ)),tZ⟩⟩⟩
end
end Mc
namespace Mc
open PySem L2 PyProof.Rows
theorem fnAt_mk {K:PySem.W.Frag}{h:Heap}{mg:Str→Option Value}{x:Str}{st:Stmt}{ps:List Str}{f:Addr}{oc:Value}{od an:Option Addr}{osl:Array (Option Value)}{kV doc pm cdv ct:Value} (X:K.In h) (G:h.Ns mainGlobals mg)
  (a:PySem.W.nsIn K mainGlobals x=some (some (.ref f))) (l:K.lookup f=some ⟨oc,od,.func (PySem.W.fnOf x x (ya4 st) (yar st) (qaf st) .none kV doc pm an cdv ct),osl⟩) (c:PySem.W.codeIn K cdv x=true) (k:PySem.W.keepIn K (.ref f)=true)
  (hb:∀ (kV doc pm:Value) (an:Option Addr) (cdv ct:Value) (us:List Value),us.length=ps.length→bindArgs (PySem.W.fnOf x x (ya4 st) (yar st) (qaf st) .none kV doc pm an cdv ct) ⟨us,[]⟩=pure (ps.zip us)):FnAt K mg x st ps:=by
 have F:=fun_mk (st:=st) l c k
 exact ⟨f,_,PySem.W.mg_of X G a,F,F.binds hb⟩
def FnP (K:PySem.W.Frag) (x:Str) (st:Stmt):Prop:=∃ (f:Addr) (oc:Value) (od an:Option Addr) (sl:Array (Option Value)) (kV dc pm cd ct:Value),PySem.W.nsIn K mainGlobals x=some (some (.ref f))∧K.lookup f=some ⟨oc,od,.func (PySem.W.fnOf x x (ya4 st) (yar st) (qaf st) .none kV dc pm an cd ct),sl⟩∧PySem.W.codeIn K cd x=true∧PySem.W.keepIn K (.ref f)=true
theorem FnP.at {K:PySem.W.Frag}{h:Heap}{mg:Str→Option Value}{x:Str}{st:Stmt}{ps:List Str} (p:FnP K x st) (X:K.In h) (G:h.Ns mainGlobals mg)
  (hb:∀ (kV doc pm:Value) (an:Option Addr) (cdv ct:Value) (us:List Value),us.length=ps.length→bindArgs (PySem.W.fnOf x x (ya4 st) (yar st) (qaf st) .none kV doc pm an cdv ct) ⟨us,[]⟩=pure (ps.zip us)):FnAt K mg x st ps:=by
 obtain ⟨f,oc,od,an,sl,kV,dc,pm,cd,ct,a,l,c,k⟩:=p
 exact fnAt_mk X G a l c k hb
theorem fnAtC_mk {K:PySem.W.Frag}{h:Heap}{mg:Str→Option Value}{x:Str}{st:Stmt}{ps:List Str}{f c:Addr}{oc:Value}{od an:Option Addr}{sl:Array (Option Value)}{kV dc pm ct:Value} (X:K.In h) (G:h.Ns mainGlobals mg) (a:PySem.W.nsIn K mainGlobals x=some (some (.ref f)))
  (l:K.lookup f=some ⟨oc,od,.func (PySem.W.fnOf x x (ya4 st) (yar st) (qaf st) .none kV dc pm an (.ref c) ct),sl⟩) (cc:PySem.W.codeIn K (.ref c) x=true) (k:PySem.W.keepIn K (.ref f)=true)
  (hb:∀ us:List Value,us.length=ps.length→bindArgs (PySem.W.fnOf x x (ya4 st) (yar st) (qaf st) .none kV dc pm an (.ref c) ct) ⟨us,[]⟩=pure (ps.zip us)):Mx.FnAtC K mg x st ps c:=⟨f,oc,od,kV,dc,pm,an,ct,sl,PySem.W.mg_of X G a,l,cc,k,hb⟩
set_option maxHeartbeats 0 in
theorem all_mk {l:PySem.W.OpenLaw}{w:World}{K:PySem.W.Frag}{h:Heap}{mg:Str→Option Value}{fa:Addr} (X:K.In h) (G:h.Ns mainGlobals mg) (hfa:mg "law" = some (.ref fa))
  (p0:FnP K "lines_by_row" yba)
  (p1:FnP K "finds_line" ybs)
  (p2:FnP K "fewest" qdc)
  (p3:FnP K "is_whole" qcd)
  (p4:FnP K "is_one_of" qb0)
  (p5:FnP K "is_pair" ycq)
  (p6:FnP K "without_row" qbg)
  (p7:FnP K "without_line" ybb)
  (p8:FnP K "one_in_each" ybh)
  (p9:FnP K "spared_by_one_sort" yas)
  {fT cT:Addr}{odT anT:Option Addr}{slT:Array (Option Value)}{ocT kVT dcT pmT ctT:Value}
  (aT:PySem.W.nsIn K mainGlobals "busiest" = some (some (.ref fT)))
  (lT:K.lookup fT=some ⟨ocT,odT,.func (PySem.W.fnOf "busiest" "busiest" (ya4 qa6) (yar qa6) (qaf qa6) .none kVT dcT pmT anT (.ref cT) ctT),slT⟩)
  (cT_:PySem.W.codeIn K (.ref cT) "busiest" = true)
  (kT:PySem.W.keepIn K (.ref fT)=true)
  (dT:PySem.W.codeHdIn K cT 80=true)
  (p11:FnP K "spared_by_split" qat)
  (p12:FnP K "spared" qct)
  (p13:FnP K "is_broken" ybz)
  (p14:FnP K "are_unlike" ybo)
  (p15:FnP K "are_too_many" qbb)
  (p16:FnP K "has_word" ycc)
  (p17:FnP K "is_split" qbx)
  (p18:FnP K "lets_none" ybm)
  (p19:FnP K "_law_digits" qbf)
  (p20:FnP K "_law_broken" ybg)
  (p21:FnP K "_law_is_whole" ya8)
  (p22:FnP K "_law_are_numbers" qax)
  (p23:FnP K "_law_covers" qbh)
  (p24:FnP K "_law_is_one" ybf)
  (p25:FnP K "_law_are_apart" ya3)
  (p26:FnP K "_law_lets" qbl)
  (p27:FnP K "_law_leaf" qbz)
  (p28:FnP K "_law_right" qbq)
  (p29:FnP K "_law_block" ybp)
  (p30:FnP K "_law_fixed_right" yaz)
  {f31:Addr}{od31 an31:Option Addr}{sl31:Array (Option Value)}{oc31 kV31 dc31 pm31 cd31 ct31:Value}
  (a31:PySem.W.nsIn K mainGlobals "law" = some (some (.ref f31)))
  (l31:K.lookup f31=some ⟨oc31,od31,.func (PySem.W.fnOf "law" "law" (ya4 qd0) (yar qd0) (qaf qd0) .none kV31 dc31 pm31 an31 cd31 ct31),sl31⟩)
  (c31:PySem.W.codeIn K cd31 "law" = true)
  (k31:PySem.W.keepIn K (.ref f31)=true)
  (z0:PySem.W.nsIn K mainGlobals "len" = some none)
  (z1:PySem.W.nsIn K mainGlobals "abs" = some none)
  (z2:PySem.W.nsIn K mainGlobals "max" = some none)
  (z3:PySem.W.nsIn K mainGlobals "min" = some none)
  (z4:PySem.W.nsIn K mainGlobals "repr" = some none)
  (z5:PySem.W.nsIn K mainGlobals "isinstance" = some none)
  (z6:PySem.W.nsIn K mainGlobals "int" = some none)
  (z7:PySem.W.nsIn K mainGlobals "bool" = some none)
  (z8:PySem.W.nsIn K mainGlobals "str" = some none)
  (z9:PySem.W.nsIn K mainGlobals "tuple" = some none)
  (z10:PySem.W.nsIn K mainGlobals "list" = some none)
  (z11:PySem.W.nsIn K mainGlobals "dict" = some none)
  (z12:PySem.W.nsIn K mainGlobals "range" = some none)
  (z13:PySem.W.nsIn K mainGlobals "enumerate" = some none)
  (z14:PySem.W.nsIn K mainGlobals "sorted" = some none)
  (z15:PySem.W.nsIn K mainGlobals "sum" = some none)
  (zset:PySem.W.nsIn K mainGlobals "set" = some none)
  (zall:PySem.W.nsIn K mainGlobals "all" = some none) :
  ∃ fd:FuncData,(∀ (s:Shared) (v:Value),BindsTo s fd ⟨[v],[]⟩ [("_law_script",v)])∧∀ base:Heap,K.In base→base.Ns mainGlobals mg→L2.yd2 mg base→FnOk l.prog w K mg base CX0 42 fa fd ["_law_script"] (yfc K 80):=by
 have e:=hfa.symm.trans (PySem.W.mg_of X G a31)
 cases e
 have B:Bl mg:=⟨fun x hx=>by
  unfold qez at hx
  simp only[List.mem_cons,List.not_mem_nil,or_false] at hx
  rcases hx with rfl|rfl|rfl|rfl|rfl|rfl|rfl|rfl|rfl|rfl|rfl|rfl|rfl|rfl|rfl|rfl
  ·exact PySem.W.mg_none_of X G z0
  ·exact PySem.W.mg_none_of X G z1
  ·exact PySem.W.mg_none_of X G z2
  ·exact PySem.W.mg_none_of X G z3
  ·exact PySem.W.mg_none_of X G z4
  ·exact PySem.W.mg_none_of X G z5
  ·exact PySem.W.mg_none_of X G z6
  ·exact PySem.W.mg_none_of X G z7
  ·exact PySem.W.mg_none_of X G z8
  ·exact PySem.W.mg_none_of X G z9
  ·exact PySem.W.mg_none_of X G z10
  ·exact PySem.W.mg_none_of X G z11
  ·exact PySem.W.mg_none_of X G z12
  ·exact PySem.W.mg_none_of X G z13
  ·exact PySem.W.mg_none_of X G z14
  ·exact PySem.W.mg_none_of X G z15⟩
 have ye3:mg "set" = none:=PySem.W.mg_none_of X G zset
 have z_all:mg "all" = none:=PySem.W.mg_none_of X G zall
 have F0:FnAt K mg "lines_by_row" yba ["broken"]:=p0.at X G fun _ _ _ _ _ _ us hl=>match us,hl with | [_],_=>rfl
 have F1:FnAt K mg "finds_line" ybs ["by_row","partners","tried","row"]:=p1.at X G fun _ _ _ _ _ _ us hl=>match us,hl with | [_,_,_,_],_=>rfl
 have F2:FnAt K mg "fewest" qdc ["broken"]:=p2.at X G fun _ _ _ _ _ _ us hl=>match us,hl with | [_],_=>rfl
 have F3:FnAt K mg "is_whole" qcd ["thing"]:=p3.at X G fun _ _ _ _ _ _ us hl=>match us,hl with | [_],_=>rfl
 have F4:FnAt K mg "is_one_of" qb0 ["thing","words"]:=p4.at X G fun _ _ _ _ _ _ us hl=>match us,hl with | [_,_],_=>rfl
 have F5:FnAt K mg "is_pair" ycq ["thing"]:=p5.at X G fun _ _ _ _ _ _ us hl=>match us,hl with | [_],_=>rfl
 have F6:FnAt K mg "without_row" qbg ["broken","row"]:=p6.at X G fun _ _ _ _ _ _ us hl=>match us,hl with | [_,_],_=>rfl
 have F7:FnAt K mg "without_line" ybb ["broken","line"]:=p7.at X G fun _ _ _ _ _ _ us hl=>match us,hl with | [_,_],_=>rfl
 have F8:FnAt K mg "one_in_each" ybh ["broken","place"]:=p8.at X G fun _ _ _ _ _ _ us hl=>match us,hl with | [_,_],_=>rfl
 have F9:FnAt K mg "spared_by_one_sort" yas ["broken","rows","lines"]:=p9.at X G fun _ _ _ _ _ _ us hl=>match us,hl with | [_,_,_],_=>rfl
 have F10:Mx.FnAtC K mg "busiest" qa6 ["broken"] cT:=fnAtC_mk X G aT lT cT_ kT fun us hl=>match us,hl with | [_],_=>rfl
 have F11:FnAt K mg "spared_by_split" qat ["broken","rows","lines"]:=p11.at X G fun _ _ _ _ _ _ us hl=>match us,hl with | [_,_,_],_=>rfl
 have F12:FnAt K mg "spared" qct ["broken","rows","lines"]:=p12.at X G fun _ _ _ _ _ _ us hl=>match us,hl with | [_,_,_],_=>rfl
 have F13:FnAt K mg "is_broken" ybz ["broken","thing"]:=p13.at X G fun _ _ _ _ _ _ us hl=>match us,hl with | [_,_],_=>rfl
 have F14:FnAt K mg "are_unlike" ybo ["things"]:=p14.at X G fun _ _ _ _ _ _ us hl=>match us,hl with | [_],_=>rfl
 have F15:FnAt K mg "are_too_many" qbb ["broken","rows","lines","thing"]:=p15.at X G fun _ _ _ _ _ _ us hl=>match us,hl with | [_,_,_,_],_=>rfl
 have F16:FnAt K mg "has_word" ycc ["thing","word","length"]:=p16.at X G fun _ _ _ _ _ _ us hl=>match us,hl with | [_,_,_],_=>rfl
 have F17:FnAt K mg "is_split" qbx ["broken","rows","lines","thing"]:=p17.at X G fun _ _ _ _ _ _ us hl=>match us,hl with | [_,_,_,_],_=>rfl
 have F18:FnAt K mg "lets_none" ybm ["broken","rows","lines","thing"]:=p18.at X G fun _ _ _ _ _ _ us hl=>match us,hl with | [_,_,_,_],_=>rfl
 have F19:FnAt K mg "_law_digits" qbf ["_law_cell","_law_turn","_law_sizes"]:=p19.at X G fun _ _ _ _ _ _ us hl=>match us,hl with | [_,_,_],_=>rfl
 have F20:FnAt K mg "_law_broken" ybg ["_law_cell","_law_turn","_law_most"]:=p20.at X G fun _ _ _ _ _ _ us hl=>match us,hl with | [_,_,_],_=>rfl
 have F21:FnAt K mg "_law_is_whole" ya8 ["_law_thing"]:=p21.at X G fun _ _ _ _ _ _ us hl=>match us,hl with | [_],_=>rfl
 have F22:FnAt K mg "_law_are_numbers" qax ["_law_thing","_law_most"]:=p22.at X G fun _ _ _ _ _ _ us hl=>match us,hl with | [_,_],_=>rfl
 have F23:FnAt K mg "_law_covers" qbh ["_law_broken_here","_law_rows","_law_lines"]:=p23.at X G fun _ _ _ _ _ _ us hl=>match us,hl with | [_,_,_],_=>rfl
 have F24:FnAt K mg "_law_is_one" ybf ["_law_broken_here","_law_thing"]:=p24.at X G fun _ _ _ _ _ _ us hl=>match us,hl with | [_,_],_=>rfl
 have F25:FnAt K mg "_law_are_apart" ya3 ["_law_broken_here","_law_rows","_law_lines","_law_thing"]:=p25.at X G fun _ _ _ _ _ _ us hl=>match us,hl with | [_,_,_,_],_=>rfl
 have F26:FnAt K mg "_law_lets" qbl ["_law_broken_here","_law_rows","_law_lines","_law_thing"]:=p26.at X G fun _ _ _ _ _ _ us hl=>match us,hl with | [_,_,_,_],_=>rfl
 have F27:FnAt K mg "_law_leaf" qbz ["_law_tree"]:=p27.at X G fun _ _ _ _ _ _ us hl=>match us,hl with | [_],_=>rfl
 have F28:FnAt K mg "_law_right" qbq ["_law_broken_here","_law_rows","_law_lines"]:=p28.at X G fun _ _ _ _ _ _ us hl=>match us,hl with | [_,_,_],_=>rfl
 have F29:FnAt K mg "_law_block" ybp ["_law_rows","_law_lines"]:=p29.at X G fun _ _ _ _ _ _ us hl=>match us,hl with | [_,_],_=>rfl
 have F30:FnAt K mg "_law_fixed_right" yaz []:=p30.at X G fun _ _ _ _ _ _ us hl=>match us,hl with | [],_=>rfl
 have FL:=fun_mk (st:=qd0) l31 c31 k31
 refine ⟨PySem.W.fnOf "law" "law" (ya4 qd0) (yar qd0) (qaf qd0) .none kV31 dc31 pm31 an31 cd31 ct31,fun s v=>.of_eq rfl,fun base KB _ BM=>?_⟩
 have h0:=ok_lbr (P:=l.prog) (w:=w) (base:=base) F0
 have h1:=(fun F=>yfb (P:=l.prog) (w:=w) (base:=base) F 13) F1
 have h2:=ygb B h0 h1 F2
 have h3:=ok_whole (P:=l.prog) (w:=w) (base:=base) B F3
 have h4:=ok_oneof (P:=l.prog) (w:=w) (base:=base) B F4
 have h5:=ok_pair (P:=l.prog) (w:=w) (base:=base) B F5
 have h6:=ok_wrow (P:=l.prog) (w:=w) (base:=base) B F6
 have h7:=ok_wline (P:=l.prog) (w:=w) (base:=base) B F7
 have h8:=ok_one (P:=l.prog) (w:=w) (base:=base) B F8
 have h9:=qfo B h8 F9
 have h10:=qft (P:=l.prog) (w:=w) (base:=base) B (PySem.W.codeHd_of_K KB dT) BM F10
 have h11:=id F11
 have h12:=(fun F=>ygj B h9 h2 h10 h6 h7 F11 F 12) F12
 have h13:=ok_isb B h3 h5 F13
 have h14:=qgi (P:=l.prog) (w:=w) (base:=base) B ye3 F14
 have h15:=ok_many B z_all h13 h14 F15
 have h16:=ok_word B h4 F16
 have h17:=id F17
 have h18:=(fun F=>qde B h16 h15 h13 h6 h7 F17 F 12) F18
 have h19:=qgx (P:=l.prog) (w:=w) (base:=base) B F19
 have h20:=qgt B h19 F20
 have h21:=qgq (P:=l.prog) (w:=w) (base:=base) B F21
 have h22:=ok_nums B h21 F22
 have h23:=ygr (P:=l.prog) (w:=w) (base:=base) B F23
 have h24:=ok_lone B h21 F24
 have h25:=ok_apart B ye3 h24 F25
 have h26:=(fun F=>qfa B h24 h25 F 12) F26
 have h27:=ok_leaf (P:=l.prog) (w:=w) (base:=base) B F27
 have h28:=ok_right B h12 h18 h26 h22 h23 h27 F28
 have h29:=ok_block (P:=l.prog) (w:=w) (base:=base) B F29
 have h30:=ok_fixed B h29 h28 F30
 exact ok_law B h20 h19 h2 h28 h30 FL
theorem walk {l:PySem.W.OpenLaw}{q:Program}{loose:List Str}{XP:(Str→Option Value)→Heap→Prop}{YP:World→Heap→Prop}{d:DefRec}{K:Params→PySem.W.Frag} (hn:l.most=some 63) (hdf:d.params.defaults=[])
  (hY:∀ (w:World) (h:Heap),YP w h→(K w.params).In h∧∀ p∈[80],h.get? p=some (PySem.W.tabObj #[])) (hcd:∀ (w:World) (h:Heap),(K w.params).In h→∀ p∈[80],∃ c,PySem.W.CodeHd h c p) (hKt:∀ (w:World),∀ p∈[80],(K w.params).lookup p=none)
  (F:∀ (w:World) (mg:Str→Option Value) (fa:Addr) (h:Heap),(K w.params).In h→h.Ns mainGlobals mg→mg d.name=some (.ref fa)→
   ∃ fd:FuncData,(∀ (s:Shared) (u:Value),BindsTo s fd ⟨[u],[]⟩ [("_law_script",u)])∧∀ base:Heap,(K w.params).In base→base.Ns mainGlobals mg→L2.yd2 mg base→FnOk l.prog w (K w.params) mg base CX0 42 fa fd ["_law_script"] (yfc (K w.params) 80)) :
  PySem.W.WalkO q loose XP YP l.row.toRowW d [] (fun f vs=>PySem.call f vs):=
 L2.walk_ofT (n:=63) (k:=42) (x:="_law_script") (ts:=[80]) (CX:=fun _=>CX0) (sp:=fun w=>yfc (K w.params) 80) hn (by decide) hdf ⟨rfl,by decide,by decide,rfl⟩ hY hcd hKt F (fun _ _ a ns hl hS hT=>⟨a,ns,rfl,hS,hl,.inl (hT _ (List.mem_singleton.mpr rfl)),fun _=>rfl⟩) fun _ _ _ _ _ z=>z
end Mc
def PySem.W.Fast.tw16750615933520583462:Nat:=0
def PySem.W.Fast.tw5636845993820997806:Nat:=0
def PySem.W.Fast.tw3899931301956147627:Nat:=0
def PySem.W.Fast.tw296000063684164312:=PySem.Challenge.pw_marchmend_k46_spares_told
theorem PySem.W.Fast.te296000063684164312:PySem.Challenge.pw_marchmend_k46_spares_told=PySem.W.Fast.tw296000063684164312:=rfl
def PySem.W.Fast.tw779671640996834035:Nat:=0
def PySem.W.Fast.tw10058424889444272251:Nat:=0
def PySem.W.Fast.tw1138386449301903804:Nat:=0
def PySem.W.Fast.tw4240416644650091585:Nat:=0
def PySem.W.Fast.tw516200338304435559:Nat:=0
def PySem.W.Fast.tw3790913522805306260:Nat:=0
def PySem.W.Fast.tw15735950686305604258:Nat:=0
def PySem.W.Fast.tw1050563005451962010:Nat:=0
def PySem.W.Fast.tw10673943418048243617:Nat:=0
def PySem.W.Fast.tw6000314768584152763:Nat:=0
def PySem.W.Fast.tw12578889211370534043:Nat:=0
def PySem.W.Fast.tw17804876557821755676:Nat:=0
def PySem.W.Fast.tw13652384000161590509:Nat:=0
def PySem.W.Fast.tw11576203452350461011:Nat:=0
def PySem.W.Fast.tw2448415218894045840:Nat:=0
def PySem.W.Fast.tw3395649388964082226:Nat:=0
def PySem.W.Fast.tw3788028010757369715:Nat:=0
def PySem.W.Fast.tw10409752525208269917:Nat:=0
def PySem.W.Fast.tw15248604989809890765:Nat:=0
def PySem.W.Fast.tw12672950175190125210:Nat:=0
def PySem.W.Fast.tw11056305981216793209:Nat:=0
def PySem.W.Fast.tw17978042791797553556:Nat:=0
def PySem.W.Fast.tw16366203893252305507:Nat:=0
def PySem.W.Fast.tw90742007586504871:Nat:=0
def PySem.W.Fast.tw4615417693425456044:Nat:=0
def PySem.W.Fast.tw9819872992242778254:Nat:=0
def PySem.W.Fast.tw3770906898605979620:Nat:=0
def PySem.W.Fast.tw4222573200318387983:Nat:=0
def PySem.W.Fast.tw4186484396767147714:Nat:=0
def PySem.W.Fast.tw9971525368004291844:Nat:=0
def PySem.W.Fast.tw14173984846815248918:Nat:=0
def PySem.W.Fast.tw2423993123156404130:Nat:=0
def PySem.W.Fast.tw4417169332239046763:Nat:=0
def PySem.W.Fast.tw897597778864360277:Nat:=0
def PySem.W.Fast.tw17066851387920676352:Nat:=0
def PySem.W.Fast.tw1673169519538192497:Nat:=0
def PySem.W.Fast.tw16844289506342531507:Nat:=0
def PySem.W.Fast.tw9052105170638414829:Nat:=0
def PySem.W.Fast.tw4908205955875310176:Nat:=0
def PySem.W.Fast.tw753728840270028131:Nat:=0
def PySem.W.Fast.tw3808404509483057546:Nat:=0
def PySem.W.Fast.tw9731634128218215397:Nat:=0
def PySem.W.Fast.tw9823049931828721485:Nat:=0
def PySem.W.Fast.tw9933681704123218418:Nat:=0
def PySem.W.Fast.tw16024148125138256021:Nat:=0
def PySem.W.Fast.tw10976956744048571893:Nat:=0
def PySem.W.Fast.tw15190460370180218602:Nat:=0
def PySem.W.Fast.tw9048002962333815604:Nat:=0
def PySem.W.Fast.tw3958244987727502372:Nat:=0
def PySem.W.Fast.tw5355113519515700672:Nat:=0
def PySem.W.Fast.tw6091669189229103811:Nat:=0
open PySem PySem.W PyProof.Rows
set_option maxRecDepth 100000 in
set_option maxHeartbeats 0 in
theorem PySem.Challenge.cw_marchmend_k46_spares_told_holds : PySem.Challenge.rw_marchmend_k46_spares_told.Holds := by
  w_on; o_law; k_head; (case hw=>w_witness2)
  k_fill
  refine Mc.walk (l:=PySem.Challenge.rw_marchmend_k46_spares_told) rfl rfl (fun w h Y=>⟨PySem.W.km_in_of Y,PySem.W.km_tabs_of Y⟩) (fun w h X p hp=>by cases List.mem_singleton.mp hp; exact ⟨82,PySem.W.codeHd_of_K (c:=82) X (by kernel_rfl)⟩) (fun w p hp=>by cases List.mem_singleton.mp hp; kernel_rfl) ?F
  case F=>
    intro w mg fa h KX G hmg
    refine' Mc.all_mk KX G hmg ?p0 ?p1 ?p2 ?p3 ?p4 ?p5 ?p6 ?p7 ?p8 ?p9 ?aT ?lT ?cT_ ?kT ?dT ?p11 ?p12 ?p13 ?p14 ?p15 ?p16 ?p17 ?p18 ?p19 ?p20 ?p21 ?p22 ?p23 ?p24 ?p25 ?p26 ?p27 ?p28 ?p29 ?p30 ?a31 ?l31 ?c31 ?k31 ?z0 ?z1 ?z2 ?z3 ?z4 ?z5 ?z6 ?z7 ?z8 ?z9 ?z10 ?z11 ?z12 ?z13 ?z14 ?z15 ?zset ?zall
    (case p0=>exact ⟨_,_,_,_,_,_,_,_,_,_,by k_is,by k_is,by k_is,by k_is⟩)
    (case p1=>exact ⟨_,_,_,_,_,_,_,_,_,_,by k_is,by k_is,by k_is,by k_is⟩)
    (case p2=>exact ⟨_,_,_,_,_,_,_,_,_,_,by k_is,by k_is,by k_is,by k_is⟩)
    (case p3=>exact ⟨_,_,_,_,_,_,_,_,_,_,by k_is,by k_is,by k_is,by k_is⟩)
    (case p4=>exact ⟨_,_,_,_,_,_,_,_,_,_,by k_is,by k_is,by k_is,by k_is⟩)
    (case p5=>exact ⟨_,_,_,_,_,_,_,_,_,_,by k_is,by k_is,by k_is,by k_is⟩)
    (case p6=>exact ⟨_,_,_,_,_,_,_,_,_,_,by k_is,by k_is,by k_is,by k_is⟩)
    (case p7=>exact ⟨_,_,_,_,_,_,_,_,_,_,by k_is,by k_is,by k_is,by k_is⟩)
    (case p8=>exact ⟨_,_,_,_,_,_,_,_,_,_,by k_is,by k_is,by k_is,by k_is⟩)
    (case p9=>exact ⟨_,_,_,_,_,_,_,_,_,_,by k_is,by k_is,by k_is,by k_is⟩)
    (case aT=>k_is)
    (case lT=>k_is)
    (case cT_=>k_is)
    (case kT=>k_is)
    (case dT=>kernel_rfl)
    (case p11=>exact ⟨_,_,_,_,_,_,_,_,_,_,by k_is,by k_is,by k_is,by k_is⟩)
    (case p12=>exact ⟨_,_,_,_,_,_,_,_,_,_,by k_is,by k_is,by k_is,by k_is⟩)
    (case p13=>exact ⟨_,_,_,_,_,_,_,_,_,_,by k_is,by k_is,by k_is,by k_is⟩)
    (case p14=>exact ⟨_,_,_,_,_,_,_,_,_,_,by k_is,by k_is,by k_is,by k_is⟩)
    (case p15=>exact ⟨_,_,_,_,_,_,_,_,_,_,by k_is,by k_is,by k_is,by k_is⟩)
    (case p16=>exact ⟨_,_,_,_,_,_,_,_,_,_,by k_is,by k_is,by k_is,by k_is⟩)
    (case p17=>exact ⟨_,_,_,_,_,_,_,_,_,_,by k_is,by k_is,by k_is,by k_is⟩)
    (case p18=>exact ⟨_,_,_,_,_,_,_,_,_,_,by k_is,by k_is,by k_is,by k_is⟩)
    (case p19=>exact ⟨_,_,_,_,_,_,_,_,_,_,by k_is,by k_is,by k_is,by k_is⟩)
    (case p20=>exact ⟨_,_,_,_,_,_,_,_,_,_,by k_is,by k_is,by k_is,by k_is⟩)
    (case p21=>exact ⟨_,_,_,_,_,_,_,_,_,_,by k_is,by k_is,by k_is,by k_is⟩)
    (case p22=>exact ⟨_,_,_,_,_,_,_,_,_,_,by k_is,by k_is,by k_is,by k_is⟩)
    (case p23=>exact ⟨_,_,_,_,_,_,_,_,_,_,by k_is,by k_is,by k_is,by k_is⟩)
    (case p24=>exact ⟨_,_,_,_,_,_,_,_,_,_,by k_is,by k_is,by k_is,by k_is⟩)
    (case p25=>exact ⟨_,_,_,_,_,_,_,_,_,_,by k_is,by k_is,by k_is,by k_is⟩)
    (case p26=>exact ⟨_,_,_,_,_,_,_,_,_,_,by k_is,by k_is,by k_is,by k_is⟩)
    (case p27=>exact ⟨_,_,_,_,_,_,_,_,_,_,by k_is,by k_is,by k_is,by k_is⟩)
    (case p28=>exact ⟨_,_,_,_,_,_,_,_,_,_,by k_is,by k_is,by k_is,by k_is⟩)
    (case p29=>exact ⟨_,_,_,_,_,_,_,_,_,_,by k_is,by k_is,by k_is,by k_is⟩)
    (case p30=>exact ⟨_,_,_,_,_,_,_,_,_,_,by k_is,by k_is,by k_is,by k_is⟩)
    (case a31=>k_is)
    (case l31=>k_is)
    (case c31=>k_is)
    (case k31=>k_is)
    (case z0=>k_is)
    (case z1=>k_is)
    (case z2=>k_is)
    (case z3=>k_is)
    (case z4=>k_is)
    (case z5=>k_is)
    (case z6=>k_is)
    (case z7=>k_is)
    (case z8=>k_is)
    (case z9=>k_is)
    (case z10=>k_is)
    (case z11=>k_is)
    (case z12=>k_is)
    (case z13=>k_is)
    (case z14=>k_is)
    (case z15=>k_is)
    (case zset=>k_is)
    (case zall=>k_is)
#print axioms PySem.Challenge.cw_marchmend_k46_spares_told_holds
